package journal

import (
	"slices"
	"strconv"
	"strings"

	"larder/api"
	"larder/disk"
	"larder/fault"
	"larder/order"
)

const (
	segment = "log"  // a segment's name is this and its number
	base    = "base" // a base's name is this and its number
	draft   = "new"
)

// nameOf: the name of the segment or base that has this number.
func nameOf(kind string, number int) string { return kind + strconv.Itoa(number) }

// numberOf: the number of the segment or base that has this name; 0, if none has.
func numberOf(kind string, name string) int {
	n, err := strconv.Atoi(strings.TrimPrefix(name, kind))
	if err != nil || n < 1 || name != nameOf(kind, n) {
		return 0
	}
	return n
}

// files: the names of the segments and bases that lie on the disk, under their numbers.
func files(d *disk.Disk) *order.Map[int, string] {
	out := &order.Map[int, string]{}
	for _, name := range d.List() {
		if n := max(numberOf(segment, name), numberOf(base, name)); n > 0 {
			out.Set(n, name)
		}
	}
	return out
}

// spent: the names of the files that are of no use any more: all ahead of the last base, and a draft, which a merge has left.
func spent(d *disk.Disk) []string {
	var out, ahead []string
	for _, name := range files(d).All() {
		if numberOf(base, name) > 0 {
			out, ahead = append(out, ahead...), nil
		}
		ahead = append(ahead, name)
	}
	if slices.Contains(d.List(), draft) {
		out = append(out, draft)
	}
	return out
}

// sweep removes the files that are of no use any more. It may, though their base's name is not safe: a crash that takes the name takes these removals too, for they come behind it.
func sweep(d *disk.Disk) error {
	for _, name := range spent(d) {
		if e := d.Remove(name); e != api.OK {
			return fault.While("sweeping the disk", fault.Of("remove", name, e))
		}
	}
	return nil
}
