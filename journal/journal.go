// Package journal: the log as it lies on the disk: files with numbers, the segments, of which only the last is added to.
//
// A segment is begun when all bytes of the one ahead of it are safe. So a crash takes bytes from the log's end alone, though each file loses its own.
package journal

import (
	"strconv"
	"strings"

	"larder/api"
	"larder/disk"
	"larder/fault"
	"larder/order"
	"larder/record"
)

const prefix = "log"

// Journal is the log of one disk.
type Journal struct {
	disk    *disk.Disk
	limit   int  // bytes of a segment
	last    int  // the last segment's number; 0: there is none
	size    int  // its bytes
	torn    bool // it ends with a piece of a record: behind that nothing could be read
	dirSafe bool // what was done to the directory is known to be safe
}

// nameOf: a segment's name.
func nameOf(number int) string { return prefix + strconv.Itoa(number) }

// numberOf: the number of the segment that has this name; 0, if none has.
func numberOf(name string) int {
	n, err := strconv.Atoi(strings.TrimPrefix(name, prefix))
	if err != nil || n < 1 || name != nameOf(n) {
		return 0
	}
	return n
}

// segments: the names of the segments that lie on the disk, under their numbers.
func segments(d *disk.Disk) *order.Map[int, string] {
	out := &order.Map[int, string]{}
	for _, name := range d.List() {
		if n := numberOf(name); n > 0 {
			out.Set(n, name)
		}
	}
	return out
}

// Open reads the log that lies on the disk: one reads a record's body, and take is given what the records say, the oldest first. It changes nothing on the disk.
func Open[T any](d *disk.Disk, limit int, one func(*record.Source) T, take func(T)) (*Journal, error) {
	j := &Journal{disk: d, limit: limit}
	for number, name := range segments(d).All() {
		bytes, err := contents(d, name)
		if err != nil {
			return nil, fault.While("reading the log", err)
		}
		left := replay(bytes, one, take)
		j.last, j.size, j.torn = number, len(bytes), left > 0
	}
	return j, nil
}

// contents: all bytes of a file.
func contents(d *disk.Disk, name string) (string, error) {
	size, e := d.Size(name)
	if e != api.OK {
		return "", fault.Of("size", name, e)
	}
	bytes, e := d.Read(name, 0, size)
	return bytes, fault.Of("read", name, e)
}

// replay takes all whole records of a segment, and tells how many bytes are left behind them.
func replay[T any](bytes string, one func(*record.Source) T, take func(T)) int {
	s := record.From(bytes)
	for {
		x, ok := record.Next(s, one)
		if !ok {
			return s.Left()
		}
		take(x)
	}
}

// Append adds a record at the log's end, and tells whether the log has it whole: it may, though the disk failed. Behind a failure the Journal must not be added to any more.
func (j *Journal) Append(rec string) (bool, error) {
	if err := j.makeRoom(len(rec)); err != nil {
		return false, err
	}
	name := nameOf(j.last)
	err := fault.Of("append", name, j.disk.Append(name, rec))
	if err != nil && !j.has(j.size+len(rec)) {
		return false, fault.While("adding to the log", err)
	}
	j.size += len(rec)
	return true, fault.While("adding to the log", err)
}

// has: does the last segment have so many bytes? When the power is cut in an Append, all may have been added.
func (j *Journal) has(size int) bool {
	n, e := j.disk.Size(nameOf(j.last))
	return e == api.OK && n == size
}

// makeRoom begins a segment, if the last one cannot take so many bytes more.
func (j *Journal) makeRoom(bytes int) error {
	if j.last > 0 && !j.torn && j.size+bytes <= j.limit {
		return nil
	}
	return fault.While("beginning a segment", j.begin())
}

// begin makes the last segment safe, and begins the next.
func (j *Journal) begin() error {
	if err := j.syncLast(); err != nil {
		return err
	}
	name := nameOf(j.last + 1)
	if e := j.disk.Create(name); e != api.OK {
		return fault.Of("create", name, e)
	}
	j.last, j.size, j.torn, j.dirSafe = j.last+1, 0, false, false
	return nil
}

// syncLast makes the bytes of the last segment safe, if there is one.
func (j *Journal) syncLast() error {
	if j.last == 0 {
		return nil
	}
	name := nameOf(j.last)
	return fault.Of("sync", name, j.disk.Sync(name))
}

// Sync makes all that the log has safe.
func (j *Journal) Sync() error {
	err := j.syncLast()
	if err == nil && j.last > 0 && !j.dirSafe {
		err = fault.Of("sync the directory", "", j.disk.SyncDir())
		j.dirSafe = err == nil
	}
	return fault.While("making the log safe", err)
}
