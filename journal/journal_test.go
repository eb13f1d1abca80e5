package journal

import (
	"errors"
	"slices"
	"strconv"
	"strings"
	"testing"

	"larder/api"
	"larder/disk"
	"larder/fault"
	"larder/record"
)

const limit = 100

func rec(text string) string { return record.Make(record.Text(text)) }

func readText(s *record.Source) string { return record.ReadText[string](s) }

// reopen reads a disk's log.
func reopen(t *testing.T, d *disk.Disk) (*Journal, []string) {
	t.Helper()
	var got []string
	calls := d.Calls()
	j, err := Open(d, limit, readText, func(s string) { got = append(got, s) })
	if err != nil || d.Calls() != calls {
		t.Fatalf("Open: %v, and %d calls that change something", err, d.Calls()-calls)
	}
	return j, got
}

func add(t *testing.T, j *Journal, text string) {
	t.Helper()
	if whole, err := j.Append(rec(text)); !whole || err != nil {
		t.Fatalf("Append(%q) = %v, %v", text, whole, err)
	}
}

func reads(t *testing.T, d *disk.Disk, want ...string) *Journal {
	t.Helper()
	j, got := reopen(t, d)
	if !slices.Equal(got, want) {
		t.Fatalf("the log has %q, want %q", got, want)
	}
	return j
}

func TestSegments(t *testing.T) {
	d := disk.New(1000000)
	j := reads(t, d)
	var want []string
	for i := range 300 {
		text := strconv.Itoa(i) + strings.Repeat("x", i%90)
		add(t, j, text)
		want = append(want, text)
		if i%7 == 0 {
			j = reads(t, d, want...)
		}
	}
	reads(t, d, want...)
	names := d.List()
	if len(names) < 100 {
		t.Errorf("only %d segments", len(names))
	}
	for _, name := range names {
		if n, _ := d.Size(name); n > limit || n == 0 {
			t.Errorf("the segment %s has %d bytes", name, n)
		}
	}
}

func TestNames(t *testing.T) {
	for _, kind := range []string{segment, base} {
		for _, n := range []int{1, 9, 10, 123456} {
			if got := numberOf(kind, nameOf(kind, n)); got != n {
				t.Errorf("the number of %s is %d", nameOf(kind, n), got)
			}
		}
		for _, rest := range []string{"", "0", "-1", "+1", "01", "1x", " 1", kind + "1", "99999999999999999999"} {
			if got := numberOf(kind, kind+rest); got != 0 {
				t.Errorf("the number of %q is %d", kind+rest, got)
			}
		}
		for _, name := range []string{"", "1", "new", "new1"} {
			if got := numberOf(kind, name); got != 0 {
				t.Errorf("the number of %q is %d", name, got)
			}
		}
	}
	if numberOf(segment, nameOf(base, 1)) != 0 || numberOf(base, nameOf(segment, 1)) != 0 {
		t.Error("a segment is taken for a base, or a base for a segment")
	}
}

// Behind a piece of a record nothing is added: the next record begins a segment.
func TestPieceAtTheEnd(t *testing.T) {
	for part := range len(rec("second")) {
		d := disk.New(1000)
		j := reads(t, d)
		add(t, j, "first")
		d.Fail(1, part)
		whole, err := j.Append(rec("second"))
		var f *fault.Disk
		if whole || !errors.As(err, &f) || f.Errno != api.ErrIO || f.Call != "append" {
			t.Fatalf("Append = %v, %v", whole, err)
		}
		j = reads(t, d, "first")
		add(t, j, "third")
		j = reads(t, d, "first", "third")
		if err := j.Sync(); err != nil {
			t.Fatal(err)
		}
		d.Crash(0, nil)
		reads(t, d, "first", "third")
	}
}

func TestFull(t *testing.T) {
	d := disk.New(len(rec("first")) + 3)
	j := reads(t, d)
	add(t, j, "first")
	whole, err := j.Append(rec("second"))
	var f *fault.Disk
	if whole || !errors.As(err, &f) || f.Errno != api.ErrFull {
		t.Fatalf("Append = %v, %v", whole, err)
	}
	reads(t, d, "first")
}

// When the power is cut in an Append the log has the record, till the crash takes it.
func TestCutInAppend(t *testing.T) {
	d := disk.New(1000)
	j := reads(t, d)
	add(t, j, "first")
	d.Cut(1)
	if whole, err := j.Append(rec("second")); !whole || err == nil {
		t.Fatalf("Append = %v, %v", whole, err)
	}
	reads(t, d, "first", "second")
}

// Whatever a crash takes, the log has the first so many records, and no fewer than were there in the last Sync.
func TestCrashes(t *testing.T) {
	for synced := range 12 {
		for dirs := range 5 {
			for tail := range 60 {
				d := disk.New(10000)
				j := reads(t, d)
				var all []string
				for i := range 12 {
					if i == synced && j.Sync() != nil {
						t.Fatal("Sync")
					}
					all = append(all, strings.Repeat(strconv.Itoa(i), 30))
					add(t, j, all[i])
				}
				d.Crash(dirs, []int{tail, tail * 3, tail, tail * 7, tail})
				j, got := reopen(t, d)
				if len(got) < synced || !slices.Equal(got, all[:len(got)]) {
					t.Fatalf("behind a Sync of %d records the log has %q", synced, got)
				}
				add(t, j, "next")
				reads(t, d, append(got, "next")...)
			}
		}
	}
}

// A later Journal's Sync makes safe what an earlier one added.
func TestSyncOfAnEarlierJournal(t *testing.T) {
	for part := range len(rec("torn")) {
		d := disk.New(1000)
		add(t, reads(t, d), "first")
		j := reads(t, d, "first")
		d.Fail(1, part)
		j.Append(rec("torn"))
		j = reads(t, d, "first")
		if err := j.Sync(); err != nil {
			t.Fatal(err)
		}
		d.Crash(0, nil)
		reads(t, d, "first")
	}
}

func TestSyncOfNothing(t *testing.T) {
	d := disk.New(1000)
	if err := reads(t, d).Sync(); err != nil || d.Calls() != 0 {
		t.Errorf("Sync = %v, with %d calls", err, d.Calls())
	}
}

// Each call of the disk that fails is told, and with it which.
func TestFailuresAreTold(t *testing.T) {
	told := map[string]int{}
	for k := 1; k < 20; k++ {
		d := disk.New(1000)
		j := reads(t, d)
		d.Fail(k, 0)
		for range 3 {
			_, err := j.Append(rec(strings.Repeat("x", 60)))
			if err == nil {
				err = j.Sync()
			}
			var f *fault.Disk
			if errors.As(err, &f) {
				told[f.Call]++
				break
			}
		}
		if (d.Refused() > 0) != (told["create"]+told["append"]+told["sync"]+told["sync the directory"] >= k) {
			t.Errorf("call %d failed, and was not told: %v", k, told)
		}
	}
	for _, call := range []string{"create", "append", "sync", "sync the directory"} {
		if told[call] == 0 {
			t.Errorf("no failure of %s was told: %v", call, told)
		}
	}
}
