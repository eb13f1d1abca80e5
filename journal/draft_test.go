package journal

import (
	"errors"
	"slices"
	"strings"
	"testing"

	"larder/api"
	"larder/disk"
	"larder/fault"
)

func begin(t *testing.T, j *Journal) *Draft {
	t.Helper()
	w, err := j.Draft()
	if err != nil {
		t.Fatal(err)
	}
	return w
}

func write(t *testing.T, w *Draft, texts ...string) {
	t.Helper()
	for _, text := range texts {
		if err := w.Append(rec(text)); err != nil {
			t.Fatal(err)
		}
	}
}

func lies(t *testing.T, d *disk.Disk, want ...string) {
	t.Helper()
	if got := d.List(); !slices.Equal(got, want) {
		t.Fatalf("the disk has %q, want %q", got, want)
	}
}

// filled: a log of three segments, and its disk.
func filled(t *testing.T, room int) (*disk.Disk, *Journal, []string) {
	t.Helper()
	d := disk.New(room)
	j := reads(t, d)
	var texts []string
	for _, c := range []string{"a", "b", "c"} {
		texts = append(texts, strings.Repeat(c, 60))
		add(t, j, strings.Repeat(c, 60))
	}
	lies(t, d, "log1", "log2", "log3")
	return d, j, texts
}

// What the draft has lies ahead of what the log was given since the draft was begun, and nothing else is left.
func TestDraft(t *testing.T) {
	d, j, _ := filled(t, 10000)
	w := begin(t, j)
	add(t, j, "behind")
	write(t, w, "kept", strings.Repeat("k", 3*limit))
	add(t, j, strings.Repeat("l", 95))
	lies(t, d, "log1", "log2", "log3", "log5", "log6", "new")
	if err := w.TakePlace(); err != nil {
		t.Fatal(err)
	}
	lies(t, d, "base4", "log5", "log6")
	add(t, j, "last")
	lies(t, d, "base4", "log5", "log6", "log7")
	want := []string{"kept", strings.Repeat("k", 3*limit), "behind", strings.Repeat("l", 95), "last"}
	j = reads(t, d, want...)
	w = begin(t, j)
	write(t, w, "other")
	if err := w.TakePlace(); err != nil {
		t.Fatal(err)
	}
	lies(t, d, "base8", "log9")
	d.Crash(0, nil)
	j = reads(t, d, "other")
	add(t, j, "more")
	lies(t, d, "base8", "log9")
	reads(t, d, "other", "more")
}

func TestDraftOfNothing(t *testing.T) {
	d := disk.New(1000)
	for range 3 {
		w := begin(t, reads(t, d))
		if err := w.TakePlace(); err != nil {
			t.Fatal(err)
		}
		if d.Used() != 0 || len(d.List()) != 2 {
			t.Fatalf("the disk has %q", d.List())
		}
	}
}

// A base may be the last file of a disk: it can be added to like a segment.
func TestBaseIsLast(t *testing.T) {
	d := disk.New(1000)
	d.Create("base7")
	d.Append("base7", rec("kept"))
	add(t, reads(t, d, "kept"), "more")
	reads(t, d, "kept", "more")
	add(t, reads(t, d, "kept", "more"), strings.Repeat("x", 95))
	lies(t, d, "base7", "log8")
}

// The next Open removes a draft that was left, and reads what was there without it.
func TestDraftIsLeft(t *testing.T) {
	d, j, texts := filled(t, 10000)
	for range 3 {
		w := begin(t, j)
		write(t, w, "never")
		add(t, j, "behind")
		texts = append(texts, "behind")
		var got []string
		if j, got = reopenSwept(t, d); !slices.Equal(got, texts) || slices.Contains(d.List(), draft) {
			t.Fatalf("the log has %q, want %q, and the disk %q", got, texts, d.List())
		}
	}
}

// merge does a whole merge that keeps one text, and adds one behind it; it answers the failure, and how much was done.
func merge(j *Journal) (int, error) {
	w, err := j.Draft()
	if err != nil {
		return 0, err
	}
	if err := w.Append(rec("kept")); err != nil {
		return 0, err
	}
	if whole, err := j.Append(rec("behind")); err != nil {
		return bit(whole), err
	}
	if err := w.TakePlace(); err != nil {
		return 1, err
	}
	return 1, nil
}

func bit(b bool) int {
	if b {
		return 1
	}
	return 0
}

// Each call of the disk fails in a merge, or the power is cut in it: the failure is told, and the log has either what it had or what the merge kept, and behind it what was added.
func TestDraftOnADiskThatFails(t *testing.T) {
	told := map[string]bool{}
	for k := 1; ; k++ {
		for part := range 6 {
			for _, cut := range []bool{false, true} {
				d, j, texts := filled(t, 10000)
				if err := j.Sync(); err != nil {
					t.Fatal(err)
				}
				if cut {
					d.Cut(k)
				} else {
					d.Fail(k, part)
				}
				done, err := merge(j)
				if err == nil {
					if !told["remove"] || !told["rename"] || !told["create"] || !told["append"] || !told["sync"] || !told["sync the directory"] {
						t.Errorf("the failures of %v alone were told", told)
					}
					return
				}
				var f *fault.Disk
				if !errors.As(err, &f) || f.Errno != api.ErrIO {
					t.Fatalf("call %d: %v", k, err)
				}
				told[f.Call] = true
				if !cut {
					d.Fail(0, 0)
					afterMerge(t, d.Copy(), texts, done, done)
				}
				for dirs := range 12 {
					for tail := range 9 {
						c := d.Copy()
						c.Crash(dirs, []int{tail, tail, tail, tail, tail})
						afterMerge(t, c, texts, 0, done)
					}
				}
			}
		}
	}
}

// afterMerge checks what the log has: the texts or what was kept of them, and at least so many and at most so many behind.
func afterMerge(t *testing.T, d *disk.Disk, texts []string, least, most int) {
	t.Helper()
	for range 2 {
		j, got := reopenSwept(t, d)
		if len(got) > 0 && got[0] == "kept" {
			texts = got[:1]
		}
		more := len(got) - len(texts)
		if more < least || more > most || !slices.Equal(got, append(slices.Clone(texts), slices.Repeat([]string{"behind"}, more)...)) {
			t.Fatalf("the log has %q", got)
		}
		add(t, j, "behind")
		least, most = more+1, more+1
	}
}

// reopenSwept reads a disk's log, and checks that nothing is left on the disk that is of no use.
func reopenSwept(t *testing.T, d *disk.Disk) (*Journal, []string) {
	t.Helper()
	var got []string
	j, err := Open(d, limit, readText, func(s string) { got = append(got, s) })
	if err != nil || len(spent(d)) > 0 {
		t.Fatalf("Open = %v, and the disk has %q", err, d.List())
	}
	return j, got
}

// Open tells a failure of its sweeping.
func TestSweepFails(t *testing.T) {
	for k := 1; ; k++ {
		d, j, texts := filled(t, 10000)
		write(t, begin(t, j), "never")
		d.Create("base1000") // as though a crash had brought all the others back
		d.Append("base1000", rec("kept"))
		d.Fail(k, 0)
		calls := d.Calls()
		_, err := Open(d, limit, readText, func(string) {})
		if d.Calls()-calls < k {
			if err != nil || k != len(texts)+3 {
				t.Fatalf("Open has %d calls that change something: %v", d.Calls()-calls, err)
			}
			return
		}
		var f *fault.Disk
		if !errors.As(err, &f) || f.Call != "remove" || f.Errno != api.ErrIO {
			t.Fatalf("Open = %v", err)
		}
		d.Fail(0, 0)
		reopenSwept(t, d)
		lies(t, d, "base1000")
		reads(t, d, "kept")
	}
}

func TestDraftOnAFullDisk(t *testing.T) {
	full, _, _ := filled(t, 10000)
	d, j, texts := filled(t, full.Used()+len(rec("more")))
	w := begin(t, j)
	var f *fault.Disk
	if err := w.Append(rec("too much")); !errors.As(err, &f) || f.Errno != api.ErrFull || f.File != draft {
		t.Fatalf("Append = %v", err)
	}
	j, got := reopenSwept(t, d)
	add(t, j, "more")
	reads(t, d, append(got, "more")...)
	if !slices.Equal(got, texts) {
		t.Fatalf("the log has %q, want %q", got, texts)
	}
}
