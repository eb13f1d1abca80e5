package larder_test

import (
	"slices"
	"strconv"
	"testing"

	"larder/api"
	"larder/disk"
	"larder/larder"
)

// unsafe: of each file that is there behind a crash that leaves so much of the directory, at most how many bytes more the crash may leave.
func unsafe(d *disk.Disk, dirs int) (string, []int) {
	least := d.Copy()
	least.Crash(dirs, nil)
	var more []int
	what := ""
	for _, name := range least.List() {
		safe, _ := least.Size(name)
		size, e := d.Size(name)
		if e != api.OK {
			size = d.Used()
		}
		more = append(more, max(size-safe, 0))
		what += strconv.Quote(name) + strconv.Itoa(safe) + " "
	}
	return what, more
}

// eachCrash calls check with a copy of the disk behind each crash that is possible: each first part of what was done to the directory, and of each file each first part of what is not safe (but strides of it) with nothing and with all of the other files.
func eachCrash(d *disk.Disk, stride int, check func(c *disk.Disk)) {
	var seen []string
	for dirs := range 24 {
		what, more := unsafe(d, dirs)
		if slices.Contains(seen, what) {
			continue
		}
		seen = append(seen, what)
		crash := func(tails []int) {
			c := d.Copy()
			c.Crash(dirs, tails)
			check(c)
		}
		crash(nil)
		most := slices.DeleteFunc(slices.Clone(more), func(m int) bool { return m == 0 })
		if len(most) > 0 {
			crash(more)
		}
		for i := range more {
			none := make([]int, len(more))
			all := slices.Clone(more)
			for k := 1; more[i] > 0 && k < more[i]+stride; k += stride {
				none[i], all[i] = min(k, more[i]), more[i]-min(k, more[i])
				crash(none)
				if len(most) > 1 {
					crash(all)
				}
			}
		}
	}
}

// behind checks the node that lies on a disk behind a crash: it holds one of these, and its numbers are as P4 says; and one more crash without a write between takes nothing that it may not take.
func behind(t *testing.T, d *disk.Disk, may []string, numbers count) {
	t.Helper()
	n := open(t, d)
	before := told(n)
	if !slices.Contains(may, before) {
		t.Fatalf("P12: behind a crash the node tells %s, want one of %q", before, may)
	}
	if n.State().ReadOnly {
		t.Fatal("P11: the node is read-only behind Open")
	}
	n = open(t, d)
	if told(n) != before {
		t.Fatalf("P12: the first Open behind a crash tells %s, the next %s", before, told(n))
	}
	numbers.calls += 3
	numbers.number(t, put(t, n, "new", "n"), api.OK)
	with := told(n)
	sync(t, n, api.OK)
	d.Crash(0, nil)
	if n = open(t, d); told(n) != with {
		t.Fatalf("P12: behind a Sync and a crash the node tells %s, want %s", told(n), with)
	}
}

// play does the steps till the disk fails in one, or all are done; it answers how many were done, and the numbers that were answered.
func play(t *testing.T, n *larder.Node, d *disk.Disk, script []step) (int, count) {
	t.Helper()
	numbers := count{calls: 1}
	for i, s := range script {
		seq, e := attempt(t, d, n, s)
		if s.numbered() {
			numbers.number(t, seq, e)
		}
		numbers.shown(n)
		if isFailure(e) {
			return i, numbers
		}
		if e != api.OK {
			t.Fatalf("step %d, %s = %d", i, s.call, e)
		}
	}
	return len(script), numbers
}

// crashes cuts the power at each call of the disk in turn, and tries each crash; it answers in how many calls of each name the power was cut.
func crashes(t *testing.T, script []step, every, stride int) map[string]int {
	t.Helper()
	want := history(t, script)
	durable := durables(script, want, every)
	cuts := map[string]int{}
	for k := 1; ; k++ {
		d := disk.New(plenty)
		d.Cut(k)
		n := openAs(t, d, api.MinSegment, every)
		done, numbers := play(t, n, d, script)
		may := want[durable[done]:]
		if done < len(script) {
			cuts[script[done].call]++
			may = want[durable[done] : done+2]
		}
		eachCrash(d, stride, func(c *disk.Disk) { behind(t, c, may, numbers) })
		if done == len(script) {
			return cuts
		}
	}
}

func TestEachCrash(t *testing.T) {
	for _, every := range []int{0, 1, 2, 5} {
		cuts := crashes(t, fewSteps(), every, 1)
		for _, call := range []string{"Put", "Delete", "Accept", "Hint", "Ack", "Sync"} {
			if cuts[call] == 0 {
				t.Errorf("no %s was cut with Sync %d", call, every)
			}
		}
	}
}

func TestEachCrashOfManySegments(t *testing.T) {
	for _, every := range []int{0, 4, 100} {
		crashes(t, steps(), every, 331)
	}
}

// Without a cut, the power may go at any time.
func TestCrashBehindEachStep(t *testing.T) {
	for _, script := range [][]step{fewSteps(), woven(fewSteps())} {
		want := history(t, script)
		for _, every := range []int{0, 3} {
			durable := durables(script, want, every)
			for i := range len(script) + 1 {
				d := disk.New(plenty)
				done, numbers := play(t, openAs(t, d, 1000, every), d, script[:i])
				eachCrash(d, 1, func(c *disk.Disk) { behind(t, c, want[durable[done]:done+1], numbers) })
			}
		}
	}
}

// The power is cut within Open, if Open makes a call that changes something (behind a merge it may: merge_crash_test.go); nothing that was durable is lost, and what was there once is not there again.
func TestOpenIsCut(t *testing.T) {
	script := steps()
	want := history(t, script)
	durable := durables(script, want, 5)
	for i := 0; i < len(script); i += 9 {
		d := disk.New(plenty)
		d.Fail(2*i, i)
		done, numbers := play(t, openAs(t, d, 1000, 5), d, script[:i])
		may := want[durable[done] : done+2]
		eachCrash(d, 97, func(c *disk.Disk) {
			for cut := 1; cut < 20; cut++ {
				was := c.Copy()
				was.Cut(cut)
				n, e := larder.Open(was, api.Config{Node: self, Segment: 1000})
				if was.Dead() != (n == nil) || was.Dead() != (e == api.ErrIO) {
					t.Fatalf("P3: Open, cut at call %d = %v, %d", cut, n, e)
				}
				if n != nil {
					break
				}
				eachCrash(was, 97, func(c *disk.Disk) { behind(t, c, may, numbers) })
			}
		})
	}
}

// What a crash took is not there again behind any later Open, though more is written in its place.
func TestLostStaysLost(t *testing.T) {
	for keep := range 400 {
		d, n := fresh(t)
		for i := range 12 {
			hint(t, n, 0, "old "+strconv.Itoa(i), api.OK)
		}
		d.Crash(keep%4, []int{keep, keep})
		n = open(t, d)
		left := n.Hints()
		for round := range 4 {
			h := api.Hint{To: 2, Text: "new " + strconv.Itoa(round)}
			hint(t, n, h.To, h.Text, api.OK)
			left = append(left, h)
			n = open(t, d)
			if !slices.Equal(n.Hints(), left) {
				t.Fatalf("P12: Hints() = %v, want %v", n.Hints(), left)
			}
			sync(t, n, api.OK)
			d.Crash(keep, []int{keep})
			if n = open(t, d); !slices.Equal(n.Hints(), left) {
				t.Fatalf("P12: behind a crash Hints() = %v, want %v", n.Hints(), left)
			}
		}
	}
}
