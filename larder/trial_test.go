package larder_test

import (
	"math/rand"
	"strconv"
	"strings"
	"testing"

	"larder/api"
	"larder/disk"
	"larder/larder"
)

// answered: what the disk has answered since it had refused so many calls, so many of them for want of room.
func answered(d *disk.Disk, refused, fulls int) api.Errno {
	switch {
	case d.Fulls() > fulls:
		return api.ErrFull
	case d.Refused() > refused:
		return api.ErrIO
	}
	return api.OK
}

// isFailure: is this what a disk answers that fails or is full?
func isFailure(e api.Errno) bool { return e == api.ErrIO || e == api.ErrFull }

// attempt does a step of a node that is not read-only, and checks that it is answered as the disk answered, and that the node is read-only behind it if the disk failed, and only then.
func attempt(t *testing.T, d *disk.Disk, n *larder.Node, s step) (int, api.Errno) {
	t.Helper()
	refused, fulls := d.Refused(), d.Fulls()
	seq, e := s.do(n)
	is := answered(d, refused, fulls)
	if is != api.OK && e != is || is == api.OK && (isFailure(e) || e == api.ErrReadOnly) {
		t.Fatalf("P11: %s = %d, and the disk answered %d", s.call, e, is)
	}
	if n.State().ReadOnly != isFailure(e) || e != api.OK && seq != 0 {
		t.Fatalf("P1, P11: %s = %d, %d, State() = %+v", s.call, seq, e, n.State())
	}
	return seq, e
}

// trial: a disk, its node, and what the document says of them.
type trial struct {
	d       *disk.Disk
	n       *larder.Node
	told    []string // behind so many writes, of those that are not lost
	durable int      // so many of the writes
	every   int
	writes  int // since Open
	crashed bool
	numbers count
	merge   course
}

// trialOf: a trial on an empty disk, without a node.
func trialOf(t *testing.T, d *disk.Disk) *trial {
	t.Helper()
	return &trial{d: d, told: []string{told(open(t, disk.New(0)))}}
}

// open opens the node, and checks what it holds; false, if the disk fails in it.
func (r *trial) open(t *testing.T, c api.Config) bool {
	t.Helper()
	refused, fulls := r.d.Refused(), r.d.Fulls()
	n, e := larder.Open(r.d, c)
	r.numbers.calls++
	r.n, r.every, r.writes, r.merge = n, c.Sync, 0, course{}
	is := answered(r.d, refused, fulls)
	if e != is || (n == nil) != (is != api.OK) {
		t.Fatalf("P3: Open = %v, %d, and the disk answered %d", n, e, is)
	}
	if n == nil {
		return false
	}
	at := len(r.told) - 1
	for r.crashed && at > r.durable && r.told[at] != told(n) {
		at--
	}
	if r.told[at] != told(n) || n.State().ReadOnly {
		t.Fatalf("P12: the node tells %s, behind %d writes, of which %d were durable: %q", told(n), len(r.told)-1, r.durable, r.told)
	}
	r.told, r.crashed = r.told[:at+1], false
	return true
}

// do does a step; false, if the disk fails in it.
func (r *trial) do(t *testing.T, s step) bool {
	t.Helper()
	before := told(r.n)
	seq, e := attempt(t, r.d, r.n, s)
	after := told(r.n)
	if s.numbered() {
		r.numbers.number(t, seq, e)
	}
	r.numbers.shown(r.n)
	r.merge.follow(t, r.d, r.n, s, seq == 1, e)
	switch {
	case e == api.OK && s.call == "Sync":
		r.durable = len(r.told) - 1
	case e == api.OK && s.wrote(before, after):
		r.told = append(r.told, after)
		r.writes++
		if r.every > 0 && r.writes%r.every == 0 {
			r.durable = len(r.told) - 1
		}
	case after == before:
	case isFailure(e) && s.mayWrite():
		r.told = append(r.told, after)
	default:
		t.Fatalf("P11: %s = %d changes %s into %s", s.call, e, before, after)
	}
	return !isFailure(e)
}

// must does steps on a disk that is good.
func (r *trial) must(t *testing.T, l ...step) *trial {
	t.Helper()
	for _, s := range l {
		if !r.do(t, s) {
			t.Fatalf("P11: %s fails on a good disk", s.call)
		}
	}
	return r
}

// again opens the node once more, on a disk that is good.
func (r *trial) again(t *testing.T, every int) *trial {
	t.Helper()
	if !r.open(t, api.Config{Node: self, Segment: api.MinSegment, Sync: every}) {
		t.Fatal("P3: Open fails on a good disk")
	}
	return r
}

// crash lets the power go, and what is not safe with it; the node must be opened behind it.
func (r *trial) crash(dirs int, tails ...int) *trial {
	r.d.Crash(dirs, tails)
	r.crashed = true
	return r
}

// may: what a node may tell behind a crash.
func (r *trial) may() []string { return r.told[r.durable:] }

// anyStep: a step that is often a write; its values are others each time.
func anyStep(r *rand.Rand, i int) step {
	key := string(rune('a' + r.Intn(4)))
	value := strconv.Itoa(i)
	if r.Intn(3) == 0 {
		value += strings.Repeat(" ", 88)
	}
	switch r.Intn(16) {
	case 0, 1, 2:
		return putting(key, value)
	case 3:
		return deleting(key)
	case 4, 5, 6:
		var over [api.Nodes]int
		over[r.Intn(4)] = r.Intn(200)
		return accepting(key, version([]int{0, 2, 3}[r.Intn(3)], 1+r.Intn(200), over, value))
	case 7:
		return accepting(key, gone(2, 1+r.Intn(200), [api.Nodes]int{r.Intn(200), r.Intn(200), r.Intn(200), 0}))
	case 8, 9:
		return hinting(2, value)
	case 10:
		return acking()
	case 11:
		return syncing()
	}
	return merging()
}

// rounds opens the node again and again on one disk, and does steps, with failures and cuts at calls of the disk and crashes between.
func rounds(t *testing.T, r *rand.Rand, d *disk.Disk) {
	t.Helper()
	run := trialOf(t, d)
	long := 1 + r.Intn(60)
	for range 12 {
		which := r.Intn(5)
		if which < 2 {
			d.Fail(1+r.Intn(2*long), r.Intn(300))
		}
		if which > 0 && which < 4 {
			d.Cut(1 + r.Intn(2*long))
		}
		good := run.open(t, api.Config{Node: self, Segment: 1000 + 300*r.Intn(3), Sync: max(0, r.Intn(12)-4)})
		for i := 0; good && i < long; i++ {
			good = run.do(t, anyStep(r, i))
		}
		d.Fail(0, 0)
		if d.Dead() || r.Intn(3) == 0 {
			var tails []int
			for range 12 {
				tails = append(tails, r.Intn(1200))
			}
			run.crash(r.Intn(12), tails...)
		}
		d.Cut(0)
	}
}

// Crashes one behind the other, cut or not, with failures and Opens between: each node holds the first so many writes of the one ahead of it, and all that are durable.
func TestManyCrashes(t *testing.T) {
	for seed := range 600 {
		rounds(t, rand.New(rand.NewSource(int64(seed))), disk.New(plenty))
	}
}

// The same on disks that become full at some time.
func TestManyCrashesOfSmallDisks(t *testing.T) {
	fulls := 0
	for seed := range 600 {
		r := rand.New(rand.NewSource(int64(seed)))
		d := disk.New(r.Intn(8000))
		rounds(t, r, d)
		fulls += d.Fulls()
	}
	if fulls == 0 {
		t.Error("P11: no disk was full")
	}
}
