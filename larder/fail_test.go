package larder_test

import (
	"strings"
	"testing"

	"larder/api"
	"larder/disk"
	"larder/larder"
)

// run does the steps on a disk till one fails, and checks that one and what comes behind it; false, if none fails.
func run(t *testing.T, d *disk.Disk, every int, want []string) bool {
	t.Helper()
	n := openAs(t, d, api.MinSegment, every)
	for i, s := range steps() {
		refused, fulls := d.Refused(), d.Fulls()
		seq, e := s.do(n)
		if d.Refused() == refused {
			if e != api.OK || n.State().ReadOnly || told(n) != want[i+1] {
				t.Fatalf("P11: step %d, %s = %d, and the node tells %s, want %s", i, s.call, e, told(n), want[i+1])
			}
			continue
		}
		is := api.ErrIO
		if d.Fulls() > fulls {
			is = api.ErrFull
		}
		if e != is || seq != 0 || !n.State().ReadOnly {
			t.Fatalf("P11: step %d, %s = %d, %d, want %d, State() = %+v", i, s.call, seq, e, is, n.State())
		}
		after := told(n)
		if after != want[i] && after != want[i+1] {
			t.Fatalf("P11: behind step %d, %s, the node tells %s, want %s or %s", i, s.call, after, want[i], want[i+1])
		}
		d.Fail(0, 0)
		onlyRead(t, d, n)
		if m := open(t, d); told(m) != after || m.State().ReadOnly {
			t.Fatalf("P12: the next node tells %s, the last one told %s", told(m), after)
		}
		return true
	}
	return false
}

// onlyRead checks that a node is read-only.
func onlyRead(t *testing.T, d *disk.Disk, n *larder.Node) {
	t.Helper()
	unwritten(t, d, n, "a read-only node", func() {
		p, e1 := n.Put("k1", "v")
		q, e2 := n.Delete("k1")
		if p != 0 || q != 0 || e1 != api.ErrReadOnly || e2 != api.ErrReadOnly {
			t.Fatalf("P11: Put = %d, %d, Delete = %d, %d, want ErrReadOnly", p, e1, q, e2)
		}
		accept(t, n, "k1", plain(0, 1, "v"), api.ErrReadOnly)
		hint(t, n, 0, "t", api.ErrReadOnly)
		ack(t, n, api.ErrReadOnly)
		if e := n.Sync(); e != api.ErrReadOnly {
			t.Fatalf("P9: Sync() = %d, want ErrReadOnly", e)
		}
		if s, e := n.Put("", "v"); s != 0 || e != api.ErrKey {
			t.Fatalf("P4: Put = %d, %d, want ErrKey", s, e)
		}
		if s, e := n.Put("k1", strings.Repeat("v", 129)); s != 0 || e != api.ErrTooLarge {
			t.Fatalf("P4: Put = %d, %d, want ErrTooLarge", s, e)
		}
		if s, e := n.Delete(""); s != 0 || e != api.ErrKey {
			t.Fatalf("P5: Delete = %d, %d, want ErrKey", s, e)
		}
	})
}

func TestNoFailure(t *testing.T) {
	for _, every := range []int{0, 1, 3} {
		if run(t, disk.New(plenty), every, history(t, steps())) {
			t.Error("P11: a step fails on a good disk")
		}
	}
}

func TestEachCallFails(t *testing.T) {
	want := history(t, steps())
	for every, part := range []int{0, 1, 7, 1000003} {
		for k := 1; ; k++ {
			d := disk.New(plenty)
			d.Fail(k, part)
			if !run(t, d, every, want) {
				break
			}
		}
	}
}

func TestEachCallIsCut(t *testing.T) {
	want := history(t, steps())
	for every := range 3 {
		for k := 1; ; k++ {
			d := disk.New(plenty)
			d.Cut(k)
			if !run(t, d, every, want) {
				break
			}
		}
	}
}

func TestFullDisk(t *testing.T) {
	want := history(t, steps())
	full := 0
	for room := 0; run(t, disk.New(room), room%3, want); room += 13 {
		full++
	}
	if full == 0 {
		t.Error("P11: a disk without room takes everything")
	}
}

// A call that begins with room for Need bytes does not find the disk full.
func TestNeed(t *testing.T) {
	for room := api.Need; room < api.Need+1500; room += 11 {
		d := disk.New(room)
		n := openAs(t, d, api.MinSegment, room%3)
		for i, s := range steps() {
			left, fulls := room-d.Used(), d.Fulls()
			s.do(n)
			if d.Fulls() > fulls && left >= api.Need {
				t.Fatalf("P11: step %d, %s, finds the disk full with %d bytes left", i, s.call, left)
			}
		}
	}
}

func TestState(t *testing.T) {
	d, n := fresh(t)
	state := func(want api.State) {
		t.Helper()
		if s := n.State(); s != want {
			t.Fatalf("P11: State() = %+v, want %+v", s, want)
		}
	}
	state(api.State{})
	fill(t, n, 2)
	state(api.State{Keys: 3, Hints: 2})
	n.Ack()
	n.Delete("k")
	state(api.State{Keys: 2, Hints: 1})
	n.Put("", "")
	n.Hint(self, "")
	accept(t, n, "y", plain(0, 0, ""), api.ErrDot)
	state(api.State{Keys: 2, Hints: 1})
	breakDisk(t, d, n)
	state(api.State{ReadOnly: true, Keys: 2, Hints: 1})
}
