package larder_test

import (
	"strconv"
	"strings"
	"testing"

	"larder/api"
	"larder/disk"
	"larder/larder"
)

// survives checks that a crash that takes all it can takes nothing of what the node tells.
func survives(t *testing.T, d *disk.Disk, n *larder.Node, what string) {
	t.Helper()
	c := d.Copy()
	c.Crash(0, nil)
	if m := open(t, c); told(m) != told(n) {
		t.Fatalf("P9: %s: behind a crash the node tells %s, want %s", what, told(m), told(n))
	}
}

func sync(t *testing.T, n *larder.Node, want api.Errno) {
	t.Helper()
	if e := n.Sync(); e != want {
		t.Fatalf("P9: Sync() = %d, want %d", e, want)
	}
}

func TestSyncBehindEachStep(t *testing.T) {
	for _, segment := range []int{1000, 1000000} {
		d := disk.New(plenty)
		n := openAs(t, d, segment, 0)
		sync(t, n, api.OK)
		for i, s := range twice() {
			if _, e := s.do(n); e != api.OK {
				t.Fatalf("step %d, %s = %d", i, s.call, e)
			}
			before := told(n)
			sync(t, n, api.OK)
			if told(n) != before {
				t.Fatalf("P9: Sync changes %s into %s", before, told(n))
			}
			survives(t, d, n, "Sync behind step "+strconv.Itoa(i)+", "+s.call)
		}
	}
}

// A Sync makes durable what an earlier node wrote, too.
func TestSyncBehindOpen(t *testing.T) {
	for segment := 1000; segment < 3000; segment += 100 {
		d := disk.New(plenty)
		n := openAs(t, d, segment, 0)
		for i, s := range twice() {
			if s.call == "Sync" {
				continue
			}
			if _, e := s.do(n); e != api.OK {
				t.Fatalf("step %d, %s = %d", i, s.call, e)
			}
			n = openAs(t, d, segment, 0)
			if i%10 == 9 {
				sync(t, n, api.OK)
				survives(t, d, n, "Sync behind Open")
			}
		}
	}
}

// noWrites makes calls that are no writes: refused ones, Accepts that change nothing, and those that only tell.
func noWrites(t *testing.T, n *larder.Node) {
	t.Helper()
	n.Put("", "v")
	n.Put("k", strings.Repeat("v", 129))
	n.Delete("")
	n.Hint(self, "t")
	n.Accept("k", plain(self, 1, ""))
	accept(t, n, "k", gone(0, 1, [api.Nodes]int{}), api.OK)
	accept(t, n, "k", gone(3, 1000, [api.Nodes]int{}), api.OK)
	l, _ := n.Get("k")
	for _, v := range l {
		if v.Dot.Node != self {
			accept(t, n, "k", v, api.OK)
		}
	}
	n.Keys()
	n.Hints()
	n.State()
}

// write makes a call that is a write; another kind for each i.
func write(t *testing.T, n *larder.Node, i int) {
	t.Helper()
	s := []step{
		accepting("k", plain(2, i+1, strconv.Itoa(i))),
		hinting(0, strconv.Itoa(i)),
		putting("k", strconv.Itoa(i)),
		deleting("nothing"),
		acking(),
		deleting("k"),
	}[i%6]
	if _, e := s.do(n); e != api.OK {
		t.Fatalf("write %d, %s = %d", i, s.call, e)
	}
}

// The n-th, the 2n-th write since Open makes all durable: no Sync, and nothing that is no write, puts that off.
func TestSyncOfTheConfig(t *testing.T) {
	for _, every := range []int{1, 2, 3, 5, 8, 50, 100} {
		for _, asked := range []int{0, 1, 3} {
			d := disk.New(plenty)
			n := openAs(t, d, 1000, every)
			for i := range 6 * every {
				noWrites(t, n)
				write(t, n, i)
				if (i+1)%every == 0 {
					survives(t, d, n, "write "+strconv.Itoa(i+1)+" with Sync "+strconv.Itoa(every))
				} else if asked > 0 && i%asked == 0 {
					sync(t, n, api.OK)
				}
			}
		}
	}
}

// The writes are counted from each Open on, with the Sync of that Open.
func TestSyncOfEachConfig(t *testing.T) {
	d := disk.New(plenty)
	i := 0
	for round := range 60 {
		every := 1 + round%7
		n := openAs(t, d, 1000+round, every)
		for k := range every * (1 + round%3) {
			write(t, n, i)
			i++
			if (k+1)%every == 0 {
				survives(t, d, n, "write "+strconv.Itoa(k+1)+" since Open")
			}
		}
		for range round % every {
			write(t, n, i)
			i++
		}
		if before := told(n); told(openAs(t, d, 5000, 0)) != before {
			t.Fatalf("P12: the next node tells something else than %s", before)
		}
	}
}

// When a call of the disk fails within Sync, it says so, and the node is read-only; nothing is lost.
func TestSyncFails(t *testing.T) {
	fails := 0
	for _, written := range []int{0, 1, 2, 12} {
		for k := 1; k < 6; k++ {
			for _, stop := range []func(d *disk.Disk){
				func(d *disk.Disk) { d.Fail(k, 3) },
				func(d *disk.Disk) { d.Cut(k) },
			} {
				d, n := fresh(t)
				for i := range written {
					put(t, n, "k"+strconv.Itoa(i), strings.Repeat("v", 100))
				}
				before := told(n)
				refused := d.Refused()
				stop(d)
				e := n.Sync()
				if d.Refused() == refused {
					if e != api.OK || n.State().ReadOnly {
						t.Fatalf("P9: Sync() = %d, State() = %+v", e, n.State())
					}
					continue
				}
				fails++
				d.Fail(0, 0)
				if e != api.ErrIO || !n.State().ReadOnly || told(n) != before {
					t.Fatalf("P9: Sync() on a disk that fails = %d, State() = %+v", e, n.State())
				}
				sync(t, n, api.ErrReadOnly)
				if m := open(t, d); told(m) != before || m.State().ReadOnly {
					t.Fatalf("P12: behind a Sync that failed the node tells %s, want %s", told(m), before)
				}
			}
		}
	}
	if fails == 0 {
		t.Error("P9: no Sync needs the disk")
	}
}

// A Sync that failed can be made up for behind the next Open.
func TestSyncBehindAFailure(t *testing.T) {
	for k := 1; k < 6; k++ {
		d, n := fresh(t)
		put(t, n, "a", "x")
		hint(t, n, 0, "t", api.OK)
		d.Fail(k, 0)
		n.Sync()
		d.Fail(0, 0)
		n = open(t, d)
		sync(t, n, api.OK)
		survives(t, d, n, "Sync behind one that failed")
	}
}
