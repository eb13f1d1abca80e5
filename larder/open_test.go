package larder_test

import (
	"testing"

	"larder/api"
	"larder/disk"
	"larder/larder"
)

// least and most are the bounds of an int.
const (
	most  = int(^uint(0) >> 1)
	least = -most - 1
)

func TestConfigBounds(t *testing.T) {
	good := []api.Config{
		{Node: 0, Segment: 1000, Sync: 0},
		{Node: 3, Segment: 1000000, Sync: 100},
		{Node: 2, Segment: 5000, Sync: 1},
	}
	for _, c := range good {
		if n, e := larder.Open(disk.New(plenty), c); n == nil || e != api.OK {
			t.Errorf("P3: Open(%+v) = %v, %d", c, n, e)
		}
	}
	bad := []api.Config{
		{},
		{Node: -1, Segment: 1000}, {Node: 4, Segment: 1000}, {Node: least, Segment: 1000}, {Node: most, Segment: 1000},
		{Segment: 999}, {Segment: 1000001}, {Segment: -1000}, {Segment: least}, {Segment: most},
		{Segment: 1000, Sync: -1}, {Segment: 1000, Sync: 101}, {Segment: 1000, Sync: least}, {Segment: 1000, Sync: most},
	}
	for _, c := range bad {
		d := disk.New(plenty)
		if n, e := larder.Open(d, c); n != nil || e != api.ErrConfig {
			t.Errorf("P3: Open(%+v) = %v, %d, want ErrConfig", c, n, e)
		}
		if d.Calls() != 0 || len(d.List()) != 0 {
			t.Errorf("P1: Open(%+v) writes", c)
		}
	}
}

func TestConfigIsAskedFirst(t *testing.T) {
	d := disk.New(0)
	d.Cut(1)
	if n, e := larder.Open(d, api.Config{Node: 4, Segment: 1000}); n != nil || e != api.ErrConfig || d.Dead() {
		t.Errorf("P3: Open on a disk that fails = %v, %d, want ErrConfig", n, e)
	}
}

func TestEmptyDisk(t *testing.T) {
	_, n := fresh(t)
	if s := n.State(); s != (api.State{}) {
		t.Errorf("P3: State() = %+v", s)
	}
	if k, h := n.Keys(), n.Hints(); len(k) != 0 || len(h) != 0 {
		t.Errorf("P3: Keys() = %q, Hints() = %v", k, h)
	}
	is(t, n, "a")
	if e := n.Ack(); e != api.ErrNone {
		t.Errorf("P8: Ack() = %d", e)
	}
}

// Open may do without calls that change something; when it makes one and that is refused, it says so.
func TestOpenOnABadDisk(t *testing.T) {
	check := func(what string, d *disk.Disk, want api.Errno) {
		t.Helper()
		refused := d.Refused()
		n, e := larder.Open(d, api.Config{Node: self, Segment: 1000})
		if d.Refused() == refused {
			want = api.OK
		}
		if e != want || (n == nil) != (want != api.OK) {
			t.Errorf("P3: Open on a disk that %s = %v, %d, want %d", what, n, e, want)
		}
	}
	check("is full", disk.New(0), api.ErrFull)
	for k := 1; k < 5; k++ {
		d := disk.New(plenty)
		d.Fail(k, 0)
		check("fails", d, api.ErrIO)
		d = disk.New(plenty)
		d.Cut(k)
		check("is cut", d, api.ErrIO)
	}
}

func TestNodesApart(t *testing.T) {
	_, n := fresh(t)
	_, m := fresh(t)
	put(t, n, "a", "n")
	hint(t, n, 0, "n", api.OK)
	if told(m) != told(open(t, disk.New(plenty))) {
		t.Errorf("P1: a node on another disk tells %s", told(m))
	}
	put(t, m, "b", "m")
	if k := n.Keys(); len(k) != 1 || k[0] != "a" {
		t.Errorf("P1: Keys() = %q", k)
	}
}
