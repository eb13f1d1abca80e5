package larder_test

import (
	"strconv"
	"testing"

	"larder/api"
	"larder/disk"
	"larder/larder"
)

const plenty = 10000000 // bytes of room

// self is the number of the node that the tests open.
const self = 1

func open(t *testing.T, d *disk.Disk) *larder.Node {
	t.Helper()
	n, e := larder.Open(d, api.Config{Node: self, Segment: api.MinSegment})
	if n == nil || e != api.OK {
		t.Fatalf("Open = %v, %d", n, e)
	}
	return n
}

func fresh(t *testing.T) (*disk.Disk, *larder.Node) {
	t.Helper()
	d := disk.New(plenty)
	return d, open(t, d)
}

func put(t *testing.T, n *larder.Node, key, value string) int {
	t.Helper()
	seq, e := n.Put(key, value)
	if e != api.OK {
		t.Fatalf("Put(%q, %q) = %d", key, value, e)
	}
	return seq
}

func accept(t *testing.T, n *larder.Node, key string, v api.Version, want api.Errno) {
	t.Helper()
	if e := n.Accept(key, v); e != want {
		t.Fatalf("Accept(%q, %+v) = %d, want %d", key, v, e, want)
	}
}

func hint(t *testing.T, n *larder.Node, to int, text string, want api.Errno) {
	t.Helper()
	if e := n.Hint(to, text); e != want {
		t.Fatalf("Hint(%d, %q) = %d, want %d", to, text, e, want)
	}
}

func version(node, seq int, over [api.Nodes]int, value string) api.Version {
	return api.Version{Dot: api.Dot{Node: node, Seq: seq}, Over: over, Value: value}
}

func plain(node, seq int, value string) api.Version {
	return version(node, seq, [api.Nodes]int{}, value)
}

func gone(node, seq int, over [api.Nodes]int) api.Version {
	return api.Version{Dot: api.Dot{Node: node, Seq: seq}, Over: over, Gone: true}
}

// is checks what a key has.
func is(t *testing.T, n *larder.Node, key string, want ...api.Version) {
	t.Helper()
	got, e := n.Get(key)
	if e != api.OK || len(got) != len(want) {
		t.Fatalf("Get(%q) = %+v, %d, want %+v", key, got, e, want)
	}
	for i := range want {
		if got[i] != want[i] {
			t.Fatalf("Get(%q) = %+v, want %+v", key, got, want)
		}
	}
}

// told: all that a node holds, as a text.
func told(n *larder.Node) string {
	var b []byte
	number := func(l ...int) {
		for _, i := range l {
			b = append(strconv.AppendInt(b, int64(i), 10), ' ')
		}
	}
	text := func(s string) { // two lists of texts must not look alike
		number(len(s))
		b = append(append(b, s...), ' ')
	}
	for _, k := range n.Keys() {
		text(k)
		l, _ := n.Get(k)
		number(len(l))
		for _, v := range l {
			number(v.Dot.Node, v.Dot.Seq)
			number(v.Over[:]...)
			text(v.Value)
			b = append(strconv.AppendBool(b, v.Gone), ' ')
		}
	}
	for _, h := range n.Hints() {
		b = append(b, "hint "...)
		number(h.To)
		text(h.Text)
	}
	s := n.State()
	number(s.Keys, s.Hints)
	return string(b)
}

// fill gives a node four versions of the key k, one each of x and y, and hints.
func fill(t *testing.T, n *larder.Node, hints int) {
	t.Helper()
	for i := range api.MaxVersions {
		accept(t, n, "k", plain(0, i+1, "v"), api.OK)
	}
	put(t, n, "x", "X")
	accept(t, n, "y", plain(2, 7, "Y"), api.OK)
	for i := range hints {
		hint(t, n, 3, "hint "+strconv.Itoa(i), api.OK)
	}
}

// breakDisk makes the disk fail in a Put, so that the node is read-only.
func breakDisk(t *testing.T, d *disk.Disk, n *larder.Node) {
	t.Helper()
	d.Fail(1, 0)
	for range 100 {
		if _, e := n.Put("x", "X"); e == api.ErrIO {
			d.Fail(0, 0)
			return
		}
	}
	t.Fatal("P11: a hundred Puts did without the disk")
}

// unwritten checks that a call makes no call of the disk that changes something, and that the node tells the same behind it.
func unwritten(t *testing.T, d *disk.Disk, n *larder.Node, what string, call func()) {
	t.Helper()
	calls, before := d.Calls(), told(n)
	call()
	if d.Calls() != calls {
		t.Errorf("P1: %s writes", what)
	}
	if after := told(n); after != before {
		t.Errorf("P1: %s changes %s into %s", what, before, after)
	}
}
