package larder_test

import (
	"slices"
	"strings"
	"testing"

	"larder/api"
)

func TestGet(t *testing.T) {
	d, n := fresh(t)
	for _, v := range []api.Version{plain(3, 10, "c"), plain(0, 100, "a"), plain(3, 9, "b")} {
		accept(t, n, "k", v, api.OK)
	}
	is(t, n, "k", plain(0, 100, "a"), plain(3, 9, "b"), plain(3, 10, "c"))
	accept(t, n, "k", plain(2, 5, "d"), api.OK)
	is(t, n, "k", plain(0, 100, "a"), plain(2, 5, "d"), plain(3, 9, "b"), plain(3, 10, "c"))
	is(t, n, "kk")
	is(t, n, strings.Repeat("k", 32))
	for _, key := range []string{"", strings.Repeat("k", 33)} {
		unwritten(t, d, n, "Get", func() {
			if l, e := n.Get(key); len(l) != 0 || e != api.ErrKey {
				t.Errorf("P7: Get(%q) = %v, %d, want ErrKey", key, l, e)
			}
		})
	}
}

func TestKeys(t *testing.T) {
	_, n := fresh(t)
	sorted := []string{"\x00", "\x00\x00", "B", "a", "a\x00", "ab", "b", "é", "\xff"}
	for i := range sorted {
		put(t, n, sorted[(i*4+5)%len(sorted)], "v")
	}
	if k := n.Keys(); !slices.Equal(k, sorted) || n.State().Keys != len(sorted) {
		t.Errorf("P7: Keys() = %q, State() = %+v", k, n.State())
	}
	put(t, n, "a", "once more")
	accept(t, n, "b", plain(0, 1, "beside"), api.OK)
	if k := n.Keys(); !slices.Equal(k, sorted) {
		t.Errorf("P7: Keys() = %q", k)
	}
	n.Delete("ab")
	if k := n.Keys(); !slices.Equal(k, append(slices.Clone(sorted[:5]), sorted[6:]...)) {
		t.Errorf("P7: behind a Delete Keys() = %q", k)
	}
}

// What comes out may be changed, behind its end too, and nothing that the node holds changes with it.
func TestNewMemory(t *testing.T) {
	_, n := fresh(t)
	fill(t, n, 5)
	n.Ack()
	before := told(n)
	for range 3 {
		k, h := n.Keys(), n.Hints()
		l, _ := n.Get("k")
		clear(k[:cap(k)])
		clear(h[:cap(h)])
		clear(l[:cap(l)])
		if after := told(n); after != before {
			t.Fatalf("P1: %s became %s", before, after)
		}
	}
	l, _ := n.Get("k")
	m, _ := n.Get("k")
	k, h := n.Keys(), n.Hints()
	hint(t, n, 0, "more", api.OK)
	n.Delete("k")
	if !slices.Equal(l, m) || len(k) != 3 || k[0] != "k" || len(h) != 4 || h[0].Text != "hint 1" {
		t.Errorf("P1: what had come out changed: %v, %q, %v", l, k, h)
	}
}

func TestQuestionsWriteNothing(t *testing.T) {
	d, n := fresh(t)
	ask := func() {
		n.Get("k")
		n.Get("none")
		n.Get("")
		n.Keys()
		n.Hints()
		n.State()
	}
	unwritten(t, d, n, "a question to an empty node", ask)
	fill(t, n, 3)
	unwritten(t, d, n, "a question", ask)
	breakDisk(t, d, n)
	unwritten(t, d, n, "a question to a read-only node", ask)
}
