package larder_test

import (
	"testing"

	"larder/api"
)

// TestExample: the first paragraph of the document's examples.
func TestExample(t *testing.T) {
	d, n := fresh(t)
	p := put(t, n, "a", "x")
	if p < 1 || p > 32 {
		t.Errorf("P4: the first number is %d", p)
	}
	x, y := plain(1, p, "x"), plain(2, 5, "y")
	is(t, n, "a", x)
	accept(t, n, "a", y, api.OK)
	is(t, n, "a", x, y)
	unwritten(t, d, n, "the same Accept", func() { accept(t, n, "a", y, api.OK) })
	z := version(0, 3, [4]int{0, 0, 5, 0}, "z")
	accept(t, n, "a", z, api.OK)
	is(t, n, "a", z, x)
	unwritten(t, d, n, "Accept of 2 5", func() { accept(t, n, "a", y, api.OK) })
	q := put(t, n, "a", "w")
	if q <= p {
		t.Errorf("P4: the number %d behind %d", q, p)
	}
	is(t, n, "a", version(1, q, [4]int{3, p, 0, 0}, "w"))
	unwritten(t, d, n, "Accept of 0 2", func() { accept(t, n, "a", plain(0, 2, "v"), api.OK) })
	accept(t, n, "a", gone(0, 4, [4]int{0, q, 0, 0}), api.OK)
	is(t, n, "a")
	if k := n.Keys(); len(k) != 0 {
		t.Errorf("P7: Keys() = %q", k)
	}
	accept(t, n, "a", plain(0, 2, "v"), api.OK)
	is(t, n, "a", plain(0, 2, "v"))
}
