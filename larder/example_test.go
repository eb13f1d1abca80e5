package larder_test

import (
	"testing"

	"larder/api"
	"larder/disk"
	"larder/larder"
)

// TestExample: the first paragraph of the document's examples.
func TestExample(t *testing.T) {
	d, n := fresh(t)
	example(t, d, n)
}

// example does the first paragraph, and answers the number q, and what the node tells ahead of each change and behind the last.
func example(t *testing.T, d *disk.Disk, n *larder.Node) (int, []string) {
	t.Helper()
	changes := []string{told(n)}
	changed := func() { changes = append(changes, told(n)) }
	p := put(t, n, "a", "x")
	if p < 1 || p > 32 {
		t.Errorf("P4: the first number is %d", p)
	}
	changed()
	x, y := plain(1, p, "x"), plain(2, 5, "y")
	is(t, n, "a", x)
	accept(t, n, "a", y, api.OK)
	changed()
	is(t, n, "a", x, y)
	unwritten(t, d, n, "the same Accept", func() { accept(t, n, "a", y, api.OK) })
	z := version(0, 3, [4]int{0, 0, 5, 0}, "z")
	accept(t, n, "a", z, api.OK)
	changed()
	is(t, n, "a", z, x)
	unwritten(t, d, n, "Accept of 2 5", func() { accept(t, n, "a", y, api.OK) })
	q := put(t, n, "a", "w")
	if q <= p {
		t.Errorf("P4: the number %d behind %d", q, p)
	}
	changed()
	is(t, n, "a", version(1, q, [4]int{3, p, 0, 0}, "w"))
	unwritten(t, d, n, "Accept of 0 2", func() { accept(t, n, "a", plain(0, 2, "v"), api.OK) })
	accept(t, n, "a", gone(0, 4, [4]int{0, q, 0, 0}), api.OK)
	changed()
	is(t, n, "a")
	if k := n.Keys(); len(k) != 0 {
		t.Errorf("P7: Keys() = %q", k)
	}
	accept(t, n, "a", plain(0, 2, "v"), api.OK)
	changed()
	is(t, n, "a", plain(0, 2, "v"))
	return q, changes
}

// TestExampleOfCrashes: the second paragraph.
func TestExampleOfCrashes(t *testing.T) {
	for _, synced := range []bool{false, true} {
		d, n := fresh(t)
		q, may := example(t, d, n)
		hint(t, n, 2, "hello", api.OK)
		may = append(may, told(n))
		if synced {
			sync(t, n, api.OK)
			may = may[len(may)-1:]
		}
		eachCrash(d, 1, func(c *disk.Disk) {
			behind(t, c.Copy(), may, count{last: q, calls: 3})
			open(t, c)
			c.Crash(0, nil)
			n := open(t, c)
			if r := put(t, n, "a", "v"); r <= q {
				t.Fatalf("P4: behind two crashes the number %d, behind %d", r, q)
			}
		})
	}
}
