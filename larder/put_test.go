package larder_test

import (
	"strconv"
	"strings"
	"testing"

	"larder/api"
	"larder/disk"
	"larder/larder"
)

func TestPut(t *testing.T) {
	_, n := fresh(t)
	p := put(t, n, "a", "x")
	is(t, n, "a", plain(self, p, "x"))
	q := put(t, n, "a", "")
	is(t, n, "a", version(self, q, [4]int{0, p, 0, 0}, ""))
	r := put(t, n, "b", "y")
	is(t, n, "a", version(self, q, [4]int{0, p, 0, 0}, ""))
	is(t, n, "b", plain(self, r, "y"))
}

// Over has the greatest number of each node among the versions that there are: not of those that there were, nor of what these override.
func TestPutOver(t *testing.T) {
	_, n := fresh(t)
	accept(t, n, "a", plain(3, 2, "p"), api.OK)
	accept(t, n, "a", plain(3, 11, "q"), api.OK)
	accept(t, n, "a", plain(3, 10, "r"), api.OK)
	accept(t, n, "a", version(0, 5, [4]int{2, 0, 900, 1}, "s"), api.OK)
	p := put(t, n, "a", "x")
	is(t, n, "a", version(self, p, [4]int{5, 0, 0, 11}, "x"))
	q := put(t, n, "a", "y")
	is(t, n, "a", version(self, q, [4]int{0, p, 0, 0}, "y"))
	accept(t, n, "a", gone(2, 1, [4]int{0, q, 0, 0}), api.OK)
	r := put(t, n, "a", "z")
	is(t, n, "a", plain(self, r, "z"))
}

func TestKeyAndValueBounds(t *testing.T) {
	d, n := fresh(t)
	wide := strings.Repeat("é", 16) // 32 bytes
	full := strings.Repeat("v", 128)
	for _, key := range []string{"k", "\x00", "\xff\xfe", strings.Repeat("k", 32), wide} {
		p := put(t, n, key, full)
		is(t, n, key, plain(self, p, full))
		if _, e := n.Delete(key); e != api.OK {
			t.Errorf("P5: Delete(%q) = %d", key, e)
		}
	}
	put(t, n, "k", full)
	for _, key := range []string{"", strings.Repeat("k", 33), wide + "k", strings.Repeat("k", 100000)} {
		for _, value := range []string{"v", strings.Repeat("v", 129)} {
			unwritten(t, d, n, "Put without a key", func() {
				if s, e := n.Put(key, value); s != 0 || e != api.ErrKey {
					t.Errorf("P4: Put(%q, %q) = %d, %d, want ErrKey", key, value, s, e)
				}
			})
		}
		unwritten(t, d, n, "Delete without a key", func() {
			if s, e := n.Delete(key); s != 0 || e != api.ErrKey {
				t.Errorf("P5: Delete(%q) = %d, %d, want ErrKey", key, s, e)
			}
		})
	}
	for _, value := range []string{full + "v", strings.Repeat("é", 64) + "v"} {
		unwritten(t, d, n, "Put of too much", func() {
			if s, e := n.Put("k", value); s != 0 || e != api.ErrTooLarge {
				t.Errorf("P4: Put of %d bytes = %d, %d, want ErrTooLarge", len(value), s, e)
			}
		})
	}
}

func TestDelete(t *testing.T) {
	_, n := fresh(t)
	fill(t, n, 0)
	last := 0
	for _, key := range []string{"k", "k", "never", "y"} {
		s, e := n.Delete(key)
		if e != api.OK || s <= last {
			t.Errorf("P5: Delete(%q) = %d, %d, behind %d", key, s, e, last)
		}
		last = s
		is(t, n, key)
	}
	if k := n.Keys(); len(k) != 1 || k[0] != "x" || n.State().Keys != 1 {
		t.Errorf("P5: Keys() = %q, State() = %+v", k, n.State())
	}
	accept(t, n, "k", plain(0, 1, "again"), api.OK)
	is(t, n, "k", plain(0, 1, "again"))
}

// count checks the numbers that one disk's nodes answer.
type count struct {
	last, calls int
}

func (c *count) number(t *testing.T, seq int, e api.Errno) {
	t.Helper()
	c.calls++
	if e != api.OK {
		if seq != 0 {
			t.Fatalf("P1: the number %d beside the error %d", seq, e)
		}
		return
	}
	if seq <= c.last || seq > api.Lease*c.calls {
		t.Fatalf("P4: the number %d behind %d, in call %d", seq, c.last, c.calls)
	}
	c.last = seq
}

// shown: a version that took effect counts, though its Put was answered an error.
func (c *count) shown(n *larder.Node) {
	for _, k := range n.Keys() {
		l, _ := n.Get(k)
		for _, v := range l {
			if v.Dot.Node == self {
				c.last = max(c.last, v.Dot.Seq)
			}
		}
	}
}

func (c *count) write(t *testing.T, n *larder.Node, i int) {
	t.Helper()
	if i%3 == 2 {
		seq, e := n.Delete("k" + strconv.Itoa(i%4))
		c.number(t, seq, e)
	} else {
		seq, e := n.Put("k"+strconv.Itoa(i%4), strings.Repeat("v", i%129))
		c.number(t, seq, e)
	}
	c.shown(n)
}

func TestNumbers(t *testing.T) {
	_, n := fresh(t)
	c := count{calls: 1}
	for i := range 1000 {
		c.write(t, n, i)
		n.Put("", "refused: it does not count")
		n.Put("k", strings.Repeat("v", 129))
		n.Delete("")
	}
}

func TestNumbersOverOpens(t *testing.T) {
	d := disk.New(plenty)
	c := count{}
	for i := range 200 {
		n := open(t, d)
		c.calls++
		for k := range i % 40 {
			c.write(t, n, i+k)
		}
	}
}

// The least that an Open and a Put may use up: one write each time.
func TestNumbersOfFewWrites(t *testing.T) {
	d := disk.New(plenty)
	c := count{}
	for i := range 50 {
		n := open(t, d)
		c.calls++
		c.write(t, n, i)
	}
}

// Whatever the power is cut in and the crash takes, no number comes again; and each Open and call is worth Lease of them at most.
func TestNumbersOverCrashes(t *testing.T) {
	for cut := 1; cut < 60; cut++ {
		for pick := range 6 {
			d := disk.New(plenty)
			c := count{}
			for round := range 5 {
				n := open(t, d)
				c.calls++
				d.Cut(cut + round)
				for i := 0; i < 60 && !d.Dead(); i++ {
					c.write(t, n, i)
				}
				d.Crash(pick*round, []int{pick * 7, pick * 31, pick * 1001, pick * 17})
			}
		}
	}
}

// The least that an Open and a Put may use up, when each time the power is cut in the Put or goes behind it.
func TestNumbersOfFewWritesOverCrashes(t *testing.T) {
	for cut := range 9 {
		for pick := range 5 {
			d := disk.New(plenty)
			c := count{}
			for i := range 30 {
				n := openAs(t, d, 1000, i%3)
				c.calls++
				d.Cut(cut)
				c.write(t, n, i)
				d.Crash(pick, []int{pick * 3, pick * 3, pick * 3})
				c.shown(open(t, d))
				c.calls++
			}
		}
	}
}
