package larder_test

import (
	"strings"
	"testing"

	"larder/api"
)

const topSeq = api.MaxSeq

func TestAcceptBounds(t *testing.T) {
	_, n := fresh(t)
	full := strings.Repeat("v", 128)
	for _, v := range []api.Version{
		plain(0, 1, ""),
		plain(2, topSeq, full),
		version(3, 1, [4]int{topSeq, topSeq, topSeq, topSeq}, "v"),
	} {
		for _, key := range []string{"k", strings.Repeat("k", 32)} {
			n.Delete(key)
			accept(t, n, key, v, api.OK)
			is(t, n, key, v)
		}
	}
}

// Of several errors the first that P6 names is answered, and nothing is written.
func TestAcceptErrors(t *testing.T) {
	d, n := fresh(t)
	fill(t, n, 1)
	long := strings.Repeat("v", 129)
	refuse := func(key string, v api.Version, want api.Errno) {
		t.Helper()
		unwritten(t, d, n, "Accept", func() { accept(t, n, key, v, want) })
	}
	check := func() {
		t.Helper()
		for _, key := range []string{"", strings.Repeat("k", 33)} {
			refuse(key, plain(0, 1, "v"), api.ErrKey)
			refuse(key, plain(self, 0, long), api.ErrKey)
		}
		refuse("k", plain(0, 1, long), api.ErrTooLarge)
		refuse("k", plain(0, 9, long), api.ErrTooLarge)
		refuse("k", plain(self, 0, long), api.ErrTooLarge)
		refuse("k", api.Version{Dot: api.Dot{Node: 0, Seq: 1}, Value: long, Gone: true}, api.ErrTooLarge)
		for _, dot := range []api.Dot{{}, {Node: self, Seq: 1}, {Node: -1, Seq: 1}, {Node: 4, Seq: 1}, {Node: least, Seq: 1}, {Node: most, Seq: 1}, {Seq: 0}, {Seq: -1}, {Seq: least}, {Seq: topSeq + 1}, {Seq: most}} {
			refuse("k", api.Version{Dot: dot, Value: "v"}, api.ErrDot)
			refuse("k", api.Version{Dot: dot, Gone: true}, api.ErrDot)
		}
		for i := range api.Nodes {
			for _, o := range []int{-1, topSeq + 1, least, most} {
				v := plain(0, 1, "v")
				v.Over[i] = o
				refuse("k", v, api.ErrDot)
				refuse("new", v, api.ErrDot)
			}
		}
		refuse("k", api.Version{Dot: api.Dot{Node: 0, Seq: 1}, Value: "v", Gone: true}, api.ErrDot)
		refuse("k", api.Version{Dot: api.Dot{Node: 0, Seq: 9}, Over: [4]int{9}, Value: "v", Gone: true}, api.ErrDot)
	}
	check()
	refuse("k", plain(0, 5, "fifth"), api.ErrMany)
	breakDisk(t, d, n)
	check()
	refuse("k", plain(0, 5, "fifth"), api.ErrReadOnly)
	refuse("k", plain(0, 1, "known"), api.ErrReadOnly)
	refuse("k", gone(3, 1, [4]int{}), api.ErrReadOnly)
	refuse("k", gone(3, 1, [4]int{4, 0, 0, 0}), api.ErrReadOnly)
}

// A version that is known, or overridden, or that says nothing new, changes and writes nothing.
func TestAcceptOfNothingNew(t *testing.T) {
	d, n := fresh(t)
	accept(t, n, "k", version(2, 5, [4]int{7, 0, 3, 0}, "y"), api.OK)
	for _, v := range []api.Version{
		plain(2, 5, "y"), plain(2, 5, "other"),
		version(2, 5, [4]int{9, 9, 9, 9}, "the same dot, and it overrides"),
		gone(2, 5, [4]int{9, 9, 9, 9}),
		plain(0, 7, "overridden"), plain(0, 1, "overridden"), plain(2, 3, "overridden"),
		version(0, 7, [4]int{9, 9, 9, 9}, "overridden, and it overrides"),
		gone(0, 7, [4]int{9, 9, 9, 9}),
		gone(0, 8, [4]int{}), gone(3, 1, [4]int{9, 9, 4, 9}),
	} {
		unwritten(t, d, n, "Accept of nothing new", func() { accept(t, n, "k", v, api.OK) })
		unwritten(t, d, n, "Accept of what is gone", func() { accept(t, n, "none", gone(0, 1, v.Over), api.OK) })
	}
	accept(t, n, "k", plain(0, 8, "z"), api.OK)
	is(t, n, "k", plain(0, 8, "z"), version(2, 5, [4]int{7, 0, 3, 0}, "y"))
	accept(t, n, "k", plain(2, 4, "x"), api.OK)
	is(t, n, "k", plain(0, 8, "z"), plain(2, 4, "x"), version(2, 5, [4]int{7, 0, 3, 0}, "y"))
}

func TestAcceptOverrides(t *testing.T) {
	_, n := fresh(t)
	accept(t, n, "k", plain(0, 3, "a"), api.OK)
	accept(t, n, "k", plain(2, 3, "b"), api.OK)
	accept(t, n, "k", plain(2, 4, "c"), api.OK)
	accept(t, n, "k", version(3, 1, [4]int{2, 0, 3, 0}, "d"), api.OK)
	is(t, n, "k", plain(0, 3, "a"), plain(2, 4, "c"), version(3, 1, [4]int{2, 0, 3, 0}, "d"))
	accept(t, n, "k", gone(0, 9, [4]int{3, 0, 0, 0}), api.OK)
	is(t, n, "k", plain(2, 4, "c"), version(3, 1, [4]int{2, 0, 3, 0}, "d"))
	accept(t, n, "k", version(2, 9, [4]int{0, 0, 9, 1}, "e"), api.OK)
	is(t, n, "k", version(2, 9, [4]int{0, 0, 9, 1}, "e"))
	accept(t, n, "k", gone(0, 1, [4]int{0, 0, 9, 0}), api.OK)
	is(t, n, "k")
	if k := n.Keys(); len(k) != 0 || n.State().Keys != 0 {
		t.Errorf("P6: Keys() = %q, State() = %+v", k, n.State())
	}
	accept(t, n, "k", plain(0, 3, "a"), api.OK)
	is(t, n, "k", plain(0, 3, "a"))
}

// Another node's version overrides this one's by its number alone.
func TestAcceptOverOwn(t *testing.T) {
	_, n := fresh(t)
	put(t, n, "k", "x")
	p := put(t, n, "k", "y")
	own, _ := n.Get("k")
	below := version(0, 1, [4]int{0, p - 1, 0, 0}, "z")
	accept(t, n, "k", below, api.OK)
	is(t, n, "k", below, own[0])
	above := version(0, 2, [4]int{0, p, 0, 0}, "w")
	accept(t, n, "k", above, api.OK)
	is(t, n, "k", below, above)
	is(t, n, "other")
}

func TestFifthVersion(t *testing.T) {
	d, n := fresh(t)
	four := []api.Version{plain(0, 1, "a"), plain(0, 2, "b"), plain(2, 1, "c"), plain(3, 1, "d")}
	for _, v := range four {
		accept(t, n, "k", v, api.OK)
	}
	unwritten(t, d, n, "Accept of a fifth version", func() {
		accept(t, n, "k", plain(0, 3, "e"), api.ErrMany)
		accept(t, n, "k", version(0, 3, [4]int{0, 9, 0, 0}, "e"), api.ErrMany)
		accept(t, n, "k", plain(2, 1, "c"), api.OK)
		accept(t, n, "k", gone(3, 9, [4]int{}), api.OK)
	})
	is(t, n, "k", four...)
	accept(t, n, "l", plain(0, 3, "another key"), api.OK)
	accept(t, n, "k", version(3, 2, [4]int{1, 0, 0, 0}, "e"), api.OK)
	is(t, n, "k", four[1], four[2], four[3], version(3, 2, [4]int{1, 0, 0, 0}, "e"))
	accept(t, n, "k", gone(0, 9, [4]int{0, 0, 0, 1}), api.OK)
	is(t, n, "k", four[1], four[2], version(3, 2, [4]int{1, 0, 0, 0}, "e"))
	p := put(t, n, "k", "f")
	is(t, n, "k", version(self, p, [4]int{2, 0, 1, 2}, "f"))
}
