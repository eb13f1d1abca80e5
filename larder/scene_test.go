package larder_test

import (
	"slices"
	"strconv"
	"strings"
	"testing"

	"larder/api"
	"larder/disk"
)

// scene: a state of a node and its disk, from which any call may be made. It is made anew for each call that is tried.
type scene struct {
	what string
	make func(t *testing.T) *trial
}

var wide = strings.Repeat("v", api.MaxValue)

// some: six writes, which give the key k four versions, and leave a hint.
func some() []step {
	return []step{
		accepting("k", plain(0, 1, "a")),
		accepting("k", plain(0, 2, "b")),
		accepting("k", plain(2, 1, "c")),
		putting("x", "X"),
		accepting("k", plain(3, 1, "d")),
		hinting(3, "one"),
	}
}

// someOn: a trial with these writes on a good disk.
func someOn(t *testing.T, every int) *trial {
	t.Helper()
	return trialOf(t, disk.New(plenty)).again(t, every).must(t, some()...)
}

// isLimit: has a segment all the bytes that it may have?
func isLimit(d *disk.Disk) bool {
	for _, name := range d.List() {
		if size, _ := d.Size(name); size == api.MinSegment {
			return true
		}
	}
	return false
}

// toLimit: the writes behind some that make the segment so long that the next write begins another one.
func toLimit(t *testing.T) []step {
	t.Helper()
	var out []step
	for someOn(t, 0).must(t, out...).d.Used() < api.MinSegment-len(wide)-api.MaxKey {
		out = append(out, accepting("long"+strconv.Itoa(len(out)), plain(0, 1, wide)))
	}
	for _, k := range []int{1, 2, api.MaxKey - 1, api.MaxKey} {
		for i := range wide {
			l := append(slices.Clone(out), accepting(strings.Repeat("f", k), plain(0, 1, wide[:i])))
			if isLimit(someOn(t, 0).must(t, l...).d) {
				return l
			}
		}
	}
	t.Fatal("no segment has as many bytes as it may have")
	return nil
}

// leased: the node's numbers have all been given that it may give without the disk.
func leased(t *testing.T) *trial {
	t.Helper()
	r := someOn(t, 0)
	for range api.Lease - 1 {
		r.must(t, putting("x", "Y"))
	}
	return r
}

// failed: a write failed and left so many bytes, and the node was opened again.
func failed(t *testing.T, part int) *trial {
	t.Helper()
	r := someOn(t, 0)
	r.d.Fail(1, part)
	if r.do(t, accepting("y", plain(0, 1, wide))) {
		t.Fatal("a write does without the disk")
	}
	r.d.Fail(0, 0)
	return r.again(t, 0)
}

// crashed: a crash left so many bytes of what was not safe, and the node was opened again.
func crashed(t *testing.T, tail int) *trial {
	t.Helper()
	return someOn(t, 0).must(t, accepting("y", plain(0, 1, wide))).crash(9, tail).again(t, 0)
}

// allButMerged: the next call of Merge ends a merge.
func allButMerged(t *testing.T, r *trial) *trial {
	t.Helper()
	state := r.n.State()
	return r.must(t, repeated(merging(), state.Keys+state.Hints+2)...)
}

func scenes(t *testing.T) []scene {
	t.Helper()
	longest := toLimit(t)
	return []scene{
		{"an empty disk", func(t *testing.T) *trial { return trialOf(t, disk.New(plenty)).again(t, 0) }},
		{"some writes", func(t *testing.T) *trial { return someOn(t, 0) }},
		{"each write durable", func(t *testing.T) *trial { return someOn(t, 1) }},
		{"the next write durable", func(t *testing.T) *trial { return someOn(t, len(some())+1) }},
		{"behind Sync", func(t *testing.T) *trial { return someOn(t, 0).must(t, syncing()) }},
		{"behind Open", func(t *testing.T) *trial { return someOn(t, 0).again(t, 1) }},
		{"a full segment", func(t *testing.T) *trial { return someOn(t, 0).must(t, longest...) }},
		{"a full segment behind Open", func(t *testing.T) *trial { return someOn(t, 0).must(t, longest...).again(t, 1) }},
		{"all numbers given", leased},
		{"behind a failure", func(t *testing.T) *trial { return failed(t, 0) }},
		{"behind a failure that left a piece", func(t *testing.T) *trial { return failed(t, 7) }},
		{"behind a crash that left a little", func(t *testing.T) *trial { return crashed(t, 1) }},
		{"behind a crash that left more", func(t *testing.T) *trial { return crashed(t, 99) }},
		{"a merge begun", func(t *testing.T) *trial { return someOn(t, 0).must(t, merging()) }},
		{"a merge under way", func(t *testing.T) *trial { return someOn(t, 1).must(t, merging(), merging(), merging()) }},
		{"a merge under way, and writes in it", func(t *testing.T) *trial {
			return someOn(t, 0).must(t, merging(), merging(), hinting(0, "two"), accepting("y", plain(0, 1, wide)), merging(), putting("y", wide))
		}},
		{"a merge all but ended", func(t *testing.T) *trial { return allButMerged(t, someOn(t, 0)) }},
		{"a merge of some segments all but ended", func(t *testing.T) *trial {
			return allButMerged(t, someOn(t, 0).must(t, longest...).must(t, longest...).must(t, full(1, 2)...))
		}},
		{"behind a merge", func(t *testing.T) *trial { return allButMerged(t, someOn(t, 0)).must(t, merging()) }},
		{"behind a merge and Open", func(t *testing.T) *trial { return allButMerged(t, someOn(t, 0)).must(t, merging()).again(t, 1) }},
		{"a merge that is left", func(t *testing.T) *trial { return allButMerged(t, someOn(t, 0)).again(t, 0) }},
		{"a crash behind a failure", func(t *testing.T) *trial { return failed(t, 100).crash(9, 50).again(t, 0) }},
	}
}

// tries: one call of each kind, and of some of them one that writes little and one that writes much.
func tries() []step {
	return []step{
		putting("k", ""),
		putting(strings.Repeat("n", api.MaxKey), wide),
		deleting("k"),
		deleting("nothing"),
		accepting("k", version(3, 9, [api.Nodes]int{1, 0, 0, 0}, wide)),
		accepting("k", gone(0, 9, [api.Nodes]int{1, 0, 1, 1})),
		hinting(0, strings.Repeat("t", api.MaxText)),
		acking(),
		syncing(),
		merging(),
	}
}

// eachTry tries each call of each kind in each scene; one is given the scene, the call, and what the node tells ahead of it and behind it on a good disk.
func eachTry(t *testing.T, one func(t *testing.T, c scene, s step, before, whole string)) {
	t.Helper()
	for _, c := range scenes(t) {
		for _, s := range tries() {
			t.Run(c.what+"/"+s.call, func(t *testing.T) {
				r := c.make(t)
				before := told(r.n)
				r.must(t, s)
				one(t, c, s, before, told(r.n))
			})
		}
	}
}

// eachFailure makes each call of the disk in a step fail in turn, with each number of bytes that it may have added, and calls one behind each.
func eachFailure(t *testing.T, c scene, s step, one func(r *trial, k, part int)) {
	t.Helper()
	for k := 1; eachPart(t, c, s, k, one); k++ {
	}
}

// eachPart does it for the k-th call of the disk; false, if the step makes fewer.
func eachPart(t *testing.T, c scene, s step, k int, one func(r *trial, k, part int)) bool {
	t.Helper()
	least := 0
	for part := 0; ; part++ {
		r := c.make(t)
		r.d.Fail(k, part)
		if r.do(t, s) {
			return false
		}
		r.d.Fail(0, 0)
		switch {
		case part == 0:
			least = r.d.Used()
		case r.d.Used() == least: // from here on they come again
			return true
		}
		one(r, k, part)
	}
}
