package larder_test

import (
	"strconv"
	"strings"
	"testing"

	"larder/api"
	"larder/disk"
	"larder/larder"
)

// step is a call that may write: its name, and what it answers; the number is 0, if it is neither Put nor Delete, but 1, if it is the last of a merge.
type step struct {
	call string
	do   func(n *larder.Node) (int, api.Errno)
}

func putting(key, value string) step {
	return step{"Put", func(n *larder.Node) (int, api.Errno) { return n.Put(key, value) }}
}

func deleting(key string) step {
	return step{"Delete", func(n *larder.Node) (int, api.Errno) { return n.Delete(key) }}
}

func accepting(key string, v api.Version) step {
	return step{"Accept", func(n *larder.Node) (int, api.Errno) { return 0, n.Accept(key, v) }}
}

func hinting(to int, text string) step {
	return step{"Hint", func(n *larder.Node) (int, api.Errno) { return 0, n.Hint(to, text) }}
}

func acking() step {
	return step{"Ack", func(n *larder.Node) (int, api.Errno) { return 0, n.Ack() }}
}

func syncing() step {
	return step{"Sync", func(n *larder.Node) (int, api.Errno) { return 0, n.Sync() }}
}

func merging() step {
	return step{"Merge", func(n *larder.Node) (int, api.Errno) {
		done, e := n.Merge()
		if done {
			return 1, e
		}
		return 0, e
	}}
}

// woven: the steps, with one of a merge behind each.
func woven(l []step) []step {
	var out []step
	for _, s := range l {
		out = append(out, s, merging())
	}
	return out
}

// twice: the steps, and once more with steps of merges between.
func twice() []step {
	out := append(steps(), repeated(acking(), 26)...)
	return append(out, woven(steps())...)
}

// repeated: the step, so many times.
func repeated(s step, times int) []step {
	var out []step
	for range times {
		out = append(out, s)
	}
	return out
}

// numbered: is the call one that answers a number?
func (s step) numbered() bool { return s.call == "Put" || s.call == "Delete" }

// mayWrite: is the call one that may be a write as P9 says?
func (s step) mayWrite() bool { return s.call != "Sync" && s.call != "Merge" }

// wrote: was the call, which was answered OK, a write as P9 says? An Accept is one only if it changed something.
func (s step) wrote(before, after string) bool {
	return s.mayWrite() && (s.call != "Accept" || before != after)
}

// steps: calls of all kinds that write, more than a few segments' worth.
func steps() []step {
	var out []step
	for i := range 40 {
		key := "k" + strconv.Itoa(i%5)
		out = append(out,
			putting(key, strings.Repeat("v", 3*i)),
			accepting(key, plain(2, i+1, strings.Repeat("w", 2*i))),
			hinting(3, strconv.Itoa(i)),
		)
		if i%3 == 0 {
			out = append(out, deleting(key), acking())
		}
		if i%7 == 5 {
			out = append(out, syncing(), accepting(key, gone(0, 1, [api.Nodes]int{})))
		}
	}
	return out
}

// fewSteps: calls of all kinds that write, a little more than a segment's worth.
func fewSteps() []step {
	wide := strings.Repeat("v", api.MaxValue)
	return []step{
		putting("a", "x"),
		hinting(0, "one"),
		accepting("a", plain(2, 5, "y")),
		accepting("a", plain(2, 5, "y")),
		deleting("a"),
		hinting(2, "two"),
		acking(),
		putting("b", wide),
		accepting("b", plain(0, 1, wide)),
		hinting(3, strings.Repeat("t", api.MaxText)),
		syncing(),
		accepting("b", gone(3, 9, [api.Nodes]int{1, 0, 0, 0})),
		accepting("b", plain(3, 1, wide)),
		putting("c", wide),
		deleting("nothing"),
		accepting("c", plain(0, 7, wide)),
		acking(),
		putting("b", "z"),
	}
}

// history: what a node tells ahead of each step and behind the last.
func history(t *testing.T, script []step) []string {
	t.Helper()
	_, n := fresh(t)
	out := []string{told(n)}
	for i, s := range script {
		if _, e := s.do(n); e != api.OK {
			t.Fatalf("step %d, %s = %d", i, s.call, e)
		}
		out = append(out, told(n))
	}
	return out
}

// durables: how many of the steps are durable ahead of each step and behind the last, with this Sync in the Config.
func durables(script []step, want []string, every int) []int {
	out := []int{0}
	writes := 0
	for i, s := range script {
		now := out[i]
		if s.call == "Sync" {
			now = i + 1
		}
		if s.wrote(want[i], want[i+1]) {
			writes++
			if every > 0 && writes%every == 0 {
				now = i + 1
			}
		}
		out = append(out, now)
	}
	return out
}

// openAs opens a node with this Segment and Sync.
func openAs(t *testing.T, d *disk.Disk, segment, every int) *larder.Node {
	t.Helper()
	n, e := larder.Open(d, api.Config{Node: self, Segment: segment, Sync: every})
	if n == nil || e != api.OK {
		t.Fatalf("P3: Open with Segment %d, Sync %d = %v, %d", segment, every, n, e)
	}
	return n
}
