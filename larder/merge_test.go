package larder_test

import (
	"strconv"
	"strings"
	"testing"

	"larder/api"
	"larder/disk"
	"larder/larder"
)

// mostBytes: so many bytes all files may have behind a merge between whose calls there were no others.
func mostBytes(n *larder.Node) int {
	out := 200
	for _, k := range n.Keys() {
		out += 40 + len(k)
		l, _ := n.Get(k)
		for _, v := range l {
			out += 80 + len(v.Value)
		}
	}
	for _, h := range n.Hints() {
		out += 30 + len(h.Text)
	}
	return out
}

// course: how far a merge is. Its calls (0: none is under way), and whether there were others between.
type course struct {
	calls int
	mixed bool
}

// follow checks the merge behind a step that was answered e: that it ends in time, and what it leaves.
func (m *course) follow(t *testing.T, d *disk.Disk, n *larder.Node, s step, done bool, e api.Errno) {
	t.Helper()
	if s.call != "Merge" {
		m.mixed = m.calls > 0
		return
	}
	m.calls++
	state := n.State()
	switch {
	case e != api.OK:
		*m = course{}
	case done && !m.mixed && d.Used() > mostBytes(n):
		t.Fatalf("P10: behind a merge there are %d bytes, and %d may be there", d.Used(), mostBytes(n))
	case done:
		*m = course{}
	case m.calls >= state.Keys+state.Hints+4:
		t.Fatalf("P10: a merge has not ended with %d calls, for %d keys and %d hints", m.calls, state.Keys, state.Hints)
	}
}

// whole does a merge from its beginning to its end, or what is left of one, and answers with how many calls.
func (r *trial) whole(t *testing.T) int {
	t.Helper()
	for calls := 1; ; calls++ {
		r.must(t, merging())
		if r.merge.calls == 0 {
			return calls
		}
	}
}

// full: the writes of a node that has so many keys, all with the greatest versions, and so many hints.
func full(keys, hints int) []step {
	const top = api.MaxSeq
	var out []step
	over := [api.Nodes]int{top, top, top, top}
	for i := range keys {
		key := strings.Repeat("k", api.MaxKey-4) + strconv.Itoa(1000+i)
		out = append(out, putting(key, wide))
		for k := range api.MaxVersions - 1 {
			out = append(out, accepting(key, version(2, top-k, [api.Nodes]int{top, 0, 1, top}, wide)))
		}
		if i%2 == 1 {
			out = append(out, accepting(key, version(3, top, over, "")))
		}
	}
	for i := range hints {
		out = append(out, hinting(3, strings.Repeat("t", api.MaxText-2)+strconv.Itoa(10+i)))
	}
	return out
}

// nodes: the writes of nodes of many kinds.
func nodes() map[string][]step {
	var acks []step
	for i := range 3 * api.MaxHints {
		acks = append(acks, hinting(0, "t"), hinting(2, strconv.Itoa(i)), acking(), acking())
	}
	return map[string][]step{
		"nothing":                   nil,
		"nothing any more":          append(some(), deleting("k"), deleting("x"), acking()),
		"nothing, and many numbers": repeated(deleting("k"), 100),
		"no hint any more":          acks,
		"some":                      some(),
		"little":                    fewSteps(),
		"many short keys":           shortKeys(120),
		"much":                      steps(),
		"one full key":              full(1, 0),
		"full keys":                 full(40, 0),
		"a full queue":              full(0, api.MaxHints),
		"all full":                  full(40, api.MaxHints),
		"all full twice":            append(full(9, api.MaxHints), full(9, 0)...),
	}
}

func shortKeys(number int) []step {
	var out []step
	for i := range number {
		key := string(rune(' '+i%60)) + strings.Repeat("+", i/60)
		out = append(out, accepting(key, plain(0, 1, "")))
	}
	return out
}

// Each merge ends in time and leaves few bytes (the trial checks both); nothing changes, and none of it is lost.
func TestMerge(t *testing.T) {
	for what, script := range nodes() {
		t.Run(what, func(t *testing.T) {
			for every := range 2 {
				r := trialOf(t, disk.New(plenty)).again(t, every).must(t, script...)
				before := told(r.n)
				for range 3 {
					r.whole(t)
					r.whole(t)
					survives(t, r.d, r.n, "a merge")
					r.again(t, every).whole(t)
					r.must(t, syncing()).crash(0).again(t, every)
				}
				if told(r.n) != before {
					t.Fatalf("P10: merges change %s into %s", before, told(r.n))
				}
				r.must(t, steps()...).whole(t)
			}
		})
	}
}

// What is there no more takes no room.
func TestMergeForgets(t *testing.T) {
	r := trialOf(t, disk.New(plenty)).again(t, 0)
	for range 50 {
		r.must(t, full(3, 9)...)
		for len(r.n.Hints()) > 0 {
			r.must(t, acking())
		}
		for _, k := range r.n.Keys() {
			r.must(t, deleting(k))
		}
		r.whole(t)
		if r.d.Used() > 200 {
			t.Fatalf("P10: nothing has %d bytes", r.d.Used())
		}
	}
}

// A merge is left at each of its calls, and begun anew behind Open.
func TestMergeBegunAnew(t *testing.T) {
	for what, script := range nodes() {
		t.Run(what, func(t *testing.T) {
			r := trialOf(t, disk.New(plenty)).again(t, 0).must(t, script...)
			calls := r.whole(t)
			if again := r.whole(t); again != calls {
				t.Fatalf("P10: the second merge of the same has %d calls, the first one %d", again, calls)
			}
			for left := 0; left < calls; left += 1 + calls/20 {
				r.must(t, putting("more", wide), deleting("more"))
				r.must(t, repeated(merging(), left)...)
				if left%3 == 1 {
					r.must(t, putting("more", strconv.Itoa(left)), deleting("more"))
				}
				if again := r.again(t, 0).whole(t); again != calls {
					t.Fatalf("P10: behind %d calls and Open a merge has %d calls, want %d", left, again, calls)
				}
				r.must(t, repeated(merging(), left)...).crash(left, left).again(t, 0).whole(t)
			}
		})
	}
}

// A few calls of each merge and others in turns, all of one kind, or of all kinds.
func TestMergesBetween(t *testing.T) {
	for round := range 6 {
		r := trialOf(t, disk.New(plenty)).again(t, round%3)
		for i, s := range append(steps(), full(6, 4)...) {
			r.must(t, s).must(t, repeated(merging(), (i+round)%(2+round))...)
			if i%11 == round {
				r.again(t, round%3)
			}
			if i%50 == 10*round {
				r.must(t, syncing()).crash(round).again(t, round%3)
			}
		}
		want := history(t, append(steps(), full(6, 4)...))
		if strip(told(r.n)) != strip(want[len(want)-1]) {
			t.Errorf("P10: with merges between the node tells %s, without them %s", told(r.n), want[len(want)-1])
		}
	}
}

// strip takes the digits away: numbers are others behind each Open.
func strip(s string) string {
	return strings.Map(func(r rune) rune {
		if r >= '0' && r <= '9' {
			return -1
		}
		return r
	}, s)
}

// at calls one with a trial whose merge is under way, behind each number of its calls.
func at(t *testing.T, script []step, one func(r *trial, calls int)) {
	t.Helper()
	for calls := 1; ; calls++ {
		r := trialOf(t, disk.New(plenty)).again(t, 0).must(t, script...).must(t, repeated(merging(), calls)...)
		if r.merge.calls == 0 {
			return
		}
		one(r, calls)
	}
}

// What is written while a merge is under way is there behind it; and the merge ends in time, though keys and hints come or go meanwhile.
func TestWritesWithinAMerge(t *testing.T) {
	script := append(append(some(), shortKeys(9)...), full(0, 9)...)
	for what, within := range map[string][]step{
		"the writes":   tries(),
		"many writes":  steps(),
		"many keys":    shortKeys(60),
		"many hints":   full(0, 20),
		"the same":     append(some(), repeated(acking(), 4)...),
		"two segments": full(4, 0),
	} {
		at(t, script, func(r *trial, calls int) {
			r.must(t, within...)
			before := told(r.n)
			r.whole(t)
			r.must(t, syncing())
			survives(t, r.d, r.n, "a merge with "+what+" behind call "+strconv.Itoa(calls))
			r.again(t, 0).whole(t)
			if told(r.n) != before {
				t.Fatalf("P10: a merge changes %s into %s", before, told(r.n))
			}
		})
	}
}

func TestAllGoesWithinAMerge(t *testing.T) {
	script := append(append(some(), shortKeys(20)...), full(3, 9)...)
	for stride := range 3 {
		at(t, script, func(r *trial, calls int) {
			for i, k := range r.n.Keys() {
				r.must(t, deleting(k))
				if stride > 0 && i%(3*stride) == 0 && r.merge.calls > 0 {
					r.must(t, merging())
				}
			}
			r.must(t, repeated(acking(), r.n.State().Hints)...)
			if left := r.whole(t); left > 4 {
				t.Fatalf("P10: for a node that holds nothing a merge has %d calls more", left)
			}
			r.must(t, syncing())
			survives(t, r.d, r.n, "a merge in which all goes")
			if told(r.again(t, 0).n) != told(open(t, disk.New(0))) {
				t.Fatalf("P12: behind a merge in which all goes the node tells %s", told(r.n))
			}
		})
	}
}

// The hints stay in their order, whenever some come and go.
func TestQueueWithinAMerge(t *testing.T) {
	for keep := 1; keep < 6; keep++ {
		r := trialOf(t, disk.New(plenty)).again(t, 0)
		acked := 0
		for i := range 120 {
			r.must(t, hinting(2, strconv.Itoa(i)), merging())
			if i-acked >= keep {
				r.must(t, acking())
				acked++
			}
			if i%17 == 0 {
				r.again(t, 0)
			}
			for k, h := range r.n.Hints() {
				if h != (api.Hint{To: 2, Text: strconv.Itoa(acked + k)}) {
					t.Fatalf("P8: hint %d behind %d Acks is %+v", k, acked, h)
				}
			}
		}
	}
}

// Each Sync between steps of a merge, and each n-th write, makes durable what was written.
func TestSyncWithinAMerge(t *testing.T) {
	script := append(some(), full(1, 3)...)
	at(t, script, func(r *trial, calls int) {
		for i, s := range tries() {
			r.must(t, s, syncing())
			survives(t, r.d, r.n, "Sync within a merge")
			r.must(t, s, merging(), syncing())
			survives(t, r.d, r.n, "Sync behind a step of a merge, behind "+s.call)
			r.must(t, repeated(merging(), i%4)...).must(t, hinting(0, "h"), syncing(), merging(), merging())
			survives(t, r.d, r.n, "steps of a merge behind Sync")
		}
	})
	for every := 1; every < 8; every++ {
		d := disk.New(plenty)
		n := openAs(t, d, api.MinSegment, every)
		for i := range 20 * every {
			write(t, n, i)
			if (i+1)%every == 0 {
				survives(t, d, n, "write "+strconv.Itoa(i+1)+" with Sync "+strconv.Itoa(every))
			}
			for range i % 4 {
				n.Merge()
			}
		}
	}
}

// Whatever is merged between, no number comes again, and each Open and call is worth Lease of them at most: calls of Merge are worth none.
func TestNumbersBehindMerges(t *testing.T) {
	for between := 1; between < 9; between++ {
		d := disk.New(plenty)
		c := count{}
		for round := range 40 {
			n := openAs(t, d, api.MinSegment, round%3)
			c.calls++
			for i := range round % 20 {
				c.write(t, n, i)
				for range between {
					if _, e := n.Merge(); e != api.OK {
						t.Fatalf("P10: Merge = %d", e)
					}
				}
			}
			if round%4 == 3 {
				d.Crash(between*round, []int{round, between, 9 * round})
			}
		}
	}
}

// A merge of a node that has only been opened, again and again: the numbers are used up no further.
func TestMergesWithoutWrites(t *testing.T) {
	d := disk.New(plenty)
	c := count{}
	for i := range 30 {
		r := open(t, d)
		c.calls++
		for range 10 {
			r.Merge()
		}
		if i%10 == 9 {
			c.write(t, r, i)
		}
	}
}
