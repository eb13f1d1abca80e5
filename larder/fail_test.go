package larder_test

import (
	"strconv"
	"strings"
	"testing"

	"larder/api"
	"larder/disk"
	"larder/larder"
)

// onlyRead checks what a node that is read-only answers: to what would be done else, and to what is refused with an error that is named ahead.
func onlyRead(t *testing.T, d *disk.Disk, n *larder.Node) {
	t.Helper()
	numbered := func(want api.Errno) func(call string, s int, e api.Errno) {
		return func(call string, s int, e api.Errno) {
			if s != 0 || e != want {
				t.Fatalf("P11: %s = %d, %d, want %d", call, s, e, want)
			}
		}
	}
	big := strings.Repeat("v", api.MaxValue+1)
	unwritten(t, d, n, "a read-only node", func() {
		s, e := n.Put("k", "v")
		numbered(api.ErrReadOnly)("Put", s, e)
		s, e = n.Put("", big)
		numbered(api.ErrKey)("Put", s, e)
		s, e = n.Put("k", big)
		numbered(api.ErrTooLarge)("Put", s, e)
		s, e = n.Delete("k")
		numbered(api.ErrReadOnly)("Delete", s, e)
		s, e = n.Delete("")
		numbered(api.ErrKey)("Delete", s, e)
		accept(t, n, "", plain(0, 0, big), api.ErrKey)
		accept(t, n, "k", plain(0, 0, big), api.ErrTooLarge)
		accept(t, n, "k", plain(0, 0, ""), api.ErrDot)
		accept(t, n, "k", plain(0, 77, "v"), api.ErrReadOnly)
		accept(t, n, "none", gone(0, 1, [api.Nodes]int{}), api.ErrReadOnly)
		l, _ := n.Get("k")
		for _, v := range l {
			if v.Dot.Node != self {
				accept(t, n, "k", v, api.ErrReadOnly)
			}
		}
		hint(t, n, self, "", api.ErrNode)
		hint(t, n, 0, "", api.ErrTooLarge)
		hint(t, n, 0, "t", api.ErrReadOnly)
		ack(t, n, api.ErrReadOnly)
		sync(t, n, api.ErrReadOnly)
		if done, e := n.Merge(); done || e != api.ErrReadOnly {
			t.Fatalf("P10: Merge() = %v, %d, want ErrReadOnly", done, e)
		}
		if l, e := n.Get(""); len(l) != 0 || e != api.ErrKey {
			t.Fatalf("P7: Get of no key = %v, %d", l, e)
		}
	})
	if !n.State().ReadOnly {
		t.Fatalf("P11: State() = %+v, and the node was read-only", n.State())
	}
}

// goesOn checks a node behind a failure, and those that are opened on its disk, which is good from then on: each tells what the one ahead of it told, so what failed is there from then on or never.
func goesOn(t *testing.T, r *trial) {
	t.Helper()
	onlyRead(t, r.d, r.n)
	for i := range 3 {
		value := strconv.Itoa(i)
		r.again(t, i).must(t, hinting(0, value), putting("behind", value), accepting("k", version(2, 50+i, [api.Nodes]int{0, 0, 50, 50}, value)))
	}
	r.again(t, 0).must(t, syncing()).crash(0).again(t, 0)
}

// Each call of the disk fails in turn, in each call of a node, with each number of bytes that it may have added: the call has taken effect wholly or not at all, and it stays so.
func TestEachCallFails(t *testing.T) {
	fails, pieces := map[string]int{}, 0
	eachTry(t, func(t *testing.T, c scene, s step, before, whole string) {
		eachFailure(t, c, s, func(r *trial, k, part int) {
			fails[s.call]++
			pieces += min(part, 1)
			if after := told(r.n); after != before && after != whole {
				t.Fatalf("P11: as call %d fails, %s changes %s into %s, want %s", k, s.call, before, after, whole)
			}
			goesOn(t, r)
		})
	})
	for _, s := range tries() {
		if fails[s.call] == 0 {
			t.Errorf("P11: no failure in %s", s.call)
		}
	}
	if pieces == 0 {
		t.Error("P11: no failure added a piece")
	}
}

// A crash behind a failure: nothing that was durable is lost, and what has not taken effect does not.
func TestCrashBehindEachFailure(t *testing.T) {
	eachTry(t, func(t *testing.T, c scene, s step, _, _ string) {
		eachFailure(t, c, s, func(r *trial, k, part int) {
			if part%41 > 1 {
				return
			}
			check := func() {
				eachCrash(r.d, 37, func(d *disk.Disk) { behind(t, d, r.may(), r.numbers) })
			}
			check()
			r.again(t, 0)
			check()
			r.must(t, hinting(2, "more"))
			check()
		})
	})
}

// The power is cut in a call in which another call of the disk would fail, ahead of that one or behind it, or the same; then it goes.
func TestCutAndFailure(t *testing.T) {
	for _, part := range []int{0, 3} {
		eachTry(t, func(t *testing.T, c scene, s step, before, whole string) {
			calls := 6
			if s.call == "Merge" {
				calls = 10
			}
			for cut := range calls {
				for fail := range calls {
					r := c.make(t)
					r.d.Cut(cut)
					r.d.Fail(fail, part)
					good := r.do(t, s)
					if after := told(r.n); after != before && after != whole || good && after != whole {
						t.Fatalf("P11: cut at call %d, and with a failure at call %d, %s changes %s into %s, want %s", cut, fail, s.call, before, after, whole)
					}
					if r.open(t, api.Config{Node: self, Segment: api.MinSegment}) && !r.d.Dead() && r.do(t, hinting(0, "next")) {
						r.do(t, syncing())
					}
					eachCrash(r.d, 97, func(d *disk.Disk) { behind(t, d, r.may(), r.numbers) })
				}
			}
		})
	}
}

// A call of the disk fails, again and again, in the calls behind each Open.
func TestFailureBehindFailure(t *testing.T) {
	eachTry(t, func(t *testing.T, c scene, s step, _, _ string) {
		for first := 1; first < 6; first++ {
			for second := 1; second < 6; second++ {
				r := c.make(t)
				for i, k := range []int{first, second, first, second} {
					r.d.Fail(k, 5*i)
					if i == 0 || r.open(t, api.Config{Node: self, Segment: api.MinSegment, Sync: i}) {
						r.do(t, s)
					}
					r.d.Fail(0, 0)
				}
				r.again(t, 1).must(t, hinting(0, "more"), putting("k", "")).again(t, 0)
			}
		}
	})
}

// Open is answered as the disk answers it, and what lies on the disk stays, though a call of the disk fails in it or its power is cut.
func TestOpenOnADiskThatFails(t *testing.T) {
	for _, c := range scenes(t) {
		for k := 1; k < 8; k++ {
			for part := range 9 {
				r := c.make(t)
				r.d.Fail(k, part)
				r.open(t, api.Config{Node: self, Segment: 2000})
				r.d.Fail(0, 0)
				r.again(t, 0).must(t, putting("k", "more")).again(t, 0)
				r.d.Cut(k)
				r.open(t, api.Config{Node: self, Segment: 2000})
				eachCrash(r.d, 57, func(d *disk.Disk) { behind(t, d, r.may(), r.numbers) })
			}
		}
	}
}

// scripts: long ones, of calls of all kinds.
func scripts() [][]step { return [][]step{steps(), woven(steps())} }

// Each call of the disk in a long script fails in turn.
func TestEachCallOfManyFails(t *testing.T) {
	for _, script := range scripts() {
		want := history(t, script)
		for every, part := range []int{0, 1, 7, 1000003} {
			for k := 1; stopsAt(t, func(d *disk.Disk) { d.Fail(k, part) }, plenty, every, script, want); k++ {
			}
		}
	}
}

func TestEachCallOfManyIsCut(t *testing.T) {
	for _, script := range scripts() {
		want := history(t, script)
		for every := range 3 {
			for k := 1; stopsAt(t, func(d *disk.Disk) { d.Cut(k) }, plenty, every, script, want); k++ {
			}
		}
	}
}

// stopsAt does the script on a disk with so much room, which is to fail, and checks the node behind the failure; false, if nothing fails.
func stopsAt(t *testing.T, spoil func(d *disk.Disk), room, every int, script []step, want []string) bool {
	t.Helper()
	d := disk.New(room)
	spoil(d)
	n := openAs(t, d, api.MinSegment, every)
	i, _ := play(t, n, d, script)
	after := told(n)
	if i == len(script) {
		if after != want[i] || n.State().ReadOnly {
			t.Fatalf("P11: on a good disk the node tells %s, want %s", after, want[i])
		}
		return false
	}
	if after != want[i] && after != want[i+1] {
		t.Fatalf("P11: behind step %d, %s, the node tells %s, want %s or %s", i, script[i].call, after, want[i], want[i+1])
	}
	d.Fail(0, 0)
	onlyRead(t, d, n)
	refused := d.Refused()
	m, e := larder.Open(d, api.Config{Node: self, Segment: api.MinSegment})
	if d.Refused() > refused && d.Dead() {
		if m != nil || e != api.ErrIO {
			t.Fatalf("P3: Open while the power is cut = %v, %d", m, e)
		}
		return true
	}
	if m == nil || told(m) != after || m.State().ReadOnly {
		t.Fatalf("P12: behind step %d, %s, the last node told %s, and the next Open is answered %d", i, script[i].call, after, e)
	}
	return true
}

func TestNoFailure(t *testing.T) {
	for _, every := range []int{0, 1, 3} {
		for _, script := range scripts() {
			if stopsAt(t, func(d *disk.Disk) {}, plenty, every, script, history(t, script)) {
				t.Error("P11: a step fails on a good disk")
			}
		}
	}
}

// Whatever fails in the Puts and Deletes behind each Open, no number comes again, and each Open and call is worth Lease of them at most.
func TestNumbersBehindFailures(t *testing.T) {
	for k := range 60 {
		for _, part := range []int{0, 1, 2, 5, 40} {
			d := disk.New(plenty)
			c := count{}
			for round := range 6 {
				n := openAs(t, d, api.MinSegment, (k+round)%4)
				c.calls++
				d.Fail(1+(k+round*7)%60, part)
				for i := 0; i < 60 && !n.State().ReadOnly; i++ {
					c.write(t, n, i)
				}
				c.write(t, n, 0)
				d.Fail(0, 0)
			}
		}
	}
}

// The least that an Open and a Put may use up, when each time the disk fails in the Put; and when it fails in all but one.
func TestNumbersOfFewWritesBehindFailures(t *testing.T) {
	for k := 1; k < 7; k++ {
		for part := range 20 {
			d := disk.New(plenty)
			c := count{}
			for i := range 40 {
				n := openAs(t, d, api.MinSegment, i%3)
				c.calls++
				if i%5 != 4 {
					d.Fail(k, part)
				}
				c.write(t, n, i)
				d.Fail(0, 0)
				if i%7 == 6 {
					d.Crash(i, []int{i, i, i})
				}
				c.shown(open(t, d))
				c.calls++
			}
		}
	}
}

func TestState(t *testing.T) {
	d, n := fresh(t)
	state := func(want api.State) {
		t.Helper()
		if s := n.State(); s != want {
			t.Fatalf("P11: State() = %+v, want %+v", s, want)
		}
	}
	state(api.State{})
	fill(t, n, 2)
	state(api.State{Keys: 3, Hints: 2})
	n.Ack()
	n.Delete("k")
	state(api.State{Keys: 2, Hints: 1})
	n.Put("", "")
	n.Hint(self, "")
	accept(t, n, "y", plain(0, 0, ""), api.ErrDot)
	state(api.State{Keys: 2, Hints: 1})
	breakDisk(t, d, n)
	state(api.State{ReadOnly: true, Keys: 2, Hints: 1})
	onlyRead(t, d, n)
	n = open(t, d)
	state(api.State{Keys: 2, Hints: 1})
}
