package larder_test

import (
	"slices"
	"strconv"
	"strings"
	"testing"

	"larder/api"
	"larder/disk"
	"larder/larder"
)

func TestEachCrashWithMerges(t *testing.T) {
	for _, every := range []int{0, 1, 3} {
		cuts := crashes(t, woven(fewSteps()), every, 1)
		if cuts["Merge"] < 20 {
			t.Errorf("%d calls were cut in Merge with Sync %d", cuts["Merge"], every)
		}
	}
}

func TestEachCrashOfManySegmentsWithMerges(t *testing.T) {
	for _, every := range []int{0, 7} {
		crashes(t, woven(steps()), every, 700)
	}
}

// cutOpens cuts the power at each call of the disk within Open, and tries each crash; within the Opens behind those too, so many times.
func cutOpens(t *testing.T, d *disk.Disk, depth, stride int, may []string, numbers count) int {
	t.Helper()
	cuts := 0
	for cut := 1; ; cut++ {
		c := d.Copy()
		c.Cut(cut)
		n, e := larder.Open(c, api.Config{Node: self, Segment: api.MinSegment})
		if c.Dead() != (n == nil) || c.Dead() != (e == api.ErrIO) {
			t.Fatalf("P3: Open, cut at call %d = %v, %d", cut, n, e)
		}
		if n != nil {
			return cuts
		}
		cuts++
		numbers.calls++
		eachCrash(c, stride, func(c *disk.Disk) {
			behind(t, c.Copy(), may, numbers)
			if depth > 1 {
				cutOpens(t, c, depth-1, stride, may, numbers)
			}
		})
	}
}

// longScripts: writes of a few segments, with merges, one of which is cut.
func longScripts() [][]step {
	one := append(full(1, 2), repeated(merging(), 6)...)
	return [][]step{
		append(some(), repeated(merging(), 6)...),
		append(full(2, 2), repeated(merging(), 7)...),
		append(slices.Clone(one), append(full(1, 1), repeated(merging(), 8)...)...),
		append(full(1, 2), merging(), merging(), hinting(0, "within"), putting("x", wide), merging(), putting("y", wide), syncing(), acking(), merging(), putting("z", wide), merging(), merging(), putting("x", "last"), merging()),
	}
}

// eachCutMerge cuts the power at each call of the disk in the merges of a script, and gives one what makes a trial of each crash behind that.
func eachCutMerge(t *testing.T, script []step, every int, one func(crashed func() *trial)) {
	t.Helper()
	want := history(t, script)
	durable := durables(script, want, every)
	for k := 1; ; k++ {
		d := disk.New(plenty)
		d.Cut(k)
		done, numbers := play(t, openAs(t, d, api.MinSegment, every), d, script)
		if done == len(script) {
			return
		}
		if script[done].call != "Merge" {
			continue
		}
		eachCrash(d, 900, func(c *disk.Disk) {
			one(func() *trial {
				return &trial{d: c.Copy(), told: slices.Clone(want[:done+2]), durable: durable[done], crashed: true, numbers: numbers}
			})
		})
	}
}

// The power is cut at each call of the disk in a merge, and at each in the Open behind that, and for a short script again in the Opens behind that one.
func TestOpenIsCutBehindMergesThatAreCut(t *testing.T) {
	for i, script := range longScripts() {
		opens, depth := 0, 1
		if i == 0 {
			depth = 2
		}
		eachCutMerge(t, script, i, func(crashed func() *trial) {
			r := crashed()
			opens += cutOpens(t, r.d, depth, 900, r.may(), r.numbers)
		})
		if opens == 0 {
			t.Error("P12: no Open was cut")
		}
	}
}

// Each call of the disk fails within Open, behind each call of the disk that is cut in a merge: the next Open holds what is there, and its merge leaves few bytes.
func TestOpenFailsBehindMergesThatAreCut(t *testing.T) {
	for i, script := range longScripts() {
		fails := 0
		eachCutMerge(t, script, i, func(crashed func() *trial) {
			good := false
			for k := 1; !good; k++ {
				r := crashed()
				r.d.Fail(k, 0)
				good = r.open(t, api.Config{Node: self, Segment: api.MinSegment})
				r.d.Fail(0, 0)
				r.again(t, 0).whole(t)
				fails = max(fails, k-1)
			}
		})
		if fails == 0 {
			t.Error("P3: no Open failed")
		}
	}
}

// Each call of a merge fails, with each number of bytes that it may have added: nothing changes, and the next merge goes to its end and leaves few bytes.
func TestMergeFails(t *testing.T) {
	for i, script := range longScripts() {
		fails := 0
		for k := 1; ; k++ {
			for part := range 9 {
				r := trialOf(t, disk.New(plenty)).again(t, i)
				r.d.Fail(k, part*part*part)
				last := 0
				for last < len(script) && r.do(t, script[last]) {
					last++
				}
				if last == len(script) {
					k = -1
					break
				}
				r.d.Fail(0, 0)
				if script[last].call != "Merge" {
					break
				}
				fails++
				onlyRead(t, r.d, r.n)
				r.again(t, 0).whole(t)
				goesOnMerging(t, r)
			}
			if k < 0 {
				break
			}
		}
		if fails < 9*5 {
			t.Errorf("P11: a merge failed in %d ways", fails)
		}
	}
}

// goesOnMerging checks the nodes behind one that failed.
func goesOnMerging(t *testing.T, r *trial) {
	t.Helper()
	for i := range 3 {
		r.again(t, i).must(t, merging(), hinting(0, "behind"), putting("behind", strconv.Itoa(i))).whole(t)
		r.again(t, i).must(t, merging(), acking(), merging())
	}
	r.must(t, syncing()).crash(0).again(t, 0).whole(t)
}

// Each amount of room for a node that merges: Merge is answered ErrFull, or goes on; nothing is lost.
func TestMergeOnADiskThatIsFull(t *testing.T) {
	for i, script := range longScripts() {
		fulls := 0
		for room := 1; ; room += 3 {
			r := trialOf(t, disk.New(room)).again(t, i)
			last := 0
			for last < len(script) && r.do(t, script[last]) {
				last++
			}
			if last == len(script) {
				break
			}
			if script[last].call == "Merge" {
				fulls++
			}
			onlyRead(t, r.d, r.n)
			for range 3 {
				r.again(t, i).do(t, merging())
			}
			r.again(t, 0)
			for k := 0; k < 9 && r.do(t, merging()); k++ {
			}
			r.again(t, 0).do(t, acking())
			r.crash(room, room%50, room%70, 9, 0, 900).again(t, 0)
		}
		if fulls == 0 {
			t.Error("P11: no disk was full in Merge")
		}
	}
}

// What a merge that found the disk full has taken is free behind the next Open, so that a node can go on, and make its merges shorter.
func TestRoomBehindAMergeThatIsFull(t *testing.T) {
	fulls := 0
	for room := 1200; room < 4000; room += 7 {
		r := trialOf(t, disk.New(room)).again(t, 0)
		for i := 0; i < 20 && room-r.d.Used() > room/3; i++ {
			r.must(t, accepting("k"+strconv.Itoa(i), plain(0, 1, wide)))
		}
		used := r.d.Used()
		for r.do(t, merging()) && r.merge.calls > 0 {
		}
		if !r.n.State().ReadOnly {
			continue
		}
		fulls++
		r.again(t, 0)
		if r.d.Used() != used {
			t.Fatalf("behind a merge that found the disk full there are %d bytes, there were %d", r.d.Used(), used)
		}
		for _, k := range r.n.Keys()[1:] {
			r.must(t, deleting(k))
		}
		r.whole(t)
	}
	if fulls == 0 {
		t.Error("P11: no disk was full in Merge")
	}
}

// A call that begins with room for Need bytes does not find the disk full, steps of merges between or not.
func TestNeedWithMerges(t *testing.T) {
	for room := api.Need; room < 3*api.Need; room += 67 {
		r := trialOf(t, disk.New(room)).again(t, room%3)
		for i, s := range append(append(longest(7), woven(longest(8))...), woven(woven(steps()))...) {
			left := room - r.d.Used()
			if r.do(t, s) {
				continue
			}
			if left >= api.Need && s.call != "Merge" {
				t.Fatalf("P11: %s finds the disk full with room for %d bytes", s.call, left)
			}
			r.again(t, i%2)
		}
	}
}

// Merges one behind the other, at each of whose calls the power is cut in turn, and comes back with what was done to the directory, or without.
func TestMergesThatAreCutAgainAndAgain(t *testing.T) {
	for dirs := range 12 {
		r := trialOf(t, disk.New(plenty)).again(t, 0).must(t, full(2, 3)...)
		for cut := 1; cut < 40; cut++ {
			r.d.Cut(cut)
			for i := 0; i < 40 && r.do(t, []step{merging(), putting("x", strings.Repeat("x", i)), merging(), merging()}[i%4]); i++ {
			}
			r.crash(dirs, cut, cut*7, cut*31, 0, cut).again(t, 0)
			if cut%5 == 0 {
				r.whole(t)
			}
		}
	}
}
