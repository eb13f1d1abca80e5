package larder_test

import (
	"slices"
	"strconv"
	"strings"
	"testing"

	"larder/api"
	"larder/disk"
)

// Each amount of room, from none up to some more than Need: the step that finds the disk full has taken effect wholly or not at all, and the nodes behind it tell the same, whatever they find room for.
func TestEachRoom(t *testing.T) {
	script := steps()
	want := history(t, script)
	for room := range api.Need + 500 {
		every := room % 4
		if !stopsAt(t, func(*disk.Disk) {}, room, every, script, want) {
			t.Fatalf("P11: a disk with room for %d bytes takes everything", room)
		}
		d := disk.New(room)
		r := trialOf(t, d).again(t, every)
		for i := 0; r.do(t, script[i]); i++ {
		}
		for i := range 6 {
			r.again(t, i)
			r.do(t, []step{acking(), hinting(0, "x"), putting("new", ""), deleting("k1"), accepting("k2", plain(3, 1, "")), syncing()}[i])
		}
		r.again(t, 0)
	}
}

// More room, till all is taken.
func TestGreaterRooms(t *testing.T) {
	for _, script := range scripts() {
		want := history(t, script)
		for room := 1; stopsAt(t, func(*disk.Disk) {}, room, room%3, script, want); room += 31 {
		}
	}
}

// A crash of a full disk, at once, or behind more that is tried.
func TestCrashOfAFullDisk(t *testing.T) {
	script := fewSteps()
	for room := 0; ; room += 7 {
		r := trialOf(t, disk.New(room)).again(t, 0)
		i := 0
		for i < len(script) && r.do(t, script[i]) {
			i++
		}
		if i == len(script) {
			return
		}
		check := func(c *disk.Disk) { holds(t, c, r.may(), r.numbers) }
		eachCrash(r.d, 41, check)
		r.again(t, 0)
		r.do(t, acking())
		eachCrash(r.d, 41, check)
	}
}

// holds checks a disk that may be full behind a crash: its nodes hold one of these, and the same each time.
func holds(t *testing.T, d *disk.Disk, may []string, numbers count) {
	t.Helper()
	r := &trial{d: d, told: slices.Clone(may), crashed: true, numbers: numbers}
	for i := range 4 {
		r.again(t, i)
		r.do(t, []step{hinting(0, "x"), putting("new", ""), acking(), syncing()}[i])
	}
	r.again(t, 0)
}

// The power is cut, or a call of the disk fails, in a script at whose end the disk would be full.
func TestFailureOfADiskThatIsSoonFull(t *testing.T) {
	for room := 0; room < 900; room += 13 {
		for k := 1; k < 25; k++ {
			for _, spoil := range []func(d *disk.Disk){
				func(d *disk.Disk) { d.Fail(k, room) },
				func(d *disk.Disk) { d.Cut(k) },
			} {
				d := disk.New(room)
				spoil(d)
				r := trialOf(t, d).again(t, k%3)
				script := fewSteps()
				for i := 0; i < len(script) && r.do(t, script[i]); i++ {
				}
				d.Fail(0, 0)
				r.open(t, api.Config{Node: self, Segment: api.MinSegment})
				eachCrash(d, 101, func(c *disk.Disk) { holds(t, c, r.may(), r.numbers) })
			}
		}
	}
}

// No number that a Put on a full disk has taken comes again; each Open and call is worth Lease of them at most.
func TestNumbersOfAFullDisk(t *testing.T) {
	for room := range 700 {
		d := disk.New(room)
		c := count{}
		for round := range 8 {
			n := openAs(t, d, api.MinSegment, round%3)
			c.calls++
			for i := 0; i < 5+round && !n.State().ReadOnly; i++ {
				c.write(t, n, i)
			}
		}
	}
}

// longest: the writes that have the longest records, each Put with one more lease.
func longest(i int) []step {
	const top = api.MaxSeq
	key := strings.Repeat("k", api.MaxKey-3) + strconv.Itoa(100+i)
	over := [api.Nodes]int{0, top, 0, 0}
	out := []step{putting(key, wide)}
	for k := range api.MaxVersions - 1 {
		out = append(out, accepting(key, version(2, top-k, over, wide)))
	}
	for range api.Lease {
		out = append(out, deleting("?"+key[1:]))
	}
	return append(out, accepting(key, version(3, top, over, wide)), hinting(0, strings.Repeat("t", api.MaxText)), acking(), deleting(key), putting(key, wide))
}

// A call that begins with room for Need bytes does not find the disk full, whatever it writes.
func TestNeed(t *testing.T) {
	for room := api.Need; room < api.Need+1500; room++ {
		d := disk.New(room)
		r := trialOf(t, d).again(t, room%3)
		for i := 0; room-d.Used() >= api.Need; i++ {
			for _, s := range append(longest(i%100), steps()[i%100]) {
				left := room - d.Used()
				if r.do(t, s) {
					continue
				}
				if left >= api.Need {
					t.Fatalf("P11: %s finds the disk full with room for %d bytes", s.call, left)
				}
				r.again(t, i%2)
			}
		}
	}
}

// brimming: a disk with more bytes than it has room for, as a crash may leave it when it brings back what was taken away; and the node that lies on it.
func brimming(t *testing.T, l ...step) *trial {
	t.Helper()
	const room = 3000
	d := disk.New(room)
	r := trialOf(t, d).again(t, 0).must(t, l...).must(t, syncing())
	rest := room - d.Used()
	d.Create("taken away")
	d.Create("in its place")
	d.SyncDir()
	for _, name := range []string{"taken away", "in its place"} {
		if e := d.Append(name, strings.Repeat("?", rest)); e != api.OK {
			t.Fatalf("Append = %d", e)
		}
		d.Sync(name)
		if name == "taken away" {
			d.Remove(name)
		}
	}
	r.crash(0)
	if d.Used() <= room {
		t.Fatalf("there are %d bytes", d.Used())
	}
	return r
}

// grows: does this step, behind these, add bytes to a disk that has room?
func grows(t *testing.T, l []step, s step) bool {
	t.Helper()
	r := trialOf(t, disk.New(plenty)).again(t, 0).must(t, l...).again(t, 0)
	used := r.d.Used()
	return r.must(t, s).d.Used() > used
}

// Behind a crash that leaves more bytes than there is room for an Append adds none: the node is read-only, and the next one holds the same.
func TestNoRoomBehindACrash(t *testing.T) {
	for _, l := range [][]step{nil, some(), append(some(), steps()[:9]...)} {
		for _, s := range tries() {
			r := brimming(t, l...).again(t, 1)
			before, used := told(r.n), r.d.Used()
			good := r.do(t, s)
			if good == grows(t, l, s) || told(r.n) != before || r.d.Used() != used {
				t.Fatalf("P11: %s on a disk without room changes %s into %s", s.call, before, told(r.n))
			}
			if !good {
				onlyRead(t, r.d, r.n)
			}
			r.again(t, 0).must(t, syncing()).crash(1, 1, 1, 1).again(t, 0)
		}
	}
}
