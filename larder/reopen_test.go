package larder_test

import (
	"testing"

	"larder/api"
	"larder/disk"
)

// Behind a node's calls without a crash the next node holds what it told, whatever the Configs are.
func TestOpenAgain(t *testing.T) {
	d := disk.New(plenty)
	script := twice()
	want := history(t, script)
	n := open(t, d)
	for i, s := range script {
		if _, e := s.do(n); e != api.OK || told(n) != want[i+1] {
			t.Fatalf("step %d, %s = %d, and the node tells %s, want %s", i, s.call, e, told(n), want[i+1])
		}
		for _, segment := range []int{1000, 1777, 1000000} {
			m := openAs(t, d.Copy(), segment, i%100)
			if told(m) != told(n) || m.State().ReadOnly {
				t.Fatalf("P12: behind step %d, %s, the next node tells %s, the last one told %s", i, s.call, told(m), told(n))
			}
		}
	}
}

// Segment and Sync may be others at each Open.
func TestOpenAheadOfEachStep(t *testing.T) {
	d := disk.New(plenty)
	before := told(open(t, d))
	numbers := count{}
	for i, s := range twice() {
		n := openAs(t, d, []int{1000, 1000000, 3000, 1001}[i%4], []int{0, 1, 100, 2, 7}[i%5])
		numbers.calls++
		if told(n) != before || n.State().ReadOnly {
			t.Fatalf("P12: ahead of step %d the node tells %s, the last one told %s", i, told(n), before)
		}
		seq, e := s.do(n)
		if e != api.OK {
			t.Fatalf("step %d, %s = %d", i, s.call, e)
		}
		if s.numbered() {
			numbers.number(t, seq, e)
		}
		before = told(n)
	}
}

// What the node holds hangs on the names and the bytes of the files alone.
func TestOpenOfTheSameFiles(t *testing.T) {
	d := disk.New(plenty)
	n := openAs(t, d, 1000, 3)
	for i, s := range twice() {
		s.do(n)
		same := disk.New(plenty)
		names := d.List()
		for k := range names {
			name := names[len(names)-1-k]
			size, _ := d.Size(name)
			bytes, _ := d.Read(name, 0, size)
			same.Create(name)
			same.Append(name, bytes)
		}
		if m := open(t, same); told(m) != told(n) {
			t.Fatalf("P3: behind step %d a disk of the same files holds %s, want %s", i, told(m), told(n))
		}
	}
}

// Behind a failure without a crash the next node goes on where this one was.
func TestOpenBehindFailures(t *testing.T) {
	for part := range 40 {
		d := disk.New(plenty)
		before := told(open(t, d))
		numbers := count{}
		for i, s := range twice() {
			n := openAs(t, d, 1000, part%3)
			numbers.calls++
			if told(n) != before || n.State().ReadOnly {
				t.Fatalf("P12: ahead of step %d the node tells %s, the last one told %s", i, told(n), before)
			}
			d.Fail(1+i%5, part)
			seq, e := s.do(n)
			d.Fail(0, 0)
			if s.numbered() {
				numbers.number(t, seq, e)
			}
			numbers.shown(n)
			before = told(n)
		}
	}
}

// Nodes on a disk and on its copy know nothing of one another.
func TestOpenOfACopy(t *testing.T) {
	d, n := fresh(t)
	fill(t, n, 2)
	before := told(n)
	m := open(t, d.Copy())
	put(t, m, "k", "other")
	ack(t, m, api.OK)
	if told(n) != before || told(open(t, d)) != before {
		t.Errorf("P1: the first node tells %s, it told %s", told(n), before)
	}
}
