package stock

import (
	"reflect"
	"slices"
	"strings"
	"testing"

	"larder/api"
	"larder/record"
)

const big = api.MaxSeq

func version4(node, seq int, over [4]int, value string) api.Version {
	return api.Version{Dot: api.Dot{Node: node, Seq: seq}, Over: over, Value: value}
}

func TestFactsThereAndBack(t *testing.T) {
	full := version4(3, big, [4]int{big, big, 16 * big, big}, strings.Repeat("v", api.MaxValue))
	for _, f := range []Fact{
		Lease{Upto: 16},
		Lease{Upto: 1 << 40},
		Holds{Key: "k"},
		Holds{Key: "\x00", Versions: []api.Version{version4(0, 1, [4]int{}, "")}},
		Holds{Key: strings.Repeat("k", api.MaxKey), Versions: []api.Version{full, full, full, full}},
		Queued{Hint: api.Hint{To: 2, Text: strings.Repeat("t", api.MaxText)}},
		Acked{},
	} {
		rec := f.Record()
		got, ok := record.Next(record.From(rec), Read)
		if !ok || !reflect.DeepEqual(got, f) {
			t.Errorf("of %+v Next = %+v, %v", f, got, ok)
		}
		if len(rec) > api.MinSegment {
			t.Errorf("the record of %+v has %d bytes: more than a segment", f, len(rec))
		}
	}
}

func TestUnknownFact(t *testing.T) {
	for _, about := range []int{0, 5, 1 << 40} {
		if got, ok := record.Next(record.From(record.Make(record.Number(about))), Read); ok {
			t.Errorf("a record about %d says %+v", about, got)
		}
	}
}

func TestTake(t *testing.T) {
	var s Stock
	l := []api.Version{version4(0, 1, [4]int{}, "v")}
	for _, f := range []Fact{Acked{}, Lease{16}, Holds{"b", l}, Holds{"a", l}, Queued{api.Hint{To: 0, Text: "x"}}, Queued{api.Hint{To: 2, Text: "y"}}, Holds{"b", nil}, Acked{}, Lease{32}} {
		s.Take(f)
	}
	if !slices.Equal(s.Keys(), []string{"a"}) || s.CountKeys() != 1 || !slices.Equal(s.Versions("a"), l) || s.Versions("b") != nil {
		t.Errorf("the keys %q, %v, %v", s.Keys(), s.Versions("a"), s.Versions("b"))
	}
	if !slices.Equal(s.Hints(), []api.Hint{{To: 2, Text: "y"}}) || s.CountHints() != 1 || s.Leased() != 32 {
		t.Errorf("the hints %v, the lease %d", s.Hints(), s.Leased())
	}
}

// What the Facts say is what was held; and they stay as they are when more is taken.
func TestFacts(t *testing.T) {
	var s Stock
	if got := s.Facts(); !reflect.DeepEqual(got, []Fact{Lease{}}) {
		t.Errorf("the Facts of nothing are %+v", got)
	}
	a, b := []api.Version{version4(0, 1, [4]int{}, "v")}, []api.Version{version4(2, 1, [4]int{}, "w"), version4(2, 2, [4]int{}, "")}
	x, y, z := api.Hint{To: 0, Text: "x"}, api.Hint{To: 2, Text: "y"}, api.Hint{To: 0, Text: "z"}
	for _, f := range []Fact{Lease{16}, Holds{"b", b}, Holds{"c", a}, Holds{"a", a}, Holds{"c", nil}, Queued{x}, Queued{y}, Queued{z}, Acked{}} {
		s.Take(f)
	}
	want := []Fact{Lease{16}, Holds{"a", a}, Holds{"b", b}, Queued{y}, Queued{z}}
	facts := s.Facts()
	for _, f := range []Fact{Acked{}, Queued{x}, Acked{}, Holds{"a", b}, Holds{"b", nil}, Lease{32}} {
		s.Take(f)
	}
	if !reflect.DeepEqual(facts, want) {
		t.Errorf("the Facts are %+v, want %+v", facts, want)
	}
	var again Stock
	for _, f := range facts {
		again.Take(f)
	}
	if !reflect.DeepEqual(again.Facts(), want) {
		t.Errorf("the Facts of the Facts are %+v", again.Facts())
	}
}

func TestVersions(t *testing.T) {
	a, b, c := version4(0, 9, [4]int{0, 0, 3, 0}, "a"), version4(2, 9, [4]int{}, "b"), version4(2, 10, [4]int{}, "c")
	l := With(With(With(nil, c), a), b)
	if !slices.Equal(l, []api.Version{a, b, c}) {
		t.Fatalf("With gives %v", l)
	}
	if got := Greatest(l); got != [4]int{9, 0, 10, 0} || Greatest(nil) != [4]int{} {
		t.Errorf("Greatest = %v", got)
	}
	if got := Left(l, version4(3, 1, [4]int{8, 9, 9, 9}, "")); !slices.Equal(got, []api.Version{a, c}) {
		t.Errorf("Left = %v", got)
	}
	for seq := range 12 {
		if got, want := Knows(l, version4(2, seq, [4]int{}, "")), seq <= 3 || seq == 9 || seq == 10; got != want {
			t.Errorf("Knows of 2 %d = %v", seq, got)
		}
	}
	if got := With(l[:1], b); !slices.Equal(got, []api.Version{a, b}) {
		t.Errorf("With gives %v", got)
	}
	if Knows(nil, a) || !slices.Equal(l, []api.Version{a, b, c}) {
		t.Errorf("the versions became %v", l)
	}
}
