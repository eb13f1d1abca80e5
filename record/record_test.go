package record

import (
	"slices"
	"strings"
	"testing"
)

// thing: a record of each kind of part.
type thing struct {
	number int
	text   string
	lists  [][]int
}

func (x thing) record() string {
	list := func(l []int) Part { return List(l, Number[int]) }
	return Make(Number(x.number), Group(Text(x.text), List(x.lists, list)))
}

func readThing(s *Source) thing {
	return thing{ReadNumber[int](s), ReadText[string](s), ReadList(s, func(s *Source) []int { return ReadList(s, ReadNumber[int]) })}
}

func same(a, b thing) bool {
	return a.number == b.number && a.text == b.text && slices.EqualFunc(a.lists, b.lists, slices.Equal)
}

func things() []thing {
	return []thing{
		{},
		{number: 127, text: "a", lists: [][]int{{1}}},
		{number: 128, text: "\x00\xff", lists: [][]int{nil, {1000000000, 0}, {127, 128, 16383, 16384}}},
		{number: int(^uint(0) >> 1), text: strings.Repeat("x", 300)},
	}
}

func TestThereAndBack(t *testing.T) {
	all := ""
	for _, x := range things() {
		all += x.record()
	}
	s := From(all)
	for _, x := range things() {
		got, ok := Next(s, readThing)
		if !ok || !same(got, x) {
			t.Errorf("Next = %v, %v, want %v", got, ok, x)
		}
	}
	if _, ok := Next(s, readThing); ok || s.Left() != 0 {
		t.Errorf("behind the last record there is one more, or %d bytes", s.Left())
	}
}

// Of a record that is cut short nothing is read, wherever it is cut.
func TestPieces(t *testing.T) {
	for _, x := range things() {
		whole := x.record()
		for i := range whole {
			s := From(whole[:i])
			if got, ok := Next(s, readThing); ok || !same(got, thing{}) || s.Left() != i {
				t.Fatalf("of %d bytes of %d Next = %v, %v, and %d are left", i, len(whole), got, ok, s.Left())
			}
		}
	}
}

func TestSenseless(t *testing.T) {
	endless := strings.Repeat("\xff", 20)
	for _, bytes := range []string{
		endless, "\x03" + endless, endless + "\x01",
		Make(Number(1)), // too few parts
		Make(Number(1), Text(""), Number(0), Number(0)),     // too many
		Make(Number(1), Number(5), Number(0)),               // a text with fewer bytes than it says
		Make(Number(1), Text(""), Number(1<<62), Number(0)), // a list with fewer elements
	} {
		s := From(bytes)
		if got, ok := Next(s, readThing); ok || s.Left() != len(bytes) {
			t.Errorf("Next of %q = %v, and %d bytes are left", bytes, got, s.Left())
		}
	}
	spoil := func(s *Source) int { s.Spoil(); return 7 }
	if got, ok := Next(From(Make()), spoil); ok || got != 0 {
		t.Errorf("Next of what was spoiled = %d, %v", got, ok)
	}
}

func TestNumberBytes(t *testing.T) {
	for n, want := range map[int]int{0: 1, 127: 1, 128: 2, 16383: 2, 16384: 3, 1000000000: 5} {
		if got := len(Number(n)(nil)); got != want {
			t.Errorf("the number %d has %d bytes, want %d", n, got, want)
		}
	}
}
