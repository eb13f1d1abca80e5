package larder_test

import (
	"strconv"
	"strings"
	"testing"

	"larder/api"
	"larder/larder"
)

func queued(t *testing.T, n *larder.Node, want ...api.Hint) {
	t.Helper()
	got := n.Hints()
	if len(got) != len(want) || n.State().Hints != len(want) {
		t.Fatalf("P8: Hints() = %v, State() = %+v, want %v", got, n.State(), want)
	}
	for i := range want {
		if got[i] != want[i] {
			t.Fatalf("P8: Hints() = %v, want %v", got, want)
		}
	}
}

func ack(t *testing.T, n *larder.Node, want api.Errno) {
	t.Helper()
	if e := n.Ack(); e != want {
		t.Fatalf("P8: Ack() = %d, want %d", e, want)
	}
}

func TestHints(t *testing.T) {
	_, n := fresh(t)
	full := strings.Repeat("t", 64)
	hint(t, n, 3, "x", api.OK)
	hint(t, n, 0, full, api.OK)
	hint(t, n, 3, "x", api.OK)
	hint(t, n, 2, "\x00", api.OK)
	queued(t, n, api.Hint{To: 3, Text: "x"}, api.Hint{To: 0, Text: full}, api.Hint{To: 3, Text: "x"}, api.Hint{To: 2, Text: "\x00"})
	ack(t, n, api.OK)
	queued(t, n, api.Hint{To: 0, Text: full}, api.Hint{To: 3, Text: "x"}, api.Hint{To: 2, Text: "\x00"})
	hint(t, n, 0, "y", api.OK)
	for range 3 {
		ack(t, n, api.OK)
	}
	queued(t, n, api.Hint{To: 0, Text: "y"})
	ack(t, n, api.OK)
	queued(t, n)
	ack(t, n, api.ErrNone)
	if s := n.State(); s.ReadOnly || s.Keys != 0 {
		t.Errorf("P11: State() = %+v", s)
	}
}

func TestHintErrors(t *testing.T) {
	d, n := fresh(t)
	fill(t, n, 1)
	refuse := func(to int, text string, want api.Errno) {
		t.Helper()
		unwritten(t, d, n, "Hint", func() { hint(t, n, to, text, want) })
	}
	check := func() {
		t.Helper()
		for _, text := range []string{"x", "", strings.Repeat("x", 65)} {
			for _, to := range []int{-1, 4, self, least, most} {
				refuse(to, text, api.ErrNode)
			}
		}
		refuse(0, "", api.ErrTooLarge)
		refuse(0, strings.Repeat("x", 65), api.ErrTooLarge)
		refuse(0, strings.Repeat("é", 32)+"x", api.ErrTooLarge)
	}
	check()
	for range api.MaxHints - 1 {
		hint(t, n, 0, "x", api.OK)
	}
	check()
	refuse(0, "x", api.ErrMany)
	breakDisk(t, d, n)
	check()
	refuse(0, "x", api.ErrReadOnly)
	unwritten(t, d, n, "Ack", func() { ack(t, n, api.ErrReadOnly) })
}

func TestAckErrors(t *testing.T) {
	d, n := fresh(t)
	unwritten(t, d, n, "Ack of nothing", func() { ack(t, n, api.ErrNone) })
	breakDisk(t, d, n)
	unwritten(t, d, n, "Ack", func() { ack(t, n, api.ErrReadOnly) })
}

func TestThirtyThirdHint(t *testing.T) {
	d, n := fresh(t)
	var want []api.Hint
	for i := range api.MaxHints {
		h := api.Hint{To: []int{0, 2, 3}[i%3], Text: strconv.Itoa(i)}
		hint(t, n, h.To, h.Text, api.OK)
		want = append(want, h)
	}
	unwritten(t, d, n, "a hint too many", func() { hint(t, n, 0, "more", api.ErrMany) })
	queued(t, n, want...)
	ack(t, n, api.OK)
	hint(t, n, 0, "more", api.OK)
	queued(t, n, append(want[1:], api.Hint{To: 0, Text: "more"})...)
	unwritten(t, d, n, "a hint too many", func() { hint(t, n, 0, "more", api.ErrMany) })
}
