package order

import (
	"cmp"
	"maps"
	"slices"
	"testing"
)

// against does the same to a Map and to a map of the language, and checks that both have the same.
func against[K cmp.Ordered](t *testing.T, keys []K) {
	t.Helper()
	var m Map[K, int]
	want := map[K]int{}
	check := func() {
		t.Helper()
		sorted := slices.Sorted(maps.Keys(want))
		if got := m.Keys(); !slices.Equal(got, sorted) || m.Len() != len(want) {
			t.Fatalf("Keys() = %v, Len() = %d, want %v", got, m.Len(), sorted)
		}
		i := 0
		for k, v := range m.All() {
			if k != sorted[i] || v != want[k] {
				t.Fatalf("All() gives %v, %d, want %v, %d", k, v, sorted[i], want[sorted[i]])
			}
			i++
		}
		for _, k := range keys {
			if m.Get(k) != want[k] {
				t.Fatalf("Get(%v) = %d, want %d", k, m.Get(k), want[k])
			}
		}
	}
	check()
	for i, k := range keys {
		m.Set(k, i+1)
		want[k] = i + 1
		check()
	}
	for i, k := range keys {
		if i%2 == 0 {
			m.Delete(k)
			delete(want, k)
			check()
		}
	}
}

func TestMap(t *testing.T) {
	against(t, []string{"b", "", "a", "\xff", "b", "ab", "é", "B", "a"})
	against(t, []int{10, 9, -1, 0, 100, 9, 11, 2})
	against(t, []float64{0.5, -3, 2})
}

func TestAllMayBeLeft(t *testing.T) {
	var m Map[int, string]
	for i := range 5 {
		m.Set(i, "v")
	}
	seen := 0
	for k := range m.All() {
		seen++
		if k == 2 {
			break
		}
	}
	if seen != 3 {
		t.Errorf("All went on to %d keys", seen)
	}
}

func TestKeysAreNewMemory(t *testing.T) {
	var m Map[int, string]
	m.Set(1, "v")
	clear(m.Keys())
	if m.Get(1) != "v" {
		t.Error("Keys gave the Map's own memory")
	}
}
