// Package order keeps things in the order of their keys.
package order

import (
	"cmp"
	"iter"
	"slices"
)

// entry: a key and what is kept under it.
type entry[K cmp.Ordered, V any] struct {
	key   K
	value V
}

// Map keeps a value under each of its keys, in the order of the keys. The zero Map is empty.
type Map[K cmp.Ordered, V any] struct {
	entries []entry[K, V]
}

// place tells where a key is or would be, and whether it is there.
func (m *Map[K, V]) place(key K) (int, bool) {
	return slices.BinarySearchFunc(m.entries, key, func(e entry[K, V], k K) int {
		return cmp.Compare(e.key, k)
	})
}

// Get tells what is kept under a key; the zero value, if nothing is.
func (m *Map[K, V]) Get(key K) V {
	i, there := m.place(key)
	if !there {
		var none V
		return none
	}
	return m.entries[i].value
}

// Set keeps a value under a key, in place of one that is there.
func (m *Map[K, V]) Set(key K, value V) {
	i, there := m.place(key)
	if there {
		m.entries[i].value = value
		return
	}
	m.entries = slices.Insert(m.entries, i, entry[K, V]{key: key, value: value})
}

// Delete takes a key away, if it is there.
func (m *Map[K, V]) Delete(key K) {
	if i, there := m.place(key); there {
		m.entries = slices.Delete(m.entries, i, i+1)
	}
}

// Len tells how many keys there are.
func (m *Map[K, V]) Len() int { return len(m.entries) }

// All goes through the keys and values in the order of the keys. Meanwhile the Map must stay as it is.
func (m *Map[K, V]) All() iter.Seq2[K, V] {
	return func(yield func(K, V) bool) {
		for _, e := range m.entries {
			if !yield(e.key, e.value) {
				return
			}
		}
	}
}

// Keys tells all keys, in their order, in new memory.
func (m *Map[K, V]) Keys() []K {
	out := make([]K, 0, m.Len())
	for k := range m.All() {
		out = append(out, k)
	}
	return out
}
