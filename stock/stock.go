// Package stock: what a node holds, and the records that say it.
package stock

import (
	"slices"

	"larder/api"
	"larder/order"
)

// Stock is what a node holds. The zero Stock holds nothing.
type Stock struct {
	keys   order.Map[string, []api.Version] // none is empty; each list in the order of its dots, and never changed
	hints  []api.Hint
	leased int
}

// Take makes what a record says so.
func (s *Stock) Take(f Fact) { f.enter(s) }

// Facts tells what makes an empty Stock hold the same: the lease first.
func (s *Stock) Facts() []Fact {
	out := []Fact{Lease{Upto: s.leased}}
	for key, versions := range s.keys.All() {
		out = append(out, Holds{Key: key, Versions: versions})
	}
	for _, h := range s.hints {
		out = append(out, Queued{Hint: h})
	}
	return out
}

// Leased tells up to which number the node's numbers are used up, whether or not they were given.
func (s *Stock) Leased() int { return s.leased }

// Versions tells a key's versions, in the order of their dots. They must not be changed.
func (s *Stock) Versions(key string) []api.Version { return s.keys.Get(key) }

// Keys tells all keys that have versions, in the order of their bytes, in new memory.
func (s *Stock) Keys() []string { return s.keys.Keys() }

// CountKeys tells how many keys have versions.
func (s *Stock) CountKeys() int { return s.keys.Len() }

// Hints tells the queue, the first hint first, in new memory.
func (s *Stock) Hints() []api.Hint { return slices.Clone(s.hints) }

// CountHints tells how many hints there are.
func (s *Stock) CountHints() int { return len(s.hints) }
