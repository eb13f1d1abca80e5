// Package larder: a store of one replica that outlives crashes: see DOC.md.
package larder

import (
	"slices"
	"strings"

	"larder/api"
	"larder/disk"
	"larder/fault"
	"larder/journal"
	"larder/stock"
)

// Node is a replica that is open.
type Node struct {
	self     int // its number
	log      *journal.Journal
	held     *stock.Stock
	given    int    // the last of its numbers that was given, or may have been
	every    int    // after so many writes all is made safe; 0: by Sync alone
	writes   int    // since the last of these
	merge    *merge // the one that is under way; nil: none is
	readOnly bool
}

// Open opens the node on a disk (P3).
func Open(d *disk.Disk, c api.Config) (*Node, api.Errno) {
	if !isConfig(c) {
		return nil, api.ErrConfig
	}
	held := &stock.Stock{}
	log, err := journal.Open(d, c.Segment, stock.Read, held.Take)
	if err != nil {
		return nil, errno(err)
	}
	// What an earlier node gave out of its lease cannot be known behind a crash, so all of it counts as given.
	return &Node{self: c.Node, log: log, held: held, given: held.Leased(), every: c.Sync}, api.OK
}

// Put writes a value (P4).
func (n *Node) Put(key string, value string) (int, api.Errno) {
	switch {
	case !isKey(key):
		return 0, api.ErrKey
	case len(value) > api.MaxValue:
		return 0, api.ErrTooLarge
	case n.readOnly:
		return 0, api.ErrReadOnly
	}
	return n.replace(key, func(number int) []api.Version {
		return []api.Version{{
			Dot:   api.Dot{Node: n.self, Seq: number},
			Over:  stock.Greatest(n.held.Versions(key)),
			Value: strings.Clone(value),
		}}
	})
}

// Delete takes a value away (P5).
func (n *Node) Delete(key string) (int, api.Errno) {
	switch {
	case !isKey(key):
		return 0, api.ErrKey
	case n.readOnly:
		return 0, api.ErrReadOnly
	}
	return n.replace(key, func(int) []api.Version { return nil })
}

// Accept takes another node's version (P6).
func (n *Node) Accept(key string, v api.Version) api.Errno {
	switch {
	case !isKey(key):
		return api.ErrKey
	case len(v.Value) > api.MaxValue:
		return api.ErrTooLarge
	case !n.isForeign(v):
		return api.ErrDot
	case n.readOnly:
		return api.ErrReadOnly
	}
	had := n.held.Versions(key)
	has := stock.Left(had, v)
	switch {
	case stock.Knows(had, v):
		return api.OK
	case !v.Gone && len(has) >= api.MaxVersions:
		return api.ErrMany
	case v.Gone && len(has) == len(had):
		return api.OK
	}
	if !v.Gone {
		v.Value = strings.Clone(v.Value)
		has = stock.With(has, v)
	}
	return n.answer(n.change("accepting a version", stock.Holds{Key: strings.Clone(key), Versions: has}))
}

// Get tells a key's versions (P7).
func (n *Node) Get(key string) ([]api.Version, api.Errno) {
	if !isKey(key) {
		return nil, api.ErrKey
	}
	return slices.Clone(n.held.Versions(key)), api.OK
}

// Keys tells all keys (P7).
func (n *Node) Keys() []string { return n.held.Keys() }

// Hint keeps a text for another node (P8).
func (n *Node) Hint(to int, text string) api.Errno {
	switch {
	case !n.isOther(to):
		return api.ErrNode
	case text == "" || len(text) > api.MaxText:
		return api.ErrTooLarge
	case n.readOnly:
		return api.ErrReadOnly
	case n.held.CountHints() >= api.MaxHints:
		return api.ErrMany
	}
	h := api.Hint{To: to, Text: strings.Clone(text)}
	return n.answer(n.change("keeping a hint", stock.Queued{Hint: h}))
}

// Hints tells the texts that are kept (P8).
func (n *Node) Hints() []api.Hint { return n.held.Hints() }

// Ack lets go of the first of them (P8).
func (n *Node) Ack() api.Errno {
	switch {
	case n.readOnly:
		return api.ErrReadOnly
	case n.held.CountHints() == 0:
		return api.ErrNone
	}
	return n.answer(n.change("letting go of a hint", stock.Acked{}))
}

// Sync makes all safe (P9).
func (n *Node) Sync() api.Errno {
	if n.readOnly {
		return api.ErrReadOnly
	}
	return n.answer(n.log.Sync())
}

// Merge does a step towards less room (P10).
func (n *Node) Merge() (bool, api.Errno) {
	if n.readOnly {
		return false, api.ErrReadOnly
	}
	done, err := n.step()
	return done, n.answer(fault.While("merging", err))
}

// State tells how the node is (P11).
func (n *Node) State() api.State {
	return api.State{ReadOnly: n.readOnly, Keys: n.held.CountKeys(), Hints: n.held.CountHints()}
}
