package larder

import (
	"larder/journal"
	"larder/stock"
)

// beside: so many calls of Merge a merge may take, beside one for each key and each hint.
const beside = 4

// merge is a merge that is under way. It writes what the node held when it was begun: what is written meanwhile is in the log behind that.
type merge struct {
	draft *journal.Draft
	left  []stock.Fact // what is still to be written
	calls int          // of Merge, for this merge
}

// step does a step of a merge, and tells whether it was the last one.
func (n *Node) step() (bool, error) {
	if n.merge == nil {
		return false, n.beginMerge()
	}
	m := n.merge
	m.calls++
	for len(m.left) > 0 {
		if err := m.writeOne(); err != nil {
			return false, err
		}
		if !n.mustEnd() {
			return false, nil
		}
	}
	if err := m.draft.TakePlace(); err != nil {
		return false, err
	}
	n.merge = nil
	return true, nil
}

// beginMerge begins a merge.
func (n *Node) beginMerge() error {
	draft, err := n.log.Draft()
	if err != nil {
		return err
	}
	n.merge = &merge{draft: draft, left: n.held.Facts(), calls: 1}
	return nil
}

// mustEnd: is this the last call that the merge may take? Keys and hints that are taken away while it is under way leave fewer calls for what is still to be written.
func (n *Node) mustEnd() bool {
	return n.merge.calls >= n.held.CountKeys()+n.held.CountHints()+beside
}

// writeOne writes the next fact.
func (m *merge) writeOne() error {
	if err := m.draft.Append(m.left[0].Record()); err != nil {
		return err
	}
	m.left = m.left[1:]
	return nil
}
