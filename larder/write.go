package larder

import (
	"errors"
	"strings"

	"larder/api"
	"larder/fault"
	"larder/stock"
)

// replace gives the next number, and writes that the key has the versions that go with it, and no others.
func (n *Node) replace(key string, versions func(number int) []api.Version) (int, api.Errno) {
	number, err := n.next()
	if err == nil {
		err = n.change("replacing a key's versions", stock.Holds{Key: strings.Clone(key), Versions: versions(number)})
	}
	if err != nil {
		return 0, n.answer(err)
	}
	return number, api.OK
}

// next gives the node's next number.
func (n *Node) next() (int, error) {
	if n.given >= n.held.Leased() {
		if err := n.lease(); err != nil {
			return 0, err
		}
	}
	n.given++
	return n.given, nil
}

// lease makes it safe that some more numbers are used up, ahead of their being given: so none is given again, whatever a crash takes of the writes that have them.
func (n *Node) lease() error {
	const what = "leasing numbers"
	if err := n.write(what, stock.Lease{Upto: n.given + api.Lease}); err != nil {
		return err
	}
	return fault.While(what, n.log.Sync())
}

// change writes a fact that was asked for, and makes all safe, if it is time.
func (n *Node) change(what string, f stock.Fact) error {
	if err := n.write(what, f); err != nil {
		return err
	}
	n.writes++
	if n.every == 0 || n.writes < n.every {
		return nil
	}
	n.writes = 0
	return fault.While(what, n.log.Sync())
}

// write adds a fact to the log, and makes it so if the log has it: behind a failure too, for the next Open will find it there.
func (n *Node) write(what string, f stock.Fact) error {
	whole, err := n.log.Append(f.Record())
	if whole {
		n.held.Take(f)
	}
	return fault.While(what, err)
}

// answer tells what a call that writes is answered. Behind a failure the log's end may be a piece of a record, so nothing is written any more.
func (n *Node) answer(err error) api.Errno {
	if err == nil {
		return api.OK
	}
	n.readOnly, n.merge = true, nil
	return errno(err)
}

// errno: the number for a failure.
func errno(err error) api.Errno {
	var f *fault.Disk
	if errors.As(err, &f) {
		return f.Errno
	}
	return api.ErrIO
}
