package stock

import (
	"slices"

	"larder/api"
	"larder/record"
)

// What a record is about: the first part of its body. They lie on disks, so none may ever be given another sense.
const (
	aboutLease = 1
	aboutKey   = 2
	aboutHint  = 3
	aboutAck   = 4
)

// Fact is what one record says.
type Fact interface {
	// Record gives the record that says it.
	Record() string
	enter(s *Stock)
}

// Lease says that numbers up to this one may have been given.
type Lease struct{ Upto int }

// Holds says which versions a key has from then on: maybe none.
type Holds struct {
	Key      string
	Versions []api.Version
}

// Queued says that a hint is the queue's last.
type Queued struct{ Hint api.Hint }

// Acked says that the first hint is taken away.
type Acked struct{}

// Record gives the record of a lease.
func (l Lease) Record() string {
	return record.Make(record.Number(aboutLease), record.Number(l.Upto))
}

// Record gives the record of what a key has.
func (h Holds) Record() string {
	return record.Make(record.Number(aboutKey), record.Text(h.Key), record.List(h.Versions, version))
}

// Record gives the record of a hint.
func (q Queued) Record() string {
	return record.Make(record.Number(aboutHint), record.Number(q.Hint.To), record.Text(q.Hint.Text))
}

// Record gives the record of an Ack.
func (a Acked) Record() string { return record.Make(record.Number(aboutAck)) }

func (l Lease) enter(s *Stock) { s.leased = l.Upto }

func (h Holds) enter(s *Stock) {
	if len(h.Versions) == 0 {
		s.keys.Delete(h.Key)
		return
	}
	s.keys.Set(h.Key, h.Versions)
}

func (q Queued) enter(s *Stock) { s.hints = append(s.hints, q.Hint) }

func (a Acked) enter(s *Stock) {
	if len(s.hints) > 0 {
		s.hints = slices.Delete(s.hints, 0, 1)
	}
}

// version: the part for a version that is not gone.
func version(v api.Version) record.Part {
	return record.Group(record.Number(v.Dot.Node), record.Number(v.Dot.Seq), record.List(v.Over[:], record.Number[int]), record.Text(v.Value))
}

// Read reads the body of any Fact's record.
func Read(s *record.Source) Fact {
	switch record.ReadNumber[int](s) {
	case aboutLease:
		return Lease{Upto: record.ReadNumber[int](s)}
	case aboutKey:
		key := record.ReadText[string](s)
		return Holds{Key: key, Versions: record.ReadList(s, readVersion)}
	case aboutHint:
		to := record.ReadNumber[int](s)
		return Queued{Hint: api.Hint{To: to, Text: record.ReadText[string](s)}}
	case aboutAck:
		return Acked{}
	}
	s.Spoil()
	return nil
}

func readVersion(s *record.Source) api.Version {
	var v api.Version
	v.Dot.Node = record.ReadNumber[int](s)
	v.Dot.Seq = record.ReadNumber[int](s)
	copy(v.Over[:], record.ReadList(s, record.ReadNumber[int]))
	v.Value = record.ReadText[string](s)
	return v
}
