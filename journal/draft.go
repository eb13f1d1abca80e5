package journal

import (
	"larder/api"
	"larder/fault"
)

// Draft is a base that is being written: records that say what all those say that the log had when the Draft was begun. Behind a failure it must not be used any more, nor the Journal be added to.
type Draft struct {
	log    *Journal
	number int // the base's
}

// Draft begins a draft. There must be no other that has not taken its place.
func (j *Journal) Draft() (*Draft, error) {
	const what = "beginning a draft"
	w := &Draft{log: j, number: j.last + 1}
	// What the log is given from now on must lie behind the base, so it goes into a segment of its own.
	if err := j.begin(w.number + 1); err != nil {
		return nil, fault.While(what, err)
	}
	if e := j.disk.Create(draft); e != api.OK {
		return nil, fault.While(what, fault.Of("create", draft, e))
	}
	return w, nil
}

// Append adds a record at the draft's end.
func (w *Draft) Append(rec string) error {
	return fault.While("writing a draft", fault.Of("append", draft, w.log.disk.Append(draft, rec)))
}

// TakePlace makes the draft the base of the log, in place of all that lies ahead of it.
func (w *Draft) TakePlace() error {
	return fault.While("putting a draft in its place", w.log.replace(nameOf(base, w.number)))
}

// replace gives the draft its name as a base, and removes what is of no use from then on.
func (j *Journal) replace(name string) error {
	// A crash may leave the name, so all bytes must be safe ahead of it.
	if e := j.disk.Sync(draft); e != api.OK {
		return fault.Of("sync", draft, e)
	}
	if e := j.disk.Rename(draft, name); e != api.OK {
		return fault.Of("rename", draft, e)
	}
	if err := sweep(j.disk); err != nil {
		return err
	}
	// Else a crash might bring back what was removed, when others have taken its room.
	return j.syncDir()
}
