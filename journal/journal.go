// Package journal: the log as it lies on the disk: files with numbers. They are segments, of which only the last is added to; and a base may lie ahead of them, in place of older ones: a merge wrote it.
//
// A segment is begun when all bytes of the one ahead of it are safe. So a crash takes bytes from the log's end alone, though each file loses its own.
package journal

import (
	"larder/api"
	"larder/disk"
	"larder/fault"
	"larder/record"
)

// Journal is the log of one disk.
type Journal struct {
	disk    *disk.Disk
	limit   int    // bytes of a segment
	last    int    // the last file's number; 0: there is none
	name    string // its name
	size    int    // its bytes
	torn    bool   // it ends with a piece of a record: behind that nothing could be read
	dirSafe bool   // what was done to the directory is known to be safe
}

// Open reads the log that lies on the disk: one reads a record's body, and take is given what the records say, the oldest first. It changes nothing on the disk, but for the removal of what a merge has left.
func Open[T any](d *disk.Disk, limit int, one func(*record.Source) T, take func(T)) (*Journal, error) {
	const what = "reading the log"
	if err := sweep(d); err != nil {
		return nil, fault.While(what, err)
	}
	j := &Journal{disk: d, limit: limit}
	for number, name := range files(d).All() {
		bytes, err := contents(d, name)
		if err != nil {
			return nil, fault.While(what, err)
		}
		left := replay(bytes, one, take)
		j.last, j.name, j.size, j.torn = number, name, len(bytes), left > 0
	}
	return j, nil
}

// contents: all bytes of a file.
func contents(d *disk.Disk, name string) (string, error) {
	size, e := d.Size(name)
	if e != api.OK {
		return "", fault.Of("size", name, e)
	}
	bytes, e := d.Read(name, 0, size)
	return bytes, fault.Of("read", name, e)
}

// replay takes all whole records of a segment, and tells how many bytes are left behind them.
func replay[T any](bytes string, one func(*record.Source) T, take func(T)) int {
	s := record.From(bytes)
	for {
		x, ok := record.Next(s, one)
		if !ok {
			return s.Left()
		}
		take(x)
	}
}

// Append adds a record at the log's end, and tells whether the log has it whole: it may, though the disk failed. Behind a failure the Journal must not be added to any more.
func (j *Journal) Append(rec string) (bool, error) {
	if err := j.makeRoom(len(rec)); err != nil {
		return false, err
	}
	err := fault.Of("append", j.name, j.disk.Append(j.name, rec))
	if err != nil && !j.has(j.size+len(rec)) {
		return false, fault.While("adding to the log", err)
	}
	j.size += len(rec)
	return true, fault.While("adding to the log", err)
}

// has: does the last file have so many bytes? When the power is cut in an Append, all may have been added.
func (j *Journal) has(size int) bool {
	n, e := j.disk.Size(j.name)
	return e == api.OK && n == size
}

// makeRoom begins a segment, if the last file cannot take so many bytes more.
func (j *Journal) makeRoom(bytes int) error {
	if j.last > 0 && !j.torn && j.size+bytes <= j.limit {
		return nil
	}
	return fault.While("beginning a segment", j.begin(j.last+1))
}

// begin makes the last file safe, and begins the segment that has this number.
func (j *Journal) begin(number int) error {
	if err := j.syncLast(); err != nil {
		return err
	}
	name := nameOf(segment, number)
	if e := j.disk.Create(name); e != api.OK {
		return fault.Of("create", name, e)
	}
	j.last, j.name, j.size, j.torn, j.dirSafe = number, name, 0, false, false
	return nil
}

// syncLast makes the bytes of the last file safe, if there is one.
func (j *Journal) syncLast() error {
	if j.last == 0 {
		return nil
	}
	return fault.Of("sync", j.name, j.disk.Sync(j.name))
}

// syncDir makes safe what was done to the directory.
func (j *Journal) syncDir() error {
	err := fault.Of("sync the directory", "", j.disk.SyncDir())
	j.dirSafe = err == nil
	return err
}

// Sync makes all that the log has safe.
func (j *Journal) Sync() error {
	err := j.syncLast()
	if err == nil && j.last > 0 && !j.dirSafe {
		err = j.syncDir()
	}
	return fault.While("making the log safe", err)
}
