// Package fault: failures of the disk as errors, and what was being done when they came.
package fault

import (
	"strconv"

	"larder/api"
)

// Disk: a call of the disk, the file that it was about ("": the directory), and the number that it was answered, which is not OK.
type Disk struct {
	Call  string
	File  string
	Errno api.Errno
}

// Error tells the failure as a text.
func (f *Disk) Error() string {
	about := f.Call
	if f.File != "" {
		about += " " + strconv.Quote(f.File)
	}
	return about + " was answered " + strconv.Itoa(int(f.Errno))
}

// Of gives the error of a call of the disk; nil, if it was answered OK.
func Of(call string, file string, e api.Errno) error {
	if e == api.OK {
		return nil
	}
	return &Disk{Call: call, File: file, Errno: e}
}

// doing: an error, and what was being done.
type doing struct {
	what string
	err  error
}

// Error tells what was being done, and the error.
func (d *doing) Error() string { return d.what + ": " + d.err.Error() }

// Unwrap gives the error alone.
func (d *doing) Unwrap() error { return d.err }

// While wraps an error by what was being done; nil stays nil.
func While(what string, err error) error {
	if err == nil {
		return nil
	}
	return &doing{what: what, err: err}
}
