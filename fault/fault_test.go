package fault

import (
	"errors"
	"testing"

	"larder/api"
)

func TestNothingWrong(t *testing.T) {
	if err := Of("sync", "a", api.OK); err != nil {
		t.Errorf("Of(OK) = %v", err)
	}
	if err := While("sleeping", nil); err != nil {
		t.Errorf("While(nil) = %v", err)
	}
}

func TestWrapped(t *testing.T) {
	inner := Of("append", "log1", api.ErrFull)
	err := While("putting", While("adding to the log", inner))
	var f *Disk
	if !errors.As(err, &f) || *f != (Disk{Call: "append", File: "log1", Errno: api.ErrFull}) {
		t.Errorf("errors.As gives %+v", f)
	}
	if !errors.Is(err, inner) {
		t.Error("errors.Is does not find the failure")
	}
	if got, want := err.Error(), `putting: adding to the log: append "log1" was answered 10`; got != want {
		t.Errorf("Error() = %s, want %s", got, want)
	}
	if got, want := Of("sync the directory", "", api.ErrIO).Error(), "sync the directory was answered 9"; got != want {
		t.Errorf("Error() = %s, want %s", got, want)
	}
}
