package ask

import (
	"errors"
	"testing"

	"mailcoach/api"
)

// What is left is told; what comes behind it is not done.
func TestTried(t *testing.T) {
	for _, c := range []struct {
		name string
		do   func()
		want api.Errno
	}{
		{"nothing", func() {}, api.OK},
		{"no things", func() { Never(api.ErrForm) }, api.OK},
		{"things that are not so", func() { Never(api.ErrForm, false, false) }, api.OK},
		{"the first thing", func() { Never(api.ErrForm, true, false) }, api.ErrForm},
		{"the last thing", func() { Never(api.ErrSum, false, false, true) }, api.ErrSum},
		{"all things", func() { Never(api.ErrBusy, true, true) }, api.ErrBusy},
		{"no errors", func() { OK() }, api.OK},
		{"only OK", func() { OK(api.OK, api.OK) }, api.OK},
		{"one error", func() { OK(api.ErrMany) }, api.ErrMany},
		{"the first error", func() { OK(api.OK, api.ErrNone, api.ErrMany) }, api.ErrNone},
		{"one behind the other", func() { Never(api.ErrForm, false); OK(api.ErrName); Never(api.ErrKind, true) }, api.ErrName},
	} {
		done := false
		e := Tried(func() { c.do(); done = true })
		if e != c.want || done != (c.want == api.OK) {
			t.Errorf("%s: it is %d, done %v, and must be %d", c.name, e, done, c.want)
		}
	}
}

// A panic that is no error of the document is not told as one.
func TestTriedFault(t *testing.T) {
	fault := errors.New("a fault")
	defer func() {
		if left := recover(); left != fault {
			t.Errorf("it was left with %v", left)
		}
	}()
	t.Errorf("it is %d", Tried(func() { panic(fault) }))
}
