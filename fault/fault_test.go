package fault

import (
	"testing"

	"hearsay/api"
)

// P1: a panic that is none of the program's own does not come out either.
func TestAttempt(t *testing.T) {
	for want, work := range map[api.Errno]func(){
		api.OK:      func() { Need(true, api.ErrKind) },
		api.ErrKind: func() { Need(false, api.ErrKind) },
		api.ErrForm: func() { panic("something else") },
	} {
		if e := Attempt(work); e != want {
			t.Errorf("it is %d, and must be %d", e, want)
		}
	}
}

// What stands behind the fault is not done any more, and of two faults the first one is told.
func TestNeedGivesUp(t *testing.T) {
	done := 0
	e := Attempt(func() {
		done++
		Need(false, api.ErrRange)
		done++
		Need(false, api.ErrMany)
	})
	if e != api.ErrRange || done != 1 {
		t.Errorf("it is %d, and %d of it was done", e, done)
	}
}
