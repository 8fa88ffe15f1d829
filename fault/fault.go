// Package fault lets work on a text give up wherever it is, by a panic, and tells who began it why.
package fault

import "hearsay/api"

// Fault is what work gives up with: a type of its own, so that who recovers can tell it from any other panic.
type Fault struct {
	Why api.Errno
}

// Need gives up all work, unless something is as it must be.
func Need(holds bool, why api.Errno) {
	if !holds {
		panic(Fault{why})
	}
}

// Attempt tells why the work gave up, or OK.
func Attempt(work func()) (why api.Errno) {
	defer func() {
		told := recover()
		if told == nil {
			return
		}
		why = api.ErrForm // no call may panic, whatever went wrong in it
		if known, ok := told.(Fault); ok {
			why = known.Why
		}
	}()
	work()
	return api.OK
}
