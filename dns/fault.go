package dns

import "hearsay/api"

// fault is what this package panics with: a type of its own, so that who recovers can tell it from any other panic.
type fault struct {
	why api.Errno
}

// need gives up all work on a message, unless it is as it must be.
func need(holds bool, why api.Errno) {
	if !holds {
		panic(fault{why})
	}
}

// attempt tells why the work gave up, or OK.
func attempt(work func()) (why api.Errno) {
	defer func() {
		told := recover()
		if told == nil {
			return
		}
		why = api.ErrForm // no call may panic, whatever went wrong in it
		if known, ok := told.(fault); ok {
			why = known.why
		}
	}()
	work()
	return api.OK
}
