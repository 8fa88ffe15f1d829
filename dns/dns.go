// Package dns: messages: see doc/01-dns.md.
package dns

import (
	"strings"

	"hearsay/api"
	"hearsay/fault"
	"hearsay/rule"
)

// Check a name.
func Check(name string) api.Errno {
	isNone := func(label string) bool { return !rule.Label(label) }
	switch {
	case name == "":
		return api.OK
	case hasLabel(name, isNone):
		return api.ErrForm
	case strings.Count(name, ".") >= api.MaxLabels || len(name) > api.MaxName:
		return api.ErrMany
	}
	return api.OK
}

// hasLabel goes from dot to dot instead of splitting the name: a name may be far too long for a list of its labels.
func hasLabel(name string, is func(label string) bool) bool {
	for more := true; more; {
		var label string
		label, name, more = strings.Cut(name, ".")
		if is(label) {
			return true
		}
	}
	return false
}

// Write a message.
func Write(m api.Message) (string, api.Errno) {
	if why := fault.Attempt(func() { check(m) }); why != api.OK {
		return "", why
	}
	s := written(m)
	if len(s) > api.MaxMessage {
		return "", api.ErrMany
	}
	return s, api.OK
}

// Fit a message into some bytes.
func Fit(m api.Message, size int) (string, api.Errno) {
	if !rule.Within(size, headSize, api.MaxMessage) {
		return "", api.ErrRange
	}
	if why := fault.Attempt(func() { check(m) }); why != api.OK {
		return "", why
	}
	s := written(m)
	for n := len(m.Records); len(s) > size && n > 0; n-- {
		m.Records, m.Cut = m.Records[:n-1], true
		s = written(m)
	}
	if len(s) > size {
		return "", api.ErrMany
	}
	return s, api.OK
}

// Read a message.
func Read(s string) (api.Message, api.Errno) {
	if len(s) > api.MaxMessage {
		return api.Message{}, api.ErrMany
	}
	var m api.Message
	read := func() {
		r := reader{text: s}
		m = r.message()
		check(m)
	}
	if fault.Attempt(read) != api.OK { // whatever check said: to who reads, it is no message
		return api.Message{}, api.ErrForm
	}
	return m, api.OK
}
