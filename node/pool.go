package node

import (
	"slices"
	"strings"

	"hearsay/api"
	"hearsay/member"
	"hearsay/rule"
	"hearsay/rumor"
)

// spread what is said of a member: what that changes is told on; and what is said of the node itself is refuted, if it must be.
func (w *worker) spread(m api.Member) (why api.Errno) {
	var changed bool
	w.Members, changed, why = member.Hear(w.Members, m)
	if changed {
		why = w.tellOn(m.Name)
	}
	if why != api.OK || m.Name != w.Name {
		return why
	}
	return w.refute()
}

func (w *worker) refute() (why api.Errno) {
	var changed bool
	w.Members, changed, why = member.Refute(w.Members, w.Name)
	if changed {
		why = w.tellOn(w.Name)
	}
	return why
}

// tellOn what is known of a member now.
func (w *worker) tellOn(name string) (why api.Errno) {
	m, _ := w.member(name)
	w.Rumors, why = rumor.Put(w.Rumors, m)
	return why
}

// tell has no errors: those that could come were asked for by Check.
func (w *worker) tell() api.Packet {
	live, _ := member.Live(w.Members)
	times, _ := rumor.Times(len(live))
	told, left, _ := rumor.Take(w.Rumors, api.MaxTold, max(times, 1))
	slices.SortFunc(told, func(a, b api.Member) int { return strings.Compare(a.Name, b.Name) })
	w.Rumors = left
	return api.Packet{From: w.Name, Members: told}
}

// worsen what is known of another member, from a state to the next one.
func (w *worker) worsen(name string, from, to int) api.Errno {
	if !rule.Label(name) {
		return api.ErrForm
	}
	m, found := w.member(name)
	switch {
	case !found:
		return api.ErrNone
	case name == w.Name:
		return api.ErrTwice
	case m.State != from:
		return api.ErrState
	}
	m.State = to
	return w.spread(m)
}

// leave by one more life: so it is newer than all that was said of the node.
func (w *worker) leave() api.Errno {
	me, _ := w.member(w.Name)
	switch {
	case me.State == api.StateLeft:
		return api.ErrState
	case me.Life == api.MaxLife:
		return api.ErrRange
	}
	me.State = api.StateLeft
	me.Life++
	return w.spread(me)
}
