package node

import (
	"slices"

	"hearsay/api"
	"hearsay/catalog"
	"hearsay/centre"
	"hearsay/member"
	"hearsay/packet"
	"hearsay/place"
	"hearsay/rule"
	"hearsay/rumor"
)

// checkParts asks of each part by itself.
func (w *worker) checkParts() api.Errno {
	if !rule.Labels(w.Name, w.Centre) {
		return api.ErrForm
	}
	if why := member.Check(w.Members); why != api.OK {
		return why
	}
	if why := rumor.Check(w.Rumors); why != api.OK {
		return why
	}
	if why := catalog.Check(w.Services); why != api.OK {
		return why
	}
	if why := centre.Check(w.Gateways); why != api.OK {
		return why
	}
	if why := place.Check(w.Place); why != api.OK {
		return why
	}
	// In a packet with nothing else there is nothing wrong but the places.
	return packet.Check(api.Packet{From: w.Name, Whole: true, Where: w.Where})
}

// checkWhole asks whether the parts, each right by itself, fit together.
func (w *worker) checkWhole() api.Errno {
	me, found := w.member(w.Name)
	switch {
	case !found:
		return api.ErrNone
	case me.State == api.StateSuspect || me.State == api.StateDead:
		return api.ErrState
	case slices.ContainsFunc(w.Rumors, w.isAhead):
		return api.ErrState
	}
	return api.OK
}

// isAhead: does a rumor tell what is not known itself?
func (w *worker) isAhead(r api.Rumor) bool {
	known, found := w.member(r.Member.Name)
	if !found {
		return true
	}
	newer, _ := member.Newer(r.Member, known)
	return newer
}
