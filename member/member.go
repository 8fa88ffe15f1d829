// Package member: members: see doc/02-member.md.
package member

import (
	"slices"
	"strings"

	"hearsay/api"
	"hearsay/rising"
	"hearsay/rule"
)

// Check members.
func Check(l []api.Member) api.Errno {
	if len(l) > api.MaxMembers {
		return api.ErrMany
	}
	for _, m := range l {
		if why := checkOne(m); why != api.OK {
			return why
		}
	}
	if !rising.Rises(l, byName) {
		return api.ErrState
	}
	return api.OK
}

func checkOne(m api.Member) api.Errno {
	switch {
	case !rule.Label(m.Name):
		return api.ErrForm
	case !rule.Within(m.State, api.StateAlive, api.StateLeft):
		return api.ErrKind
	case !rule.Within(m.Life, 1, api.MaxLife) || !rule.Address(m.Address):
		return api.ErrRange
	}
	return api.OK
}

func byName(a, b api.Member) int { return strings.Compare(a.Name, b.Name) }

func checkAll(pools ...[]api.Member) api.Errno {
	for _, pool := range pools {
		if why := Check(pool); why != api.OK {
			return why
		}
	}
	return api.OK
}

// Newer: is the first one?
func Newer(a, b api.Member) (bool, api.Errno) {
	if why := checkAll(alone(a), alone(b)); why != api.OK {
		return false, why
	}
	if a.Name != b.Name {
		return false, api.ErrForm
	}
	return newer(a, b), api.OK
}

// alone is a pool of one: in it, names always rise.
func alone(m api.Member) []api.Member { return []api.Member{m} }

func newer(a, b api.Member) bool {
	switch {
	case a.Life != b.Life:
		return a.Life > b.Life
	case a.State != b.State:
		return a.State > b.State
	case a.Address != b.Address:
		return a.Address > b.Address
	}
	return a.Server && !b.Server
}

// Hear a rumor.
func Hear(l []api.Member, m api.Member) ([]api.Member, bool, api.Errno) {
	known, why := join(l, alone(m))
	if why != api.OK {
		return nil, false, why
	}
	return known, !slices.Equal(known, l), api.OK
}

// Join what two know.
func Join(a, b []api.Member) ([]api.Member, api.Errno) {
	return join(a, b)
}

func join(pools ...[]api.Member) ([]api.Member, api.Errno) {
	if why := checkAll(pools...); why != api.OK {
		return nil, why
	}
	known := rising.Join(byName, newer, pools...)
	if len(known) > api.MaxMembers {
		return nil, api.ErrMany
	}
	return known, api.OK
}

// Refute that one does not live.
func Refute(l []api.Member, me string) ([]api.Member, bool, api.Errno) {
	if why := Check(l); why != api.OK {
		return nil, false, why
	}
	if !rule.Label(me) {
		return nil, false, api.ErrForm
	}
	known := slices.Clone(l)
	at, found := rising.Find(known, api.Member{Name: me}, byName)
	if !found || !isDoubted(known[at]) {
		return known, false, api.OK
	}
	if known[at].Life == api.MaxLife {
		return nil, false, api.ErrRange
	}
	known[at].State = api.StateAlive
	known[at].Life++
	return known, true, api.OK
}

// isDoubted leaves out who left: that was its own word.
func isDoubted(m api.Member) bool {
	return m.State == api.StateSuspect || m.State == api.StateDead
}

// Live members' names.
func Live(l []api.Member) ([]string, api.Errno) {
	if why := Check(l); why != api.OK {
		return nil, why
	}
	var names []string
	for _, m := range l {
		if m.State == api.StateAlive || m.State == api.StateSuspect {
			names = append(names, m.Name)
		}
	}
	return names, api.OK
}
