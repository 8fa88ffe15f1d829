package answer

import (
	"slices"

	"hearsay/api"
	"hearsay/catalog"
	"hearsay/member"
	"hearsay/place"
	"hearsay/query"
	"hearsay/rule"
)

// known is what one who answers knows. All but check count on what it has checked: no call that they hand it to has an error then, but Print.
type known struct {
	here     string
	services []api.Service
	members  []api.Member
	from     api.Place
	where    []api.Where
}

func (k known) check() api.Errno {
	if !rule.Label(k.here) {
		return api.ErrForm
	}
	if why := catalog.Check(k.services); why != api.OK {
		return why
	}
	if why := member.Check(k.members); why != api.OK {
		return why
	}
	return k.checkPlaces()
}

func (k known) checkPlaces() api.Errno {
	if len(k.where) > api.MaxWhere {
		return api.ErrMany
	}
	if why := place.Check(k.from); why != api.OK {
		return why
	}
	for _, w := range k.where {
		if why := place.Check(w.Place); why != api.OK {
			return why
		}
	}
	return api.OK
}

// records has the errors of Print, and no others.
func (k known) records(q api.Query, t int) ([]api.Record, int, api.Errno) {
	name, why := query.Print(q)
	if why != api.OK {
		return nil, 0, why
	}
	like := api.Record{Name: name, Type: t}
	switch {
	case q.Centre != "" && q.Centre != k.here:
		return nil, api.CodeNone, api.OK
	case q.Node != "":
		l, code := k.ofNode(q.Node, like)
		return l, code, api.OK
	}
	return k.ofService(q, like)
}

func (k known) ofNode(name string, like api.Record) ([]api.Record, int) {
	m := k.member(name)
	switch {
	case m.State != api.StateAlive && m.State != api.StateSuspect:
		return nil, api.CodeNone
	case like.Type != api.TypeAddress:
		return nil, api.CodeOK
	}
	like.Address = m.Address
	return []api.Record{like}, api.CodeOK
}

// member tells one without a state, if there is none by that name.
func (k known) member(name string) api.Member {
	isIt := func(m api.Member) bool { return m.Name == name }
	if at := slices.IndexFunc(k.members, isIt); at >= 0 {
		return k.members[at]
	}
	return api.Member{}
}

func (k known) ofService(q api.Query, like api.Record) ([]api.Record, int, api.Errno) {
	if all, _ := catalog.Find(k.services, q.Service, ""); len(all) == 0 {
		return nil, api.CodeNone, api.OK
	}
	found, _ := catalog.Find(k.services, q.Service, q.Tag)
	var l []api.Record
	for _, s := range k.nearest(found) {
		r, why := k.record(like, s)
		if why != api.OK {
			return nil, 0, why
		}
		l = append(l, r)
	}
	return l, api.CodeOK, api.OK
}

// nearest services, as many as there may be records, of nodes that nobody takes for dead or left. Those of one node stay as they come: by id.
func (k known) nearest(found []api.Service) []api.Service {
	byNode := make(map[string][]api.Service)
	var nodes []string
	for _, s := range found {
		if k.isOut(s.Node) {
			continue
		}
		if len(byNode[s.Node]) == 0 {
			nodes = append(nodes, s.Node)
		}
		byNode[s.Node] = append(byNode[s.Node], s)
	}
	sorted, _ := place.Sort(k.from, k.where, nodes)
	var l []api.Service
	for _, node := range sorted {
		l = append(l, byNode[node]...)
	}
	return l[:min(len(l), api.MaxRecords)]
}

func (k known) isOut(node string) bool {
	state := k.member(node).State
	return state == api.StateDead || state == api.StateLeft
}

// record of a service: like has what all of them have.
func (k known) record(like api.Record, s api.Service) (api.Record, api.Errno) {
	switch like.Type {
	case api.TypeAddress:
		like.Address = s.Address
	case api.TypeText:
		like.Text = s.ID
	case api.TypeService:
		target, why := query.Print(api.Query{Node: s.Node, Centre: k.here})
		if why != api.OK {
			return api.Record{}, why
		}
		like.Port, like.Target = s.Port, target
	}
	return like, api.OK
}
