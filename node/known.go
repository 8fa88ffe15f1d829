package node

import (
	"slices"
	"strings"

	"hearsay/api"
	"hearsay/catalog"
	"hearsay/centre"
	"hearsay/dns"
	"hearsay/packet"
	"hearsay/place"
	"hearsay/query"
	"hearsay/rising"
	"hearsay/rule"
)

func (w *worker) hear(p api.Packet) api.Errno {
	if why := packet.Check(p); why != api.OK {
		return why
	}
	for _, m := range p.Members {
		if why := w.spread(m); why != api.OK {
			return why
		}
	}
	var why api.Errno
	if w.Services, why = catalog.Join(w.Services, p.Services); why != api.OK {
		return why
	}
	if w.Gateways, why = centre.Join(w.Gateways, p.Gateways); why != api.OK {
		return why
	}
	w.learn(p.Where)
	return api.OK
}

// learn where nodes are of which that was not known: what was known may have been traced by the node itself.
func (w *worker) learn(l []api.Where) {
	for _, one := range l {
		at, found := rising.Find(w.Where, one, byNode)
		if !found && len(w.Where) < api.MaxWhere {
			w.Where = slices.Insert(w.Where, at, one)
		}
	}
}

func byNode(a, b api.Where) int { return strings.Compare(a.Node, b.Node) }

func (w *worker) trace(name string, p api.Place, round int) api.Errno {
	if !rule.Label(name) {
		return api.ErrForm
	}
	if why := place.Check(p); why != api.OK {
		return why
	}
	if name == w.Name {
		return api.ErrTwice
	}
	to, why := place.Move(w.Place, p, round)
	if why != api.OK {
		return why
	}
	w.Place = to
	return w.note(api.Where{Node: name, Place: p})
}

// note where a node is, whatever was known of that.
func (w *worker) note(one api.Where) api.Errno {
	always := func(_, _ api.Where) bool { return true }
	w.Where = rising.Join(byNode, always, w.Where, []api.Where{one})
	if len(w.Where) > api.MaxWhere {
		return api.ErrMany
	}
	return api.OK
}

func (w *worker) serve(s api.Service) (why api.Errno) {
	if s.Node != w.Name {
		return api.ErrState
	}
	w.Services, why = catalog.Register(w.Services, s)
	return why
}

func (w *worker) drop(id string) (why api.Errno) {
	w.Services, why = catalog.Drop(w.Services, w.Name, id)
	return why
}

func (w *worker) open(address int) (why api.Errno) {
	w.Gateways, why = centre.Open(w.Gateways, w.Centre, address)
	return why
}

// onward tells the address to which a message goes on, if it asks for another centre, and one gets there.
func (w *worker) onward(s string) (int, bool) {
	m, why := dns.Read(s)
	if why != api.OK || m.Answer || len(m.Records) > 0 {
		return 0, false
	}
	q, why := query.Parse(m.Question.Name)
	if why != api.OK {
		return 0, false
	}
	address, why := centre.Next(w.Gateways, w.Centre, q.Centre)
	return address, why == api.OK
}
