package net

import (
	"cmp"
	"fmt"
	"slices"
	"strings"
	"testing"

	"hearsay/api"
	"hearsay/dns"
	"hearsay/draw"
	"hearsay/node"
	"hearsay/packet"
	"hearsay/place"
	"hearsay/query"
	"hearsay/rumor"
)

// What the whole promises: see DOC.md. What it says of letters that get lost, come twice or late stands in play_test.go.

// drawn is a story that went on for some time.
func drawn(t testing.TB, d *draw.Numbers, long int) *story {
	t.Helper()
	s := begin(t, d, d.From(2, api.MaxNodes))
	s.playOn(t, long)
	return s
}

// come: all letters of a net come, in an order that is drawn; some of them twice, if there is room.
func come(t testing.TB, d *draw.Numbers, n api.Net, twice bool) api.Net {
	t.Helper()
	for many := len(n.Letters); many > 0; many-- {
		at := d.Below(many)
		if twice && many < api.MaxLetters && d.Below(3) == 0 {
			n = stepped(t, n, api.Event{Kind: api.EventTwice, Which: at})
			many++
		}
		n = stepped(t, n, api.Event{Kind: api.EventCome, Which: at})
	}
	return n
}

// Whoever hears the same, in whatever order, however often, knows the same.
func TestWhoeverHearsTheSame(t *testing.T) {
	d := new(draw.Numbers)
	letters := 0
	for range 100 {
		s := drawn(t, d, 100)
		for range 5 {
			s.happen(t, api.Event{Kind: api.EventWhole, Which: d.Below(len(s.Nodes)), Other: d.Below(len(s.Nodes))})
		}
		letters += len(s.Letters)
		a, b := come(t, d, s.Net, false), come(t, d, s.Net, true)
		for i := range a.Nodes {
			if !knowTheSame(a.Nodes[i], b.Nodes[i]) {
				t.Fatalf("%v hears the same: it is %v, and %v", s.Nodes[i], a.Nodes[i], b.Nodes[i])
			}
		}
	}
	if letters < 500 {
		t.Errorf("only %d letters", letters)
	}
}

// Whoever hears the same has the same, though it is one who was not there: it hears of all at once, or of each alone.
func TestNewcomersHearTheSame(t *testing.T) {
	d := new(draw.Numbers)
	for range 50 {
		s := drawn(t, d, 200)
		newcomer := fresher(t, "new", "c0", 99)
		ways := [3]api.Node{newcomer, newcomer, newcomer}
		for i := range s.Nodes {
			for way, from := range []api.Node{s.Nodes[i], s.Nodes[len(s.Nodes)-1-i], s.Nodes[i]} {
				p, _ := node.Whole(from)
				heard, e := node.Hear(ways[way], p)
				if e != api.OK {
					t.Fatalf("it is %d", e)
				}
				ways[way] = heard
			}
			p, _ := node.Whole(s.Nodes[d.Below(i+1)])
			ways[2], _ = node.Hear(ways[2], p)
		}
		if !knowTheSame(ways[0], ways[1]) || !knowTheSame(ways[0], ways[2]) {
			t.Fatalf("it is %v", ways)
		}
	}
}

// Each rumor is told as often as asked for, and no more.
func TestRumorsAreToldAsOftenAsAsked(t *testing.T) {
	for many := 1; many <= api.MaxMembers; many++ {
		n := apart(t, 2)
		for i := range many - 1 {
			m := api.Member{Name: fmt.Sprint("m", 100+i), State: api.StateAlive, Life: 1}
			n = stepped(t, sent(t, n, 0, api.Packet{From: "q", Members: []api.Member{m}}), api.Event{Kind: api.EventCome})
		}
		times, _ := rumor.Times(many)
		told := make(map[string]int)
		for range many * times {
			n = stepped(t, n, api.Event{Kind: api.EventTell, Other: 1})
			p, e := packet.Read(n.Letters[0].Text)
			if e != api.OK || len(p.Members) > api.MaxTold {
				t.Fatalf("it is %v %d", p, e)
			}
			for _, m := range p.Members {
				told[m.Name]++
			}
			n = stepped(t, n, api.Event{Kind: api.EventLose})
		}
		if len(told) != many-1 || len(n.Nodes[0].Rumors) != 0 {
			t.Errorf("%d: these were told: %v", many, told)
		}
		for name, often := range told {
			if often != times {
				t.Errorf("%s was told %d times of %d", name, often, times)
			}
		}
	}
}

// asked is what a node answers to a question: false, if the question goes on.
func asked(t testing.TB, n api.Node, text string) (api.Message, bool) {
	t.Helper()
	s, _, on, e := node.Ask(n, text)
	if on {
		return api.Message{}, false
	}
	m, f := dns.Read(s)
	if e != api.OK || f != api.OK || !m.Answer {
		t.Fatalf("%v is asked %q: it is %q %d, %v %d", n, text, s, e, m, f)
	}
	return m, true
}

func question(t testing.TB, name string, kind int) string {
	t.Helper()
	s, e := dns.Write(api.Message{ID: 7, Question: api.Question{Name: name, Type: kind}})
	if e != api.OK {
		t.Fatalf("%q: it is %d", name, e)
	}
	return s
}

// away tells how far a node takes another one to be: farther than all, if that is not known.
func away(n api.Node, other string) int {
	for _, w := range n.Where {
		if w.Node == other {
			far, _ := place.Far(n.Place, w.Place)
			return far
		}
	}
	return 1 << 62
}

// Whoever is nearer is told first. (That places stay within their bounds is asked of each net of a story.)
func TestNearerFirst(t *testing.T) {
	d := new(draw.Numbers)
	told := 0
	for range 60 {
		s := drawn(t, d, 200)
		s.Net = come(t, d, s.Net, false)
		for range 2 {
			s.tellAll(t)
		}
		for _, n := range s.Nodes {
			m, _ := asked(t, n, question(t, "s0.service.mesh", api.TypeService))
			var nodes []string
			for _, r := range m.Records {
				name, _, _ := strings.Cut(r.Target, ".")
				nodes = append(nodes, name)
			}
			order := func(a, b string) int {
				return cmp.Or(cmp.Compare(away(n, a), away(n, b)), strings.Compare(a, b))
			}
			if !slices.IsSortedFunc(nodes, order) {
				t.Fatalf("%v tells %v", n, nodes)
			}
			if len(slices.Compact(nodes)) > 1 {
				told++
			}
		}
	}
	if told < 50 {
		t.Errorf("only %d answers had some nodes in them", told)
	}
}

// said: was what a record tells registered by its node, or is it where a node is?
func (s *story) said(r api.Record, q api.Query) bool {
	if q.Node != "" {
		isIt := func(n api.Node) bool { return n.Name == q.Node }
		return r.Type == api.TypeAddress && r.Address == slices.IndexFunc(s.Nodes, isIt)
	}
	for one := range s.registered {
		isIt := one.Name == q.Service && (q.Tag == "" || one.Tag == q.Tag) && one.Passing && !one.Gone
		target, _, _ := strings.Cut(r.Target, ".")
		switch r.Type {
		case api.TypeAddress:
			isIt = isIt && one.Address == r.Address
		case api.TypeText:
			isIt = isIt && one.ID == r.Text
		case api.TypeService:
			isIt = isIt && one.Port == r.Port && one.Node == target
		}
		if isIt {
			return true
		}
	}
	return false
}

// mustAnswer: one answer goes, at most; it can be read, and each record was registered. Or the bytes go on as they are, to a gateway that was opened.
func (s *story) mustAnswer(t testing.TB, n api.Node, text string) {
	t.Helper()
	reply, address, on, e := node.Ask(n, text)
	if e != api.OK {
		t.Fatalf("%q: it is %d", text, e)
	}
	if on {
		m, _ := dns.Read(text)
		q, _ := query.Parse(m.Question.Name)
		if reply != text || q.Centre == n.Centre || s.opened[api.Gateway{Centre: q.Centre, Address: address}] == 0 {
			t.Fatalf("%q goes on as %q to %d, from %v", text, reply, address, n)
		}
		return
	}
	if len(text) < 12 || text[2] >= 128 {
		if reply != "" || address != 0 {
			t.Fatalf("%q: it is %q %d", text, reply, address)
		}
		return
	}
	m, _ := asked(t, n, text)
	q, f := query.Parse(m.Question.Name)
	if address != 0 || m.ID != int(text[0])<<8|int(text[1]) || f != api.OK && len(m.Records) > 0 {
		t.Fatalf("%q: it is %d %v", text, address, m)
	}
	for _, r := range m.Records {
		if r.Name != m.Question.Name || r.Type != m.Question.Type || !s.said(r, q) {
			t.Fatalf("%q: nobody said %v", text, r)
		}
	}
}

// Whatever bytes come, one answer goes, at most, and it can be read; each record was registered.
func TestWhateverBytesCome(t *testing.T) {
	d := new(draw.Numbers)
	for range 60 {
		s := drawn(t, d, 200)
		for _, n := range s.Nodes {
			for _, name := range []string{"s0.service.mesh", "t.s1.service.mesh", "s1.service.c0.mesh", "s0.service.c1.mesh", "n1.node.mesh", "n0.node.c1.mesh", "n9.node.mesh", "a.b", ""} {
				text := []byte(question(t, name, []int{api.TypeAddress, api.TypeText, api.TypeService}[d.Below(3)]))
				for range 4 {
					s.mustAnswer(t, n, string(text))
					text[d.Below(len(text))] = byte(d.Below(256))
					s.mustAnswer(t, n, string(text[:d.Below(len(text))]))
				}
			}
		}
	}
}

// A service is asked for by name, in the own centre and in another one, and found, until it is dropped, or its node leaves.
func TestServicesAreFound(t *testing.T) {
	s := begin(t, new(draw.Numbers), 3) // n0 and n2 are in c0, n1 is in c1
	serve := func(which, address int) api.Event {
		return api.Event{Kind: api.EventServe, Which: which, Service: api.Service{Node: s.Nodes[which].Name, ID: "i", Name: "web", Address: address, Passing: true}}
	}
	s.happen(t, serve(0, 80))
	s.happen(t, serve(2, 82))
	s.happen(t, api.Event{Kind: api.EventOpen, Which: 0, N: 40})
	s.happen(t, api.Event{Kind: api.EventTrace, Which: 0, Other: 2, N: 100, Place: api.Place{X: 30}})
	finds := func(addresses ...int) {
		t.Helper()
		for range 3 {
			s.tellAll(t)
		}
		m, _ := asked(t, s.Nodes[0], question(t, "web.service.mesh", api.TypeAddress))
		var found []int
		for _, r := range m.Records {
			found = append(found, r.Address)
		}
		if !slices.Equal(found, addresses) {
			t.Errorf("it is %v, and must be %v", m, addresses)
		}
		text := question(t, "web.service.c0.mesh", api.TypeAddress)
		if on, to, ok, e := node.Ask(s.Nodes[1], text); on != text || to != 40 || !ok || e != api.OK {
			t.Errorf("it is %q %d %v %d", on, to, ok, e)
		}
	}
	finds(82, 80) // of itself a node knows no place among the others'
	s.happen(t, serve(0, 81))
	finds(82, 81)
	s.happen(t, api.Event{Kind: api.EventDrop, Which: 0, Name: "i"})
	finds(82)
	s.happen(t, serve(0, 80))
	s.happen(t, api.Event{Kind: api.EventLeave, Which: 2})
	finds(80)
}
