package net

import (
	"fmt"
	"slices"
	"testing"

	"hearsay/api"
	"hearsay/fresh"
	"hearsay/node"
	"hearsay/packet"
)

// fails asks for an error, and no net.
func fails(t testing.TB, n api.Net, e api.Event, want api.Errno) {
	t.Helper()
	if next, why := Step(n, e); !same(next, api.Net{}) || why != want {
		t.Errorf("%v: %v: it is %v %d, and must be %d", n, e, next, why, want)
	}
}

// happens asks for a net, and no error.
func happens(t testing.TB, n api.Net, e api.Event, want api.Net) {
	t.Helper()
	if next, why := Step(n, e); !same(next, want) || why != api.OK || Check(next) != api.OK {
		t.Errorf("%v: it is\n%v %d, and must be\n%v", e, next, why, want)
	}
}

// changed is a net in which one node is another one.
func changed(n api.Net, at int, to api.Node) api.Net {
	n = copied(n)
	n.Nodes[at] = to
	return n
}

// sent is a net with one more letter, behind all others.
func sent(t testing.TB, n api.Net, to int, p api.Packet) api.Net {
	t.Helper()
	text, e := packet.Write(p)
	if e != api.OK {
		t.Fatalf("%v: it is %d", p, e)
	}
	n = copied(n)
	n.Letters = append(n.Letters, api.Letter{To: to, Text: text})
	return n
}

// K2: what a node tells is on its way, behind all others, to another one, or to itself; the node has told it.
func TestTell(t *testing.T) {
	n := base(t)
	for which := range n.Nodes {
		for other := range n.Nodes {
			next, told, e := node.Tell(n.Nodes[which])
			all, f := node.Whole(n.Nodes[which])
			if e != api.OK || f != api.OK {
				t.Fatalf("it is %d %d", e, f)
			}
			happens(t, n, api.Event{Kind: api.EventTell, Which: which, Other: other}, sent(t, changed(n, which, next), other, told))
			happens(t, n, api.Event{Kind: api.EventWhole, Which: which, Other: other}, sent(t, n, other, all))
		}
	}
}

// K2: Tell of none is a packet, too, however often it is asked for.
func TestTellNothing(t *testing.T) {
	n := apart(t, 2)
	n.Nodes[0] = fresher(t, "a", "c", 1)
	want := copied(n)
	for range api.MaxLetters {
		want.Letters = append(want.Letters, api.Letter{To: 1, Text: "1;a0;0;0;0;0;"})
		happens(t, n, api.Event{Kind: api.EventTell, Other: 1}, want)
		n = want
	}
	fails(t, n, api.Event{Kind: api.EventTell, Other: 1}, api.ErrMany)
}

// K2: no more than MaxLetters letters; a letter that is lost, or comes, makes room.
func TestNoRoom(t *testing.T) {
	n := full(t)
	for _, e := range []api.Event{{Kind: api.EventTell}, {Kind: api.EventWhole, Which: 5, Other: 2}, {Kind: api.EventTwice}, {Kind: api.EventTwice, Which: 18}} {
		fails(t, n, e, api.ErrMany)
		for _, room := range []api.Event{{Kind: api.EventLose, Which: 7}, {Kind: api.EventCome}} {
			if x := stepped(t, n, room, e); len(x.Letters) != api.MaxLetters {
				t.Errorf("%v: %d letters", e, len(x.Letters))
			}
		}
	}
}

// without is a net without one of its letters.
func without(n api.Net, at int) api.Net {
	n = copied(n)
	n.Letters = append(n.Letters[:at:at], n.Letters[at+1:]...)
	return n
}

// K2: letters come in whatever order, get lost, and are there twice.
func TestLetters(t *testing.T) {
	n := base(t)
	for i, l := range n.Letters {
		p, e := packet.Read(l.Text)
		heard, f := node.Hear(n.Nodes[l.To], p)
		if e != api.OK || f != api.OK {
			t.Fatalf("it is %d %d", e, f)
		}
		happens(t, n, api.Event{Kind: api.EventCome, Which: i}, changed(without(n, i), l.To, heard))
		happens(t, n, api.Event{Kind: api.EventLose, Which: i}, without(n, i))
		twice := copied(n)
		twice.Letters = append(twice.Letters, l)
		happens(t, n, api.Event{Kind: api.EventTwice, Which: i}, twice)
	}
}

// crowded are nodes that cannot take in one thing more, and packets that tell them of one.
func crowded(t testing.TB) map[api.Errno][]api.Net {
	t.Helper()
	with := func(turn func(n *api.Node), p api.Packet) api.Net {
		n := apart(t, 2)
		turn(&n.Nodes[0])
		return sent(t, n, 0, p)
	}
	member := func(i int) api.Member {
		return api.Member{Name: fmt.Sprint("n", 100+i), State: api.StateAlive, Life: 1}
	}
	service := func(i int) api.Service {
		return api.Service{Node: "n0", ID: fmt.Sprint("i", 100+i), Name: "s", Version: 1}
	}
	gateway := func(i int) api.Gateway { return api.Gateway{Centre: fmt.Sprint("c", i), Version: 1} }
	return map[api.Errno][]api.Net{
		api.ErrMany: {
			with(func(n *api.Node) {
				for i := range api.MaxMembers - 1 {
					n.Members = append(n.Members, member(i))
				}
			}, api.Packet{From: "q", Members: []api.Member{member(50)}}),
			with(func(n *api.Node) {
				for i := range api.MaxServices {
					n.Services = append(n.Services, service(i))
				}
			}, api.Packet{From: "q", Whole: true, Members: []api.Member{member(50)}, Services: []api.Service{service(50)}}),
			with(func(n *api.Node) {
				for i := range api.MaxCentres {
					n.Gateways = append(n.Gateways, gateway(i))
				}
			}, api.Packet{From: "q", Whole: true, Members: []api.Member{member(50)}, Services: []api.Service{service(50)}, Gateways: []api.Gateway{gateway(9)}}),
		},
		api.ErrRange: {
			with(func(n *api.Node) { n.Members[0].Life = api.MaxLife }, api.Packet{From: "q", Members: []api.Member{member(50), {Name: "n0", State: api.StateDead, Life: api.MaxLife}}}),
		},
	}
}

// K2: a letter that cannot be taken in has come all the same, and the node stays as it is.
func TestComeInVain(t *testing.T) {
	for why, nets := range crowded(t) {
		for _, n := range nets {
			p, _ := packet.Read(n.Letters[0].Text)
			if _, e := node.Hear(n.Nodes[0], p); e != why {
				t.Fatalf("%v hears %v: it is %d, and must be %d", n.Nodes[0], p, e, why)
			}
			happens(t, n, api.Event{Kind: api.EventCome}, without(n, 0))
		}
	}
}

// K2: what else happens to a node is what the calls of chapter 10 make of it; nothing else changes.
func TestChanges(t *testing.T) {
	n := base(t)
	p := api.Place{X: 3, Y: -4, Z: 5, Height: 6, Sure: 70}
	s := api.Service{Node: "n1", ID: "k", Name: "web", Tag: "t", Address: 5, Port: 6, Passing: true, Version: 77, Gone: true}
	ofZero := api.Service{Node: "n0", ID: "i", Name: "db"}
	for i, x := range []struct {
		event api.Event
		call  func(n api.Node) (api.Node, api.Errno)
	}{
		{api.Event{Kind: api.EventDoubt, Which: 2, Name: "n0"}, func(n api.Node) (api.Node, api.Errno) { return node.Doubt(n, "n0") }},
		{api.Event{Kind: api.EventDoubt, Which: 0, Name: "n2"}, func(n api.Node) (api.Node, api.Errno) { return node.Doubt(n, "n2") }},
		{api.Event{Kind: api.EventBury, Which: 2, Name: "n1"}, func(n api.Node) (api.Node, api.Errno) { return node.Bury(n, "n1") }},
		{api.Event{Kind: api.EventLeave, Which: 0}, node.Leave},
		{api.Event{Kind: api.EventLeave, Which: 2}, node.Leave},
		{api.Event{Kind: api.EventTrace, Which: 0, Other: 1, Place: p, N: 900}, func(n api.Node) (api.Node, api.Errno) { return node.Trace(n, "n1", p, 900) }},
		{api.Event{Kind: api.EventTrace, Which: 2, Other: 0, Place: p, N: 1}, func(n api.Node) (api.Node, api.Errno) { return node.Trace(n, "n0", p, 1) }},
		{api.Event{Kind: api.EventServe, Which: 1, Service: s}, func(n api.Node) (api.Node, api.Errno) { return node.Serve(n, s) }},
		{api.Event{Kind: api.EventServe, Which: 0, Service: ofZero}, func(n api.Node) (api.Node, api.Errno) { return node.Serve(n, ofZero) }},
		{api.Event{Kind: api.EventDrop, Which: 0, Name: "j"}, func(n api.Node) (api.Node, api.Errno) { return node.Drop(n, "j") }},
		{api.Event{Kind: api.EventOpen, Which: 1, N: 1<<32 - 1}, func(n api.Node) (api.Node, api.Errno) { return node.Open(n, 1<<32-1) }},
		{api.Event{Kind: api.EventOpen, Which: 2}, func(n api.Node) (api.Node, api.Errno) { return node.Open(n, 0) }},
	} {
		to, e := x.call(fresh.Node(n.Nodes[x.event.Which]))
		if e != api.OK || sameNode(to, n.Nodes[x.event.Which]) {
			t.Fatalf("%d: it is %v %d", i, to, e)
		}
		happens(t, n, x.event, changed(n, x.event.Which, to))
	}
}

// K2: fields that a kind of event does not name are not looked at.
func TestOtherFieldsAreIgnored(t *testing.T) {
	n := base(t)
	for _, e := range steps() {
		want, why := Step(n, e)
		for _, wild := range []int{-1, 3, 1 << 40, -1 << 63} {
			x := e
			if e.Kind != api.EventTell && e.Kind != api.EventWhole && e.Kind != api.EventTrace {
				x.Other = wild
			}
			if e.Kind != api.EventTrace && e.Kind != api.EventOpen {
				x.N = wild
			}
			if e.Kind != api.EventTrace {
				x.Place = api.Place{X: wild, Sure: wild}
			}
			if e.Kind != api.EventDoubt && e.Kind != api.EventBury && e.Kind != api.EventDrop {
				x.Name = fmt.Sprint(wild, "!")
			}
			if e.Kind != api.EventServe {
				x.Service = api.Service{Node: "!", Port: wild}
			}
			if next, e := Step(n, x); !same(next, want) || e != why {
				t.Errorf("%v: it is %v %d, and must be %v %d", x, next, e, want, why)
			}
		}
	}
}

// K2: a kind that is none is told ahead of all else.
func TestNoSuchEvent(t *testing.T) {
	for _, n := range []api.Net{{}, base(t), full(t)} {
		for _, kind := range []int{0, -1, 13, 100, 1<<63 - 1, -1 << 63} {
			for _, at := range []int{-1, 0, 6} {
				fails(t, n, api.Event{Kind: kind, Which: at, Other: at}, api.ErrKind)
			}
		}
	}
}

// K2: no such node, or letter: that is told ahead of what the calls say, and of ErrMany.
func TestNoSuchNodeOrLetter(t *testing.T) {
	letters := []int{api.EventCome, api.EventLose, api.EventTwice}
	others := []int{api.EventTell, api.EventWhole, api.EventTrace}
	for _, n := range []api.Net{{}, base(t), full(t), apart(t, 1)} {
		for kind := api.EventTell; kind <= api.EventOpen; kind++ {
			many := len(n.Nodes)
			if slices.Contains(letters, kind) {
				many = len(n.Letters)
			}
			for _, at := range []int{-1, many, many + 1, 1<<63 - 1, -1 << 63} {
				fails(t, n, api.Event{Kind: kind, Which: at, N: -1}, api.ErrNone)
				if slices.Contains(others, kind) {
					fails(t, n, api.Event{Kind: kind, Which: 0, Other: at, N: -1}, api.ErrNone)
				}
			}
		}
	}
}

// K2: those of the calls.
func TestErrorsOfCalls(t *testing.T) {
	n := base(t)
	left := stepped(t, n, api.Event{Kind: api.EventLeave, Which: 1})
	old := turned(t, func(n *api.Net) { n.Nodes[0].Members[0].Life = api.MaxLife })
	far := turned(t, func(n *api.Net) {
		for i := range api.MaxWhere - 1 {
			n.Nodes[2].Where = append(n.Nodes[2].Where, api.Where{Node: fmt.Sprint("q", 100+i)})
		}
	})
	for _, x := range []struct {
		net   api.Net
		event api.Event
		why   api.Errno
	}{
		{n, api.Event{Kind: api.EventDoubt, Which: 2, Name: ""}, api.ErrForm},
		{n, api.Event{Kind: api.EventDoubt, Which: 2, Name: "q"}, api.ErrNone},
		{n, api.Event{Kind: api.EventDoubt, Which: 2, Name: "n1"}, api.ErrState},
		{n, api.Event{Kind: api.EventDoubt, Which: 2, Name: "n2"}, api.ErrTwice},
		{n, api.Event{Kind: api.EventBury, Which: 2, Name: "N"}, api.ErrForm},
		{n, api.Event{Kind: api.EventBury, Which: 1, Name: "n0"}, api.ErrNone},
		{n, api.Event{Kind: api.EventBury, Which: 2, Name: "n0"}, api.ErrState},
		{n, api.Event{Kind: api.EventBury, Which: 2, Name: "n2"}, api.ErrTwice},
		{left, api.Event{Kind: api.EventLeave, Which: 1}, api.ErrState},
		{old, api.Event{Kind: api.EventLeave, Which: 0}, api.ErrRange},
		{n, api.Event{Kind: api.EventTrace, Which: 1, Other: 1, N: 1}, api.ErrTwice},
		{n, api.Event{Kind: api.EventTrace, Which: 1, Other: 1, N: 1, Place: api.Place{Sure: -1}}, api.ErrRange},
		{n, api.Event{Kind: api.EventTrace, Which: 1, Other: 0, N: 0}, api.ErrRange},
		{n, api.Event{Kind: api.EventTrace, Which: 1, Other: 0, N: api.MaxRound + 1}, api.ErrRange},
		{far, api.Event{Kind: api.EventTrace, Which: 2, Other: 1, N: 1}, api.ErrMany},
		{n, api.Event{Kind: api.EventServe, Which: 1, Service: api.Service{Node: "n0", ID: "i", Name: "s"}}, api.ErrState},
		{n, api.Event{Kind: api.EventServe, Which: 1, Service: api.Service{Node: "n1", ID: "i"}}, api.ErrForm},
		{n, api.Event{Kind: api.EventServe, Which: 1, Service: api.Service{Node: "n1", ID: "i", Name: "s", Port: 65536}}, api.ErrRange},
		{n, api.Event{Kind: api.EventDrop, Which: 0, Name: ""}, api.ErrForm},
		{n, api.Event{Kind: api.EventDrop, Which: 0, Name: "k"}, api.ErrNone},
		{n, api.Event{Kind: api.EventDrop, Which: 2, Name: "i"}, api.ErrNone},
		{n, api.Event{Kind: api.EventOpen, Which: 0, N: -1}, api.ErrRange},
		{n, api.Event{Kind: api.EventOpen, Which: 0, N: 1 << 32}, api.ErrRange},
	} {
		fails(t, x.net, x.event, x.why)
	}
}

// The example of the document: a tells all to b: b knows both.
func TestBothAreKnown(t *testing.T) {
	n, _ := New([]api.Node{fresher(t, "a", "c", 0), fresher(t, "b", "c", 1)})
	n = stepped(t, n, api.Event{Kind: api.EventWhole, Which: 0, Other: 1}, api.Event{Kind: api.EventCome})
	want := []api.Member{{Name: "a", State: api.StateAlive, Life: 1, Address: 0, Server: true}, {Name: "b", State: api.StateAlive, Life: 1, Address: 1}}
	if !slices.Equal(n.Nodes[1].Members, want) || !slices.Equal(n.Nodes[0].Members, want[:1]) || len(n.Letters) != 0 {
		t.Errorf("it is %v", n)
	}
}
