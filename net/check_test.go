package net

import (
	"fmt"
	"reflect"
	"slices"
	"strings"
	"testing"

	"hearsay/api"
	"hearsay/fresh"
	"hearsay/node"
	"hearsay/packet"
)

// fresher is a node that knows itself alone.
func fresher(t testing.TB, name, centre string, address int) api.Node {
	t.Helper()
	n, e := node.New(name, centre, address, address == 0)
	if e != api.OK {
		t.Fatalf("%q %q: it is %d", name, centre, e)
	}
	return n
}

// apart is a net of so many nodes that know nothing of each other: n0, n1 ..; of two centres, c0 and c1.
func apart(t testing.TB, many int) api.Net {
	t.Helper()
	var l []api.Node
	for i := range many {
		l = append(l, fresher(t, fmt.Sprint("n", i), fmt.Sprint("c", i%2), i))
	}
	n, e := New(l)
	if e != api.OK {
		t.Fatalf("%d: it is %d", many, e)
	}
	return n
}

// stepped is a net behind some events, all of which must be right.
func stepped(t testing.TB, n api.Net, events ...api.Event) api.Net {
	t.Helper()
	for _, e := range events {
		next, why := Step(n, e)
		if why != api.OK {
			t.Fatalf("%v: %v: it is %d", n, e, why)
		}
		n = next
	}
	return n
}

// base has three nodes, which know this and that of each other, and three letters on their way: to n1, to n2, to n0.
func base(t testing.TB) api.Net {
	t.Helper()
	return stepped(t, apart(t, 3),
		api.Event{Kind: api.EventServe, Which: 0, Service: api.Service{Node: "n0", ID: "i", Name: "web", Address: 9, Passing: true}},
		api.Event{Kind: api.EventServe, Which: 0, Service: api.Service{Node: "n0", ID: "j", Name: "db", Address: 9}},
		api.Event{Kind: api.EventOpen, Which: 1, N: 41},
		api.Event{Kind: api.EventWhole, Which: 0, Other: 2},
		api.Event{Kind: api.EventCome},
		api.Event{Kind: api.EventWhole, Which: 1, Other: 2},
		api.Event{Kind: api.EventCome},
		api.Event{Kind: api.EventTrace, Which: 2, Other: 0, N: 100, Place: api.Place{X: 50}},
		api.Event{Kind: api.EventWhole, Which: 2, Other: 0},
		api.Event{Kind: api.EventCome},
		api.Event{Kind: api.EventDoubt, Which: 2, Name: "n1"},
		api.Event{Kind: api.EventTell, Which: 2, Other: 1},
		api.Event{Kind: api.EventWhole, Which: 0, Other: 2},
		api.Event{Kind: api.EventTell, Which: 1, Other: 0},
	)
}

// same tells whether two nets are, where a list that is empty may be nil or not.
func same(a, b api.Net) bool {
	return slices.EqualFunc(a.Nodes, b.Nodes, sameNode) && slices.Equal(a.Letters, b.Letters)
}

func sameNode(a, b api.Node) bool {
	return a.Name == b.Name && a.Centre == b.Centre && a.Place == b.Place && slices.Equal(a.Members, b.Members) && slices.Equal(a.Rumors, b.Rumors) &&
		slices.Equal(a.Services, b.Services) && slices.Equal(a.Gateways, b.Gateways) && slices.Equal(a.Where, b.Where)
}

// turned is base, but for one thing.
func turned(t testing.TB, turn func(n *api.Net)) api.Net {
	t.Helper()
	n := base(t)
	turn(&n)
	return n
}

// full has as many nodes, and letters, as there may be.
func full(t testing.TB) api.Net {
	t.Helper()
	n := apart(t, api.MaxNodes)
	for i := range api.MaxLetters {
		n = stepped(t, n, api.Event{Kind: api.EventWhole, Which: i % api.MaxNodes, Other: (i + 1) % api.MaxNodes})
	}
	return n
}

func rightNets(t testing.TB) []api.Net {
	t.Helper()
	return []api.Net{
		{}, {Nodes: []api.Node{}, Letters: []api.Letter{}}, base(t), full(t), apart(t, 1), apart(t, 6),
		turned(t, func(n *api.Net) { n.Letters = nil }),
		turned(t, func(n *api.Net) { n.Letters[0] = n.Letters[1] }),
		turned(t, func(n *api.Net) { slices.Reverse(n.Nodes) }),
		turned(t, func(n *api.Net) { n.Letters[0] = api.Letter{To: 2, Text: "1;q0;0;0;0;0;"} }),
		turned(t, func(n *api.Net) { n.Nodes[0].Centre, n.Nodes[1].Centre = "c", "c" }),
	}
}

func wrongNets(t testing.TB) map[api.Errno][]api.Net {
	t.Helper()
	turned := func(turn func(n *api.Net)) api.Net { return turned(t, turn) }
	seven := apart(t, 6)
	seven.Nodes = append(seven.Nodes, fresher(t, "n6", "c", 6))
	return map[api.Errno][]api.Net{
		api.ErrMany: {
			seven, {Nodes: make([]api.Node, 7)}, {Letters: make([]api.Letter, 21)},
			turned(func(n *api.Net) { n.Letters = slices.Repeat(n.Letters[:1], 21) }),
			turned(func(n *api.Net) { n.Nodes[2].Members = make([]api.Member, 21) }),
		},
		api.ErrForm: {
			{Nodes: make([]api.Node, 1)}, {Nodes: make([]api.Node, 6)},
			turned(func(n *api.Net) { n.Nodes[2].Name = "" }),
			turned(func(n *api.Net) { n.Letters[0].Text = "" }),
			turned(func(n *api.Net) { n.Letters[2].Text += "x" }),
			turned(func(n *api.Net) { n.Letters[1].Text = "1;q0;0;0;0;" }),
			turned(func(n *api.Net) { n.Letters[1].Text = "1;Q0;0;0;0;0;" }),
			turned(func(n *api.Net) { n.Letters[1].Text = "1;q0;1;1;a5;1;0;0;0;0;0;" }),
		},
		api.ErrKind:  {turned(func(n *api.Net) { n.Nodes[1].Members[0].State = 0 })},
		api.ErrNone:  {turned(func(n *api.Net) { n.Nodes[1].Name = "q" })},
		api.ErrState: {turned(func(n *api.Net) { n.Nodes[2].Members[2].State = api.StateDead })},
		api.ErrRange: {
			turned(func(n *api.Net) { n.Nodes[0].Place.Sure = -1 }),
			turned(func(n *api.Net) { n.Letters[0].To = -1 }),
			turned(func(n *api.Net) { n.Letters[2].To = 3 }),
			turned(func(n *api.Net) { n.Letters[1].To = 1<<63 - 1 }),
			turned(func(n *api.Net) { n.Letters[1].To = -1 << 63 }),
			turned(func(n *api.Net) { n.Nodes = nil }),
			{Letters: []api.Letter{{}}},
		},
		api.ErrTwice: {
			turned(func(n *api.Net) { n.Nodes[2] = n.Nodes[0] }),
			turned(func(n *api.Net) { n.Nodes[1] = n.Nodes[0] }),
			{Nodes: []api.Node{fresher(t, "a", "c", 1), fresher(t, "b", "c", 1), fresher(t, "b", "d", 2)}},
			turned(func(n *api.Net) { n.Nodes[2].Rumors = slices.Repeat(n.Nodes[2].Rumors[:1], 2) }),
		},
	}
}

// K1.
func TestCheck(t *testing.T) {
	for _, n := range rightNets(t) {
		if e := Check(n); e != api.OK {
			t.Errorf("%v: it is %d, and must be %d", n, e, api.OK)
		}
	}
	for why, nets := range wrongNets(t) {
		for i, n := range nets {
			if e := Check(n); e != why {
				t.Errorf("%d of %d: %v: it is %d", i, why, n, e)
			}
		}
	}
}

// K1: the errors come in order: each thing that is mended lets the next one be told.
func TestErrorsInOrder(t *testing.T) {
	n := api.Net{Nodes: make([]api.Node, 7), Letters: make([]api.Letter, 21)}
	good := base(t)
	for i, x := range []struct {
		why  api.Errno
		mend func()
	}{
		{api.ErrMany, func() { n.Nodes = n.Nodes[:3] }},
		{api.ErrMany, func() { n.Letters = []api.Letter{{To: -1}, {To: 3}} }},
		{api.ErrForm, func() { n.Nodes[0] = fresh.Node(good.Nodes[2]); n.Nodes[0].Place.X = 1 << 40 }},
		{api.ErrRange, func() { n.Nodes[0].Place.X = 0 }},
		{api.ErrForm, func() { n.Nodes[1] = fresh.Node(good.Nodes[2]); n.Nodes[1].Members[2].State = api.StateSuspect }},
		{api.ErrState, func() { n.Nodes[1].Members[2].State = api.StateAlive }},
		{api.ErrForm, func() { n.Nodes[2] = good.Nodes[0] }},
		{api.ErrTwice, func() { n.Nodes[1] = good.Nodes[1] }},
		{api.ErrRange, func() { n.Letters[0].To = 2 }},
		{api.ErrForm, func() { n.Letters[0].Text = good.Letters[0].Text }},
		{api.ErrRange, func() { n.Letters[1].To = 0 }},
		{api.ErrForm, func() { n.Letters[1].Text = good.Letters[1].Text }},
	} {
		if e := Check(n); e != x.why {
			t.Errorf("%d: it is %d, and must be %d", i, e, x.why)
		}
		x.mend()
	}
	if e := Check(n); e != api.OK {
		t.Errorf("nothing is wrong any more: it is %d", e)
	}
}

// steps are one of each kind of event that is right for base, and some that are wrong.
func steps() []api.Event {
	return []api.Event{
		{Kind: api.EventTell, Which: 2, Other: 0},
		{Kind: api.EventWhole, Which: 2, Other: 0},
		{Kind: api.EventCome, Which: 1},
		{Kind: api.EventCome, Which: 0},
		{Kind: api.EventLose, Which: 0},
		{Kind: api.EventTwice, Which: 1},
		{Kind: api.EventDoubt, Which: 2, Name: "n0"},
		{Kind: api.EventBury, Which: 2, Name: "n1"},
		{Kind: api.EventLeave, Which: 1},
		{Kind: api.EventTrace, Which: 1, Other: 2, N: 500, Place: api.Place{Y: 7, Sure: 30}},
		{Kind: api.EventServe, Which: 1, Service: api.Service{Node: "n1", ID: "i", Name: "web", Passing: true}},
		{Kind: api.EventDrop, Which: 0, Name: "i"},
		{Kind: api.EventOpen, Which: 2, N: 7},
		{Kind: 0},
		{Kind: api.EventLeave, Which: 3},
		{Kind: api.EventCome, Which: 3},
		{Kind: api.EventDoubt, Which: 2, Name: ""},
		{Kind: api.EventServe, Which: 1},
	}
}

// K1, P1: all others tell what Check says ahead of their own errors, and nothing with it.
func TestWrongNetsAreToldFirst(t *testing.T) {
	for why, nets := range wrongNets(t) {
		for _, n := range nets {
			for _, e := range steps() {
				fails(t, n, e, why)
			}
			if ok, e := Agree(n); ok || e != why {
				t.Errorf("%v: it is %v %d, and must be %d", n, ok, e, why)
			}
		}
	}
}

// K1: nodes, in their order, and nothing on its way.
func TestNew(t *testing.T) {
	for _, nodes := range [][]api.Node{nil, {}, base(t).Nodes, base(t).Nodes[1:], full(t).Nodes} {
		if n, e := New(nodes); !same(n, api.Net{Nodes: nodes}) || e != api.OK || len(n.Letters) != 0 || Check(n) != api.OK {
			t.Errorf("%v: it is %v %d", nodes, n, e)
		}
	}
}

// K1, P1.
func TestNewErrors(t *testing.T) {
	for why, nets := range wrongNets(t) {
		for _, x := range nets {
			if Check(api.Net{Nodes: x.Nodes}) == api.OK {
				continue // its letters were wrong
			}
			if n, e := New(x.Nodes); !same(n, api.Net{}) || e != why {
				t.Errorf("%v: it is %v %d, and must be %d", x.Nodes, n, e, why)
			}
		}
	}
}

// roomy is a net with something in the room behind each of its lists, and the same with that room.
func roomy(t testing.TB) (n, room api.Net) {
	t.Helper()
	room = base(t)
	n = api.Net{Nodes: make([]api.Node, 3, 4), Letters: append(room.Letters, api.Letter{To: 7}, api.Letter{To: 8})[:3]}
	n.Nodes[:4][3] = fresher(t, "behind", "c", 1)
	for i := range room.Nodes {
		x := &room.Nodes[i]
		a, b, c, d, e := len(x.Members), len(x.Rumors), len(x.Services), len(x.Gateways), len(x.Where)
		x.Members, x.Rumors = append(x.Members, api.Member{Life: 7}), append(x.Rumors, api.Rumor{Told: 7})
		x.Services, x.Gateways, x.Where = append(x.Services, api.Service{Port: 7}), append(x.Gateways, api.Gateway{Version: 7}), append(x.Where, api.Where{Node: "z"})
		n.Nodes[i] = *x
		y := &n.Nodes[i]
		y.Members, y.Rumors, y.Services, y.Gateways, y.Where = y.Members[:a], y.Rumors[:b], y.Services[:c], y.Gateways[:d], y.Where[:e]
	}
	room.Letters = n.Letters[:5]
	return n, room
}

// spoil all memory that a list has.
func spoil(lists ...any) {
	for _, l := range lists {
		v := reflect.ValueOf(l)
		v = v.Slice(0, v.Cap())
		for i := range v.Len() {
			v.Index(i).SetZero()
		}
	}
}

func spoilNet(n api.Net) {
	for _, x := range n.Nodes {
		spoil(x.Members, x.Rumors, x.Services, x.Gateways, x.Where)
	}
	spoil(n.Nodes, n.Letters)
}

// P2, P3: what is handed in is only read, the room behind its lists too; what is answered shares no memory with it; and it is the same each time.
func TestNetsAreOnlyRead(t *testing.T) {
	calls := []func(n api.Net) (api.Net, api.Errno){
		func(n api.Net) (api.Net, api.Errno) { return New(n.Nodes) },
		func(n api.Net) (api.Net, api.Errno) { _, e := Agree(n); return api.Net{}, e },
		func(n api.Net) (api.Net, api.Errno) { return api.Net{}, Check(n) },
	}
	for _, e := range steps() {
		calls = append(calls, func(n api.Net) (api.Net, api.Errno) { return Step(n, e) })
	}
	for i, call := range calls {
		n, room := roomy(t)
		_, was := roomy(t)
		x, e := call(n)
		again, f := call(n)
		if !same(room, was) || n.Nodes[:4][3].Name != "behind" || !same(x, again) || e != f {
			t.Errorf("%d: it is %v %d, then %v %d; handed in was %v", i, x, e, again, f, room)
		}
		spoilNet(x)
		if x, _ := call(n); !same(room, was) || !same(x, again) {
			t.Errorf("%d: what was answered shares memory", i)
		}
	}
}

// P2: no two lists of an answer share memory, though those that were handed in did.
func TestNodesShareNoMemory(t *testing.T) {
	n := api.Net{Nodes: []api.Node{fresher(t, "a", "c", 1), fresher(t, "b", "c", 2)}}
	all := []api.Member{n.Nodes[0].Members[0], n.Nodes[1].Members[0]}
	places := []api.Where{{Node: "q"}}
	for i := range n.Nodes {
		n.Nodes[i].Members, n.Nodes[i].Where = all, places
	}
	made, e := New(n.Nodes)
	next, f := Step(n, api.Event{Kind: api.EventOpen, N: 1})
	if e != api.OK || f != api.OK {
		t.Fatalf("it is %d %d", e, f)
	}
	for _, x := range []api.Net{made, next} {
		spoil(x.Nodes[0].Members, x.Nodes[0].Where)
		if !slices.Equal(x.Nodes[1].Members, all) || !slices.Equal(x.Nodes[1].Where, places) {
			t.Errorf("it is %v", x.Nodes[1])
		}
	}
}

// K1, P1: whatever bytes lie in a letter: they can be read, or that is told.
func FuzzLetter(f *testing.F) {
	for _, l := range base(f).Letters {
		f.Add(l.Text)
	}
	f.Add("1;a0;0;0;0;0;")
	f.Add(strings.Repeat("9", 40) + ";")
	f.Fuzz(func(t *testing.T, text string) {
		n := turned(t, func(n *api.Net) { n.Letters = append(n.Letters, api.Letter{To: 1, Text: text}) })
		p, unread := packet.Read(text)
		next, e := Step(n, api.Event{Kind: api.EventCome, Which: 3})
		if unread != api.OK {
			if e != api.ErrForm || Check(n) != api.ErrForm || !same(next, api.Net{}) {
				t.Errorf("%q: it is %v %d", text, next, e)
			}
			return
		}
		if heard, why := node.Hear(n.Nodes[1], p); why == api.OK {
			n.Nodes[1] = heard
		}
		n.Letters = n.Letters[:3]
		if e != api.OK || !same(next, n) {
			t.Errorf("%q: it is %v %d, and must be %v", text, next, e, n)
		}
	})
}
