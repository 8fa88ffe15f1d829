package node

import (
	"fmt"
	"reflect"
	"slices"
	"strings"
	"testing"

	"hearsay/api"
	"hearsay/fresh"
)

const maxAddress = 1<<32 - 1

var long = strings.Repeat("l", api.MaxLabel)

func noLabels() []string { return []string{"", "A", "a.b", "a ", "é", long + "l"} }

func one(name string, state, life int) api.Member {
	return api.Member{Name: name, State: state, Life: life}
}

// base knows members of each state, and something of all else.
func base() api.Node {
	return api.Node{
		Name:   "me",
		Centre: "here",
		Members: []api.Member{
			{Name: "a", State: api.StateAlive, Life: 2, Address: 21, Server: true},
			{Name: "b", State: api.StateSuspect, Life: 1, Address: 22, Server: true},
			{Name: "d", State: api.StateDead, Life: 5, Address: 23},
			{Name: "e", State: api.StateLeft, Life: 1, Address: 24},
			{Name: "me", State: api.StateAlive, Life: 3, Address: 25, Server: true},
		},
		Rumors: []api.Rumor{{Member: one("e", api.StateAlive, 1), Told: 2}, {Member: api.Member{Name: "b", State: api.StateSuspect, Life: 1, Address: 22, Server: true}, Told: 1}},
		Services: []api.Service{
			{Node: "a", ID: "i", Name: "web", Address: 31, Passing: true, Version: 4},
			{Node: "me", ID: "i", Name: "web", Tag: "t", Address: 32, Port: 80, Passing: true, Version: 2},
			{Node: "me", ID: "j", Name: "db", Address: 33, Version: 7, Gone: true},
		},
		Gateways: []api.Gateway{{Centre: "here", Address: 41, Version: 3}, {Centre: "there", Address: 42, Version: 1}},
		Place:    api.Place{X: 5, Y: -6, Z: 7, Height: 8, Sure: 500},
		Where:    []api.Where{{Node: "a", Place: api.Place{X: 100, Sure: 10}}, {Node: "q", Place: api.Place{Y: 200}}},
	}
}

// turned is base, but for one thing.
func turned(turn func(n *api.Node)) api.Node {
	n := base()
	turn(&n)
	return n
}

// same tells whether two nodes are, where a list that is empty may be nil or not.
func same(a, b api.Node) bool {
	return a.Name == b.Name && a.Centre == b.Centre && a.Place == b.Place && slices.Equal(a.Members, b.Members) && slices.Equal(a.Rumors, b.Rumors) &&
		slices.Equal(a.Services, b.Services) && slices.Equal(a.Gateways, b.Gateways) && slices.Equal(a.Where, b.Where)
}

func samePacket(a, b api.Packet) bool {
	return a.From == b.From && a.Whole == b.Whole && slices.Equal(a.Members, b.Members) && slices.Equal(a.Services, b.Services) && slices.Equal(a.Gateways, b.Gateways) && slices.Equal(a.Where, b.Where)
}

// becomes asks for a node, and no error.
func becomes(t *testing.T, what any, n api.Node, e api.Errno, want api.Node) {
	t.Helper()
	if !same(n, want) || e != api.OK || Check(n) != api.OK {
		t.Errorf("%v: it is\n%v %d, and must be\n%v", what, n, e, want)
	}
}

// fails asks for an error, and no node.
func fails(t *testing.T, what any, n api.Node, e, want api.Errno) {
	t.Helper()
	if !same(n, api.Node{}) || e != want {
		t.Errorf("%v: it is %v %d, and must be %d", what, n, e, want)
	}
}

// J1: it knows itself alone.
func TestNew(t *testing.T) {
	for _, name := range []string{"a", "-", long} {
		for _, address := range []int{0, 7, maxAddress} {
			for _, server := range []bool{false, true} {
				n, e := New(name, "c", address, server)
				becomes(t, name, n, e, api.Node{Name: name, Centre: "c", Members: []api.Member{{Name: name, State: api.StateAlive, Life: 1, Address: address, Server: server}}, Place: api.Place{Sure: 1000}})
			}
		}
	}
}

func TestNewErrors(t *testing.T) {
	for _, text := range noLabels() {
		for _, address := range []int{-1, 1, maxAddress + 1} {
			n, e := New(text, "c", address, true)
			fails(t, text, n, e, api.ErrForm)
			n, e = New("a", text, address, true)
			fails(t, text, n, e, api.ErrForm)
		}
	}
	for _, address := range []int{-1, maxAddress + 1, -1 << 63, 1<<63 - 1} {
		n, e := New("a", "c", address, true)
		fails(t, address, n, e, api.ErrRange)
	}
}

func rightNodes() []api.Node {
	return []api.Node{
		base(), full(), {Name: "a", Centre: "a", Members: []api.Member{one("a", 1, 1)}}, {Name: long, Centre: long, Members: []api.Member{one(long, 4, api.MaxLife)}},
		turned(func(n *api.Node) { n.Members[4].State = api.StateLeft }), turned(func(n *api.Node) { n.Rumors = nil }),
		turned(func(n *api.Node) { n.Rumors = append(n.Rumors, api.Rumor{Member: n.Members[4], Told: 100}) }),
		turned(func(n *api.Node) { n.Rumors = append(n.Rumors, api.Rumor{Member: one("me", 2, 2)}) }),
		turned(func(n *api.Node) { n.Rumors = append(n.Rumors, api.Rumor{Member: one("me", 1, 3)}) }),
		turned(func(n *api.Node) { n.Where = append(n.Where[:1], api.Where{Node: "me"}) }),
		turned(func(n *api.Node) { n.Gateways, n.Services, n.Where = nil, nil, nil }),
		turned(func(n *api.Node) { n.Place = api.Place{X: -api.MaxPlace, Height: api.MaxHeight, Sure: api.MaxSure} }),
	}
}

// full knows as much as it may.
func full() api.Node {
	n := api.Node{Name: "m100", Centre: "c"}
	for i := range api.MaxMembers {
		m := api.Member{Name: fmt.Sprint("m", 100+i), State: api.StateAlive, Life: 5}
		n.Members = append(n.Members, m)
		n.Rumors = append(n.Rumors, api.Rumor{Member: m, Told: i})
	}
	for i := range api.MaxServices {
		n.Services = append(n.Services, api.Service{Node: "m100", ID: fmt.Sprint("i", 100+i), Name: "web", Address: i, Passing: true, Version: 1})
	}
	for i := range api.MaxCentres {
		n.Gateways = append(n.Gateways, api.Gateway{Centre: fmt.Sprint("c", i), Address: i, Version: 1})
	}
	for i := range api.MaxWhere {
		n.Where = append(n.Where, api.Where{Node: fmt.Sprint("m", 200+i), Place: api.Place{X: i}})
	}
	return n
}

func wrongNodes() map[api.Errno][]api.Node {
	return map[api.Errno][]api.Node{
		api.ErrForm: {
			{}, turned(func(n *api.Node) { n.Name = "" }), turned(func(n *api.Node) { n.Centre = "C" }), turned(func(n *api.Node) { n.Members[0].Name = "" }),
			turned(func(n *api.Node) { n.Rumors[1].Member.Name = "B" }), turned(func(n *api.Node) { n.Services[2].Tag = "." }),
			turned(func(n *api.Node) { n.Gateways[0].Centre = "" }), turned(func(n *api.Node) { n.Where[1].Node = "" }),
			turned(func(n *api.Node) { n.Name, n.Members[0].State = "Me", 5 }), turned(func(n *api.Node) { n.Centre, n.Members[0].State = "", 5 }),
		},
		api.ErrMany: {
			turned(func(n *api.Node) { n.Members = make([]api.Member, 21) }), turned(func(n *api.Node) { n.Rumors = make([]api.Rumor, 21) }),
			turned(func(n *api.Node) { n.Services = make([]api.Service, 41) }), turned(func(n *api.Node) { n.Gateways = make([]api.Gateway, 7) }),
			turned(func(n *api.Node) { n.Where = make([]api.Where, 21) }),
		},
		api.ErrKind:  {turned(func(n *api.Node) { n.Members[0].State = 5 }), turned(func(n *api.Node) { n.Rumors[0].Member.State = 0 })},
		api.ErrTwice: {turned(func(n *api.Node) { n.Rumors[0].Member.Name = "b" })},
		api.ErrRange: {
			turned(func(n *api.Node) { n.Members[4].Life = 0 }), turned(func(n *api.Node) { n.Rumors[1].Told = 101 }), turned(func(n *api.Node) { n.Services[0].Port = -1 }),
			turned(func(n *api.Node) { n.Gateways[1].Version = 0 }), turned(func(n *api.Node) { n.Place.Sure = 1001 }), turned(func(n *api.Node) { n.Where[0].Place.Height = -1 }),
		},
		api.ErrNone: {
			turned(func(n *api.Node) { n.Name = "q" }), turned(func(n *api.Node) { n.Members = n.Members[:4] }), turned(func(n *api.Node) { n.Members, n.Rumors = nil, nil }),
			turned(func(n *api.Node) { n.Name, n.Rumors[0].Member.Life = "m", 9 }),
		},
		api.ErrState: {
			turned(func(n *api.Node) { n.Members[4].State = api.StateSuspect }), turned(func(n *api.Node) { n.Members[4].State = api.StateDead }),
			turned(func(n *api.Node) { n.Members[1].Name = "a" }), turned(func(n *api.Node) { n.Services[2].ID = "i" }),
			turned(func(n *api.Node) { n.Gateways[1].Centre = "h" }), turned(func(n *api.Node) { n.Where[1].Node = "a" }),
			turned(func(n *api.Node) { n.Rumors[0].Member.Name = "q" }), turned(func(n *api.Node) { n.Rumors[1].Member.State = api.StateDead }),
			turned(func(n *api.Node) { n.Rumors[1].Member.Life = 2 }), turned(func(n *api.Node) { n.Rumors[1].Member.Address = 23 }),
			turned(func(n *api.Node) { n.Members[1].Server = false }), turned(func(n *api.Node) { n.Rumors = append(n.Rumors, api.Rumor{Member: one("me", 1, 4)}) }),
		},
	}
}

// J1.
func TestCheck(t *testing.T) {
	for _, n := range rightNodes() {
		if e := Check(n); e != api.OK {
			t.Errorf("%v: it is %d, and must be %d", n, e, api.OK)
		}
	}
	for why, nodes := range wrongNodes() {
		for _, n := range nodes {
			if e := Check(n); e != why {
				t.Errorf("%v: it is %d, and must be %d", n, e, why)
			}
		}
	}
}

// step: what is wrong first, and how that is mended.
type step struct {
	why  api.Errno
	mend func()
}

func mendsOf(n *api.Node) []step {
	good := base()
	rumor := func(name string, state, life, told int) api.Rumor {
		return api.Rumor{Member: one(name, state, life), Told: told}
	}
	return []step{
		{api.ErrForm, func() { n.Name = "m" }},
		{api.ErrForm, func() { n.Centre = "here" }},
		{api.ErrMany, func() { n.Members = []api.Member{one("m", 3, 2), one("b", 0, 0), one("", 0, 0)} }},
		{api.ErrKind, func() { n.Members[1].State = 1 }},
		{api.ErrRange, func() { n.Members[1].Life = 1 }},
		{api.ErrForm, func() { n.Members = n.Members[:2] }},
		{api.ErrState, func() { n.Members = []api.Member{one("mm", 3, 2)} }},
		{api.ErrMany, func() { n.Rumors = []api.Rumor{rumor("mm", 9, 3, -1), rumor("mm", 1, 0, 1)} }},
		{api.ErrKind, func() { n.Rumors[0].Member.State = 1 }},
		{api.ErrRange, func() { n.Rumors[1].Member.Life = 1 }},
		{api.ErrRange, func() { n.Rumors[0].Told = 0 }},
		{api.ErrTwice, func() { n.Rumors[1].Member.Name = "x" }},
		{api.ErrMany, func() { n.Services = n.Services[:1] }},
		{api.ErrForm, func() { n.Services = slices.Repeat(good.Services, 2) }},
		{api.ErrState, func() { n.Services = good.Services }},
		{api.ErrMany, func() { n.Gateways = n.Gateways[:1] }},
		{api.ErrForm, func() { n.Gateways = slices.Repeat(good.Gateways, 2) }},
		{api.ErrState, func() { n.Gateways = good.Gateways }},
		{api.ErrRange, func() { n.Place = good.Place }},
		{api.ErrMany, func() { n.Where = []api.Where{{Node: "z", Place: api.Place{Sure: -1}}, {Node: "", Place: api.Place{}}} }},
		{api.ErrRange, func() { n.Where[0].Place.Sure = 0 }},
		{api.ErrForm, func() { n.Where[1].Node = "y" }},
		{api.ErrState, func() { n.Where = good.Where }},
		{api.ErrNone, func() { n.Name = "mm" }},
		{api.ErrState, func() { n.Members[0].State = 1 }},
		{api.ErrState, func() { n.Rumors[0].Member.Life = 2 }},
		{api.ErrState, func() { n.Rumors = n.Rumors[:1] }},
	}
}

// worst has all that may be wrong in a node.
func worst() api.Node {
	return api.Node{Members: make([]api.Member, 21), Rumors: make([]api.Rumor, 21), Services: make([]api.Service, 41), Gateways: make([]api.Gateway, 7), Place: api.Place{X: 1 << 40}, Where: make([]api.Where, 21)}
}

// J1: the errors come in order: each thing that is mended lets the next one be told.
func TestErrorsInOrder(t *testing.T) {
	n := worst()
	for i, x := range mendsOf(&n) {
		if e := Check(n); e != x.why {
			t.Errorf("%d: it is %d, and must be %d", i, e, x.why)
		}
		x.mend()
	}
	if e := Check(n); e != api.OK {
		t.Errorf("nothing is wrong any more: it is %d", e)
	}
}

// changes are calls that answer a node: with arguments that are right for base, and others that are wrong.
func changes() map[string]func(n api.Node) (api.Node, api.Errno) {
	type call = func(n api.Node) (api.Node, api.Errno)
	said := api.Packet{From: "a", Members: []api.Member{one("b", 3, 1), one("me", 3, 3), one("zz", 1, 1)}}
	whole, _ := Whole(full())
	whole.Members = slices.Clone(base().Members)
	whole.Members[0].Life, whole.Services, whole.Where = 9, whole.Services[:9], whole.Where[:9]
	whole.Gateways = []api.Gateway{{Centre: "here", Address: 1, Version: 9}, {Centre: "hi", Address: 1, Version: 1}}
	return map[string]call{
		"Tell":        func(n api.Node) (api.Node, api.Errno) { x, _, e := Tell(n); return x, e },
		"Hear":        func(n api.Node) (api.Node, api.Errno) { return Hear(n, said) },
		"Hear all":    func(n api.Node) (api.Node, api.Errno) { return Hear(n, whole) },
		"Hear none":   func(n api.Node) (api.Node, api.Errno) { return Hear(n, api.Packet{From: "a"}) },
		"Hear wrong":  func(n api.Node) (api.Node, api.Errno) { return Hear(n, api.Packet{}) },
		"Doubt":       func(n api.Node) (api.Node, api.Errno) { return Doubt(n, "a") },
		"Doubt wrong": func(n api.Node) (api.Node, api.Errno) { return Doubt(n, "") },
		"Bury":        func(n api.Node) (api.Node, api.Errno) { return Bury(n, "b") },
		"Bury wrong":  func(n api.Node) (api.Node, api.Errno) { return Bury(n, "") },
		"Leave":       Leave,
		"Trace":       func(n api.Node) (api.Node, api.Errno) { return Trace(n, "b", api.Place{X: 9}, 500) },
		"Trace again": func(n api.Node) (api.Node, api.Errno) { return Trace(n, "a", api.Place{X: 9}, 500) },
		"Trace wrong": func(n api.Node) (api.Node, api.Errno) { return Trace(n, "", api.Place{Sure: -1}, 0) },
		"Serve":       func(n api.Node) (api.Node, api.Errno) { return Serve(n, api.Service{Node: "me", ID: "k", Name: "s"}) },
		"Serve again": func(n api.Node) (api.Node, api.Errno) { return Serve(n, api.Service{Node: "me", ID: "i", Name: "s"}) },
		"Serve wrong": func(n api.Node) (api.Node, api.Errno) { return Serve(n, api.Service{}) },
		"Drop":        func(n api.Node) (api.Node, api.Errno) { return Drop(n, "i") },
		"Drop wrong":  func(n api.Node) (api.Node, api.Errno) { return Drop(n, "") },
		"Open":        func(n api.Node) (api.Node, api.Errno) { return Open(n, 9) },
		"Open wrong":  func(n api.Node) (api.Node, api.Errno) { return Open(n, -1) },
	}
}

// J1, P1: all others tell what Check says ahead of their own errors, and nothing with it.
func TestWrongNodesAreToldFirst(t *testing.T) {
	for why, nodes := range wrongNodes() {
		for _, n := range nodes {
			for name, change := range changes() {
				x, e := change(n)
				fails(t, name, x, e, why)
			}
			if _, p, e := Tell(n); !samePacket(p, api.Packet{}) || e != why {
				t.Errorf("Tell %v: it is %v %d, and must be %d", n, p, e, why)
			}
			if p, e := Whole(n); !samePacket(p, api.Packet{}) || e != why {
				t.Errorf("Whole %v: it is %v %d, and must be %d", n, p, e, why)
			}
			for _, text := range []string{"", asking(t, "web.service.mesh"), asking(t, "web.service.there.mesh")} {
				if s, to, ok, e := Ask(n, text); s != "" || to != 0 || ok || e != why {
					t.Errorf("Ask %v: it is %q %d %v %d, and must be %d", n, s, to, ok, e, why)
				}
			}
		}
	}
}

// roomy has something in the room behind each of its lists.
func roomy() (n, room api.Node) {
	room = base()
	room.Members = append(room.Members, one("y", 1, 1), one("z", 1, 1))
	room.Rumors = append(room.Rumors, api.Rumor{Told: 7}, api.Rumor{Told: 8})
	room.Services = append(room.Services, api.Service{Port: 7}, api.Service{Port: 8})
	room.Gateways = append(room.Gateways, api.Gateway{Version: 7}, api.Gateway{Version: 8})
	room.Where = append(room.Where, api.Where{Node: "y"}, api.Where{Node: "z"})
	n, b := room, base()
	n.Members, n.Rumors, n.Services, n.Gateways, n.Where = n.Members[:len(b.Members)], n.Rumors[:len(b.Rumors)], n.Services[:len(b.Services)], n.Gateways[:len(b.Gateways)], n.Where[:len(b.Where)]
	return n, room
}

// spoil all memory that an answer has.
func spoil(lists ...any) {
	for _, l := range lists {
		v := reflect.ValueOf(l)
		v = v.Slice(0, v.Cap())
		for i := range v.Len() {
			v.Index(i).SetZero()
		}
	}
}

func spoilNode(n api.Node) { spoil(n.Members, n.Rumors, n.Services, n.Gateways, n.Where) }

func spoilPacket(p api.Packet) { spoil(p.Members, p.Services, p.Gateways, p.Where) }

// P2, P3: what is handed in is only read, the room behind its lists too; what is answered shares no memory with it; and it is the same each time.
func TestNodesAreOnlyRead(t *testing.T) {
	for name, change := range changes() {
		n, room := roomy()
		_, was := roomy()
		x, e := change(n)
		again, f := change(n)
		if !same(room, was) || !same(x, again) || e != f || strings.HasSuffix(name, "wrong") == (e == api.OK) {
			t.Errorf("%s: it is %v %d, then %v %d; handed in was %v", name, x, e, again, f, room)
		}
		spoilNode(x)
		if x, _ := change(n); !same(room, was) || !same(x, again) {
			t.Errorf("%s: what was answered shares memory", name)
		}
	}
}

// P2: what was heard is not kept so that a later change of it would be seen.
func TestPacketsAreOnlyRead(t *testing.T) {
	p, _ := Whole(full())
	p.Members, p.Where = p.Members[:5], p.Where[:5]
	n, e := New("me", "here", 1, false)
	for range 2 {
		was, _ := Whole(full())
		n, e = Hear(n, p)
		if e != api.OK || !slices.Equal(p.Members[:20], was.Members) || !slices.Equal(p.Where[:20], was.Where) || !slices.Equal(p.Services, was.Services) || !slices.Equal(p.Gateways, was.Gateways) {
			t.Errorf("it is %d, and changed: %v", e, p)
		}
	}
	was := fresh.Node(n)
	spoilPacket(p)
	if !same(n, was) {
		t.Errorf("it is %v, and was %v", n, was)
	}
}

// P2: no two lists of an answer share memory.
func TestPacketsAreNew(t *testing.T) {
	n, room := roomy()
	_, was := roomy()
	next, told, _ := Tell(n)
	nextWas := fresh.Node(next)
	spoilPacket(told)
	whole, _ := Whole(n)
	spoilPacket(whole)
	if !same(next, nextWas) || !same(room, was) {
		t.Errorf("it is %v, and %v", next, room)
	}
	spoilNode(next)
	if !same(room, was) {
		t.Errorf("it is %v", room)
	}
}
