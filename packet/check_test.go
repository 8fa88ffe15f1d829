package packet

import (
	"fmt"
	"slices"
	"strings"
	"testing"

	"hearsay/api"
)

var long = strings.Repeat("l", api.MaxLabel)

func one(name string, state, life int) api.Member {
	return api.Member{Name: name, State: state, Life: life}
}

// base is whole, and each of its fields has something of its own in it.
func base() api.Packet {
	return api.Packet{
		From:  "from",
		Whole: true,
		Members: []api.Member{
			{Name: "a", State: 1, Life: 10, Address: 11},
			{Name: "bb", State: 4, Life: 12, Address: 1<<32 - 1, Server: true},
		},
		Services: []api.Service{
			{Node: "c", ID: "d", Name: "e", Tag: "f", Address: 20, Port: 21, Passing: true, Version: 22},
			{Node: "c", ID: "dd", Name: "ee", Address: 23, Port: 24, Version: 25, Gone: true},
		},
		Gateways: []api.Gateway{{Centre: "g", Address: 30, Version: 31}, {Centre: "h", Address: 32, Version: 33}},
		Where: []api.Where{
			{Node: "i", Place: api.Place{X: -40, Y: 41, Z: -42, Height: 43, Sure: 44}},
			{Node: "j", Place: api.Place{X: 45, Y: -46, Z: 47, Height: 0, Sure: 1000}},
		},
	}
}

// told is a packet of rumors.
func told(l ...api.Member) api.Packet { return api.Packet{From: "a", Members: l} }

// pool of n members that rise.
func pool(n int) []api.Member {
	var l []api.Member
	for i := range n {
		l = append(l, one(fmt.Sprint("m", 100+i), 1, 1))
	}
	return l
}

// places of n nodes that rise.
func places(n int) []api.Where {
	var l []api.Where
	for i := range n {
		l = append(l, api.Where{Node: fmt.Sprint("n", 100+i), Place: api.Place{X: i}})
	}
	return l
}

// full has as many of all as there may be, each name as long as it may be.
func full() api.Packet {
	name := func(i int) string { return fmt.Sprint(100+i) + long[3:] }
	p := api.Packet{From: long, Whole: true}
	for i := range api.MaxMembers {
		p.Members = append(p.Members, api.Member{Name: name(i), State: 4, Life: api.MaxLife, Address: 1<<32 - 1, Server: true})
	}
	for i := range api.MaxServices {
		p.Services = append(p.Services, api.Service{Node: name(i), ID: long, Name: long, Tag: long, Address: 1<<32 - 1, Port: 65535, Passing: true, Version: api.MaxVersion, Gone: true})
	}
	for i := range api.MaxCentres {
		p.Gateways = append(p.Gateways, api.Gateway{Centre: name(i), Address: 1<<32 - 1, Version: api.MaxVersion})
	}
	for i := range api.MaxWhere {
		p.Where = append(p.Where, api.Where{Node: name(i), Place: api.Place{X: -api.MaxPlace, Y: api.MaxPlace, Z: -api.MaxPlace, Height: api.MaxHeight, Sure: api.MaxSure}})
	}
	return p
}

func rightPackets() []api.Packet {
	return []api.Packet{
		{From: "a"}, {From: long}, {From: "a", Whole: true}, base(), full(),
		told(pool(5)...), told(one("b", 1, 1), one("a", 4, api.MaxLife)), told(one("a", 2, 1)),
		{From: "a", Whole: true, Members: pool(6)}, {From: "a", Whole: true, Members: pool(20)}, {From: "a", Whole: true, Where: places(20)},
		{From: "a", Members: []api.Member{}, Services: []api.Service{}, Gateways: []api.Gateway{}, Where: []api.Where{}},
		{From: "a", Whole: true, Where: []api.Where{{Node: "-"}, {Node: "0"}, {Node: "_"}, {Node: "a"}, {Node: "aa"}, {Node: "b"}}},
	}
}

// turned is base, but for one thing.
func turned(turn func(p *api.Packet)) api.Packet {
	p := base()
	turn(&p)
	return p
}

func wrongPackets() map[api.Errno][]api.Packet {
	b := base()
	return map[api.Errno][]api.Packet{
		api.ErrForm: {
			{}, {From: "A"}, {From: "a.b"}, {From: long + "l"}, {Whole: true}, {From: "", Members: pool(6)},
			{From: "a", Services: b.Services}, {From: "a", Gateways: b.Gateways}, {From: "a", Where: b.Where},
			{From: "a", Members: pool(6), Services: make([]api.Service, 1)}, {From: "a", Members: []api.Member{one("b", 0, 1)}, Where: make([]api.Where, 1)},
			told(one("", 1, 1)), told(one("a", 1, 1), one("a", 1, 1), one("B", 0, 1)),
			turned(func(p *api.Packet) { p.Members[1].Name = "" }), turned(func(p *api.Packet) { p.Services[1].Tag = "." }),
			turned(func(p *api.Packet) { p.Gateways[0].Centre = "G" }), turned(func(p *api.Packet) { p.Where[1].Node = "" }),
			turned(func(p *api.Packet) { p.Where[0].Node = long + "l" }), turned(func(p *api.Packet) { p.Where[0], p.Where[1].Node = p.Where[1], "" }),
		},
		api.ErrMany: {
			told(pool(6)...), told(make([]api.Member, 6)...), told(slices.Repeat([]api.Member{one("a", 1, 1)}, 6)...),
			turned(func(p *api.Packet) { p.Members = pool(21) }), turned(func(p *api.Packet) { p.Services = make([]api.Service, 41) }),
			turned(func(p *api.Packet) { p.Gateways = make([]api.Gateway, 7) }), turned(func(p *api.Packet) { p.Where = places(21) }),
			turned(func(p *api.Packet) { p.Where = make([]api.Where, 21) }),
		},
		api.ErrKind:  {told(one("a", 0, 1)), told(one("a", 1, 1), one("b", 5, 0)), turned(func(p *api.Packet) { p.Members[0].State = 5 })},
		api.ErrTwice: {told(one("a", 1, 1), one("a", 1, 1)), told(one("a", 1, 1), one("b", 1, 1), one("c", 1, 1), one("a", 2, 7))},
		api.ErrRange: {
			told(one("a", 1, 0)), told(one("a", 1, 1), one("a", 1, api.MaxLife+1)), told(api.Member{Name: "a", State: 1, Life: 1, Address: -1}),
			turned(func(p *api.Packet) { p.Members[1].Address = 1 << 32 }), turned(func(p *api.Packet) { p.Services[0].Version = 0 }),
			turned(func(p *api.Packet) { p.Gateways[1].Version = api.MaxVersion + 1 }), turned(func(p *api.Packet) { p.Where[0].Place.Sure = -1 }),
			turned(func(p *api.Packet) { p.Where[1].Place.X = api.MaxPlace + 1 }), turned(func(p *api.Packet) { p.Where[0], p.Where[1].Place.Height = p.Where[1], -1 }),
		},
		api.ErrState: {
			turned(func(p *api.Packet) { p.Members[1].Name = "a" }), turned(func(p *api.Packet) { p.Members[0].Name = "c" }),
			turned(func(p *api.Packet) { p.Services[1].ID = "d" }), turned(func(p *api.Packet) { p.Gateways[0].Centre = "i" }),
			turned(func(p *api.Packet) { p.Where[1].Node = "i" }), turned(func(p *api.Packet) { p.Where[1].Node = "h" }), turned(func(p *api.Packet) { p.Where[0].Node = "jj" }),
		},
	}
}

// I1.
func TestCheck(t *testing.T) {
	for _, p := range rightPackets() {
		if e := Check(p); e != api.OK {
			t.Errorf("%v: it is %d, and must be %d", p, e, api.OK)
		}
	}
	for why, packets := range wrongPackets() {
		for _, p := range packets {
			if e := Check(p); e != why {
				t.Errorf("%v: it is %d, and must be %d", p, e, why)
			}
		}
	}
}

// step: what is wrong first, and how that is mended.
type step struct {
	why  api.Errno
	mend func()
}

func mendsOf(p *api.Packet) []step {
	good := base()
	return []step{
		{api.ErrForm, func() { p.From = "From" }},
		{api.ErrForm, func() { p.From = "from" }},
		{api.ErrForm, func() { p.Whole = true }},
		{api.ErrMany, func() { p.Members = p.Members[:20] }},
		{api.ErrForm, func() { p.Members = []api.Member{good.Members[1], one("a", 0, 0)} }},
		{api.ErrKind, func() { p.Members[1].State = 1 }},
		{api.ErrRange, func() { p.Members[1].Life = 1 }},
		{api.ErrState, func() { p.Members = good.Members }},
		{api.ErrMany, func() { p.Services = []api.Service{{}} }},
		{api.ErrForm, func() {
			p.Services = []api.Service{good.Services[1], good.Services[0], {Node: "n", ID: "i", Name: "s"}}
		}},
		{api.ErrRange, func() { p.Services[2].Version = 1 }},
		{api.ErrState, func() { p.Services = good.Services }},
		{api.ErrMany, func() { p.Gateways = []api.Gateway{{}} }},
		{api.ErrForm, func() { p.Gateways = []api.Gateway{good.Gateways[1], good.Gateways[0], {Centre: "c"}} }},
		{api.ErrRange, func() { p.Gateways[2].Version = 1 }},
		{api.ErrState, func() { p.Gateways = good.Gateways }},
		{api.ErrMany, func() {
			p.Where = []api.Where{{Node: "n", Place: api.Place{Sure: -1}}, {Place: api.Place{X: 1 << 40}}, {Node: "n"}}
		}},
		{api.ErrRange, func() { p.Where[0].Place.Sure = 0 }},
		{api.ErrForm, func() { p.Where[1].Node = "n" }},
		{api.ErrRange, func() { p.Where[1].Place.X = 0 }},
		{api.ErrState, func() { p.Where[1].Node = "nn" }},
		{api.ErrState, func() { p.Where[2].Node = "nnn" }},
	}
}

// I1, I2: the errors come in order: each thing that is mended lets the next one be told.
func TestErrorsInOrder(t *testing.T) {
	p := api.Packet{Members: make([]api.Member, 21), Services: make([]api.Service, 41), Gateways: make([]api.Gateway, 7), Where: make([]api.Where, 21)}
	for i, x := range mendsOf(&p) {
		if s, e := Write(p); s != "" || e != x.why || Check(p) != x.why {
			t.Errorf("%d: it is %q %d %d, and must be %d", i, s, e, Check(p), x.why)
		}
		x.mend()
	}
	if s, e := Write(p); s == "" || e != api.OK {
		t.Errorf("nothing is wrong any more: it is %q %d", s, e)
	}
}

// I1: of rumors: how many, then each by itself, and then whether two have one name.
func TestErrorsOfRumorsInOrder(t *testing.T) {
	p := told(make([]api.Member, 6)...)
	for i, x := range []step{
		{api.ErrMany, func() { p.Members = []api.Member{one("b", 9, 1), one("b", 1, 0), one("", 1, 1)} }},
		{api.ErrKind, func() { p.Members[0].State = 1 }},
		{api.ErrRange, func() { p.Members[1].Life = 1 }},
		{api.ErrForm, func() { p.Members[2].Name = "a" }},
		{api.ErrTwice, func() { p.Members[1].Name = "c" }},
		{api.OK, func() {}},
	} {
		if e := Check(p); e != x.why {
			t.Errorf("%d: it is %d, and must be %d", i, e, x.why)
		}
		x.mend()
	}
}
