package node

import (
	"fmt"
	"slices"
	"testing"

	"hearsay/api"
	"hearsay/fresh"
	"hearsay/packet"
	"hearsay/place"
)

// J3: all that it knows; what is on its way to be told is not part of it.
func TestWhole(t *testing.T) {
	for _, n := range rightNodes() {
		p, e := Whole(n)
		if !samePacket(p, api.Packet{From: n.Name, Whole: true, Members: n.Members, Services: n.Services, Gateways: n.Gateways, Where: n.Where}) || e != api.OK || packet.Check(p) != api.OK {
			t.Errorf("%v: it is %v %d", n, p, e)
		}
	}
}

// J4: members are spread, services and gateways joined, and places learnt of which none was known.
func TestHearAll(t *testing.T) {
	b := base()
	p := api.Packet{
		From: "a", Whole: true,
		Members:  []api.Member{one("a", 1, 3), one("c", 1, 1), one("me", 2, 3)},
		Services: []api.Service{{Node: "a", ID: "i", Name: "old", Version: 3}, {Node: "a", ID: "k", Name: "web", Version: 1}, {Node: "me", ID: "i", Name: "x", Version: 2, Gone: true}},
		Gateways: []api.Gateway{{Centre: "far", Address: 1, Version: 1}, {Centre: "here", Address: 99, Version: 2}, {Centre: "there", Address: 43, Version: 1}},
		Where:    []api.Where{{Node: "a", Place: api.Place{X: 1}}, {Node: "b", Place: api.Place{X: 2}}, {Node: "me", Place: api.Place{X: 3}}, {Node: "z", Place: api.Place{X: 4}}},
	}
	want := base()
	want.Members = []api.Member{one("a", 1, 3), b.Members[1], one("c", 1, 1), b.Members[2], b.Members[3], one("me", 1, 4)}
	want.Rumors = append(want.Rumors, api.Rumor{Member: one("a", 1, 3)}, api.Rumor{Member: one("c", 1, 1)}, api.Rumor{Member: one("me", 1, 4)})
	want.Services = []api.Service{b.Services[0], p.Services[1], p.Services[2], b.Services[2]}
	want.Gateways = []api.Gateway{p.Gateways[0], b.Gateways[0], p.Gateways[2]}
	want.Where = []api.Where{b.Where[0], p.Where[1], p.Where[2], b.Where[1], p.Where[3]}
	n, e := Hear(base(), p)
	becomes(t, p, n, e, want)
	again, e := Hear(n, p)
	becomes(t, "again", again, e, n)
}

// where places are of so many nodes, by names that rise.
func where(first, many int) []api.Where {
	var l []api.Where
	for i := range many {
		l = append(l, api.Where{Node: fmt.Sprint("n", 100+first+i), Place: api.Place{Y: i}})
	}
	return l
}

// J4: places in order, as long as there is room; those behind them may be known, and stay.
func TestHearPlacesWhileThereIsRoom(t *testing.T) {
	for known := range 21 {
		n := base()
		n.Where = where(50, known)
		heard := slices.Concat(where(0, 3), where(49, 3), where(80, 3))
		for i := range heard {
			heard[i].Place.X = 7
		}
		want := slices.Clone(n.Where)
		for _, w := range heard {
			isIt := func(x api.Where) bool { return x.Node == w.Node }
			if len(want) < 20 && !slices.ContainsFunc(want, isIt) {
				want = append(want, w)
			}
		}
		slices.SortFunc(want, byNode)
		x, e := Hear(n, api.Packet{From: "a", Whole: true, Where: heard})
		n.Where = want
		becomes(t, known, x, e, n)
	}
}

// J4: what Check of chapter 9 says, then those of spreading, and then of joining, services first.
func TestHearErrors(t *testing.T) {
	p := api.Packet{Members: []api.Member{one("z", 1, 1)}, Services: []api.Service{{Node: "z", ID: "z", Name: "z", Version: 1}}, Gateways: []api.Gateway{{Centre: "z", Version: 1}}, Where: where(0, 1)}
	n := full()
	for i, x := range []step{
		{api.ErrForm, func() { p.From = "a" }},
		{api.ErrForm, func() { p.Whole = true }},
		{api.ErrMany, func() { p.Members = []api.Member{one("m100", 3, api.MaxLife)} }},
		{api.ErrRange, func() { p.Members = nil }},
		{api.ErrMany, func() { n.Services = n.Services[:39] }},
		{api.ErrMany, func() { n.Gateways = n.Gateways[:5] }},
	} {
		got, e := Hear(n, p)
		fails(t, i, got, e, x.why)
		x.mend()
	}
	want := fresh.Node(n)
	want.Services, want.Gateways = append(want.Services, p.Services...), append(want.Gateways, p.Gateways...)
	got, e := Hear(n, p)
	becomes(t, "there is room", got, e, want)
	n.Services = full().Services
	got, e = Hear(n, p)
	fails(t, "there is room for gateways alone", got, e, api.ErrMany)
}

// J4: what Check of chapter 9 says of a packet is told whatever it is, ahead of what spreading it would.
func TestHearWrongPackets(t *testing.T) {
	last := one("m100", 3, api.MaxLife)
	for why, packets := range map[api.Errno][]api.Packet{
		api.ErrForm:  {{}, {From: "A"}, {From: "a", Where: where(0, 1)}, {From: "a", Members: []api.Member{last, one("", 1, 1)}}},
		api.ErrMany:  {{From: "a", Members: make([]api.Member, 6)}, {From: "a", Whole: true, Members: []api.Member{last}, Where: where(0, 21)}},
		api.ErrKind:  {{From: "a", Members: []api.Member{last, one("b", 0, 1)}}},
		api.ErrTwice: {{From: "a", Members: []api.Member{last, last}}},
		api.ErrState: {{From: "a", Whole: true, Members: []api.Member{last, last}}, {From: "a", Whole: true, Members: []api.Member{last}, Where: slices.Repeat(where(0, 1), 2)}},
	} {
		for _, p := range packets {
			n, e := Hear(full(), p)
			fails(t, p, n, e, why)
		}
	}
}

// J6: Place is what Move makes of it, and of that name the place is known, whatever was.
func TestTrace(t *testing.T) {
	for _, name := range []string{"a", "q", "0", "b", "zz", long} {
		for _, round := range []int{1, 300, api.MaxRound} {
			p := api.Place{X: 300, Y: -1, Height: 3, Sure: 20}
			want := base()
			want.Place, _ = place.Move(want.Place, p, round)
			want.Where = slices.DeleteFunc(want.Where, func(w api.Where) bool { return w.Node == name })
			want.Where = append(want.Where, api.Where{Node: name, Place: p})
			slices.SortFunc(want.Where, byNode)
			n, e := Trace(base(), name, p, round)
			becomes(t, name, n, e, want)
		}
	}
}

// J6: ErrForm, what Check says of the place, ErrTwice, ErrRange of the round, ErrMany.
func TestTraceErrors(t *testing.T) {
	bad := api.Place{X: 1, Sure: -1}
	for _, text := range noLabels() {
		n, e := Trace(full(), text, bad, 0)
		fails(t, text, n, e, api.ErrForm)
	}
	for i, x := range []struct {
		name  string
		place api.Place
		round int
		why   api.Errno
	}{
		{"m100", bad, 5, api.ErrRange}, {"m100", api.Place{Height: api.MaxHeight + 1}, 0, api.ErrRange}, {"q", bad, 5, api.ErrRange},
		{"m100", api.Place{}, 0, api.ErrTwice}, {"m100", api.Place{}, 5, api.ErrTwice},
		{"q", api.Place{}, 0, api.ErrRange}, {"q", api.Place{}, -1, api.ErrRange}, {"q", api.Place{}, api.MaxRound + 1, api.ErrRange}, {"m200", api.Place{}, 0, api.ErrRange},
		{"q", api.Place{}, 5, api.ErrMany}, {"a", api.Place{}, 5, api.ErrMany}, {"m101", api.Place{}, api.MaxRound, api.ErrMany},
	} {
		n, e := Trace(full(), x.name, x.place, x.round)
		fails(t, i, n, e, x.why)
	}
}

// J6: there is always room for who is known.
func TestTraceWhenFull(t *testing.T) {
	for i := range 20 {
		want := full()
		want.Where[i].Place = api.Place{Z: 1}
		want.Place, _ = place.Move(want.Place, api.Place{Z: 1}, 5)
		n, e := Trace(full(), want.Where[i].Node, api.Place{Z: 1}, 5)
		becomes(t, i, n, e, want)
	}
	n := full()
	n.Where = n.Where[:19]
	if x, e := Trace(n, "q", api.Place{}, 5); e != api.OK || len(x.Where) != 20 || x.Where[19].Node != "q" {
		t.Errorf("the last one: it is %v %d", x, e)
	}
}

// J6: by one more version, whatever Version and Gone say.
func TestServe(t *testing.T) {
	s := api.Service{Node: "me", Name: "n", Tag: "t", Address: 1, Port: 2, Passing: true, Version: 999, Gone: true}
	for id, x := range map[string]struct{ at, version int }{"0": {1, 1}, "i": {1, 3}, "j": {2, 8}, "k": {3, 1}} {
		s.ID = id
		want := base()
		known := s
		known.Version, known.Gone = x.version, false
		if x.version > 1 {
			want.Services[x.at] = known
		} else {
			want.Services = slices.Insert(want.Services, x.at, known)
		}
		n, e := Serve(base(), s)
		becomes(t, id, n, e, want)
	}
}

// J6: ErrState, then what Register says.
func TestServeErrors(t *testing.T) {
	for _, x := range []struct {
		s   api.Service
		why api.Errno
	}{
		{api.Service{}, api.ErrState}, {api.Service{Node: "a", ID: "i", Name: "n"}, api.ErrState}, {api.Service{Node: "q", Port: -1}, api.ErrState}, {api.Service{Node: "m10", ID: "i", Name: "n"}, api.ErrState},
		{api.Service{Node: "m100"}, api.ErrForm}, {api.Service{Node: "m100", ID: "i", Name: "N"}, api.ErrForm}, {api.Service{Node: "m100", ID: "i", Name: "n", Tag: ".", Port: -1}, api.ErrForm},
		{api.Service{Node: "m100", ID: "i", Name: "n", Port: 65536}, api.ErrRange}, {api.Service{Node: "m100", ID: "i", Name: "n", Address: -1}, api.ErrRange},
		{api.Service{Node: "m100", ID: "i100", Name: "n"}, api.ErrRange}, {api.Service{Node: "m100", ID: "i", Name: "n"}, api.ErrMany},
	} {
		n := full()
		n.Services[0].Version = api.MaxVersion
		got, e := Serve(n, x.s)
		fails(t, x.s, got, e, x.why)
	}
}

// J6: of this node alone, by one more version.
func TestDrop(t *testing.T) {
	want := base()
	want.Services[1].Version, want.Services[1].Gone = 3, true
	n, e := Drop(base(), "i")
	becomes(t, "i", n, e, want)
	for id, why := range map[string]api.Errno{"": api.ErrForm, "I": api.ErrForm, "j": api.ErrNone, "k": api.ErrNone, "web": api.ErrNone} {
		n, e := Drop(base(), id)
		fails(t, id, n, e, why)
	}
	last := turned(func(n *api.Node) { n.Services[1].Version = api.MaxVersion })
	n, e = Drop(last, "i")
	fails(t, "by the last version", n, e, api.ErrRange)
	others := turned(func(n *api.Node) { n.Services = n.Services[:1] })
	n, e = Drop(others, "i")
	fails(t, "another one's", n, e, api.ErrNone)
}

// J6: of its centre.
func TestOpen(t *testing.T) {
	for _, address := range []int{0, 41, maxAddress} {
		want := base()
		want.Gateways[0] = api.Gateway{Centre: "here", Address: address, Version: 4}
		n, e := Open(base(), address)
		becomes(t, address, n, e, want)
	}
	elsewhere := turned(func(n *api.Node) { n.Centre = "i" })
	want := fresh.Node(elsewhere)
	want.Gateways = slices.Insert(want.Gateways, 1, api.Gateway{Centre: "i", Address: 5, Version: 1})
	n, e := Open(elsewhere, 5)
	becomes(t, "elsewhere", n, e, want)
}

func TestOpenErrors(t *testing.T) {
	for _, address := range []int{-1, maxAddress + 1} {
		n, e := Open(full(), address)
		fails(t, address, n, e, api.ErrRange)
	}
	n, e := Open(full(), 5)
	fails(t, "of all centres", n, e, api.ErrMany)
	last := turned(func(n *api.Node) { n.Gateways[0].Version = api.MaxVersion })
	n, e = Open(last, 5)
	fails(t, "by the last version", n, e, api.ErrRange)
}
