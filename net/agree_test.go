package net

import (
	"testing"

	"hearsay/api"
	"hearsay/fresh"
)

// agrees asks whether all nodes do.
func agrees(t testing.TB, n api.Net, want bool) {
	t.Helper()
	if ok, e := Agree(n); ok != want || e != api.OK {
		t.Errorf("%v: it is %v %d, and must be %v", n, ok, e, want)
	}
}

// alike are nodes of a net that know the same of members, services and gateways, and have all else for themselves.
func alike(t testing.TB) api.Net {
	t.Helper()
	var l []api.Node
	for i, name := range []string{"a", "b", "e"} {
		n := fresher(t, name, []string{"c", "d", "c"}[i], i)
		n.Members = []api.Member{{Name: "a", State: 1, Life: 3}, {Name: "b", State: 4, Life: 3, Address: 7, Server: true}, {Name: "e", State: 1, Life: 1}, {Name: "f", State: 3, Life: 1}}
		n.Services = []api.Service{{Node: "a", ID: "i", Name: "s", Version: 2}, {Node: "f", ID: "i", Name: "s", Tag: "t", Address: 5, Port: 6, Passing: true, Version: 3, Gone: true}}
		n.Gateways = []api.Gateway{{Centre: "c", Address: 1, Version: 2}, {Centre: "g", Address: 3, Version: 4}}
		l = append(l, n)
	}
	l[1].Rumors = []api.Rumor{{Member: l[1].Members[0], Told: 2}}
	l[2].Place = api.Place{X: 9, Sure: 3}
	l[0].Where = []api.Where{{Node: "b"}}
	l[2].Where = []api.Where{{Node: "b", Place: api.Place{X: 1}}}
	n, e := New(l)
	if e != api.OK {
		t.Fatalf("it is %d", e)
	}
	return n
}

// K3: rumors, places, and what is on its way, do not matter.
func TestAgree(t *testing.T) {
	agrees(t, alike(t), true)
	agrees(t, stepped(t, alike(t), api.Event{Kind: api.EventTell, Which: 1, Other: 0}, api.Event{Kind: api.EventTrace, Which: 0, Other: 2, N: 5}), true)
	agrees(t, api.Net{}, true)
	agrees(t, apart(t, 1), true)
	agrees(t, apart(t, 2), false)
	agrees(t, base(t), false)
	n := alike(t)
	n.Nodes[0].Services, n.Nodes[1].Services, n.Nodes[2].Services = nil, []api.Service{}, nil
	n.Nodes[0].Gateways, n.Nodes[1].Gateways, n.Nodes[2].Gateways = []api.Gateway{}, nil, nil
	agrees(t, n, true)
}

// K3: one thing that one of them knows otherwise, whichever it is.
func TestDisagree(t *testing.T) {
	for i, turn := range []func(n *api.Node){
		func(n *api.Node) { n.Members[3].State = 2 },
		func(n *api.Node) { n.Members[3].Life = 2 },
		func(n *api.Node) { n.Members[1].Life = 4 },
		func(n *api.Node) { n.Members[0].Address = 1 },
		func(n *api.Node) { n.Members[1].Server = false },
		func(n *api.Node) { n.Members[3].Name = "g" },
		func(n *api.Node) { n.Members = n.Members[:3] },
		func(n *api.Node) { n.Members = append(n.Members, api.Member{Name: "z", State: 1, Life: 1}) },
		func(n *api.Node) { n.Services[0].Node = "b" },
		func(n *api.Node) { n.Services[0].ID = "j" },
		func(n *api.Node) { n.Services[0].Name = "r" },
		func(n *api.Node) { n.Services[0].Tag = "t" },
		func(n *api.Node) { n.Services[1].Address = 6 },
		func(n *api.Node) { n.Services[1].Port = 0 },
		func(n *api.Node) { n.Services[1].Passing = false },
		func(n *api.Node) { n.Services[1].Version = 2 },
		func(n *api.Node) { n.Services[1].Gone = false },
		func(n *api.Node) { n.Services = n.Services[:1] },
		func(n *api.Node) { n.Services = nil },
		func(n *api.Node) { n.Gateways[0].Centre = "b" },
		func(n *api.Node) { n.Gateways[0].Address = 2 },
		func(n *api.Node) { n.Gateways[1].Version = 3 },
		func(n *api.Node) { n.Gateways = n.Gateways[1:] },
		func(n *api.Node) { n.Gateways = append(n.Gateways, api.Gateway{Centre: "h", Version: 1}) },
	} {
		for at := range 3 {
			n := alike(t)
			n.Nodes[at] = fresh.Node(n.Nodes[at])
			turn(&n.Nodes[at])
			if e := Check(n); e != api.OK {
				t.Fatalf("%d: it is %d", i, e)
			}
			agrees(t, n, false)
		}
	}
}
