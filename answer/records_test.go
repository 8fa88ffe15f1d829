package answer

import (
	"cmp"
	"fmt"
	"slices"
	"strings"
	"testing"

	"hearsay/api"
	"hearsay/catalog"
	"hearsay/draw"
	"hearsay/place"
)

var long = strings.Repeat("l", api.MaxLabel)

// base: b is the nearest, then a; nobody knows where c and d are; e is dead, g left.
func base() known {
	return known{
		here: "here",
		services: []api.Service{
			{Node: "a", ID: "i", Name: "web", Tag: "t", Address: 11, Port: 80, Passing: true, Version: 1},
			{Node: "a", ID: "j", Name: "web", Address: 12, Port: 81, Passing: true, Version: 1},
			{Node: "b", ID: "i", Name: "web", Tag: "t", Address: 21, Port: 82, Passing: true, Version: 2},
			{Node: "c", ID: "k", Name: "web", Tag: "u", Address: 31, Port: 65535, Passing: true, Version: 1},
			{Node: "d", ID: "i", Name: "web", Address: 41, Version: 1},
			{Node: "d", ID: "j", Name: "web", Address: 42, Passing: true, Version: 1, Gone: true},
			{Node: "d", ID: "k", Name: "old", Address: 43, Version: 1},
			{Node: "e", ID: "i", Name: "db", Tag: "t", Address: 51, Passing: true, Version: 1},
			{Node: "e", ID: "j", Name: "web", Tag: "t", Address: 52, Passing: true, Version: 1},
			{Node: "g", ID: "i", Name: "web", Address: 71, Passing: true, Version: 1},
			{Node: "node", ID: "i", Name: "odd", Tag: "t", Address: 81, Passing: true, Version: 1},
		},
		members: []api.Member{
			{Name: "a", State: api.StateAlive, Life: 1, Address: 1},
			{Name: "b", State: api.StateSuspect, Life: 1, Address: 1<<32 - 1, Server: true},
			{Name: "e", State: api.StateDead, Life: 1, Address: 5},
			{Name: "g", State: api.StateLeft, Life: 1, Address: 7},
			{Name: "mesh", State: api.StateAlive, Life: 1, Address: 8},
		},
		where: []api.Where{{Node: "a", Place: api.Place{X: 5000}}, {Node: "b", Place: api.Place{X: 10}}, {Node: "e"}, {Node: "g"}},
	}
}

func (k known) ask(q api.Query, t int) ([]api.Record, int, api.Errno) {
	return Records(q, t, k.here, k.services, k.members, k.from, k.where)
}

// web services of nodes, one of each, that have their numbers as addresses.
func web(nodes ...string) []api.Service {
	var l []api.Service
	for i, node := range nodes {
		l = append(l, api.Service{Node: node, ID: "i", Name: "web", Address: i, Passing: true, Version: 1})
	}
	return l
}

// order of the nodes that answer.
func (k known) order(t *testing.T) string {
	t.Helper()
	l, code, e := k.ask(api.Query{Service: "web"}, api.TypeService)
	if code != api.CodeOK || e != api.OK {
		t.Fatalf("%v: it is %v %d %d", k, l, code, e)
	}
	var nodes []string
	for _, r := range l {
		nodes = append(nodes, strings.TrimSuffix(r.Target, ".node.here.mesh"))
	}
	return strings.Join(nodes, " ")
}

// H1: of each type its own fields, and nothing else.
func TestRecordsOfAService(t *testing.T) {
	for _, centre := range []string{"", "here"} {
		for tag, nodes := range map[string][]int{"": {2, 0, 1, 3}, "t": {2, 0}, "u": {3}} {
			q := api.Query{Service: "web", Tag: tag, Centre: centre}
			name := strings.TrimPrefix(tag+".web.service.", ".") + strings.TrimPrefix(centre+".mesh", ".")
			want := make(map[int][]api.Record)
			for _, i := range nodes {
				s := base().services[i]
				want[api.TypeAddress] = append(want[api.TypeAddress], api.Record{Name: name, Type: 1, Address: s.Address})
				want[api.TypeText] = append(want[api.TypeText], api.Record{Name: name, Type: 16, Text: s.ID})
				want[api.TypeService] = append(want[api.TypeService], api.Record{Name: name, Type: 33, Port: s.Port, Target: s.Node + ".node.here.mesh"})
			}
			for kind, want := range want {
				if l, code, e := base().ask(q, kind); !slices.Equal(l, want) || code != api.CodeOK || e != api.OK {
					t.Errorf("%q %d: it is %v %d %d, and must be %v", q, kind, l, code, e, want)
				}
			}
		}
	}
}

// H1: a service that is there is answered by CodeOK, even if none of it is: by another tag, or of who is dead; else, or elsewhere, there is none.
func TestNoRecordsOfAService(t *testing.T) {
	for code, queries := range map[int][]api.Query{
		api.CodeOK: {{Service: "web", Tag: "v"}, {Service: "web", Tag: "web"}, {Service: "db"}, {Service: "db", Tag: "t"}, {Service: "db", Tag: "u", Centre: "here"}, {Service: "odd", Tag: "u"}},
		api.CodeNone: {
			{Service: "x"}, {Service: "we"}, {Service: "old"}, {Service: "old", Tag: "t"}, {Service: "t"}, {Service: "a"}, {Service: "i", Tag: "t"}, {Service: "x", Centre: "here"},
			{Service: "web", Centre: "there"}, {Service: "web", Tag: "t", Centre: "her"}, {Service: "odd", Centre: "there"}, {Service: long, Tag: long, Centre: long},
		},
	} {
		for _, q := range queries {
			for _, kind := range []int{1, 16, 33} {
				if l, got, e := base().ask(q, kind); len(l) != 0 || got != code || e != api.OK {
					t.Errorf("%q %d: it is %v %d %d, and must be %d", q, kind, l, got, e, code)
				}
			}
		}
	}
}

// H1: who is nearer comes first; who is as far, by name; behind them those whose place nobody told, by name.
func TestTheNearestComesFirst(t *testing.T) {
	at := func(node string, x, height int) api.Where {
		return api.Where{Node: node, Place: api.Place{X: x, Height: height}}
	}
	for _, x := range []struct {
		want string
		from int
		l    []api.Where
	}{
		{"a b c d", 0, nil},
		{"d a b c", 0, []api.Where{at("d", 9, 0)}},
		{"d c b a", 0, []api.Where{at("a", 400, 0), at("b", 300, 0), at("c", 200, 0), at("d", -100, 0)}},
		{"a b c d", 400, []api.Where{at("a", 400, 0), at("b", 300, 0), at("c", 200, 0), at("d", -100, 0)}},
		{"c d b a", 0, []api.Where{at("a", 0, 9), at("b", 8, 0), at("c", 7, 0), at("d", 6, 1)}},
		{"b c a d", 0, []api.Where{at("c", 5, 0), at("b", 5, 0), at("x", 0, 0), at("", 0, 0), at("C", -1, 0)}},
		{"c b a d", 0, []api.Where{at("c", 5, 0), at("b", 9, 0), at("b", 1, 0), at("c", 99, 0)}},
	} {
		k := known{here: "here", services: web("a", "b", "c", "d"), from: api.Place{X: x.from}, where: x.l}
		if got := k.order(t); got != x.want {
			t.Errorf("%v: it is %s, and must be %s", x.l, got, x.want)
		}
	}
}

// H1: only who is dead or left is left out.
func TestWhoIsDeadDoesNotAnswer(t *testing.T) {
	for state, want := range map[int]string{api.StateAlive: "a b c", api.StateSuspect: "a b c", api.StateDead: "a c", api.StateLeft: "a c"} {
		k := known{here: "here", services: web("a", "b", "c")}
		k.members = []api.Member{{Name: "aa", State: api.StateDead, Life: 1}, {Name: "b", State: state, Life: 1}, {Name: "d", State: api.StateLeft, Life: 1}}
		if got := k.order(t); got != want {
			t.Errorf("%d: it is %s, and must be %s", state, got, want)
		}
	}
}

// H1: as many as there may be, the nearest of them; of one node by id; what comes behind them is not asked for its target.
func TestTheFirstRecords(t *testing.T) {
	k := known{here: "here", where: []api.Where{{Node: "z"}}}
	for i := range 38 {
		k.services = append(k.services, api.Service{Node: "n", ID: fmt.Sprint("i", 100+i), Name: "web", Address: i, Passing: true, Version: 1})
	}
	k.services = append(k.services, web("node", "z")...)
	for _, kind := range []int{1, 16, 33} {
		l, code, e := k.ask(api.Query{Service: "web"}, kind)
		if len(l) != api.MaxRecords || code != api.CodeOK || e != api.OK {
			t.Errorf("%d: it is %v %d %d", kind, l, code, e)
		}
	}
	l, _, _ := k.ask(api.Query{Service: "web"}, api.TypeText)
	for i, r := range l {
		want := "i"
		if i > 0 {
			want = fmt.Sprint("i", 99+i)
		}
		if r.Text != want {
			t.Errorf("%d: it is %v, and must be %s", i, r, want)
		}
	}
	k.services = slices.Delete(k.services, 18, 38)
	if l, code, e := k.ask(api.Query{Service: "web"}, api.TypeText); len(l) != 20 || l[19].Text != "i" || code != api.CodeOK || e != api.OK {
		t.Errorf("20 of 20: it is %v %d %d", l, code, e)
	}
	if l, code, e := k.ask(api.Query{Service: "web"}, api.TypeService); len(l) != 0 || code != 0 || e != api.ErrKind {
		t.Errorf("a node without a name that asks is among them: it is %v %d %d", l, code, e)
	}
}

// H1: the address of who lives, or is doubted, and of others none.
func TestRecordsOfANode(t *testing.T) {
	for _, x := range []struct {
		q    api.Query
		want []api.Record
		code int
	}{
		{api.Query{Node: "a"}, []api.Record{{Name: "a.node.mesh", Type: 1, Address: 1}}, api.CodeOK},
		{api.Query{Node: "a", Centre: "here"}, []api.Record{{Name: "a.node.here.mesh", Type: 1, Address: 1}}, api.CodeOK},
		{api.Query{Node: "b"}, []api.Record{{Name: "b.node.mesh", Type: 1, Address: 1<<32 - 1}}, api.CodeOK},
		{api.Query{Node: "mesh"}, []api.Record{{Name: "mesh.node.mesh", Type: 1, Address: 8}}, api.CodeOK},
		{api.Query{Node: "a", Centre: "there"}, nil, api.CodeNone},
		{api.Query{Node: "c"}, nil, api.CodeNone},
		{api.Query{Node: "e"}, nil, api.CodeNone},
		{api.Query{Node: "g"}, nil, api.CodeNone},
		{api.Query{Node: "aa", Centre: "here"}, nil, api.CodeNone},
		{api.Query{Node: "web"}, nil, api.CodeNone},
	} {
		if l, code, e := base().ask(x.q, api.TypeAddress); !slices.Equal(l, x.want) || code != x.code || e != api.OK {
			t.Errorf("%q: it is %v %d %d, and must be %v %d", x.q, l, code, e, x.want, x.code)
		}
		for _, kind := range []int{16, 33} {
			if l, code, e := base().ask(x.q, kind); len(l) != 0 || code != x.code || e != api.OK {
				t.Errorf("%q %d: it is %v %d %d, and must be %d", x.q, kind, l, code, e, x.code)
			}
		}
	}
}

// H1: what Print says of nodes, where it is asked for.
func TestNodesThatHaveNoName(t *testing.T) {
	turned := func(here string, nodes ...string) known { return known{here: here, services: web(nodes...)} }
	for _, k := range []known{turned("here", "a", "service"), turned("here", "node"), turned("mesh", "a"), turned("service", "a"), turned("node", "a"), turned("mesh", "node", "service")} {
		for kind, why := range map[int]api.Errno{api.TypeAddress: api.OK, api.TypeText: api.OK, api.TypeService: api.ErrKind} {
			n := len(k.services)
			if why != api.OK {
				n = 0
			}
			if l, code, e := k.ask(api.Query{Service: "web"}, kind); len(l) != n || code != api.CodeOK || e != why {
				t.Errorf("%v %d: it is %v %d %d, and must be %d of %d", k, kind, l, code, e, n, why)
			}
		}
		if l, code, e := k.ask(api.Query{Service: "x"}, api.TypeService); len(l) != 0 || code != api.CodeNone || e != api.OK {
			t.Errorf("%v: it is %v %d %d, and must be %d", k, l, code, e, api.CodeNone)
		}
	}
	dead := turned("here", "node")
	dead.members = []api.Member{{Name: "node", State: api.StateDead, Life: 1}}
	if l, code, e := dead.ask(api.Query{Service: "web"}, api.TypeService); len(l) != 0 || code != api.CodeOK || e != api.OK {
		t.Errorf("who is dead has no record that would ask: it is %v %d %d", l, code, e)
	}
}

// mends: what is wrong in all of worst, in the order in which it is told, and how it is mended.
func mends(k *known) []struct {
	why  api.Errno
	mend func()
} {
	good := base()
	return []struct {
		why  api.Errno
		mend func()
	}{
		{api.ErrForm, func() { k.here = "Here" }},
		{api.ErrForm, func() { k.here = long }},
		{api.ErrMany, func() { k.services = []api.Service{{}} }},
		{api.ErrForm, func() { k.services = []api.Service{{Node: "a", ID: "i", Name: "n"}} }},
		{api.ErrRange, func() { k.services = slices.Concat(good.services, good.services) }},
		{api.ErrState, func() { k.services = good.services }},
		{api.ErrMany, func() { k.members = []api.Member{{}} }},
		{api.ErrForm, func() { k.members = []api.Member{{Name: "a"}} }},
		{api.ErrKind, func() { k.members = []api.Member{{Name: "a", State: 1}} }},
		{api.ErrRange, func() { k.members = slices.Concat(good.members, good.members) }},
		{api.ErrState, func() { k.members = good.members }},
		{api.ErrMany, func() { k.where = k.where[:20] }},
		{api.ErrRange, func() { k.from = api.Place{Sure: 1000} }},
		{api.ErrRange, func() { k.where[0].Place = api.Place{X: api.MaxPlace} }},
		{api.ErrRange, func() { k.where[19].Place = api.Place{Height: api.MaxHeight} }},
	}
}

// worst has all that may be wrong in what one knows.
func worst() known {
	k := known{services: make([]api.Service, 41), members: make([]api.Member, 21), from: api.Place{Sure: 1001}, where: make([]api.Where, 21)}
	k.where[0].Place.X = api.MaxPlace + 1
	k.where[19].Place.Height = -1
	return k
}

// H1: the errors come in order: each thing that is mended lets the next one be told.
func TestRecordsErrors(t *testing.T) {
	k, q, kind := worst(), api.Query{}, 2
	all := append([]struct {
		why  api.Errno
		mend func()
	}{
		{api.ErrForm, func() { q = api.Query{Service: "mesh"} }},
		{api.ErrKind, func() { q = api.Query{Service: "odd"} }},
		{api.ErrKind, func() { kind = api.TypeService }},
	}, mends(&k)...)
	for i, x := range all {
		if l, code, e := k.ask(q, kind); len(l) != 0 || code != 0 || e != x.why {
			t.Errorf("%d: it is %v %d %d, and must be %d", i, l, code, e, x.why)
		}
		x.mend()
	}
	if l, code, e := k.ask(q, kind); len(l) != 0 || code != 0 || e != api.ErrKind {
		t.Errorf("then what Print says of nodes: it is %v %d %d, and must be %d", l, code, e, api.ErrKind)
	}
	if l, code, e := k.ask(q, api.TypeAddress); len(l) != 1 || code != api.CodeOK || e != api.OK {
		t.Errorf("nothing is wrong any more: it is %v %d %d", l, code, e)
	}
	for _, kind := range []int{-1, 0, 2, 15, 17, 32, 34, 257, 1<<16 + 1} {
		if l, code, e := base().ask(api.Query{Node: "a"}, kind); len(l) != 0 || code != 0 || e != api.ErrKind {
			t.Errorf("%d: it is %v %d %d, and must be %d", kind, l, code, e, api.ErrKind)
		}
	}
}

// H1: also who is not asked for, or asked for elsewhere, is checked.
func TestWrongThingsAreToldOfEachQuery(t *testing.T) {
	for _, q := range []api.Query{{Node: "a"}, {Node: "q"}, {Service: "x"}, {Service: "web", Centre: "there"}, {Node: "a", Centre: "there"}} {
		k := worst()
		for i, x := range mends(&k) {
			if l, code, e := k.ask(q, api.TypeText); len(l) != 0 || code != 0 || e != x.why {
				t.Errorf("%q %d: it is %v %d %d, and must be %d", q, i, l, code, e, x.why)
			}
			x.mend()
		}
	}
}

// H1: each place by itself, also of a node that serves nothing, and behind another place of the same node.
func TestWrongPlaces(t *testing.T) {
	bad := api.Place{Y: -api.MaxPlace - 1}
	for _, x := range []struct {
		from  api.Place
		where []api.Where
	}{{bad, nil}, {bad, base().where}, {api.Place{}, []api.Where{{Node: "q", Place: bad}}}, {api.Place{}, append(base().where, api.Where{Node: "a", Place: bad})}} {
		k := base()
		k.from, k.where = x.from, x.where
		for _, q := range []api.Query{{Service: "web"}, {Service: "x"}, {Node: "a"}} {
			if l, code, e := k.ask(q, 1); len(l) != 0 || code != 0 || e != api.ErrRange {
				t.Errorf("%q %v: it is %v %d %d, and must be %d", q, x, l, code, e, api.ErrRange)
			}
		}
		if text, ok, e := k.answer(""); text != "" || ok || e != api.ErrRange {
			t.Errorf("%v: it is %q %v %d, and must be %d", x, text, ok, e, api.ErrRange)
		}
	}
}

// drawnKnown: some nodes with some services, alive or dead, some of whose places are told.
func drawnKnown(d *draw.Numbers) known {
	k := known{here: "here", from: api.Place{X: d.From(-3, 3), Height: d.Below(3)}}
	for i := range 8 {
		node := fmt.Sprint("n", i)
		for j := range d.Below(5) {
			k.services = append(k.services, api.Service{
				Node: node, ID: fmt.Sprint("i", j), Name: fmt.Sprint("s", d.Below(2)), Tag: []string{"", "t"}[d.Below(2)], Address: d.Below(99), Port: d.Below(99),
				Passing: d.Below(4) > 0, Version: 1, Gone: d.Below(4) == 0,
			})
		}
		if d.Below(3) > 0 {
			k.members = append(k.members, api.Member{Name: node, State: d.From(1, 4), Life: 1, Address: d.Below(99)})
		}
	}
	for range d.Below(12) {
		k.where = append(k.where, api.Where{Node: fmt.Sprint("n", d.Below(9)), Place: api.Place{X: d.From(-3, 3), Y: d.From(-3, 3), Height: d.Below(3)}})
	}
	return k
}

// far tells how far a node is; one that nobody told of is farther than all.
func (k known) far(node string) int {
	for _, w := range k.where {
		if w.Node == node {
			far, _ := place.Far(k.from, w.Place)
			return far
		}
	}
	return 1 << 62
}

// answering services, all of them, one by one.
func (k known) answering(name, tag string) []api.Service {
	var l []api.Service
	for _, s := range k.services {
		out := slices.ContainsFunc(k.members, func(m api.Member) bool { return m.Name == s.Node && m.State >= api.StateDead })
		if s.Name == name && (tag == "" || tag == s.Tag) && s.Passing && !s.Gone && !out {
			l = append(l, s)
		}
	}
	slices.SortFunc(l, func(a, b api.Service) int {
		return cmp.Or(cmp.Compare(k.far(a.Node), k.far(b.Node)), cmp.Compare(a.Node, b.Node), cmp.Compare(a.ID, b.ID))
	})
	return l[:min(len(l), api.MaxRecords)]
}

// H1: whatever is known, all that answer do, by how far they are.
func TestDrawnRecords(t *testing.T) {
	d := new(draw.Numbers)
	for range 500 {
		k := drawnKnown(d)
		q := api.Query{Service: fmt.Sprint("s", d.Below(3)), Tag: []string{"", "t"}[d.Below(2)]}
		var want []api.Record
		for _, s := range k.answering(q.Service, q.Tag) {
			want = append(want, api.Record{Name: strings.TrimPrefix(q.Tag+"."+q.Service+".service.mesh", "."), Type: 33, Port: s.Port, Target: s.Node + ".node.here.mesh"})
		}
		code := api.CodeOK
		if all, _ := catalog.Find(k.services, q.Service, ""); len(all) == 0 {
			code = api.CodeNone
		}
		if l, got, e := k.ask(q, api.TypeService); !slices.Equal(l, want) || got != code || e != api.OK {
			t.Fatalf("%q of %v: it is %v %d %d, and must be %v %d", q, k, l, got, e, want, code)
		}
	}
}

// P2, P3: what is handed in is only read, the room behind it too; the same is answered each time.
func TestListsAreOnlyRead(t *testing.T) {
	k, was := base(), base()
	k.services = append(k.services, web("y", "z")...)[:len(k.services)]
	k.members = append(k.members, api.Member{Name: "z"})[:len(k.members)]
	k.where = append(k.where, api.Where{Node: "z"})[:len(k.where)]
	for _, q := range []api.Query{{Service: "web"}, {Node: "a"}} {
		first, _, _ := k.ask(q, api.TypeAddress)
		want := slices.Clone(first)
		first = first[:cap(first)]
		for i := range first {
			first[i] = api.Record{Name: "changed"}
		}
		reply, ok, e := k.answer(asking(t, "web.service.mesh", 1))
		again, _, _ := k.answer(asking(t, "web.service.mesh", 1))
		if l, _, _ := k.ask(q, api.TypeAddress); !slices.Equal(l, want) || !ok || e != api.OK || reply != again {
			t.Errorf("%q: it is %v, and was %v", q, l, want)
		}
	}
	if !slices.Equal(k.services, was.services) || !slices.Equal(k.members, was.members) || !slices.Equal(k.where, was.where) {
		t.Errorf("it changed: %v", k)
	}
	if !slices.Equal(k.services[len(k.services):][:2], web("y", "z")) || k.members[:6][5].Name != "z" || k.where[:5][4].Node != "z" {
		t.Errorf("the room behind it changed: %v", k)
	}
}
