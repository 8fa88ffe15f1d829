package query

import (
	"strings"
	"testing"

	"hearsay/api"
)

var long = strings.Repeat("l", api.MaxLabel)

// names of queries, as they are printed.
func names() map[string]api.Query {
	return map[string]api.Query{
		"s.service.mesh":              {Service: "s"},
		"t.s.service.mesh":            {Service: "s", Tag: "t"},
		"s.service.c.mesh":            {Service: "s", Centre: "c"},
		"t.s.service.c.mesh":          {Service: "s", Tag: "t", Centre: "c"},
		"n.node.mesh":                 {Node: "n"},
		"n.node.c.mesh":               {Node: "n", Centre: "c"},
		"mesh.node.mesh":              {Node: "mesh"},
		"mesh.node.c.mesh":            {Node: "mesh", Centre: "c"},
		"a.a.service.a.mesh":          {Service: "a", Tag: "a", Centre: "a"},
		"services.nodes.service.mesh": {Service: "nodes", Tag: "services"},
		"servic.node.mes.mesh":        {Node: "servic", Centre: "mes"},
		"-.0.service._.mesh":          {Service: "0", Tag: "-", Centre: "_"},
		long + "." + long + ".service." + long + ".mesh": {Service: long, Tag: long, Centre: long},
		long + ".node." + long + ".mesh":                 {Node: long, Centre: long},
	}
}

func noLabels() []string {
	return []string{"A", "a.b", "a.", ".", "a ", "\xff", "Mesh", long + "l"}
}

// wrongQueries: what Check says of them; where both apply, the one that comes first.
func wrongQueries() map[api.Query]api.Errno {
	wrong := map[api.Query]api.Errno{
		{}: api.ErrForm, {Centre: "c"}: api.ErrForm,
		{Service: "s", Node: "n"}: api.ErrForm, {Service: "s", Node: "n", Tag: "t", Centre: "c"}: api.ErrForm,
		{Tag: "t"}: api.ErrForm, {Tag: "t", Centre: "c"}: api.ErrForm, {Tag: "t", Node: "n"}: api.ErrForm,
		{Centre: "mesh"}: api.ErrForm, {Tag: "service"}: api.ErrForm, {Tag: "mesh", Node: "node"}: api.ErrForm,
		{Service: "service", Node: "node"}: api.ErrForm, {Service: "service", Tag: "T"}: api.ErrForm,
		{Service: "S", Tag: "service"}: api.ErrForm, {Service: "mesh", Centre: "C"}: api.ErrForm, {Node: "N", Centre: "mesh"}: api.ErrForm,
		{Service: "mesh"}: api.ErrKind, {Service: "s", Tag: "mesh"}: api.ErrKind,
		{Service: "mesh", Tag: "mesh", Centre: "mesh"}: api.ErrKind,
		{Service: "s", Centre: "mesh"}:                 api.ErrKind, {Node: "n", Centre: "mesh"}: api.ErrKind, {Node: "mesh", Centre: "mesh"}: api.ErrKind,
	}
	put := func(text string, why api.Errno) {
		for _, q := range []api.Query{
			{Service: text}, {Service: text, Tag: "t"}, {Service: text, Centre: "c"}, {Service: "s", Tag: text}, {Service: "s", Tag: text, Centre: "c"},
			{Node: text}, {Node: text, Centre: "c"}, {Service: "s", Centre: text}, {Service: "s", Tag: "t", Centre: text}, {Node: "n", Centre: text},
		} {
			wrong[q] = why
		}
	}
	for _, text := range noLabels() {
		put(text, api.ErrForm)
	}
	for _, text := range []string{"service", "node"} {
		put(text, api.ErrKind)
	}
	return wrong
}

// G1: what is of its form, and has no word that may not stand there.
func TestCheck(t *testing.T) {
	for _, q := range names() {
		if e := Check(q); e != api.OK {
			t.Errorf("%q: it is %d, and must be %d", q, e, api.OK)
		}
	}
	for q, why := range wrongQueries() {
		if e := Check(q); e != why {
			t.Errorf("%q: it is %d, and must be %d", q, e, why)
		}
	}
}

// G2: the labels that there are, in order; the longest names fit.
func TestPrint(t *testing.T) {
	for want, q := range names() {
		if name, e := Print(q); name != want || e != api.OK {
			t.Errorf("%q: it is %q %d, and must be %q", q, name, e, want)
		}
	}
	for q, why := range wrongQueries() {
		if name, e := Print(q); name != "" || e != why {
			t.Errorf("%q: it is %q %d, and must be %d", q, name, e, why)
		}
	}
}

// G3: the query whose name it is.
func TestParse(t *testing.T) {
	for name, want := range names() {
		if q, e := Parse(name); q != want || e != api.OK {
			t.Errorf("%q: it is %q %d, and must be %q", name, q, e, want)
		}
	}
}

// G3: what is wrong in a name comes ahead of its domain, and that ahead of what it asks for.
func TestParseErrors(t *testing.T) {
	for why, wrong := range map[api.Errno][]string{
		api.ErrMany: {
			strings.Repeat("a.", 8) + "mesh", strings.Repeat("a.", 8) + "b", "s.service" + strings.Repeat(".mesh", 7),
			strings.Repeat(long+".", 4) + "mesh", strings.Repeat(long+".", 4) + "b",
		},
		api.ErrFar: {
			"", "a", "a.b", "service", "s.service", "n.node", "s.service.c", "t.s.service.c", "mesh.a", "s.service.mesh.a", "s.service.mes", "s.service.meshes",
			"s.mesh.service", "s.service.mesh-", "a.a.a.a.a.a.a.a",
		},
		api.ErrForm: {
			"mesh", "mesh.mesh", "a.mesh", "a.b.mesh", "service.mesh", "node.mesh", "service.c.mesh", "node.c.mesh",
			"x.t.s.service.mesh", "x.t.s.service.c.mesh", "s.service.c.d.mesh", "t.s.service.c.d.mesh", "t.n.node.mesh", "t.n.node.c.mesh", "n.node.c.d.mesh",
			"service.service.mesh", "node.service.mesh", "mesh.service.mesh", "service.s.service.mesh", "node.s.service.mesh", "mesh.s.service.mesh",
			"t.service.service.mesh", "t.node.service.mesh", "t.mesh.service.mesh", "service.node.mesh", "node.node.mesh", "n.node.node.mesh",
			"s.service.service.mesh", "s.service.node.mesh", "s.service.mesh.mesh", "n.node.mesh.mesh", "n.node.service.mesh", "mesh.node.mesh.mesh",
			"S.service.mesh", "s.Service.mesh", "s.service.MESH", "s..mesh", ".s.service.mesh", "s.service.mesh.", "s.service..mesh", ".", "..", "s.service.\xff.mesh", "a b", "A",
			"s.service.mesh ", long + "l.service.mesh", long + "l.b",
		},
	} {
		for _, name := range wrong {
			if q, e := Parse(name); q != (api.Query{}) || e != why {
				t.Errorf("%q: it is %q %d, and must be %d", name, q, e, why)
			}
		}
	}
}

// all lists of n of these texts.
func all(n int, texts ...string) [][]string {
	if n == 0 {
		return [][]string{nil}
	}
	var lists [][]string
	for _, l := range all(n-1, texts...) {
		for _, text := range texts {
			lists = append(lists, append(l[:len(l):len(l)], text))
		}
	}
	return lists
}

// G4: each name that is printed is of one query, and parsed as that.
func TestWhatIsPrintedIsParsed(t *testing.T) {
	printed := make(map[string]api.Query)
	for _, l := range all(4, "", "a", "b", "mesh", "service", "node", "A") {
		q := api.Query{Service: l[0], Tag: l[1], Node: l[2], Centre: l[3]}
		name, e := Print(q)
		if e != Check(q) || (name != "") != (e == api.OK) {
			t.Fatalf("%q: it is %q %d", q, name, e)
		}
		if e != api.OK {
			continue
		}
		if was, met := printed[name]; met {
			t.Fatalf("%q and %q have one name", was, q)
		}
		printed[name] = q
	}
	for n := range 7 {
		for _, l := range all(n, "a", "b", "mesh", "service", "node", "A") {
			name := strings.Join(l, ".")
			want, met := printed[name]
			if q, e := Parse(name); q != want || (e == api.OK) != met {
				t.Fatalf("%q: it is %q %d, and was %q", name, q, e, want)
			}
		}
	}
}

// G3, G4: bytes that are no name of a query are parsed by nobody.
func FuzzParse(f *testing.F) {
	for name := range names() {
		f.Add(name)
	}
	f.Fuzz(func(t *testing.T, name string) {
		q, e := Parse(name)
		printed, why := Print(q)
		if e == api.OK && (printed != name || why != api.OK) || e != api.OK && q != (api.Query{}) {
			t.Errorf("%q: it is %q %d, and that is printed as %q %d", name, q, e, printed, why)
		}
	})
}
