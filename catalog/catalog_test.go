package catalog

import (
	"fmt"
	"slices"
	"strings"
	"testing"

	"hearsay/api"
	"hearsay/draw"
)

const maxAddress = 1<<32 - 1

// one service that passes, by a version.
func one(node, id string, version int) api.Service {
	return api.Service{Node: node, ID: id, Name: "web", Passing: true, Version: version}
}

// but is a service with something turned.
func but(s api.Service, turn func(s *api.Service)) api.Service {
	turn(&s)
	return s
}

// many services that rise.
func many(n int) []api.Service {
	var l []api.Service
	for i := range n {
		l = append(l, one("n", fmt.Sprint("i", 100+i), 1))
	}
	return l
}

// base has services that are found, and such as are not: gone, not passing, or both.
func base() []api.Service {
	return []api.Service{
		{Node: "a", ID: "i", Name: "db", Address: 3, Passing: true, Version: 1},
		{Node: "a", ID: "j", Name: "web", Tag: "t", Address: 2, Port: 80, Passing: true, Version: 4},
		{Node: "a", ID: "k", Name: "web", Tag: "t", Passing: true, Version: 2, Gone: true},
		{Node: "b", ID: "a", Name: "web", Version: 1},
		{Node: "b", ID: "i", Name: "web", Tag: "u", Passing: true, Version: 1},
		{Node: "c", ID: "i", Name: "web", Passing: true, Version: 1},
		{Node: "d", ID: "d", Name: "web", Version: 9, Gone: true},
	}
}

func noLabels() []string {
	return []string{"", "A", "a.b", "a ", "\xff", strings.Repeat("l", api.MaxLabel+1)}
}

// wrongOnes: services, and what Check says of each, whatever version it has.
func wrongOnes() map[api.Service]api.Errno {
	good := one("a", "i", 1)
	wrong := make(map[api.Service]api.Errno)
	for _, text := range noLabels() {
		wrong[but(good, func(s *api.Service) { s.Node = text })] = api.ErrForm
		wrong[but(good, func(s *api.Service) { s.ID = text })] = api.ErrForm
		wrong[but(good, func(s *api.Service) { s.Name = text })] = api.ErrForm
		if text != "" {
			wrong[but(good, func(s *api.Service) { s.Tag = text })] = api.ErrForm
		}
	}
	for _, address := range []int{-1, -1 << 62, maxAddress + 1, 1 << 62} {
		wrong[but(good, func(s *api.Service) { s.Address = address })] = api.ErrRange
	}
	for _, port := range []int{-1, 65536, 1 << 62} {
		wrong[but(good, func(s *api.Service) { s.Port = port })] = api.ErrRange
	}
	wrong[but(good, func(s *api.Service) { s.Tag, s.Address, s.Port = "T", -1, -1 })] = api.ErrForm
	return wrong
}

// wrongVersions: services in which nothing else is wrong.
func wrongVersions() []api.Service {
	return []api.Service{one("a", "i", 0), one("a", "i", -1), one("a", "i", api.MaxVersion+1), one("a", "i", 1<<62)}
}

// wrongCatalogs: catalogs, and what Check says of them; where several errors apply, the one that comes first.
func wrongCatalogs() map[api.Errno][][]api.Service {
	falling := []api.Service{one("b", "a", 1), one("a", "b", 1)}
	catalogs := map[api.Errno][][]api.Service{
		api.ErrMany: {many(41), make([]api.Service, 41)},
		api.ErrForm: {{one("a", "", 0), one("b", "i", 0)}, append(falling, one("c", "", 1))},
		api.ErrState: {
			falling, {one("a", "j", 1), one("a", "i", 1)}, {one("a", "i", 1), one("a", "i", 2)}, {one("a", "i", 1), one("a", "i", 1)},
			{one("aa", "i", 1), one("a", "j", 1)}, {one("a", "ii", 1), one("a", "i", 1)}, {one("a", "i", 1), one("c", "i", 1), one("b", "i", 1)},
		},
		api.ErrRange: {{one("a", "i", 0), one("", "i", 1)}, {one("z", "i", 1), one("b", "i", 0)}},
	}
	for s, why := range wrongOnes() {
		catalogs[why] = append(catalogs[why], []api.Service{s}, []api.Service{one("z", "z", 1), s})
	}
	for _, s := range wrongVersions() {
		catalogs[api.ErrRange] = append(catalogs[api.ErrRange], []api.Service{s})
	}
	return catalogs
}

// E1: one by one, and then their order.
func TestCheck(t *testing.T) {
	long := strings.Repeat("l", api.MaxLabel)
	for _, l := range [][]api.Service{
		nil, {}, base(), many(40), {one("a", "i", api.MaxVersion)},
		{{Node: long, ID: long, Name: long, Tag: long, Address: maxAddress, Port: 65535, Version: 1, Gone: true}},
		{one("a", "i", 1), one("a", "ii", 1), one("a", "j", 1), one("aa", "a", 1), one("b", "a", 1)},
		{one("-", "i", 1), one("0", "i", 1), one("_", "-", 1), one("_", "0", 1), one("a", "_", 1)},
	} {
		if e := Check(l); e != api.OK {
			t.Errorf("%v: it is %d, and must be %d", l, e, api.OK)
		}
	}
	for why, catalogs := range wrongCatalogs() {
		for _, l := range catalogs {
			if e := Check(l); e != why {
				t.Errorf("%v: it is %d, and must be %d", l, e, why)
			}
		}
	}
}

// E1, P1: all others tell what Check says ahead of their own errors, and nothing with it.
func TestWrongCatalogsAreToldFirst(t *testing.T) {
	for why, catalogs := range wrongCatalogs() {
		for _, l := range catalogs {
			for name, call := range map[string]func() ([]api.Service, api.Errno){
				"Register":       func() ([]api.Service, api.Errno) { return Register(l, one("q", "q", 1)) },
				"Register wrong": func() ([]api.Service, api.Errno) { return Register(l, api.Service{Port: -1}) },
				"Drop":           func() ([]api.Service, api.Errno) { return Drop(l, "a", "i") },
				"Drop wrong":     func() ([]api.Service, api.Errno) { return Drop(l, "", "") },
				"Join":           func() ([]api.Service, api.Errno) { return Join(l, []api.Service{{}}) },
				"Join to many":   func() ([]api.Service, api.Errno) { return Join(many(40), l) },
				"Find":           func() ([]api.Service, api.Errno) { return Find(l, "web", "") },
				"Find wrong":     func() ([]api.Service, api.Errno) { return Find(l, "", "T") },
			} {
				if x, e := call(); len(x) != 0 || e != why {
					t.Errorf("%s %v: it is %v %d, and must be %d", name, l, x, e, why)
				}
			}
		}
	}
}

// E1: the first one is asked ahead of the second one, and both ahead of whether they are of one node and id.
func TestNewerOfWrongOnes(t *testing.T) {
	wrong := wrongOnes()
	for _, s := range wrongVersions() {
		wrong[s] = api.ErrRange
	}
	for s, why := range wrong {
		for _, other := range []api.Service{one("z", "z", 0), {}, one("z", "z", 1)} {
			if ok, e := Newer(s, other); ok || e != why {
				t.Errorf("%v than %v: it is %v %d, and must be %d", s, other, ok, e, why)
			}
		}
		if ok, e := Newer(one("z", "z", 1), s); ok || e != why {
			t.Errorf("than %v: it is %v %d, and must be %d", s, ok, e, why)
		}
	}
}

// ages are services of one node and id: each is newer than all ahead of it.
func ages() []api.Service {
	var l []api.Service
	for i := range 3 * 64 {
		bit := func(n int) int { return i >> n & 1 }
		l = append(l, api.Service{
			Node: "a", ID: "i",
			Version: []int{1, 2, api.MaxVersion}[i>>6],
			Gone:    bit(5) == 1,
			Name:    []string{"b", "ba"}[bit(4)],
			Tag:     []string{"", "t"}[bit(3)],
			Address: []int{9, maxAddress}[bit(2)],
			Port:    []int{10, 65535}[bit(1)],
			Passing: bit(0) == 1,
		})
	}
	return l
}

// E2: by version, then gone, name, tag, address, port, passing.
func TestNewer(t *testing.T) {
	all := ages()
	for i, a := range all {
		for j, b := range all {
			if ok, e := Newer(a, b); ok != (i > j) || e != api.OK {
				t.Fatalf("%v than %v: it is %v %d", a, b, ok, e)
			}
		}
	}
	for _, names := range [][2]string{{"b", "a"}, {"b", "az"}, {"a", "_"}, {"0", "-"}} {
		a := but(one("a", "i", 1), func(s *api.Service) { s.Name = names[0] })
		b := but(one("a", "i", 1), func(s *api.Service) { s.Name, s.Tag, s.Address = names[1], "z", 1 })
		if ok, e := Newer(a, b); !ok || e != api.OK {
			t.Errorf("%v: it is %v %d", names, ok, e)
		}
	}
}

func TestNewerOfOthers(t *testing.T) {
	for _, other := range []api.Service{one("b", "i", 1), one("a", "j", 1), one("i", "a", 1), one("ai", "i", 1)} {
		for _, x := range [][2]api.Service{{one("a", "i", 2), other}, {other, one("a", "i", 2)}} {
			if ok, e := Newer(x[0], x[1]); ok || e != api.ErrState {
				t.Errorf("%v: it is %v %d, and must be %d", x, ok, e, api.ErrState)
			}
		}
	}
}

// E3: one that was not there comes where it belongs, by version 1.
func TestRegisterSomethingNew(t *testing.T) {
	for _, x := range []struct {
		node, id string
		at       int
	}{{"0", "z", 0}, {"a", "0", 0}, {"a", "ii", 1}, {"aa", "a", 3}, {"b", "ab", 4}, {"c", "h", 5}, {"e", "a", 7}} {
		s := api.Service{Node: x.node, ID: x.id, Name: "n", Tag: "u", Address: maxAddress, Port: 65535, Passing: true, Version: -7, Gone: true}
		want := slices.Insert(base(), x.at, but(s, func(s *api.Service) { s.Version, s.Gone = 1, false }))
		if l, e := Register(base(), s); !slices.Equal(l, want) || e != api.OK {
			t.Errorf("%v: it is %v %d, and must be %v", x, l, e, want)
		}
	}
	if l, e := Register(nil, one("a", "i", 3)); !slices.Equal(l, []api.Service{one("a", "i", 1)}) || e != api.OK {
		t.Errorf("to none: it is %v %d", l, e)
	}
}

// E3: one that was there is replaced by one more version, gone or not, whatever Version and Gone say.
func TestRegisterAgain(t *testing.T) {
	for i, was := range base() {
		for _, version := range []int{-1 << 63, -1, 0, 1, 99, api.MaxVersion + 1, 1<<63 - 1} {
			for _, gone := range []bool{false, true} {
				s := api.Service{Node: was.Node, ID: was.ID, Name: "a", Version: version, Gone: gone}
				want := base()
				want[i] = api.Service{Node: was.Node, ID: was.ID, Name: "a", Version: was.Version + 1}
				if l, e := Register(base(), s); !slices.Equal(l, want) || e != api.OK {
					t.Errorf("%v: it is %v %d, and must be %v", s, l, e, want)
				}
			}
		}
	}
}

// E3: what is wrong in a service is told ahead of its version, and of how many there are.
func TestRegisterWrongOnes(t *testing.T) {
	for s, why := range wrongOnes() {
		for _, l := range [][]api.Service{nil, base(), many(40), {one("a", "i", api.MaxVersion)}} {
			for _, version := range []int{0, 1, api.MaxVersion + 1} {
				s.Version = version
				if x, e := Register(l, s); len(x) != 0 || e != why {
					t.Errorf("%v to %v: it is %v %d, and must be %d", s, l, x, e, why)
				}
			}
		}
	}
}

func TestRegisterBounds(t *testing.T) {
	for _, s := range []api.Service{one("a", "i", 1), {Node: "a", ID: "i", Name: "n", Gone: true}} {
		for _, gone := range []bool{false, true} {
			last := but(one("a", "i", api.MaxVersion), func(s *api.Service) { s.Gone = gone })
			if l, e := Register([]api.Service{last}, s); len(l) != 0 || e != api.ErrRange {
				t.Errorf("%v: it is %v %d, and must be %d", s, l, e, api.ErrRange)
			}
			last.Version--
			if l, e := Register([]api.Service{last}, s); len(l) != 1 || l[0].Version != api.MaxVersion || l[0].Gone || e != api.OK {
				t.Errorf("%v: it is %v %d", s, l, e)
			}
		}
	}
	for _, s := range []api.Service{one("a", "i", 1), one("n", "i1055", 1), one("z", "i", 1)} {
		if l, e := Register(many(40), s); len(l) != 0 || e != api.ErrMany {
			t.Errorf("%v: it is %v %d, and must be %d", s, l, e, api.ErrMany)
		}
		if l, e := Register(many(39), s); len(l) != 40 || e != api.OK {
			t.Errorf("%v: it is %v %d", s, l, e)
		}
	}
	if l, e := Register(many(40), one("n", "i105", 1)); len(l) != 40 || l[5].Version != 2 || e != api.OK {
		t.Errorf("again: it is %v %d", l, e)
	}
}

// E3: nothing but the version and Gone changes.
func TestDrop(t *testing.T) {
	for i, s := range base() {
		want, why := base(), api.OK
		want[i].Version++
		want[i].Gone = true
		if s.Gone {
			want, why = nil, api.ErrNone
		}
		if l, e := Drop(base(), s.Node, s.ID); !slices.Equal(l, want) || e != why {
			t.Errorf("%v: it is %v %d, and must be %v %d", s, l, e, want, why)
		}
	}
}

func TestDropErrors(t *testing.T) {
	for _, x := range [][2]string{{"q", "i"}, {"a", "q"}, {"i", "a"}, {"c", "ii"}, {"0", "0"}} {
		if l, e := Drop(base(), x[0], x[1]); len(l) != 0 || e != api.ErrNone {
			t.Errorf("%v: it is %v %d, and must be %d", x, l, e, api.ErrNone)
		}
	}
	if l, e := Drop(nil, "a", "i"); len(l) != 0 || e != api.ErrNone {
		t.Errorf("of none: it is %v %d, and must be %d", l, e, api.ErrNone)
	}
	for _, text := range noLabels() {
		for _, x := range [][2]string{{text, "i"}, {"a", text}, {"q", text}, {text, text}} {
			if l, e := Drop(base(), x[0], x[1]); len(l) != 0 || e != api.ErrForm {
				t.Errorf("%q: it is %v %d, and must be %d", x, l, e, api.ErrForm)
			}
		}
	}
	last := []api.Service{one("a", "i", api.MaxVersion)}
	if l, e := Drop(last, "a", "i"); len(l) != 0 || e != api.ErrRange {
		t.Errorf("%v: it is %v %d, and must be %d", last, l, e, api.ErrRange)
	}
	last[0].Gone = true
	if l, e := Drop(last, "a", "i"); len(l) != 0 || e != api.ErrNone {
		t.Errorf("%v: it is %v %d, and must be %d", last, l, e, api.ErrNone)
	}
	last[0].Version, last[0].Gone = api.MaxVersion-1, false
	if l, e := Drop(last, "a", "i"); len(l) != 1 || l[0].Version != api.MaxVersion || !l[0].Gone || e != api.OK {
		t.Errorf("%v: it is %v %d", last, l, e)
	}
}

// E4: of each two of one node and id the newer one stays.
func TestJoinOfOneID(t *testing.T) {
	all := ages()
	z := one("a", "z", 1)
	for i, a := range all {
		for j, b := range all {
			want := []api.Service{all[max(i, j)], z}
			if x, e := Join([]api.Service{a, z}, []api.Service{b}); !slices.Equal(x, want) || e != api.OK {
				t.Fatalf("%v joined with %v: it is %v %d", a, b, x, e)
			}
		}
	}
}

func TestJoin(t *testing.T) {
	mine := []api.Service{one("a", "h", 1), one("a", "i", 2), one("a", "j", 3), one("d", "d", 10)}
	want := base()
	want[0], want[6] = mine[1], mine[3]
	want = slices.Insert(want, 0, mine[0])
	full := many(40)
	for _, x := range []struct {
		a, b, want []api.Service
		e          api.Errno
	}{
		{nil, nil, nil, api.OK}, {base(), nil, base(), api.OK}, {base(), base(), base(), api.OK}, {mine, base(), want, api.OK},
		{full, full, full, api.OK}, {full[:10], full[10:], full, api.OK}, {full[:22], full[8:], full, api.OK},
		{full, base()[:1], nil, api.ErrMany}, {full[:34], base(), nil, api.ErrMany}, {full[:33], base(), append(base(), full[:33]...), api.OK},
	} {
		for _, y := range [][2][]api.Service{{x.a, x.b}, {x.b, x.a}} {
			if l, e := Join(y[0], y[1]); !slices.Equal(l, x.want) || e != x.e {
				t.Errorf("%v: it is %v %d, and must be %v %d", y, l, e, x.want, x.e)
			}
		}
	}
}

// E4: by a name, and by a tag or whatever tag; only what is passing, and not gone.
func TestFind(t *testing.T) {
	l := base()
	for _, x := range []struct {
		name, tag string
		want      []api.Service
	}{
		{"web", "", []api.Service{l[1], l[4], l[5]}}, {"web", "t", l[1:2]}, {"web", "u", l[4:5]}, {"web", "web", nil},
		{"db", "", l[:1]}, {"db", "t", nil}, {"we", "", nil}, {"webs", "", nil}, {"a", "", nil}, {"t", "", nil},
	} {
		if found, e := Find(l, x.name, x.tag); !slices.Equal(found, x.want) || e != api.OK {
			t.Errorf("%q by %q: it is %v %d, and must be %v", x.name, x.tag, found, e, x.want)
		}
	}
	if found, e := Find(nil, "web", ""); len(found) != 0 || e != api.OK {
		t.Errorf("in none: it is %v %d", found, e)
	}
	if found, e := Find(many(40), "web", ""); !slices.Equal(found, many(40)) || e != api.OK {
		t.Errorf("in many: it is %v %d", found, e)
	}
}

func TestFindErrors(t *testing.T) {
	for _, text := range noLabels() {
		asked := [][2]string{{text, ""}, {text, "t"}, {text, text}}
		if text != "" {
			asked = append(asked, [2]string{"web", text}, [2]string{"q", text})
		}
		for _, x := range asked {
			if found, e := Find(base(), x[0], x[1]); len(found) != 0 || e != api.ErrForm {
				t.Errorf("%q: it is %v %d, and must be %d", x, found, e, api.ErrForm)
			}
		}
	}
}

// drawn catalogs of few nodes and ids, so that many meet.
func drawn(d *draw.Numbers) []api.Service {
	var l []api.Service
	for i := range 9 {
		if d.Below(2) == 0 {
			continue
		}
		l = append(l, api.Service{
			Node: fmt.Sprint("n", i/3), ID: fmt.Sprint("i", i%3), Name: fmt.Sprint("s", d.Below(2)), Tag: []string{"", "t"}[d.Below(2)],
			Address: d.Below(2), Port: d.Below(2), Passing: d.Below(2) == 0, Version: d.From(1, 2), Gone: d.Below(2) == 0,
		})
	}
	return l
}

func joinAll(t *testing.T, catalogs [][]api.Service) []api.Service {
	t.Helper()
	var known []api.Service
	for _, l := range catalogs {
		next, e := Join(known, l)
		if e != api.OK || Check(next) != api.OK {
			t.Fatalf("%v joined with %v: it is %v %d", known, l, next, e)
		}
		known = next
	}
	return known
}

// E5: in whatever order, however often, one by one or by halves: the same is known.
func TestWhoJoinsTheSameHasTheSame(t *testing.T) {
	d := new(draw.Numbers)
	for range 300 {
		var catalogs [][]api.Service
		for range d.From(1, 6) {
			catalogs = append(catalogs, drawn(d))
		}
		want := joinAll(t, catalogs)
		for i := range catalogs {
			j := d.Below(i + 1)
			catalogs[i], catalogs[j] = catalogs[j], catalogs[i]
		}
		catalogs = append(catalogs, catalogs[d.Below(len(catalogs))])
		half := d.Below(len(catalogs))
		halves, e := Join(joinAll(t, catalogs[half:]), joinAll(t, catalogs[:half]))
		if got := joinAll(t, catalogs); !slices.Equal(got, want) || !slices.Equal(halves, want) || e != api.OK {
			t.Fatalf("%v: it is %v, or %v %d, and was %v", catalogs, got, halves, e, want)
		}
	}
}

func finds(t *testing.T, l []api.Service, s api.Service) bool {
	t.Helper()
	found, e := Find(l, s.Name, s.Tag)
	if e != api.OK {
		t.Fatalf("%v in %v: it is %d", s, l, e)
	}
	return slices.Contains(found, s)
}

// E5: what was registered is found until it is registered otherwise, or dropped; also by who hears of it late.
func TestWhatWasRegisteredIsFound(t *testing.T) {
	d := new(draw.Numbers)
	for range 300 {
		s := but(one(fmt.Sprint("n", d.Below(3)), fmt.Sprint("i", d.Below(3)), 0), func(s *api.Service) { s.Name, s.Tag = "s0", "t" })
		l, e := Register(drawn(d), s)
		at := slices.IndexFunc(l, func(x api.Service) bool { return x.Node == s.Node && x.ID == s.ID })
		if e != api.OK || at < 0 || !finds(t, l, l[at]) {
			t.Fatalf("%v: it is %v %d", s, l, e)
		}
		s.Tag = "u"
		otherwise, e := Register(l, s)
		if e != api.OK || finds(t, otherwise, l[at]) || !finds(t, otherwise, otherwise[at]) {
			t.Fatalf("%v, otherwise: it is %v %d", s, otherwise, e)
		}
		dropped, e := Drop(otherwise, s.Node, s.ID)
		if e != api.OK {
			t.Fatalf("%v, dropped: it is %v %d", s, dropped, e)
		}
		for _, x := range [][2][]api.Service{{dropped, otherwise}, {l, dropped}} {
			late, e := Join(x[0], x[1])
			if e != api.OK || finds(t, late, l[at]) || finds(t, late, otherwise[at]) {
				t.Fatalf("%v, dropped: it is %v %d", s, late, e)
			}
		}
	}
}

// P2: lists are only read, the room behind them too, and no answer shares memory with them.
func TestListsAreOnlyRead(t *testing.T) {
	room := append(base(), one("y", "y", 1), one("z", "z", 1))
	was := slices.Clone(room)
	l := room[:7]
	for name, call := range map[string]func() ([]api.Service, api.Errno){
		"Register":        func() ([]api.Service, api.Errno) { return Register(l, one("e", "e", 1)) },
		"Register again":  func() ([]api.Service, api.Errno) { return Register(l, one("a", "i", 1)) },
		"Drop":            func() ([]api.Service, api.Errno) { return Drop(l, "c", "i") },
		"Join":            func() ([]api.Service, api.Errno) { return Join(l, many(3)) },
		"Join nothing":    func() ([]api.Service, api.Errno) { return Join(l, nil) },
		"Join to nothing": func() ([]api.Service, api.Errno) { return Join(nil, l) },
		"Find":            func() ([]api.Service, api.Errno) { return Find(l, "web", "") },
		"Find the first":  func() ([]api.Service, api.Errno) { return Find(l, "db", "") },
	} {
		x, e := call()
		again, _ := call()
		if !slices.Equal(room, was) || !slices.Equal(x, again) || len(x) == 0 || e != api.OK {
			t.Errorf("%s: it is %v %d, then %v; handed in was %v", name, x, e, again, room)
		}
		x = x[:cap(x)]
		for i := range x {
			x[i] = one("changed", "i", 1)
		}
		if third, _ := call(); !slices.Equal(room, was) || !slices.Equal(third, again) {
			t.Errorf("%s: what was answered shares memory", name)
		}
	}
}
