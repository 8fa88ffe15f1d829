package centre

import (
	"fmt"
	"slices"
	"strings"
	"testing"

	"hearsay/api"
	"hearsay/draw"
)

const maxAddress = 1<<32 - 1

func one(centre string, address, version int) api.Gateway {
	return api.Gateway{Centre: centre, Address: address, Version: version}
}

// many gateways that rise.
func many(n int) []api.Gateway {
	var l []api.Gateway
	for i := range n {
		l = append(l, one(fmt.Sprint("c", i), i, 1))
	}
	return l
}

func base() []api.Gateway {
	return []api.Gateway{one("b", 7, 3), one("c", 0, 1), one("e", maxAddress, 9)}
}

func noLabels() []string {
	return []string{"", "A", "a.b", "a ", "\xff", strings.Repeat("l", api.MaxLabel+1)}
}

func wrongAddresses() []int { return []int{-1, -1 << 63, maxAddress + 1, 1<<63 - 1} }

// wrongLists: gateways, and what Check says of them; where several errors apply, the one that comes first.
func wrongLists() map[api.Errno][][]api.Gateway {
	lists := map[api.Errno][][]api.Gateway{
		api.ErrMany:  {many(7), make([]api.Gateway, 7)},
		api.ErrForm:  {{one("", -1, 0), one("a", -1, 1)}, {one("b", 1, 1), one("a", 1, 1), one("", 1, 1)}},
		api.ErrState: {{one("b", 1, 1), one("a", 1, 1)}, {one("a", 1, 1), one("a", 1, 1)}, {one("a", 1, 1), one("a", 2, 2)}, {one("aa", 1, 1), one("a", 1, 1)}, {one("a", 1, 1), one("c", 1, 1), one("b", 1, 1)}},
		api.ErrRange: {{one("a", 1, 0), one("", 1, 1)}, {one("z", 1, 1), one("b", 1, 0)}},
	}
	for _, text := range noLabels() {
		lists[api.ErrForm] = append(lists[api.ErrForm], []api.Gateway{one(text, 1, 1)})
	}
	for _, address := range wrongAddresses() {
		lists[api.ErrRange] = append(lists[api.ErrRange], []api.Gateway{one("a", address, 1)})
	}
	for _, version := range []int{0, -1, api.MaxVersion + 1, 1<<63 - 1} {
		lists[api.ErrRange] = append(lists[api.ErrRange], []api.Gateway{one("a", 1, version)})
	}
	return lists
}

// F1: one by one, and then their order.
func TestCheck(t *testing.T) {
	for _, l := range [][]api.Gateway{
		nil, {}, base(), many(6), {one(strings.Repeat("l", api.MaxLabel), maxAddress, api.MaxVersion)},
		{one("-", 1, 1), one("0", 1, 1), one("_", 1, 1), one("a", 1, 1), one("aa", 1, 1), one("b", 1, 1)},
	} {
		if e := Check(l); e != api.OK {
			t.Errorf("%v: it is %d, and must be %d", l, e, api.OK)
		}
	}
	for why, lists := range wrongLists() {
		for _, l := range lists {
			if e := Check(l); e != why {
				t.Errorf("%v: it is %d, and must be %d", l, e, why)
			}
		}
	}
}

// F1, P1: all others tell what Check says ahead of their own errors, and nothing with it.
func TestWrongListsAreToldFirst(t *testing.T) {
	for why, lists := range wrongLists() {
		for _, l := range lists {
			for _, x := range []api.Gateway{one("q", 1, 1), one("", -1, 1), one("q", -1, 1)} {
				if y, e := Open(l, x.Centre, x.Address); len(y) != 0 || e != why {
					t.Errorf("Open %v: it is %v %d, and must be %d", l, y, e, why)
				}
			}
			for _, pair := range [][2][]api.Gateway{{l, nil}, {l, {{}}}, {many(6), l}} {
				if y, e := Join(pair[0], pair[1]); len(y) != 0 || e != why {
					t.Errorf("Join %v: it is %v %d, and must be %d", pair, y, e, why)
				}
			}
			for _, here := range []string{"a", ""} {
				if y, e := Table(l, here); len(y) != 0 || e != why {
					t.Errorf("Table %v: it is %v %d, and must be %d", l, y, e, why)
				}
				for _, to := range []string{"a", "b", "q", ""} {
					if n, e := Next(l, here, to); n != 0 || e != why {
						t.Errorf("Next %v: it is %d %d, and must be %d", l, n, e, why)
					}
				}
			}
		}
	}
}

// F2: one that was not there comes where it belongs, by version 1.
func TestOpenSomethingNew(t *testing.T) {
	for name, at := range map[string]int{"a": 0, "bb": 1, "d": 2, "f": 3} {
		for _, address := range []int{0, 5, maxAddress} {
			want := slices.Insert(base(), at, one(name, address, 1))
			if l, e := Open(base(), name, address); !slices.Equal(l, want) || e != api.OK {
				t.Errorf("%q: it is %v %d, and must be %v", name, l, e, want)
			}
		}
	}
	if l, e := Open(nil, "c", 7); !slices.Equal(l, []api.Gateway{one("c", 7, 1)}) || e != api.OK {
		t.Errorf("to none: it is %v %d", l, e)
	}
}

// F2: one that was there is at the address by one more version, a lesser address or the same one, too.
func TestOpenAgain(t *testing.T) {
	for i, g := range base() {
		for _, address := range []int{0, 7, maxAddress} {
			want := base()
			want[i] = one(g.Centre, address, g.Version+1)
			if l, e := Open(base(), g.Centre, address); !slices.Equal(l, want) || e != api.OK {
				t.Errorf("%v: it is %v %d, and must be %v", g, l, e, want)
			}
		}
	}
}

// F2: ErrForm, then ErrRange, then ErrMany.
func TestOpenErrors(t *testing.T) {
	for _, l := range [][]api.Gateway{nil, base(), many(6)} {
		for _, text := range noLabels() {
			for _, address := range []int{-1, 1} {
				if x, e := Open(l, text, address); len(x) != 0 || e != api.ErrForm {
					t.Errorf("%q: it is %v %d, and must be %d", text, x, e, api.ErrForm)
				}
			}
		}
		for _, address := range wrongAddresses() {
			for _, name := range []string{"b", "c1", "q"} {
				if x, e := Open(l, name, address); len(x) != 0 || e != api.ErrRange {
					t.Errorf("%q at %d: it is %v %d, and must be %d", name, address, x, e, api.ErrRange)
				}
			}
		}
	}
}

func TestOpenBounds(t *testing.T) {
	for _, address := range []int{0, 1, 2} {
		if l, e := Open([]api.Gateway{one("c", 1, api.MaxVersion)}, "c", address); len(l) != 0 || e != api.ErrRange {
			t.Errorf("%d: it is %v %d, and must be %d", address, l, e, api.ErrRange)
		}
		if l, e := Open([]api.Gateway{one("c", 1, api.MaxVersion-1)}, "c", address); !slices.Equal(l, []api.Gateway{one("c", address, api.MaxVersion)}) || e != api.OK {
			t.Errorf("%d: it is %v %d", address, l, e)
		}
	}
	for _, name := range []string{"a", "c11", "z"} {
		if l, e := Open(many(6), name, 1); len(l) != 0 || e != api.ErrMany {
			t.Errorf("%q: it is %v %d, and must be %d", name, l, e, api.ErrMany)
		}
		if l, e := Open(many(5), name, 1); len(l) != 6 || e != api.OK {
			t.Errorf("%q: it is %v %d", name, l, e)
		}
	}
	if l, e := Open(many(6), "c3", 9); len(l) != 6 || l[3] != one("c3", 9, 2) || e != api.OK {
		t.Errorf("again: it is %v %d", l, e)
	}
}

// F2: of one centre the greater version stays, then the greater address.
func TestJoinOfOneCentre(t *testing.T) {
	var ages []api.Gateway
	for _, version := range []int{1, 2, api.MaxVersion} {
		for _, address := range []int{0, 9, 10, maxAddress} {
			ages = append(ages, one("c", address, version))
		}
	}
	z := one("z", 1, 1)
	for i, a := range ages {
		for j, b := range ages {
			want := []api.Gateway{ages[max(i, j)], z}
			if x, e := Join([]api.Gateway{a, z}, []api.Gateway{b}); !slices.Equal(x, want) || e != api.OK {
				t.Errorf("%v joined with %v: it is %v %d", a, b, x, e)
			}
		}
	}
}

func TestJoin(t *testing.T) {
	mine := []api.Gateway{one("a", 1, 1), one("b", 9, 2), one("c", 1, 1)}
	want := []api.Gateway{one("a", 1, 1), one("b", 7, 3), one("c", 1, 1), one("e", maxAddress, 9)}
	full := many(6)
	for _, x := range []struct {
		a, b, want []api.Gateway
		e          api.Errno
	}{
		{nil, nil, nil, api.OK}, {base(), nil, base(), api.OK}, {base(), base(), base(), api.OK}, {mine, base(), want, api.OK},
		{full, full, full, api.OK}, {full[:2], full[2:], full, api.OK}, {full[:4], full[2:], full, api.OK},
		{full, base()[:1], nil, api.ErrMany}, {full[:4], base(), nil, api.ErrMany}, {full[:3], base(), []api.Gateway{base()[0], base()[1], full[0], full[1], full[2], base()[2]}, api.OK},
	} {
		for _, y := range [][2][]api.Gateway{{x.a, x.b}, {x.b, x.a}} {
			if l, e := Join(y[0], y[1]); !slices.Equal(l, x.want) || e != x.e {
				t.Errorf("%v: it is %v %d, and must be %v %d", y, l, e, x.want, x.e)
			}
		}
	}
}

// F3: all centres but the one that is here.
func TestTable(t *testing.T) {
	b, c, e := api.Route{Centre: "b", Address: 7}, api.Route{Centre: "c"}, api.Route{Centre: "e", Address: maxAddress}
	for here, want := range map[string][]api.Route{"b": {c, e}, "c": {b, e}, "e": {b, c}, "a": {b, c, e}, "bb": {b, c, e}, "z": {b, c, e}} {
		if x, e := Table(base(), here); !slices.Equal(x, want) || e != api.OK {
			t.Errorf("%q: it is %v %d, and must be %v", here, x, e, want)
		}
	}
	for _, l := range [][]api.Gateway{nil, base()[:1]} {
		if x, e := Table(l, "b"); len(x) != 0 || e != api.OK {
			t.Errorf("%v: it is %v %d, and must be empty", l, x, e)
		}
	}
	for _, text := range noLabels() {
		if x, e := Table(base(), text); len(x) != 0 || e != api.ErrForm {
			t.Errorf("%q: it is %v %d, and must be %d", text, x, e, api.ErrForm)
		}
	}
}

// F3: from wherever one is, whether there is a gateway of that centre or not.
func TestNext(t *testing.T) {
	for _, here := range []string{"a", "b", "c", "e", "z"} {
		for to, want := range map[string]int{"b": 7, "c": 0, "e": maxAddress, "a": -1, "bb": -1, "d": -1, "z": -1} {
			why := api.OK
			if want < 0 {
				want, why = 0, api.ErrNone
			}
			if here == to {
				want, why = 0, api.ErrTwice
			}
			if n, e := Next(base(), here, to); n != want || e != why {
				t.Errorf("%q to %q: it is %d %d, and must be %d %d", here, to, n, e, want, why)
			}
		}
	}
	for _, text := range noLabels() {
		for _, x := range [][2]string{{text, "b"}, {"b", text}, {"q", text}, {text, "q"}, {text, text}} {
			if n, e := Next(base(), x[0], x[1]); n != 0 || e != api.ErrForm {
				t.Errorf("%q: it is %d %d, and must be %d", x, n, e, api.ErrForm)
			}
		}
	}
	if n, e := Next(nil, "a", "b"); n != 0 || e != api.ErrNone {
		t.Errorf("of none: it is %d %d, and must be %d", n, e, api.ErrNone)
	}
}

// F3: what the table says, and whereto one goes, is the same.
func TestTableAndNext(t *testing.T) {
	d := new(draw.Numbers)
	for range 100 {
		l := drawn(d)
		routes, e := Table(l, "c2")
		for _, r := range routes {
			if n, why := Next(l, "c2", r.Centre); n != r.Address || why != api.OK || e != api.OK {
				t.Fatalf("%v: it is %d %d, and must be %v", l, n, why, r)
			}
		}
	}
}

// drawn gateways of few centres, so that many meet.
func drawn(d *draw.Numbers) []api.Gateway {
	var l []api.Gateway
	for _, g := range many(6) {
		if d.Below(3) > 0 {
			l = append(l, one(g.Centre, d.Below(4), d.From(1, 3)))
		}
	}
	return l
}

func tableOf(t *testing.T, lists [][]api.Gateway) []api.Route {
	t.Helper()
	var known []api.Gateway
	for _, l := range lists {
		next, e := Join(known, l)
		if e != api.OK || Check(next) != api.OK {
			t.Fatalf("%v joined with %v: it is %v %d", known, l, next, e)
		}
		known = next
	}
	routes, e := Table(known, "c2")
	if e != api.OK {
		t.Fatalf("%v: it is %d", known, e)
	}
	return routes
}

// F4: in whatever order, however often: the same table.
func TestWhoJoinsTheSameHasTheSameTable(t *testing.T) {
	d := new(draw.Numbers)
	for range 300 {
		var lists [][]api.Gateway
		for range d.From(1, 6) {
			lists = append(lists, drawn(d))
		}
		want := tableOf(t, lists)
		for i := range lists {
			j := d.Below(i + 1)
			lists[i], lists[j] = lists[j], lists[i]
		}
		lists = append(lists, lists[d.Below(len(lists))])
		if got := tableOf(t, lists); !slices.Equal(got, want) {
			t.Fatalf("%v: it is %v, and was %v", lists, got, want)
		}
	}
}

// P2: lists are only read, the room behind them too, and no answer shares memory with them.
func TestListsAreOnlyRead(t *testing.T) {
	room := append(base(), one("y", 1, 1), one("z", 1, 1))
	was := slices.Clone(room)
	l := room[:3]
	for name, call := range map[string]func() ([]api.Gateway, api.Errno){
		"Open":            func() ([]api.Gateway, api.Errno) { return Open(l, "f", 1) },
		"Open again":      func() ([]api.Gateway, api.Errno) { return Open(l, "c", 1) },
		"Join":            func() ([]api.Gateway, api.Errno) { return Join(l, many(3)) },
		"Join nothing":    func() ([]api.Gateway, api.Errno) { return Join(l, nil) },
		"Join to nothing": func() ([]api.Gateway, api.Errno) { return Join(nil, l) },
	} {
		x, e := call()
		again, _ := call()
		if !slices.Equal(room, was) || !slices.Equal(x, again) || len(x) < 3 || e != api.OK {
			t.Errorf("%s: it is %v %d, then %v; handed in was %v", name, x, e, again, room)
		}
		x = x[:cap(x)]
		for i := range x {
			x[i] = one("changed", 1, 1)
		}
		if third, _ := call(); !slices.Equal(room, was) || !slices.Equal(third, again) {
			t.Errorf("%s: what was answered shares memory", name)
		}
	}
}
