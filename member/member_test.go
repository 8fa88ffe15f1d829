package member

import (
	"fmt"
	"slices"
	"strings"
	"testing"

	"hearsay/api"
	"hearsay/draw"
)

func one(name string, state, life int) api.Member {
	return api.Member{Name: name, State: state, Life: life}
}

// pool of n members that rise.
func pool(n int) []api.Member {
	var l []api.Member
	for i := range n {
		l = append(l, one(fmt.Sprint("m", 100+i), api.StateAlive, 1))
	}
	return l
}

// base has a member of each state.
func base() []api.Member {
	return []api.Member{one("a", api.StateAlive, 2), one("b", api.StateSuspect, 1), one("d", api.StateDead, 5), one("e", api.StateLeft, 1)}
}

// wrongOnes: members, and what Check says of each by itself.
func wrongOnes() map[api.Member]api.Errno {
	return map[api.Member]api.Errno{
		one("", 1, 1): api.ErrForm, one("A", 1, 1): api.ErrForm, one("a.b", 1, 1): api.ErrForm, one(strings.Repeat("l", 31), 1, 1): api.ErrForm,
		one("a", 0, 1): api.ErrKind, one("a", 5, 1): api.ErrKind, one("a", -1, 1): api.ErrKind,
		one("a", 1, 0): api.ErrRange, one("a", 1, -1): api.ErrRange, one("a", 1, api.MaxLife+1): api.ErrRange,
		{Name: "a", State: 1, Life: 1, Address: -1}:      api.ErrRange,
		{Name: "a", State: 1, Life: 1, Address: 1 << 32}: api.ErrRange,
		{Name: "", State: 0, Life: 0, Address: -1}:       api.ErrForm,
		{Name: "a", State: 0, Life: 0, Address: -1}:      api.ErrKind,
	}
}

// wrongPools: pools, and what Check says of them.
func wrongPools() map[api.Errno][][]api.Member {
	falling := []api.Member{one("b", 1, 1), one("a", 1, 1)}
	pools := map[api.Errno][][]api.Member{
		api.ErrMany:  {pool(21), slices.Repeat([]api.Member{{}}, 21)},
		api.ErrState: {falling, {one("a", 1, 1), one("a", 1, 2)}, {one("a", 1, 1), one("c", 1, 1), one("b", 1, 1)}, {one("aa", 1, 1), one("a", 1, 1)}},
		api.ErrKind:  {append(slices.Clone(falling), one("c", 0, 1)), {one("a", 0, 1), one("", 1, 1)}},
		api.ErrRange: {{one("a", 1, 0), one("b", 0, 1)}, {one("z", 1, 1), one("b", 1, 0)}},
	}
	for m, why := range wrongOnes() {
		pools[why] = append(pools[why], []api.Member{m})
	}
	return pools
}

// B1: one by one, and then their order.
func TestCheck(t *testing.T) {
	for _, l := range [][]api.Member{nil, {}, base(), pool(20), {one("a", 2, api.MaxLife)}, {one(strings.Repeat("l", 30), 4, 1)}, {{Name: "-", State: 3, Life: 1, Address: 1<<32 - 1, Server: true}}, {one("a", 1, 1), one("aa", 1, 1), one("b", 1, 1)}, {one("-", 1, 1), one("0", 1, 1), one("_", 1, 1), one("a", 1, 1)}} {
		if e := Check(l); e != api.OK {
			t.Errorf("%v: it is %d, and must be %d", l, e, api.OK)
		}
	}
	for why, pools := range wrongPools() {
		for _, l := range pools {
			if e := Check(l); e != why {
				t.Errorf("%v: it is %d, and must be %d", l, e, why)
			}
		}
	}
}

// B1, P1: all others tell what Check says ahead of their own errors, and nothing with it.
func TestWrongPoolsAreToldFirst(t *testing.T) {
	full := pool(20)
	for why, pools := range wrongPools() {
		for _, l := range pools {
			if x, ok, e := Hear(l, api.Member{}); len(x) != 0 || ok || e != why {
				t.Errorf("Hear %v: it is %v %v %d, and must be %d", l, x, ok, e, why)
			}
			if x, ok, e := Refute(l, ""); len(x) != 0 || ok || e != why {
				t.Errorf("Refute %v: it is %v %v %d, and must be %d", l, x, ok, e, why)
			}
			if x, e := Live(l); len(x) != 0 || e != why {
				t.Errorf("Live %v: it is %v %d, and must be %d", l, x, e, why)
			}
			if x, e := Join(l, []api.Member{{}}); len(x) != 0 || e != why {
				t.Errorf("Join %v: it is %v %d, and must be %d", l, x, e, why)
			}
			if x, e := Join(full, l); len(x) != 0 || e != why {
				t.Errorf("Join with %v: it is %v %d, and must be %d", l, x, e, why)
			}
		}
	}
}

func TestWrongOnesAreToldFirst(t *testing.T) {
	other := api.Member{Name: "other", State: 9}
	for m, why := range wrongOnes() {
		if ok, e := Newer(m, other); ok || e != why {
			t.Errorf("Newer %v: it is %v %d, and must be %d", m, ok, e, why)
		}
		if ok, e := Newer(one("b", 1, 1), m); ok || e != why {
			t.Errorf("Newer than %v: it is %v %d, and must be %d", m, ok, e, why)
		}
		if x, ok, e := Hear(pool(20), m); len(x) != 0 || ok || e != why {
			t.Errorf("Hear %v: it is %v %v %d, and must be %d", m, x, ok, e, why)
		}
	}
}

// ages are members of one name: each is newer than all ahead of it.
func ages() []api.Member {
	var l []api.Member
	for _, life := range []int{1, 2, api.MaxLife} {
		for state := api.StateAlive; state <= api.StateLeft; state++ {
			for _, address := range []int{0, 7, 1<<32 - 1} {
				for _, server := range []bool{false, true} {
					l = append(l, api.Member{Name: "a", State: state, Life: life, Address: address, Server: server})
				}
			}
		}
	}
	return l
}

// B2: by life, then state, then address, then server.
func TestNewer(t *testing.T) {
	for i, a := range ages() {
		for j, b := range ages() {
			if ok, e := Newer(a, b); ok != (i > j) || e != api.OK {
				t.Errorf("%v than %v: it is %v %d", a, b, ok, e)
			}
		}
	}
	for _, names := range [][2]string{{"a", "b"}, {"b", "a"}, {"a", "aa"}} {
		if ok, e := Newer(one(names[0], 1, 2), one(names[1], 1, 1)); ok || e != api.ErrForm {
			t.Errorf("%v: it is %v %d, and must be %d", names, ok, e, api.ErrForm)
		}
	}
}

// B3: of each two of one name the newer one is known then.
func TestHearAndJoinOfOneName(t *testing.T) {
	z := one("z", 1, 1)
	for i, a := range ages() {
		for j, b := range ages() {
			want := []api.Member{ages()[max(i, j)], z}
			if x, ok, e := Hear([]api.Member{a, z}, b); !slices.Equal(x, want) || ok != (j > i) || e != api.OK {
				t.Errorf("%v hears %v: it is %v %v %d", a, b, x, ok, e)
			}
			if x, e := Join([]api.Member{a, z}, []api.Member{b}); !slices.Equal(x, want) || e != api.OK {
				t.Errorf("%v joined with %v: it is %v %d", a, b, x, e)
			}
		}
	}
}

// B3: who was not known comes where its name belongs.
func TestHearOfSomebodyNew(t *testing.T) {
	for name, at := range map[string]int{"0": 0, "aa": 1, "c": 2, "dd": 3, "f": 4} {
		m := api.Member{Name: name, State: api.StateLeft, Life: 3, Address: 9, Server: true}
		x, ok, e := Hear(base(), m)
		if want := slices.Insert(base(), at, m); !slices.Equal(x, want) || !ok || e != api.OK {
			t.Errorf("%q: it is %v %v %d, and must be %v", name, x, ok, e, want)
		}
	}
	if x, ok, e := Hear(nil, one("a", 3, 1)); len(x) != 1 || x[0] != one("a", 3, 1) || !ok || e != api.OK {
		t.Errorf("by who knows nobody: it is %v %v %d", x, ok, e)
	}
}

// B3: a pool that is full takes who is known, and nobody else.
func TestHearInFullPool(t *testing.T) {
	full := pool(20)
	if x, ok, e := Hear(full, one("m105", 2, 1)); len(x) != 20 || x[5] != one("m105", 2, 1) || !ok || e != api.OK {
		t.Errorf("it is %v %v %d", x, ok, e)
	}
	if x, ok, e := Hear(full, one("m105", 1, 1)); !slices.Equal(x, full) || ok || e != api.OK {
		t.Errorf("it is %v %v %d", x, ok, e)
	}
	for _, name := range []string{"a", "m1055", "z"} {
		if x, ok, e := Hear(full, one(name, 1, 1)); len(x) != 0 || ok || e != api.ErrMany {
			t.Errorf("%q: it is %v %v %d, and must be %d", name, x, ok, e, api.ErrMany)
		}
	}
	if x, ok, e := Hear(full[:19], one("z", 1, 1)); len(x) != 20 || !ok || e != api.OK {
		t.Errorf("it is %v %v %d", x, ok, e)
	}
}

func TestJoin(t *testing.T) {
	mine := []api.Member{one("a", 1, 3), one("b", 1, 1), one("c", 1, 1)}
	want := []api.Member{one("a", 1, 3), one("b", 2, 1), one("c", 1, 1), one("d", 3, 5), one("e", 4, 1)}
	full := pool(20)
	for _, x := range []struct {
		a, b, want []api.Member
		e          api.Errno
	}{
		{nil, nil, nil, api.OK}, {base(), nil, base(), api.OK}, {base(), base(), base(), api.OK}, {mine, base(), want, api.OK},
		{full, full, full, api.OK}, {full[:10], full[10:], full, api.OK}, {full[:12], full[8:], full, api.OK},
		{full, base()[:1], nil, api.ErrMany}, {full[:17], base(), nil, api.ErrMany}, {full[:16], base(), append(base(), full[:16]...), api.OK},
	} {
		for _, y := range [][2][]api.Member{{x.a, x.b}, {x.b, x.a}} {
			if l, e := Join(y[0], y[1]); !slices.Equal(l, x.want) || e != x.e {
				t.Errorf("%v: it is %v %d, and must be %v %d", y, l, e, x.want, x.e)
			}
		}
	}
}

// B4: only who is doubted, or taken for dead, refutes.
func TestRefute(t *testing.T) {
	for me, at := range map[string]int{"b": 1, "d": 2} {
		l := base()
		l[at].Address, l[at].Server = 7, true
		want := slices.Clone(l)
		want[at].State, want[at].Life = api.StateAlive, l[at].Life+1
		if x, ok, e := Refute(l, me); !slices.Equal(x, want) || !ok || e != api.OK {
			t.Errorf("%q: it is %v %v %d, and must be %v", me, x, ok, e, want)
		}
	}
	for _, me := range []string{"a", "e", "q", "0", "bb"} {
		if x, ok, e := Refute(base(), me); !slices.Equal(x, base()) || ok || e != api.OK {
			t.Errorf("%q: it is %v %v %d, and nothing must change", me, x, ok, e)
		}
	}
	if x, ok, e := Refute(nil, "a"); len(x) != 0 || ok || e != api.OK {
		t.Errorf("it is %v %v %d", x, ok, e)
	}
}

func TestRefuteErrors(t *testing.T) {
	for _, me := range []string{"", "B", "a.b", "b ", strings.Repeat("l", 31)} {
		if x, ok, e := Refute(base(), me); len(x) != 0 || ok || e != api.ErrForm {
			t.Errorf("%q: it is %v %v %d, and must be %d", me, x, ok, e, api.ErrForm)
		}
	}
	for state := api.StateAlive; state <= api.StateLeft; state++ {
		want := api.OK
		if state == api.StateSuspect || state == api.StateDead {
			want = api.ErrRange
		}
		l := []api.Member{one("a", state, api.MaxLife)}
		x, ok, e := Refute(l, "a")
		if ok || e != want || e == api.OK && !slices.Equal(x, l) || e != api.OK && len(x) != 0 {
			t.Errorf("%v: it is %v %v %d, and must be %d", l, x, ok, e, want)
		}
		l[0].Life--
		if x, ok, e := Refute(l, "a"); ok != (want != api.OK) || len(x) != 1 || e != api.OK {
			t.Errorf("%v: it is %v %v %d", l, x, ok, e)
		}
	}
}

func TestLive(t *testing.T) {
	for _, x := range []struct {
		l    []api.Member
		want []string
	}{{nil, nil}, {base(), []string{"a", "b"}}, {base()[2:], nil}, {pool(2), []string{"m100", "m101"}}} {
		if l, e := Live(x.l); !slices.Equal(l, x.want) || e != api.OK {
			t.Errorf("%v: it is %v %d, and must be %v", x.l, l, e, x.want)
		}
	}
}

// B5: in whatever order, however often, one by one or by halves: the same is known; and it never gets older.
func TestWhoHearsTheSameKnowsTheSame(t *testing.T) {
	d := new(draw.Numbers)
	for range 200 {
		rumors := someRumors(d)
		want := hearAll(t, rumors)
		for i := range rumors {
			j := d.Below(i + 1)
			rumors[i], rumors[j] = rumors[j], rumors[i]
		}
		rumors = append(rumors, rumors[d.Below(len(rumors))])
		if got := hearAll(t, rumors); !slices.Equal(got, want) {
			t.Fatalf("%v: it is %v, and was %v", rumors, got, want)
		}
		half := d.Below(len(rumors))
		for _, parts := range [][2][]api.Member{{rumors[:half], rumors[half:]}, {rumors[half:], rumors[:half]}} {
			if got, e := Join(hearAll(t, parts[0]), hearAll(t, parts[1])); !slices.Equal(got, want) || e != api.OK {
				t.Fatalf("%v: it is %v, %d, and was %v", rumors, got, e, want)
			}
		}
	}
}

func someRumors(d *draw.Numbers) []api.Member {
	var l []api.Member
	for range 1 + d.Below(30) {
		name := fmt.Sprint("m", d.Below(6))
		l = append(l, api.Member{Name: name, State: 1 + d.Below(4), Life: 1 + d.Below(3), Address: d.Below(3), Server: d.Below(2) == 0})
	}
	return l
}

func hearAll(t *testing.T, rumors []api.Member) []api.Member {
	t.Helper()
	var known []api.Member
	for _, m := range rumors {
		next, changed, e := Hear(known, m)
		if e != api.OK || Check(next) != api.OK || changed == slices.Equal(known, next) {
			t.Fatalf("%v hears %v: it is %v %v %d", known, m, next, changed, e)
		}
		for _, was := range known {
			at := slices.IndexFunc(next, func(m api.Member) bool { return m.Name == was.Name })
			if at < 0 {
				t.Fatalf("%v is not known any more", was)
			}
			if older, _ := Newer(was, next[at]); older {
				t.Fatalf("%v got older: %v", was, next[at])
			}
		}
		known = next
	}
	return known
}

// B5: who refutes is newer than all that was said.
func TestWhoRefutesIsNewer(t *testing.T) {
	for _, was := range ages() {
		l, ok, e := Refute([]api.Member{was}, "a")
		if e != api.OK || !ok {
			continue
		}
		for _, said := range ages() {
			if older, _ := Newer(was, said); said != was && !older {
				continue
			}
			if newer, _ := Newer(l[0], said); !newer {
				t.Errorf("%v is not newer than %v", l[0], said)
			}
		}
	}
}

// P2: lists are only read, the room behind them too, and no answer shares memory with them.
func TestListsAreOnlyRead(t *testing.T) {
	room := append(base(), one("y", 1, 1), one("z", 1, 1))
	was := slices.Clone(room)
	l := room[:4]
	for name, call := range map[string]func() []api.Member{
		"Hear nothing":    func() []api.Member { x, _, _ := Hear(l, l[0]); return x },
		"Hear of one":     func() []api.Member { x, _, _ := Hear(l, one("f", 1, 1)); return x },
		"Hear newer":      func() []api.Member { x, _, _ := Hear(l, one("b", 1, 9)); return x },
		"Join":            func() []api.Member { x, _ := Join(l, pool(3)); return x },
		"Join to another": func() []api.Member { x, _ := Join(nil, l); return x },
		"Refute":          func() []api.Member { x, _, _ := Refute(l, "d"); return x },
		"Refute nothing":  func() []api.Member { x, _, _ := Refute(l, "a"); return x },
	} {
		x, again := call(), call()
		if !slices.Equal(room, was) || !slices.Equal(x, again) || len(x) < 4 {
			t.Errorf("%s: it is %v, then %v; handed in was %v", name, x, again, room)
		}
		x = x[:cap(x)]
		for i := range x {
			x[i] = one("changed", 1, 1)
		}
		if !slices.Equal(room, was) || !slices.Equal(call(), again) {
			t.Errorf("%s: what was answered shares memory", name)
		}
	}
}
