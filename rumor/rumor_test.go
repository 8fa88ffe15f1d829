package rumor

import (
	"fmt"
	"slices"
	"strings"
	"testing"

	"hearsay/api"
	"hearsay/draw"
)

func one(name string, state, life int) api.Member {
	return api.Member{Name: name, State: state, Life: life}
}

// heard: a rumor that somebody lives, that was told so often.
func heard(name string, told int) api.Rumor {
	return api.Rumor{Member: one(name, api.StateAlive, 1), Told: told}
}

// some rumors; no two have one name, and they do not rise.
func some(n int) []api.Rumor {
	var l []api.Rumor
	for i := range n {
		l = append(l, heard(fmt.Sprint("m", 200-i), i%4))
	}
	return l
}

// wrongMembers: members, and what Check of members says of each.
func wrongMembers() map[api.Member]api.Errno {
	return map[api.Member]api.Errno{
		one("", 1, 1): api.ErrForm, one("A", 0, 0): api.ErrForm, one("a.b", 1, 1): api.ErrForm, one(strings.Repeat("l", 31), 1, 1): api.ErrForm,
		one("w", 0, 0): api.ErrKind, one("w", 5, 1): api.ErrKind,
		one("w", 1, 0): api.ErrRange, one("w", 1, api.MaxLife+1): api.ErrRange,
		{Name: "w", State: 1, Life: 1, Address: -1}:      api.ErrRange,
		{Name: "w", State: 1, Life: 1, Address: 1 << 32}: api.ErrRange,
	}
}

// wrongLists: rumors, and what Check says of them; where several errors apply, the one that comes first.
func wrongLists() map[api.Errno][][]api.Rumor {
	lists := map[api.Errno][][]api.Rumor{
		api.ErrMany:  {some(21), make([]api.Rumor, 21)},
		api.ErrRange: {{heard("a", -1)}, {heard("a", 101)}, {heard("a", 0), heard("b", 1<<62)}, {heard("a", 0), heard("a", -1<<62)}},
		api.ErrTwice: {{heard("a", 0), heard("a", 0)}, {heard("a", 1), heard("b", 2), {Member: one("a", 3, 7), Told: 4}}},
		api.ErrKind:  {{{Member: one("a", 5, 0)}, {Member: one("", 1, 1)}}},
	}
	for m, why := range wrongMembers() {
		lists[why] = append(lists[why], []api.Rumor{{Member: m}}, []api.Rumor{heard("a", 101), heard("a", 0), {Member: m}})
	}
	return lists
}

// C1: many; members; how often; names.
func TestCheck(t *testing.T) {
	for _, l := range [][]api.Rumor{nil, {}, some(1), some(20), {heard("a", 0), heard("b", 100)}, {heard("b", 1), heard("a", 1), heard("aa", 1)}} {
		if e := Check(l); e != api.OK {
			t.Errorf("%v: it is %d, and must be %d", l, e, api.OK)
		}
	}
	for why, lists := range wrongLists() {
		for _, l := range lists {
			if e := Check(l); e != why {
				t.Errorf("%v: it is %d, and must be %d", l, e, why)
			}
		}
	}
}

// C1, P1: Put and Take tell what Check says ahead of their own errors, and nothing with it.
func TestWrongListsAreToldFirst(t *testing.T) {
	for why, lists := range wrongLists() {
		for _, l := range lists {
			for _, m := range []api.Member{one("new", 1, 1), {}, one("a", 0, 0)} {
				if x, e := Put(l, m); len(x) != 0 || e != why {
					t.Errorf("Put %v: it is %v %d, and must be %d", l, x, e, why)
				}
			}
			for _, most := range []int{1, 0} {
				if told, rest, e := Take(l, most, 1); len(told)+len(rest) != 0 || e != why {
					t.Errorf("Take %v: it is %v %v %d, and must be %d", l, told, rest, e, why)
				}
			}
		}
	}
}

// C2: a rumor that is new is the last one, whatever it tells.
func TestPutSomethingNew(t *testing.T) {
	for _, m := range []api.Member{one("a", 4, 1), one("z", 1, api.MaxLife), {Name: "m1955", State: 2, Life: 3, Address: 1<<32 - 1, Server: true}} {
		for _, n := range []int{0, 1, 5, 19} {
			if x, e := Put(some(n), m); !slices.Equal(x, append(some(n), api.Rumor{Member: m})) || e != api.OK {
				t.Errorf("%v to %d: it is %v %d", m, n, x, e)
			}
		}
	}
}

// C2: of one name the newer one stays; if that is the old one, where it was, as often as it was told.
func TestPutOfOneName(t *testing.T) {
	ages := []api.Member{one("m", 1, 1), {Name: "m", State: 1, Life: 1, Server: true}, {Name: "m", State: 1, Life: 1, Address: 1}, one("m", 2, 1), one("m", 1, 2), one("m", 4, api.MaxLife)}
	for i, old := range ages {
		for k, m := range ages {
			l := []api.Rumor{heard("a", 1), {Member: old, Told: 7}, heard("z", 2)}
			want := slices.Clone(l)
			if k > i {
				want = []api.Rumor{heard("a", 1), heard("z", 2), {Member: m}}
			}
			if x, e := Put(l, m); !slices.Equal(x, want) || e != api.OK {
				t.Errorf("%v to %v: it is %v %d, and must be %v", m, l, x, e, want)
			}
		}
	}
}

// C2: where no more have room, one whose name is there is taken all the same.
func TestPutToFullList(t *testing.T) {
	full := some(20)
	if x, e := Put(full, one("new", 1, 1)); len(x) != 0 || e != api.ErrMany {
		t.Errorf("it is %v %d, and must be %d", x, e, api.ErrMany)
	}
	for i, r := range full {
		if x, e := Put(full, r.Member); !slices.Equal(x, full) || e != api.OK {
			t.Errorf("it is %v %d, and nothing must change", x, e)
		}
		newer := one(r.Member.Name, 1, 2)
		want := append(slices.Delete(some(20), i, i+1), api.Rumor{Member: newer})
		if x, e := Put(full, newer); !slices.Equal(x, want) || e != api.OK {
			t.Errorf("it is %v %d, and must be %v", x, e, want)
		}
	}
}

// C2: what is wrong in a member is told ahead of what there is no room for.
func TestPutWrongMembers(t *testing.T) {
	for m, why := range wrongMembers() {
		for _, l := range [][]api.Rumor{nil, some(20), {heard("w", 0)}} {
			if x, e := Put(l, m); len(x) != 0 || e != why {
				t.Errorf("%v to %v: it is %v %d, and must be %d", m, l, x, e, why)
			}
		}
	}
}

// C3: those that were told least first, of these the later ones first; what was told often enough goes.
func TestTake(t *testing.T) {
	l := []api.Rumor{heard("d", 2), heard("a", 0), heard("c", 1), heard("b", 0), heard("e", 9)}
	for _, x := range []struct {
		most, times int
		told        string
		rest        []api.Rumor
	}{
		{1, 100, "b", []api.Rumor{heard("d", 2), heard("a", 0), heard("c", 1), heard("b", 1), heard("e", 9)}},
		{2, 100, "b a", []api.Rumor{heard("d", 2), heard("a", 1), heard("c", 1), heard("b", 1), heard("e", 9)}},
		{3, 10, "b a c", []api.Rumor{heard("d", 2), heard("a", 1), heard("c", 2), heard("b", 1), heard("e", 9)}},
		{3, 2, "b a c", []api.Rumor{heard("a", 1), heard("b", 1)}},
		{4, 3, "b a c d", []api.Rumor{heard("a", 1), heard("c", 2), heard("b", 1)}},
		{5, 10, "b a c d e", []api.Rumor{heard("d", 3), heard("a", 1), heard("c", 2), heard("b", 1)}},
		{20, 11, "b a c d e", []api.Rumor{heard("d", 3), heard("a", 1), heard("c", 2), heard("b", 1), heard("e", 10)}},
		{1, 1, "b", []api.Rumor{heard("a", 0)}},
		{20, 1, "b a c d e", nil},
	} {
		told, rest, e := Take(l, x.most, x.times)
		var names []string
		for _, m := range told {
			names = append(names, m.Name)
		}
		if strings.Join(names, " ") != x.told || !slices.Equal(rest, x.rest) || e != api.OK {
			t.Errorf("%d, %d: it is %v %v %d, and must be %v %v", x.most, x.times, told, rest, e, x.told, x.rest)
		}
	}
	if told, rest, e := Take(nil, 1, 1); len(told)+len(rest) != 0 || e != api.OK {
		t.Errorf("of none: it is %v %v %d", told, rest, e)
	}
}

// C3: all that is known of a member is told; one that was told 100 times goes.
func TestTakeTellsWholeMembers(t *testing.T) {
	m := api.Member{Name: "a", State: 3, Life: 9, Address: 7, Server: true}
	for told, stays := range map[int]int{98: 1, 99: 0, 100: 0} {
		x, rest, e := Take([]api.Rumor{{Member: m, Told: told}}, 20, 100)
		if !slices.Equal(x, []api.Member{m}) || len(rest) != stays || e != api.OK {
			t.Errorf("%d: it is %v %v %d", told, x, rest, e)
		}
	}
}

func TestTakeErrors(t *testing.T) {
	for _, x := range [][2]int{{0, 1}, {21, 1}, {-1, 1}, {1, 0}, {1, 101}, {1, -1}, {1 << 62, 1}, {1, 1 << 62}, {-1 << 63, -1 << 63}} {
		for _, l := range [][]api.Rumor{nil, some(3)} {
			if told, rest, e := Take(l, x[0], x[1]); len(told)+len(rest) != 0 || e != api.ErrRange {
				t.Errorf("%v: it is %v %v %d, and must be %d", x, told, rest, e, api.ErrRange)
			}
		}
	}
}

// C4.
func TestTimes(t *testing.T) {
	for n := range api.MaxMembers + 1 {
		least := 0
		for 1<<least <= n {
			least++
		}
		if k, e := Times(n); k != 3*least || e != api.OK {
			t.Errorf("%d: it is %d %d, and must be %d", n, k, e, 3*least)
		}
	}
	for _, n := range []int{-1, 21, -1 << 63, 1<<63 - 1} {
		if k, e := Times(n); k != 0 || e != api.ErrRange {
			t.Errorf("%d: it is %d %d, and must be %d", n, k, e, api.ErrRange)
		}
	}
}

// C5: each rumor is told as often as asked for, and no more, however they come in between; no two of one name at once.
func TestEachIsToldAsOftenAsAskedFor(t *testing.T) {
	d := new(draw.Numbers)
	for range 100 {
		most, times := d.From(1, 6), d.From(1, 7)
		var l []api.Rumor
		counts := make(map[api.Member]int)
		came := d.From(1, 20)
		for i := 0; i < came || len(l) > 0; i++ {
			if i < came {
				m := one(fmt.Sprint("m", i), 1+d.Below(4), 1)
				counts[m] = 0
				l, _ = Put(l, m)
			}
			var told []api.Member
			var e api.Errno
			told, l, e = Take(l, most, times)
			if e != api.OK || len(told) > most || Check(l) != api.OK || i > 1000 {
				t.Fatalf("it is %v %v %d", told, l, e)
			}
			names := make(map[string]int)
			for _, m := range told {
				counts[m]++
				names[m.Name]++
			}
			if len(names) != len(told) {
				t.Fatalf("one name is told twice: %v", told)
			}
		}
		for m, n := range counts {
			if n != times {
				t.Errorf("%v was told %d times, and must be told %d times", m, n, times)
			}
		}
	}
}

// P2: what is handed in is only read, its spare room too; what comes out is new, and so is each list of it.
func TestNothingIsShared(t *testing.T) {
	room := append(some(8), some(20)[8:12]...)
	l := room[:8]
	older, newer := l[3].Member, one(l[3].Member.Name, 1, 9)
	before := slices.Clone(room)
	for _, m := range []api.Member{older, newer, one("new", 1, 1)} {
		x, _ := Put(l, m)
		scribble(x)
	}
	for _, times := range []int{1, 2, 100} {
		told, rest, _ := Take(l, 3, times)
		kept := slices.Clone(told)
		scribble(rest)
		if !slices.Equal(told, kept) {
			t.Errorf("what is told changes with what stays: %v", told)
		}
		clear(told)
	}
	if !slices.Equal(room, before) {
		t.Errorf("it is %v, and was %v", room, before)
	}
}

// scribble over a list, and over the room behind it.
func scribble(l []api.Rumor) { clear(l[:cap(l)]) }
