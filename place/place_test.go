package place

import (
	"math/big"
	"slices"
	"strings"
	"testing"

	"hearsay/api"
	"hearsay/draw"
)

func at(x, y, z, height, sure int) api.Place {
	return api.Place{X: x, Y: y, Z: z, Height: height, Sure: sure}
}

const edge = api.MaxPlace

// corners are places at all bounds, and within them.
func corners() []api.Place {
	return []api.Place{
		{}, at(3, 0, 0, 1, 1000), at(0, 4, 0, 2, 500), at(-1000, 2000, 50, 10, 7),
		at(edge, edge, edge, api.MaxHeight, api.MaxSure), at(-edge, -edge, -edge, 0, 0), at(edge, -edge, edge, 0, 1), at(-edge, edge, -edge, api.MaxHeight, 999),
	}
}

// beyond are places that have one thing beyond its bounds.
func beyond() []api.Place {
	return []api.Place{
		at(edge+1, 0, 0, 0, 0), at(-edge-1, 0, 0, 0, 0), at(0, edge+1, 0, 0, 0), at(0, -edge-1, 0, 0, 0), at(0, 0, edge+1, 0, 0), at(0, 0, -edge-1, 0, 0),
		at(0, 0, 0, -1, 0), at(0, 0, 0, api.MaxHeight+1, 0), at(0, 0, 0, 0, -1), at(0, 0, 0, 0, api.MaxSure+1),
		at(1<<63-1, 0, 0, 0, 0), at(0, -1<<63, 0, 0, 0), at(0, 0, 0, 1<<63-1, -1<<63),
	}
}

// somewhere, sometimes at a bound.
func somewhere(d *draw.Numbers) api.Place {
	if d.Below(8) == 0 {
		return corners()[d.Below(len(corners()))]
	}
	wide := []int{1, 50, 10000, edge}[d.Below(4)]
	return at(d.From(-wide, wide), d.From(-wide, wide), d.From(-wide, wide), d.From(0, min(wide, api.MaxHeight)), d.From(0, api.MaxSure))
}

// D1.
func TestCheck(t *testing.T) {
	for _, p := range corners() {
		if e := Check(p); e != api.OK {
			t.Errorf("%v: it is %d, and must be %d", p, e, api.OK)
		}
	}
	for _, p := range beyond() {
		if e := Check(p); e != api.ErrRange {
			t.Errorf("%v: it is %d, and must be %d", p, e, api.ErrRange)
		}
	}
}

// D1, P1: wrong places are told, whichever it is, and nothing with it.
func TestWrongPlaces(t *testing.T) {
	for _, p := range beyond() {
		for _, x := range [][2]api.Place{{p, {}}, {{}, p}, {p, p}} {
			if n, e := Far(x[0], x[1]); n != 0 || e != api.ErrRange {
				t.Errorf("Far %v: it is %d %d, and must be %d", x, n, e, api.ErrRange)
			}
			for _, round := range []int{0, 1, 1000} {
				if to, e := Move(x[0], x[1], round); to != (api.Place{}) || e != api.ErrRange {
					t.Errorf("Move %v: it is %v %d, and must be %d", x, to, e, api.ErrRange)
				}
			}
		}
		if l, e := Sort(p, nil, []string{"a"}); len(l) != 0 || e != api.ErrRange {
			t.Errorf("Sort from %v: it is %v %d, and must be %d", p, l, e, api.ErrRange)
		}
		for _, l := range [][]api.Where{{{Node: "z", Place: p}}, {{Node: "a"}, {Node: "b"}, {Node: "a", Place: p}}} {
			if names, e := Sort(api.Place{}, l, []string{"a"}); len(names) != 0 || e != api.ErrRange {
				t.Errorf("Sort by %v: it is %v %d, and must be %d", l, names, e, api.ErrRange)
			}
		}
	}
}

// D1: the greatest number whose square is not more.
func TestRoot(t *testing.T) {
	const most = 3037000499 // whose square is the last one among ints
	for n := range 5000 {
		checkRoot(t, n)
	}
	for i := 1; i <= 31; i++ {
		for _, r := range []int{1<<i - 1, 1 << i, 1<<i + 1} {
			checkRoot(t, r*r-1)
			checkRoot(t, r*r)
			checkRoot(t, r*r+1)
		}
	}
	for _, n := range []int{most*most - 1, most * most, most*most + 1, 1<<63 - 1, 1 << 62, 1<<62 - 1} {
		checkRoot(t, n)
	}
	for _, n := range []int{-1, -4, -1 << 63} {
		if r, e := Root(n); r != 0 || e != api.ErrRange {
			t.Errorf("%d: it is %d %d, and must be %d", n, r, e, api.ErrRange)
		}
	}
}

func checkRoot(t *testing.T, n int) {
	t.Helper()
	want := int(new(big.Int).Sqrt(big.NewInt(int64(n))).Int64())
	if r, e := Root(n); r != want || e != api.OK {
		t.Errorf("%d: it is %d %d, and must be %d", n, r, e, want)
	}
}

// D2.
func TestFar(t *testing.T) {
	for _, x := range []struct {
		a, b api.Place
		want int
	}{
		{api.Place{}, api.Place{}, 0},
		{at(3, 0, 0, 1, 0), at(0, 4, 0, 2, 0), 8},
		{at(1, 2, 3, 0, 1000), at(-1, 4, 4, 0, 0), 3},
		{at(1, 1, 1, 0, 0), at(0, 0, 0, 0, 0), 1},
		{at(0, 0, 7, 5, 0), at(0, 0, -7, 0, 0), 19},
		{at(9, 9, 9, 4, 0), at(9, 9, 9, 4, 0), 8},
		{at(edge, edge, edge, api.MaxHeight, 0), at(-edge, -edge, -edge, api.MaxHeight, 0), 36641016},
	} {
		if n, e := Far(x.a, x.b); n != x.want || e != api.OK {
			t.Errorf("%v %v: it is %d %d, and must be %d", x.a, x.b, n, e, x.want)
		}
	}
}

// D3: worked out by hand.
func TestMove(t *testing.T) {
	for _, x := range []struct {
		why     string
		a, b    api.Place
		round   int
		want    api.Place
		wantErr api.Errno
	}{
		// F 50, W 500, S 950*500/4000 = 118; E 950; Sure 0 + 950*500/4000
		{"nobody is sure: half of it counts", at(30, 40, 0, 0, 0), at(0, 0, 0, 0, 0), 1000, at(30+118*30/50, 40+118*40/50, 0, 11, 118), api.OK},
		// F 50, W 250, S 950*250/4000 = 59; Sure 100 + 850*250/4000 = 153
		{"the other one is less sure", at(30, 40, 0, 0, 100), at(0, 0, 0, 0, 300), 1000, at(65, 87, 0, 5, 153), api.OK},
		// F 50, W 750, S -49*750/4000 = -9 (not -10); E 49000, so 1000; Sure 300 + 700*750/4000 = 431
		{"too early: to each other, cut towards 0", at(30, 40, 0, 0, 300), at(0, 0, 0, 0, 100), 1, at(25, 33, 0, 0, 431), api.OK},
		// F 20, W 500, S 980*500/4000 = 122
		{"at one place: along X", at(5, 6, 7, 10, 100), at(5, 6, 7, 10, 100), 1000, at(127, 6, 7, 22, 210), api.OK},
		// F 20, W 500, S -19*500/4000 = -2: height 10 - 0
		{"at one place, too early", at(5, 6, 7, 10, 100), at(5, 6, 7, 10, 100), 1, at(3, 6, 7, 10, 212), api.OK},
		// F 40, W 1000, S 0; E 0; Sure 1000 - 1000*1000/4000
		{"just as long as told", at(5, 6, 7, 10, 1000), at(5, 6, 37, 0, 0), 40, at(5, 6, 7, 10, 750), api.OK},
		// W 0: a is sure, b is not
		{"who is sure stays", at(5, 6, 7, 10, 0), at(9, 9, 9, 0, 5), 5000, at(5, 6, 7, 10, 0), api.OK},
		// D is the root of 3, so 1; F 1, W 500, S 99*500/4000 = 12
		{"D leaves out what is behind the point", at(1, 1, 1, 0, 10), at(0, 0, 0, 0, 10), 100, at(13, 13, 13, 1, 132), api.OK},
		// D 13, F 13, W 333, S 987*333/4000 = 82; E 987; Sure 1 + 986*333/4000
		{"all three", at(-9, 8, 7, 0, 1), at(0, 0, 0, 0, 2), 1000, at(-9-82*9/13, 8+82*8/13, 7+82*7/13, 8, 83), api.OK},
		// D 1300, F 4300, W 666, S 4995700*666/4000 = 831784; E 999; Sure 900 + 99*666/4000
		{"neither is at 0", at(100, 200, -300, 1000, 900), at(-200, 600, 900, 2000, 450), api.MaxRound, at(192050, -255733, -768100, 84178, 916), api.OK},
		// F 0, W 500, S 5000000*500/4000
		{"the longest round of all", api.Place{}, api.Place{}, api.MaxRound, at(625000, 0, 0, 62500, 125), api.OK},
		// F 10, W 1000, S 1249997; E 999 (just not 1000); Sure 996 + 3000/4000
		{"nearly all of it was not told", at(10, 0, 0, 0, 996), api.Place{}, api.MaxRound, at(1250007, 0, 0, 124999, 996), api.OK},
		// F 864, W 43, S 136*43/4000 = 1; E 136; Sure 43 + 3999/4000
		{"just not one more", at(864, 0, 0, 0, 43), at(0, 0, 0, 0, 957), 1000, at(865, 0, 0, 0, 43), api.OK},
		{"no round", at(1, 1, 1, 0, 10), api.Place{}, 0, api.Place{}, api.ErrRange},
		{"below 0", at(1, 1, 1, 0, 10), api.Place{}, -1, api.Place{}, api.ErrRange},
		{"too long", at(1, 1, 1, 0, 10), api.Place{}, api.MaxRound + 1, api.Place{}, api.ErrRange},
		{"far too long", at(1, 1, 1, 0, 10), api.Place{}, 1<<63 - 1, api.Place{}, api.ErrRange},
		{"far below 0", at(1, 1, 1, 0, 10), api.Place{}, -1 << 63, api.Place{}, api.ErrRange},
	} {
		if to, e := Move(x.a, x.b, x.round); to != x.want || e != x.wantErr {
			t.Errorf("%s: it is %v %d, and must be %v %d", x.why, to, e, x.want, x.wantErr)
		}
	}
}

// D3, D5: what would be beyond its bounds is at the bound.
func TestMoveAtBounds(t *testing.T) {
	for _, x := range []struct {
		a, b, want api.Place
		round      int
	}{
		// F 10, W 1000, S 1249997; E 999; Sure 1000 - 1000/4000
		{at(edge, 0, 0, 0, 1000), at(edge-10, 0, 0, 0, 0), at(edge, 0, 0, 124999, 1000), api.MaxRound},
		{at(-edge, 0, 0, 0, 1000), at(10-edge, 0, 0, 0, 0), at(-edge, 0, 0, 124999, 1000), api.MaxRound},
		{at(0, edge, 0, 0, 1000), at(0, edge-10, 0, 0, 0), at(0, edge, 0, 124999, 1000), api.MaxRound},
		{at(0, -edge, 0, 0, 1000), at(0, 10-edge, 0, 0, 0), at(0, -edge, 0, 124999, 1000), api.MaxRound},
		{at(0, 0, edge, 0, 1000), at(0, 0, edge-10, 0, 0), at(0, 0, edge, 124999, 1000), api.MaxRound},
		{at(0, 0, -edge, 0, 1000), at(0, 0, 10-edge, 0, 0), at(0, 0, -edge, 124999, 1000), api.MaxRound},
		{at(edge, 0, 0, 0, 1000), at(edge, 0, 0, 0, 0), at(edge, 0, 0, 125000, 1000), api.MaxRound},
		// F 1000000, W 1000, S 1000000: height 1000000 + 100000
		{at(0, 0, 0, api.MaxHeight, 1000), at(0, 0, 0, 0, 0), at(1000000, 0, 0, api.MaxHeight, 950), api.MaxRound},
		// F 100000, W 1000, S -24999: height 5 - 2499
		{at(99995, 0, 0, 5, 1000), at(0, 0, 0, 0, 0), at(99995-24999, 0, 0, 0, 1000), 1},
	} {
		if to, e := Move(x.a, x.b, x.round); to != x.want || e != api.OK {
			t.Errorf("%v %v: it is %v %d, and must be %v", x.a, x.b, to, e, x.want)
		}
	}
}

// D5: within bounds; the same both ways; and who hears what was told moves nothing but Sure.
func TestPlacesStayWithinTheirBounds(t *testing.T) {
	d := new(draw.Numbers)
	for range 5000 {
		a, b := somewhere(d), somewhere(d)
		there, e := Far(a, b)
		back, f := Far(b, a)
		if there != back || e != api.OK || f != api.OK {
			t.Fatalf("%v %v: it is %d there, and %d back", a, b, there, back)
		}
		round := []int{1, 2, 1000, d.From(1, api.MaxRound), api.MaxRound}[d.Below(5)]
		if to, e := Move(a, b, round); Check(to) != api.OK || e != api.OK {
			t.Fatalf("%v %v %d: it is %v %d", a, b, round, to, e)
		}
		if there < 1 || there > api.MaxRound {
			continue
		}
		to, e := Move(a, b, there)
		if sure := to.Sure; sure > a.Sure || e != api.OK {
			t.Fatalf("%v %v: it is %v %d", a, b, to, e)
		}
		to.Sure = a.Sure
		if to != a {
			t.Fatalf("%v %v: it is %v", a, b, to)
		}
	}
}

// D4: by how far; of the same by name; then those of which nothing is told.
func TestSort(t *testing.T) {
	from := at(0, 0, 0, 0, 0)
	l := []api.Where{
		{Node: "far", Place: at(1000, 0, 0, 0, 0)},
		{Node: "b", Place: at(0, 10, 0, 0, 0)},
		{Node: "high", Place: at(0, 0, 0, 500, 0)},
		{Node: "a", Place: at(0, 0, -10, 0, 9)},
		{Node: "b", Place: at(9999, 0, 0, 0, 0)},
		{Node: "far", Place: at(0, 0, 0, 0, 0)},
		{Node: "", Place: at(20, 0, 0, 0, 0)},
		{Node: "\xff", Place: at(0, 0, 0, 0, 0)},
		{Node: "most", Place: at(edge, edge, edge, api.MaxHeight, 0)},
	}
	for _, x := range [][2]string{
		{"", ""}, {"b", "b"}, {"b,a", "a,b"}, {"far,high,b,a", "a,b,high,far"},
		{"z,far,y,b,zz,Z", "b,far,Z,y,z,zz"}, {"far,b,far,z,b,z,a", "a,b,b,far,far,z,z"},
		{"a, ,,\xff,most,0", "\xff,a,,most, ,0"},
	} {
		names := strings.Split(x[0], ",")
		if x[0] == "" {
			names = nil
		}
		if got, e := Sort(from, l, names); strings.Join(got, ",") != x[1] || len(got) != len(names) || e != api.OK {
			t.Errorf("%q: it is %q %d, and must be %q", x[0], got, e, x[1])
		}
	}
	if got, e := Sort(at(1000, 0, 0, 0, 0), l, []string{"a", "far", "b", "high"}); !slices.Equal(got, []string{"far", "a", "b", "high"}) || e != api.OK {
		t.Errorf("from elsewhere: it is %q %d", got, e)
	}
	if got, e := Sort(from, nil, []string{"b", "a", "b"}); !slices.Equal(got, []string{"a", "b", "b"}) || e != api.OK {
		t.Errorf("where nothing is told: it is %q %d", got, e)
	}
}

// D4: more than 100 of one is told ahead of wrong places.
func TestSortMany(t *testing.T) {
	wrong := beyond()[0]
	hundred := slices.Repeat([]string{"a"}, 100)
	where := slices.Repeat([]api.Where{{Node: "a"}}, 100)
	if got, e := Sort(api.Place{}, where, hundred); !slices.Equal(got, hundred) || e != api.OK {
		t.Errorf("100 of each: it is %v %d", got, e)
	}
	for _, x := range []struct {
		from  api.Place
		l     []api.Where
		names []string
	}{
		{api.Place{}, nil, append(hundred, "b")}, {api.Place{}, append(where, api.Where{}), nil},
		{wrong, nil, append(hundred, "b")}, {wrong, append(where, api.Where{Place: wrong}), nil},
	} {
		if got, e := Sort(x.from, x.l, x.names); len(got) != 0 || e != api.ErrMany {
			t.Errorf("%d, %d: it is %v %d, and must be %d", len(x.l), len(x.names), got, e, api.ErrMany)
		}
	}
}

// P2: what is handed in is only read; what comes out is new.
func TestNothingIsShared(t *testing.T) {
	names := []string{"c", "b", "a", "behind"}
	l := []api.Where{{Node: "b"}, {Node: "c", Place: at(1, 2, 3, 4, 5)}, {Node: "behind"}}
	wasNames, wasL := slices.Clone(names), slices.Clone(l)
	for _, n := range []int{1, 3} {
		got, _ := Sort(api.Place{}, l[:2], names[:n])
		clear(got[:cap(got)])
	}
	if !slices.Equal(names, wasNames) || !slices.Equal(l, wasL) {
		t.Errorf("it is %v %v, and was %v %v", names, l, wasNames, wasL)
	}
}
