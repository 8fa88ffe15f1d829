package rising

import (
	"cmp"
	"slices"
	"testing"
)

// pair has a key, and an age: the lesser one is newer.
type pair struct{ key, age int }

func byKey(a, b pair) int    { return cmp.Compare(a.key, b.key) }
func younger(a, b pair) bool { return a.age < b.age }

func TestRises(t *testing.T) {
	for _, l := range [][]pair{nil, {{1, 1}}, {{1, 9}, {2, 8}, {4, 7}}} {
		if !Rises(l, byKey) {
			t.Errorf("%v rises", l)
		}
	}
	for _, l := range [][]pair{{{1, 1}, {1, 2}}, {{2, 1}, {1, 2}}, {{1, 1}, {3, 2}, {2, 3}}, {{1, 1}, {2, 2}, {2, 2}}} {
		if Rises(l, byKey) {
			t.Errorf("%v does not rise", l)
		}
	}
}

// An age is no part of what is looked for.
func TestFind(t *testing.T) {
	l := []pair{{1, 5}, {3, 6}, {5, 7}}
	for key := range 7 {
		if at, found := Find(l, pair{key: key}, byKey); at != key/2 || found != (key%2 == 1) {
			t.Errorf("%d: it is %d %v", key, at, found)
		}
	}
	if at, found := Find(nil, pair{}, byKey); at != 0 || found {
		t.Errorf("in none: it is %d %v", at, found)
	}
}

func TestJoin(t *testing.T) {
	a, b, c := []pair{{1, 5}, {3, 6}}, []pair{{0, 1}, {1, 4}, {3, 7}}, []pair{{2, 2}, {9, 9}}
	want := []pair{{0, 1}, {1, 4}, {2, 2}, {3, 6}, {9, 9}}
	for _, lists := range [][][]pair{{a, b, c}, {c, b, a}, {b, a, c, nil, a}, {want}, {want, a}} {
		if l := Join(byKey, younger, lists...); !slices.Equal(l, want) {
			t.Errorf("%v: it is %v, and must be %v", lists, l, want)
		}
	}
	if l := Join(byKey, younger); len(l) != 0 {
		t.Errorf("none: it is %v", l)
	}
}

// A list that is joined alone comes out as new memory, too.
func TestJoinOnlyReads(t *testing.T) {
	room := []pair{{1, 5}, {3, 6}, {5, 7}}
	was := slices.Clone(room)
	l := Join(byKey, younger, room[:2])
	l = append(l[:1], pair{2, 2}, pair{4, 4})
	l[0] = pair{0, 0}
	if !slices.Equal(room, was) {
		t.Errorf("it is %v, and was %v", room, was)
	}
}
