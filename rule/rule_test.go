package rule

import (
	"strings"
	"testing"

	"hearsay/api"
)

func TestLabel(t *testing.T) {
	for _, text := range []string{"a", "z", "0", "9", "-", "_", "_x-1", strings.Repeat("l", api.MaxLabel)} {
		if !Label(text) {
			t.Errorf("%q is a label", text)
		}
	}
	for _, text := range []string{"", ".", "a.b", "A", "Z", "a b", "a\x00", "é", "\xff", strings.Repeat("l", api.MaxLabel+1)} {
		if Label(text) {
			t.Errorf("%q is no label", text)
		}
	}
}

// Each byte by itself: the edges of the letters and digits, and all beyond them.
func TestLabelOfEachByte(t *testing.T) {
	const may = "abcdefghijklmnopqrstuvwxyz0123456789-_"
	for b := range 256 {
		want := strings.IndexByte(may, byte(b)) >= 0
		for _, text := range []string{string([]byte{byte(b)}), string([]byte{'a', byte(b)})} {
			if Label(text) != want {
				t.Errorf("%q: it is a label: %v, and must be %v", text, !want, want)
			}
		}
	}
}

func TestLabels(t *testing.T) {
	for _, texts := range [][]string{nil, {"a"}, {"a", "b", "a"}} {
		if !Labels(texts...) {
			t.Errorf("%q are labels", texts)
		}
	}
	for _, texts := range [][]string{{""}, {"", "a"}, {"a", "B"}, {"a", "b.c", "d"}} {
		if Labels(texts...) {
			t.Errorf("%q are not all labels", texts)
		}
	}
}

func TestLabelsOrEmpty(t *testing.T) {
	for _, texts := range [][]string{nil, {""}, {"a"}, {"", "a", ""}} {
		if !LabelsOrEmpty(texts...) {
			t.Errorf("%q are labels, or empty", texts)
		}
	}
	for _, texts := range [][]string{{"A"}, {"", "."}, {"a", "", "b.c", "d"}} {
		if LabelsOrEmpty(texts...) {
			t.Errorf("%q are not all labels, or empty", texts)
		}
	}
}

func TestType(t *testing.T) {
	for n := -70; n < 70; n++ {
		if want := n == 1 || n == 16 || n == 33; Type(n) != want {
			t.Errorf("%d as a type: it must be %v", n, want)
		}
	}
}

func TestWithin(t *testing.T) {
	for n, want := range map[int]bool{-1: false, 1: false, 2: true, 3: true, 4: true, 5: false} {
		if Within(n, 2, 4) != want {
			t.Errorf("%d from 2 to 4: it must be %v", n, want)
		}
	}
}

func TestAddress(t *testing.T) {
	for n, want := range map[int]bool{-1: false, 0: true, 1<<32 - 1: true, 1 << 32: false} {
		if Address(n) != want {
			t.Errorf("%d as an address: it must be %v", n, want)
		}
	}
}
