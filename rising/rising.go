// Package rising has what the lists have in common that rise by a key, one of each key, and of which the newer ones stay when they are joined. The order compares keys alone, as cmp.Compare does.
package rising

import "slices"

// Rises: is each one less than the one behind it?
func Rises[T any](l []T, order func(a, b T) int) bool {
	for i := 1; i < len(l); i++ {
		if order(l[i-1], l[i]) >= 0 {
			return false
		}
	}
	return true
}

// Find tells where in a list that rises the one with the key of like is, or would be.
func Find[T any](l []T, like T, order func(a, b T) int) (int, bool) {
	return slices.BinarySearchFunc(l, like, order)
}

// Join makes a new list that rises, with the newer one of each key that one of the lists has.
func Join[T any](order func(a, b T) int, newer func(a, b T) bool, lists ...[]T) []T {
	var joined []T
	for _, l := range lists {
		for _, one := range l {
			at, found := Find(joined, one, order)
			if !found {
				joined = slices.Insert(joined, at, one)
			} else if newer(one, joined[at]) {
				joined[at] = one
			}
		}
	}
	return joined
}
