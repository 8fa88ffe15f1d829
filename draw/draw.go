// Package draw tells numbers that look drawn, for tests: the same ones each time, so that a fault is found again.
package draw

// Numbers begin with the state that they have.
type Numbers uint64

// Below tells the next number, from 0 to n - 1.
func (d *Numbers) Below(n int) int {
	*d = *d*6364136223846793005 + 1442695040888963407
	return int((uint64(*d) >> 33) % uint64(n))
}

// From tells the next number from low to high.
func (d *Numbers) From(low, high int) int { return low + d.Below(high-low+1) }
