package draw

import "testing"

// All numbers within their bounds come, no others, and the same ones each time.
func TestNumbers(t *testing.T) {
	a, b := new(Numbers), new(Numbers)
	met := make(map[int]int)
	for range 1000 {
		n := a.From(-3, 3)
		if b.From(-3, 3) != n || n < -3 || n > 3 {
			t.Fatalf("%d came", n)
		}
		met[n]++
	}
	if len(met) != 7 {
		t.Errorf("only these came: %v", met)
	}
}
