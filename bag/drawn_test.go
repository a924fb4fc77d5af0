package bag_test

import (
	"math/rand/v2"
	"testing"

	"bursar/api"
)

// TestSteps: 13.1, many drawn steps, held against the model.
func TestSteps(t *testing.T) {
	rnd := rand.New(rand.NewPCG(13, 1))
	for _, most := range []int{1, 2, 3, 7, 30, api.MaxBag} {
		b, m, full := made[int](t, most), &model{most: most}, 0
		for n := 0; n < 3000 && !t.Failed(); n++ {
			step(t, rnd, b, m)
			if len(m.row) == most {
				full++
			}
			holds(t, "13.1: after a step", b, m.row, m.lost)
		}
		if full < 100 && !t.Failed() {
			t.Errorf("a Bag for %d was full after %d steps only", most, full)
		}
	}
}

// TestAlike: R4, the same calls have the same results, whatever other Bags do meanwhile.
func TestAlike(t *testing.T) {
	first, second := rand.New(rand.NewPCG(13, 2)), rand.New(rand.NewPCG(13, 2))
	b, c := made[int](t, 9), made[int](t, 9)
	m, n := &model{most: 9}, &model{most: 9}
	for range 500 {
		step(t, first, b, m)
		made[int](t, 9).Put(1)
		step(t, second, c, n)
		holds(t, "R4: done alike", b, c.All(), c.Lost())
	}
}
