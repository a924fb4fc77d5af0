package rlog

import (
	"math/rand/v2"
	"slices"
	"testing"
)

// lies fails where r holds anything but some, or anything at all in its other slots.
func lies[T comparable](t *testing.T, what string, r *ring[T], some []T) {
	t.Helper()
	if got := slices.Collect(r.part(0, r.n)); !slices.Equal(got, some) {
		t.Errorf("%s: %v, not %v", what, got, some)
	}
	for k, x := range some {
		if r.at(k) != x {
			t.Errorf("%s: thing %d is %v, not %v", what, k, r.at(k), x)
		}
	}
	var nothing T
	for k := r.n; k < len(r.slots); k++ {
		if *r.slot(k) != nothing {
			t.Errorf("%s: %v is kept, though it is gone", what, *r.slot(k))
		}
	}
}

// TestRing: drawn things come and go at both ends; those that are gone are not kept, and
// the room is no more than twice what was needed at once.
func TestRing(t *testing.T) {
	rnd := rand.New(rand.NewPCG(15, 4))
	var r ring[string]
	var row []string
	most := 0
	for n := range 5000 {
		switch k := rnd.IntN(len(row) + 1); rnd.IntN(8) {
		case 0:
			r.cut(k)
			row = row[:k]
		case 1:
			r.drop(k)
			row = row[k:]
		default:
			x := string(rune('a' + n%26))
			r.add(x)
			row = append(row, x)
		}
		most = max(most, len(row))
		lies(t, "after a step", &r, row)
		if len(r.slots) > 2*most {
			t.Errorf("%d slots for %d things", len(r.slots), most)
		}
		if t.Failed() {
			return
		}
	}
	if most < 20 {
		t.Errorf("%d things at once only", most)
	}
}

// TestRingPart: each part of a ring that has gone round, and one that is broken off.
func TestRingPart(t *testing.T) {
	var r ring[int]
	for x := range 7 {
		r.add(x)
	}
	r.drop(5)
	for x := range 4 {
		r.add(10 + x)
	}
	want := []int{5, 6, 10, 11, 12, 13}
	lies(t, "gone round", &r, want)
	if len(r.slots) != 7 {
		t.Errorf("%d slots: it has not gone round", len(r.slots))
	}
	for k := range len(want) + 1 {
		for n := range len(want) - k + 1 {
			part := r.part(k, n)
			for range 2 {
				if got := slices.Collect(part); !slices.Equal(got, want[k:k+n]) {
					t.Errorf("%d things from %d on: %v", n, k, got)
				}
			}
			calls := 0
			part(func(int) bool { calls++; return false })
			if calls != min(n, 1) {
				t.Errorf("%d things from %d on: %d calls behind a false", n, k, calls)
			}
		}
	}
}

// TestRingOfAll: cut and drop of all there is, and of nothing.
func TestRingOfAll(t *testing.T) {
	var r ring[int]
	r.cut(0)
	r.drop(0)
	lies(t, "new", &r, nil)
	for _, empty := range []func(){func() { r.cut(0) }, func() { r.drop(r.n) }, func() { r.drop(3); r.cut(0) }} {
		for x := range 9 {
			r.add(1 + x)
		}
		r.cut(9)
		r.cut(10)
		r.drop(0)
		lies(t, "filled", &r, []int{1, 2, 3, 4, 5, 6, 7, 8, 9})
		empty()
		lies(t, "emptied", &r, nil)
	}
}
