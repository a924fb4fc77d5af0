package bag_test

import (
	"math"
	"testing"

	"bursar/api"
	"bursar/bag"
)

// TestNew: 13.1, as many items as a Bag may be made for, and nothing in it.
func TestNew(t *testing.T) {
	for _, most := range []int{1, 2, 3, 64, 127, 128, 254, 255, api.MaxBag} {
		b := made[int](t, most)
		holds(t, "13.1: a new one", b, nil, 0)
		for _, k := range outside(0) {
			none(t, "13.1: a new one", b, k)
		}
		holds(t, "13.1: a new one", made[string](t, most), nil, 0)
		holds(t, "13.1: a new one", made[[]byte](t, most), nil, 0)
	}
}

// TestNewErrors: 13.1, as many items as no Bag may be made for, some of which come
// round to what may be.
func TestNewErrors(t *testing.T) {
	for _, most := range []int{
		0, -1, -2, -api.MaxBag, math.MinInt32, math.MinInt, math.MinInt + 1, 1 - 1<<32,
		api.MaxBag + 1, api.MaxBag + 2, 1<<16 + 1, 1<<16 + api.MaxBag, math.MaxInt32, 1<<32 + 1, 1<<32 + api.MaxBag, math.MaxInt,
	} {
		b, e := bag.New[int](most)
		if b != nil || e != api.ErrArg {
			t.Errorf("13.1: New(%d): %v %d", most, b, e)
		}
		d, e := bag.New[api.Datagram](most)
		if d != nil || e != api.ErrArg {
			t.Errorf("13.1: New(%d): %v %d", most, d, e)
		}
	}
}

// TestExample: 13.1, the chapter's examples.
func TestExample(t *testing.T) {
	b := made[int](t, 2)
	same(t, "13.1: Put", []bool{b.Put(5), b.Put(6), b.Put(7)}, []bool{true, true, false})
	same(t, "13.1: Lost", b.Lost(), 1)
	if x, ok := b.Take(0); x != 5 || !ok {
		t.Errorf("13.1: Take(0): %d %v", x, ok)
	}
	same(t, "13.1: Double", b.Double(0), true)
	same(t, "13.1: All", b.All(), []int{6, 6})
	holds(t, "13.1: behind the examples", b, []int{6, 6}, 1)
}

// TestFull: 13.1, a Bag takes as many items as it was made for, and counts those for
// which there is no room: they are not there, neither at once nor once there is room.
func TestFull(t *testing.T) {
	for _, most := range []int{1, 2, 3, 7, 100, 255, api.MaxBag} {
		b, row := made[int](t, most), tens(most)
		for i, x := range row {
			holds(t, "13.1: as it fills", b, row[:i], 0)
			if !b.Put(x) {
				t.Fatalf("13.1: Put of item %d into a Bag for %d: false", i, most)
			}
		}
		for lost := range 5 {
			holds(t, "13.1: a full one", b, row, lost)
			if b.Put(-lost) {
				t.Errorf("13.1: Put into a full Bag of %d: true", most)
			}
		}
		for n := most; n > 0; n-- {
			if x, ok := b.Take(n - 1); x != row[n-1] || !ok {
				t.Errorf("13.1: Take(%d): %d %v", n-1, x, ok)
			}
			holds(t, "13.1: as it empties", b, row[:n-1], 5)
		}
	}
}

// TestPeek: 13.1, each item by its number, again and again, and nothing changes.
func TestPeek(t *testing.T) {
	for most := 1; most <= 6; most++ {
		for n := range most + 1 {
			b, row := filled(t, most, tens(n)...), tens(n)
			for k, want := range row {
				for range 3 {
					if x, ok := b.Peek(k); x != want || !ok {
						t.Errorf("13.1: Peek(%d) of %d: %d %v, not %d", k, n, x, ok, want)
					}
				}
			}
			holds(t, "13.1: after Peek", b, row, 0)
		}
	}
}

// TestNone: 13.1 and R5, numbers that no item has, of Bags that are empty, have a single
// item, have one less than they may have, and are full: nothing is answered, and nothing
// changes.
func TestNone(t *testing.T) {
	for _, most := range []int{1, 2, 3, 5, api.MaxBag} {
		for _, n := range []int{0, 1, most - 1, most} {
			b := filled(t, most, tens(n)...)
			for _, k := range outside(n) {
				none(t, "13.1: no item", b, k)
			}
			holds(t, "13.1: after numbers that no item has", b, tens(n), 0)
			if room := b.Put(7); room != (n < most) {
				t.Errorf("13.1: Put into %d of %d, after numbers that no item has: %v", n, most, room)
			}
		}
	}
}

// TestTake: 13.1, the item at each place, the first, the last and those between: the
// later ones move up by one, the others stay.
func TestTake(t *testing.T) {
	for most := 1; most <= 7; most++ {
		for n := 1; n <= most; n++ {
			for k := range n {
				b, row := filled(t, most, tens(n)...), tens(n)
				if x, ok := b.Take(k); x != row[k] || !ok {
					t.Errorf("13.1: Take(%d) of %d: %d %v, not %d", k, n, x, ok, row[k])
				}
				holds(t, "13.1: after Take", b, without(row, k), 0)
				none(t, "13.1: after Take", b, n-1)
				if !b.Put(7) {
					t.Errorf("13.1: Put after Take(%d) of %d, for %d: false", k, n, most)
				}
				holds(t, "13.1: after Take and Put", b, with(without(row, k), 7), 0)
			}
		}
	}
}

// TestEmptied: 13.1, items taken one by one from the front, from behind and from the
// middle, until there is none; then the Bag is as a new one, but for what it has lost.
func TestEmptied(t *testing.T) {
	for _, n := range []int{1, 2, 5, 8, 255, api.MaxBag} {
		for _, place := range []func(n int) int{
			func(int) int { return 0 },
			func(n int) int { return n - 1 },
			func(n int) int { return n / 2 },
		} {
			b, row := filled(t, n, tens(n)...), tens(n)
			b.Put(7)
			for len(row) > 0 {
				k := place(len(row))
				if x, ok := b.Take(k); x != row[k] || !ok {
					t.Errorf("13.1: Take(%d) of %d: %d %v, not %d", k, len(row), x, ok, row[k])
				}
				row = without(row, k)
				holds(t, "13.1: items go", b, row, 1)
			}
			for _, k := range outside(0) {
				none(t, "13.1: all are gone", b, k)
			}
			for _, x := range tens(n) {
				b.Put(x)
			}
			holds(t, "13.1: filled again", b, tens(n), 1)
		}
	}
}

// TestDouble: 13.1, the copy of an item at each place lies behind all others, and the
// others stay where they are.
func TestDouble(t *testing.T) {
	for most := 2; most <= 7; most++ {
		for n := 1; n < most; n++ {
			for k := range n {
				b, row := filled(t, most, tens(n)...), tens(n)
				if !b.Double(k) {
					t.Errorf("13.1: Double(%d) of %d, for %d: false", k, n, most)
				}
				holds(t, "13.1: after Double", b, with(row, row[k]), 0)
				if x, ok := b.Take(k); x != row[k] || !ok {
					t.Errorf("13.1: Take(%d) after its Double: %d %v", k, x, ok)
				}
				holds(t, "13.1: the copy stays", b, with(without(row, k), row[k]), 0)
			}
		}
	}
}

// TestDoubleFull: 13.1, for the copy there must be room as for an item that is put, but
// what has none is not counted.
func TestDoubleFull(t *testing.T) {
	for _, most := range []int{1, 2, 3, 7, api.MaxBag} {
		b, row := filled(t, most, 10), []int{10}
		for len(row) < most {
			if !b.Double(len(row) - 1) {
				t.Fatalf("13.1: Double, %d of %d there: false", len(row), most)
			}
			row = with(row, 10)
		}
		for lost := range 3 {
			for _, k := range append(outside(most), 0, most/2, most-1) {
				if b.Double(k) {
					t.Errorf("13.1: Double(%d) of a full Bag of %d: true", k, most)
				}
			}
			holds(t, "13.1: Double of a full one", b, row, lost)
			b.Put(7)
		}
	}
}

// TestRoom: 13.1, a Take makes room for one item in a full Bag, put or doubled, and for
// no other; what was lost stays counted.
func TestRoom(t *testing.T) {
	for most := 1; most <= 6; most++ {
		for k := range most {
			b, row := filled(t, most, tens(most)...), tens(most)
			b.Put(7)
			b.Take(k)
			if !b.Put(8) || b.Put(9) {
				t.Errorf("13.1: Put twice after Take(%d) of a full Bag of %d", k, most)
			}
			row = with(without(row, k), 8)
			holds(t, "13.1: full again by Put", b, row, 2)
			b.Take(k)
			row = without(row, k)
			// There is nothing to double in a Bag of one item whose item was taken.
			if b.Double(0) != (most > 1) || b.Double(0) {
				t.Errorf("13.1: Double twice after Take(%d) of a full Bag of %d", k, most)
			}
			if most > 1 {
				row = with(row, row[0])
			}
			holds(t, "13.1: full again by Double", b, row, 2)
		}
	}
}

// TestOrder: 13.1, the order is that of Put and Double, whatever was taken between.
func TestOrder(t *testing.T) {
	b := filled(t, 5, "a", "b", "c", "d")
	b.Take(1)
	b.Double(0)
	b.Put("e")
	b.Put("f")
	holds(t, "13.1: order", b, []string{"a", "c", "d", "a", "e"}, 1)
	b.Take(4)
	b.Take(0)
	b.Double(1)
	b.Double(2)
	b.Double(2)
	holds(t, "13.1: order", b, []string{"c", "d", "a", "d", "a"}, 1)
}
