package bag_test

import (
	"slices"
	"testing"

	"bursar/bag"
)

// scrawl writes x over s and over the room behind it.
func scrawl[T any](s []T, x T) {
	s = s[:cap(s)]
	for i := range s {
		s[i] = x
	}
}

// TestAllIsNew: R2, a caller may write over what All answered, and over the room behind
// it: neither the Bag nor another answer knows of that.
func TestAllIsNew(t *testing.T) {
	for n := range 20 {
		b := filled(t, 40, tens(n)...)
		other := b.All()
		scrawl(b.All(), 7)
		holds(t, "R2: after an answer was written over", b, tens(n), 0)
		same(t, "R2: the other answer", len(other) == n && slices.Equal(other, tens(n)), true)
		more := b.All()
		b.Put(8)
		scrawl(more, 7)
		scrawl(other, 7)
		holds(t, "R2: the room behind an answer", b, with(tens(n), 8), 0)
		b.Take(0)
		more = append(b.All(), 9)
		b.Double(0)
		same(t, "R2: what is put behind an answer", more[len(more)-1], 9)
	}
}

// changes are things that can be done to a Bag with 10, 20, .. to 50 and room for more.
func changes() []func(b *bag.Bag[int]) {
	return []func(b *bag.Bag[int]){
		func(b *bag.Bag[int]) { b.Put(7) },
		func(b *bag.Bag[int]) { b.Take(0) },
		func(b *bag.Bag[int]) { b.Take(2) },
		func(b *bag.Bag[int]) { b.Take(4) },
		func(b *bag.Bag[int]) { b.Double(3) },
		func(b *bag.Bag[int]) { b.Take(1); b.Put(7) },
		func(b *bag.Bag[int]) { b.Take(4); b.Double(0) },
		func(b *bag.Bag[int]) {
			for k := 4; k >= 0; k-- {
				b.Take(k)
			}
			b.Put(7)
		},
	}
}

// TestAnswersStay: R2, what was answered stays as it is, whatever is done to the Bag.
func TestAnswersStay(t *testing.T) {
	for _, change := range changes() {
		b := filled(t, 9, tens(5)...)
		all := b.All()
		change(b)
		same(t, "R2: All", all, tens(5))
		later := b.All()
		same(t, "R2: another All", slices.Equal(later, all), false)
		change(b)
		same(t, "R2: All", all, tens(5))
	}
}

// TestItemsAreCopies: R2, what an item is told as can be written into where the item is a
// value: the Bag has its own, and so has each copy that Double made.
func TestItemsAreCopies(t *testing.T) {
	x := [2]int{1, 2}
	b := filled(t, 3, x)
	x[0] = 7
	b.Double(0)
	peeked, _ := b.Peek(0)
	peeked[1] = 7
	b.All()[1][0] = 7
	holds(t, "R2: values", b, [][2]int{{1, 2}, {1, 2}}, 0)
	taken, _ := b.Take(0)
	taken[0] = 7
	holds(t, "R2: values", b, [][2]int{{1, 2}}, 0)
}

// TestSlicesInAll: R2, the places of an answer are its owner's, where slices lie there too.
func TestSlicesInAll(t *testing.T) {
	b := filled(t, 3, []byte("ab"), []byte("c"))
	all := b.All()
	all[0] = []byte("z")
	all[1] = append(all[1], 'd')
	scrawl(b.All(), nil)
	holds(t, "R2: slices", b, [][]byte{[]byte("ab"), []byte("c")}, 0)
	all = b.All()
	b.Take(0)
	b.Double(0)
	same(t, "R2: slices", all, [][]byte{[]byte("ab"), []byte("c")})
}

// TestApart: R8, two objects do not know of each other.
func TestApart(t *testing.T) {
	for _, change := range changes() {
		b, other := filled(t, 9, tens(5)...), filled(t, 5, tens(5)...)
		other.Put(7)
		change(b)
		holds(t, "R8: the other", other, tens(5), 1)
		same(t, "R8: one", b.Lost(), 0)
		row := b.All()
		change(other)
		holds(t, "R8: one", b, row, 0)
	}
}
