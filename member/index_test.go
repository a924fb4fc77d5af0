package member_test

import (
	"math"
	"math/rand/v2"
	"slices"
	"testing"

	"bursar/member"
)

// middle answers what Index has to: of the numbers of the nodes, sorted from the greatest
// on, the one with which there are more than half.
func middle(set int, match []uint64) uint64 {
	list, _ := nodesOf(set)
	if len(list) == 0 {
		return 0
	}
	var row []uint64
	for _, node := range list {
		x := uint64(0)
		if node < len(match) {
			x = match[node]
		}
		row = append(row, x)
	}
	slices.Sort(row)
	slices.Reverse(row)
	return row[len(row)/2]
}

// index fails where Index of a set does not answer want.
func index(t *testing.T, want uint64, set int, match ...uint64) {
	t.Helper()
	if x := member.Index(set, match...); x != want {
		t.Errorf("14.2: Index(%d, %v): %d, not %d", set, match, x, want)
	}
}

// TestIndexEdges: 14.2, the chapter's example and the edges that it names.
func TestIndexEdges(t *testing.T) {
	const most = math.MaxUint64
	index(t, 7, 14, 0, 5, 7, 9)
	index(t, 7, 14, 0, 9, 7, 5)
	index(t, 7, 14, 0, 7, 9, 5)
	// No numbers, fewer than nodes, more than nodes.
	index(t, 0, 14)
	index(t, 0, 254)
	index(t, 0, 14, 5)
	index(t, 0, 14, 5, 5)
	index(t, 5, 14, 0, 5, 7)
	index(t, 7, 14, 0, 5, 7, 9, 11, 13, 15, 17, 19, 21)
	index(t, 0, 2, 9)
	index(t, 5, 2, 9, 5)
	index(t, 0, 128, 9, 9, 9, 9, 9, 9, 9)
	index(t, 8, 128, 9, 9, 9, 9, 9, 9, 9, 8)
	index(t, 8, 128, 9, 9, 9, 9, 9, 9, 9, 8, 9, 9)
	// Equal numbers, and zeros.
	index(t, 5, 14, 0, 5, 5, 5)
	index(t, 5, 14, 0, 5, 5, 9)
	index(t, 9, 14, 0, 9, 5, 9)
	index(t, 0, 14, 0, 0, 0, 0)
	index(t, 0, 14, 0, 0, 0, 9)
	index(t, 9, 14, 0, 9, 0, 9)
	// Of as many nodes as can be halved, half is not enough.
	index(t, 5, 6, 0, 5, 7)
	index(t, 0, 6, 0, 0, 7)
	index(t, 2, 30, 0, 1, 2, 3, 4)
	index(t, 3, 62, 0, 1, 2, 3, 4, 5)
	index(t, 3, 126, 0, 1, 2, 3, 4, 5, 6)
	index(t, 4, 254, 0, 1, 2, 3, 4, 5, 6, 7)
	// The number at place 0 is no node's.
	index(t, 7, 14, most, 5, 7, 9)
	index(t, 5, 6, 9, 5, 7)
	// The greatest number.
	index(t, most, 14, 0, most, most, most)
	index(t, most, 14, 0, 1, most, most)
	index(t, 1, 14, 0, 1, 0, most)
	index(t, most-1, 14, 0, 1, most-1, most)
	index(t, 1<<63, 14, 0, 1<<63-1, 1<<63, 1<<63+1)
	index(t, most, 2, 0, most)
}

// TestIndexOfNone: 14.2, 0 of the empty set and of each that is not right.
func TestIndexOfNone(t *testing.T) {
	for _, set := range sets() {
		if _, ok := nodesOf(set); ok && set != 0 {
			continue
		}
		index(t, 0, set)
		index(t, 0, set, 5, 5, 5, 5, 5, 5, 5, 5, 5, 5)
		index(t, 0, set, slices.Repeat([]uint64{math.MaxUint64}, 70)...)
	}
}

// TestIndexPlaces: 14.2, each set of nodes with numbers that are all different, in many
// orders, as many as there are nodes, fewer, and more.
func TestIndexPlaces(t *testing.T) {
	rnd := rand.New(rand.NewPCG(14, 2))
	row := []uint64{10, 20, 30, 40, 50, 60, 70, 80, 90, 100, 110}
	for range 60 {
		rnd.Shuffle(len(row), func(i, j int) { row[i], row[j] = row[j], row[i] })
		for _, set := range rights() {
			for n := range len(row) + 1 {
				index(t, middle(set, row[:n]), set, row[:n]...)
			}
		}
	}
}

// TestIndexEqual: 14.2, numbers of which many are equal, with the least and the greatest.
func TestIndexEqual(t *testing.T) {
	rnd := rand.New(rand.NewPCG(14, 3))
	few := []uint64{0, 1, 2, 3, 1 << 32, 1<<63 - 1, 1 << 63, math.MaxUint64 - 1, math.MaxUint64}
	for range 100 {
		row := make([]uint64, rnd.IntN(11))
		for i := range row {
			row[i] = few[rnd.IntN(len(few))]
		}
		for _, set := range rights() {
			index(t, middle(set, row), set, row...)
		}
	}
}

// TestIndexMost: 14.2, Most holds for the nodes that have the number that Index answers
// or a greater one, and for no greater number.
func TestIndexMost(t *testing.T) {
	rnd := rand.New(rand.NewPCG(14, 4))
	for range 100 {
		row := make([]uint64, 8)
		for i := range row {
			row[i] = uint64(1 + rnd.IntN(9))
		}
		for _, set := range rights()[1:] {
			have := func(x uint64) (list []int) {
				for node := 1; node <= 7; node++ {
					if row[node] >= x {
						list = append(list, node)
					}
				}
				return list
			}
			x := member.Index(set, row...)
			if !member.Most(set, setOf(have(x))) || member.Most(set, setOf(have(x+1))) {
				t.Errorf("14.2: Index(%d, %v): %d", set, row, x)
			}
		}
	}
}

// TestGivenStays: R2, numbers and nodes that were handed in stay as they were, and so
// does what lies behind them.
func TestGivenStays(t *testing.T) {
	whole := []uint64{3, 9, 7, 5, 8, 1, 2, 6, 4, 10}
	for n := range len(whole) + 1 {
		own := slices.Clone(whole)
		for _, set := range rights() {
			member.Index(set, own[:n]...)
		}
		if !slices.Equal(own, whole) {
			t.Errorf("R2: Index of %d numbers: %v", n, own)
		}
	}
	for _, list := range [][]int{{7, 3, 1, 3, 5, 6}, {7, 3, 0, 8, -1, 2}} {
		for n := range len(list) + 1 {
			own := slices.Clone(list)
			member.Set(own[:n]...)
			if !slices.Equal(own, list) {
				t.Errorf("R2: Set of %d nodes: %v", n, own)
			}
		}
	}
}

// TestNotKept: R2 and R4, what was handed in may be written over afterwards; the same
// call answers the same, whatever was asked between.
func TestNotKept(t *testing.T) {
	row := []uint64{0, 5, 7, 9}
	first := member.Index(14, row...)
	row[1], row[2], row[3] = 1, 1, 1
	other := member.Index(14, row...)
	index(t, 7, 14, 0, 5, 7, 9)
	if first != 7 || other != 1 {
		t.Errorf("R4: Index: %d and %d", first, other)
	}
	list := []int{1, 3}
	set, _ := member.Set(list...)
	list[0] = 2
	again, _ := member.Set(list...)
	if set != 10 || again != 12 {
		t.Errorf("R4: Set: %d and %d", set, again)
	}
}
