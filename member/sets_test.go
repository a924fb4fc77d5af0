package member_test

import (
	"fmt"
	"math"
	"math/rand/v2"
	"slices"
	"testing"

	"bursar/api"
	"bursar/member"
)

// TestRightEdges: 14.1, the sets that the chapter names.
func TestRightEdges(t *testing.T) {
	for _, set := range []int{0, 2, 4, 14, 126, 128, 252, 254} {
		if !member.Right(set) {
			t.Errorf("14.1: Right(%d): false", set)
		}
	}
	for _, set := range []int{
		-2, -1, 1, 3, 15, 127, 253, 255, 256, 257, 258, 510, 512,
		math.MinInt, math.MinInt + 2, math.MaxInt, math.MaxInt - 1,
	} {
		if member.Right(set) {
			t.Errorf("14.1: Right(%d): true", set)
		}
	}
}

// TestRight: 14.1, of all sets there are 128 that are right.
func TestRight(t *testing.T) {
	count := 0
	for _, set := range sets() {
		if _, want := nodesOf(set); member.Right(set) != want {
			t.Errorf("14.1: Right(%d): %v", set, !want)
		}
		if member.Right(set) {
			count++
		}
	}
	if count != 128 {
		t.Errorf("14.1: %d sets are right", count)
	}
}

// TestSet: 14.1, each right set of its nodes, as they rise and as they fall.
func TestSet(t *testing.T) {
	for _, want := range rights() {
		list, _ := nodesOf(want)
		set, e := member.Set(list...)
		answers(t, fmt.Sprintf("14.1: Set(%v)", list), set, e, want, api.OK)
		slices.Reverse(list)
		set, e = member.Set(list...)
		answers(t, fmt.Sprintf("14.1: Set(%v)", list), set, e, want, api.OK)
	}
}

// TestSetExample: 14.1, the chapter's example, no nodes, and a list that is nil or empty.
func TestSetExample(t *testing.T) {
	set, e := member.Set(1, 3)
	answers(t, "14.1: Set(1, 3)", set, e, 10, api.OK)
	set, e = member.Set()
	answers(t, "14.1: Set()", set, e, 0, api.OK)
	set, e = member.Set([]int(nil)...)
	answers(t, "14.1: Set of a nil list", set, e, 0, api.OK)
	set, e = member.Set([]int{}...)
	answers(t, "14.1: Set of an empty list", set, e, 0, api.OK)
}

// TestSetTwice: 14.1, a node that is given twice, or often, is in the set once.
func TestSetTwice(t *testing.T) {
	for node := 1; node <= 7; node++ {
		want := setOf([]int{node})
		set, e := member.Set(node)
		answers(t, fmt.Sprintf("14.1: Set(%d)", node), set, e, want, api.OK)
		set, e = member.Set(node, node)
		answers(t, fmt.Sprintf("14.1: Set(%d) twice", node), set, e, want, api.OK)
		set, e = member.Set(slices.Repeat([]int{node}, 300)...)
		answers(t, fmt.Sprintf("14.1: Set(%d) often", node), set, e, want, api.OK)
	}
	set, e := member.Set(2, 5, 2, 2, 5)
	answers(t, "14.1: Set(2, 5, 2, 2, 5)", set, e, 36, api.OK)
}

// TestSetDrawn: 14.1, nodes in any order, some of them more than once.
func TestSetDrawn(t *testing.T) {
	rnd := rand.New(rand.NewPCG(14, 1))
	for range 3000 {
		list := make([]int, rnd.IntN(12))
		for i := range list {
			list[i] = 1 + rnd.IntN(7)
		}
		set, e := member.Set(list...)
		answers(t, fmt.Sprintf("14.1: Set(%v)", list), set, e, setOf(list), api.OK)
	}
}

// TestSetErrors: 14.1, a number that is no node, alone and at each place among nodes:
// there is an error, and no set of the others.
func TestSetErrors(t *testing.T) {
	for _, node := range nodes() {
		if isNode(node) {
			continue
		}
		set, e := member.Set(node)
		answers(t, fmt.Sprintf("14.1: Set(%d)", node), set, e, 0, api.ErrArg)
		for place := range 5 {
			list := slices.Insert([]int{1, 7, 3, 7}, place, node)
			set, e = member.Set(list...)
			answers(t, fmt.Sprintf("14.1: Set(%v)", list), set, e, 0, api.ErrArg)
		}
	}
	for _, list := range [][]int{{0}, {-1}, {api.MaxNodes + 1}, {math.MinInt}, {math.MaxInt}, {1, 0}, {0, 1}, {2, 8, 3}, {0, 8}} {
		set, e := member.Set(list...)
		answers(t, fmt.Sprintf("14.1: Set(%v)", list), set, e, 0, api.ErrArg)
	}
}

// TestHas: 14.1, each set with each node; nothing is in a set that is not right, and what
// is no node is in none.
func TestHas(t *testing.T) {
	for _, set := range sets() {
		list, _ := nodesOf(set)
		for _, node := range nodes() {
			if want := slices.Contains(list, node); member.Has(set, node) != want {
				t.Errorf("14.1: Has(%d, %d): %v", set, node, !want)
			}
		}
	}
}

// TestCount: 14.1, as many nodes as there are; none in a set that is not right.
func TestCount(t *testing.T) {
	for _, set := range sets() {
		list, _ := nodesOf(set)
		if n := member.Count(set); n != len(list) {
			t.Errorf("14.1: Count(%d): %d, not %d", set, n, len(list))
		}
	}
	for set, want := range map[int]int{0: 0, 2: 1, 128: 1, 10: 2, 14: 3, 252: 6, 254: 7, 255: 0, 253: 0, 256: 0, -2: 0, math.MinInt: 0, math.MaxInt: 0} {
		if n := member.Count(set); n != want {
			t.Errorf("14.1: Count(%d): %d, not %d", set, n, want)
		}
	}
}

// TestAll: 14.1, the nodes of each set as they rise; none of a set that is not right.
func TestAll(t *testing.T) {
	for _, set := range sets() {
		if list, _ := nodesOf(set); !slices.Equal(told(set), list) {
			t.Errorf("14.1: All(%d): %v, not %v", set, told(set), list)
		}
	}
	if !slices.Equal(told(254), []int{1, 2, 3, 4, 5, 6, 7}) || !slices.Equal(told(138), []int{1, 3, 7}) {
		t.Errorf("14.1: All(254) and All(138): %v, %v", told(254), told(138))
	}
}

// TestAllLeft: 14.1, a ranging that breaks off at any place is told no more.
func TestAllLeft(t *testing.T) {
	for _, set := range rights() {
		list, _ := nodesOf(set)
		for last := range list {
			var got []int
			member.All(set)(func(node int) bool {
				got = append(got, node)
				return len(got) <= last
			})
			if !slices.Equal(got, list[:last+1]) {
				t.Errorf("14.1: All(%d), left at place %d: %v", set, last, got)
			}
		}
	}
}

// TestAllAgain: 14.1 and R4, what All answered can be ranged over again, within itself,
// and after a ranging that broke off.
func TestAllAgain(t *testing.T) {
	for _, set := range rights() {
		list, _ := nodesOf(set)
		all := member.All(set)
		for range all {
			break
		}
		n := 0
		for outer := range all {
			var inner []int
			for node := range all {
				inner = append(inner, node)
			}
			if n >= len(list) || outer != list[n] || !slices.Equal(inner, list) {
				t.Fatalf("14.1: All(%d) within itself: %d at place %d, %v", set, outer, n, inner)
			}
			n++
		}
		if n != len(list) {
			t.Errorf("14.1: All(%d) once more: %d nodes", set, n)
		}
	}
}

// TestBack: 14.1, Set, Has, Count and All tell the same of each right set.
func TestBack(t *testing.T) {
	for _, set := range rights() {
		list := told(set)
		back, e := member.Set(list...)
		answers(t, fmt.Sprintf("14.1: Set of All(%d)", set), back, e, set, api.OK)
		if len(list) != member.Count(set) {
			t.Errorf("14.1: All(%d): %v, but Count %d", set, list, member.Count(set))
		}
		for _, node := range list {
			if !member.Has(set, node) {
				t.Errorf("14.1: All(%d) tells %d, Has does not", set, node)
			}
		}
	}
}
