package member_test

import (
	"math"
	"slices"
	"testing"

	"bursar/api"
	"bursar/member"
)

// votes answers all votes of nodes, and many with bits that are none.
func votes() []int {
	all := edges()
	for v := -260; v <= 520; v++ {
		all = append(all, v)
	}
	return all
}

// voted answers how many of the nodes are in votes, of any bits: what is left of votes
// when it is halved towards below is odd.
func voted(list []int, votes int) int {
	n := 0
	for _, node := range list {
		v := votes
		for range node {
			if v%2 != 0 {
				v--
			}
			v /= 2
		}
		if v%2 != 0 {
			n++
		}
	}
	return n
}

// TestMost: 14.2, each set with votes of each kind.
func TestMost(t *testing.T) {
	for _, set := range sets() {
		list, _ := nodesOf(set)
		for _, v := range votes() {
			if want := 2*voted(list, v) > len(list); member.Most(set, v) != want {
				t.Errorf("14.2: Most(%d, %d): %v", set, v, !want)
			}
		}
	}
}

// TestMostEdges: 14.2, the chapter's examples and the edges that it names: no votes, all
// bits, just half, one more than half.
func TestMostEdges(t *testing.T) {
	for _, c := range []struct {
		set, votes int
		want       bool
	}{
		{14, 6, true}, {14, 2, false}, {6, 2, false}, {6, 4, false}, {6, 6, true},
		{14, 12, true}, {14, 10, true}, {14, 14, true}, {14, 8, false},
		{2, 0, false}, {2, 2, true}, {2, 3, true}, {2, -1, true}, {2, 252, false},
		{30, 6, false}, {30, 14, true}, {30, 20, false}, {30, 28, true},
		{62, 6, false}, {62, 14, true}, {126, 14, false}, {126, 30, true},
		{254, 14, false}, {254, 30, true}, {254, 240, true}, {254, 224, false},
		{254, 0, false}, {254, -1, true}, {254, -2, true}, {14, 0, false}, {14, -1, true},
		{14, 242, false}, {14, 246, true}, {14, 1 << 40, false}, {14, 1<<40 + 6, true}, {14, 257, false},
		{14, math.MinInt, false}, {14, math.MinInt + 6, true}, {14, math.MaxInt, true}, {14, math.MaxInt - 6, false},
		{6, 1<<32 + 2, false}, {6, -250, true}, {6, -254, false}, {6, 3, false}, {6, 10, false},
	} {
		if member.Most(c.set, c.votes) != c.want {
			t.Errorf("14.2: Most(%d, %d): %v", c.set, c.votes, !c.want)
		}
	}
}

// TestMostOfNone: 14.2, there is no half of the empty set, nor of one that is not right.
func TestMostOfNone(t *testing.T) {
	for _, set := range sets() {
		if _, ok := nodesOf(set); ok && set != 0 {
			continue
		}
		for _, v := range append(votes(), set) {
			if member.Most(set, v) {
				t.Errorf("14.2: Most(%d, %d): true", set, v)
			}
		}
	}
}

// TestMostIgnores: 14.2, bits that are not nodes of the set neither help nor hinder.
func TestMostIgnores(t *testing.T) {
	for _, set := range rights() {
		for _, v := range rights() {
			want := member.Most(set, v)
			for _, bits := range votes() {
				if other := v&set | bits&^set; member.Most(set, other) != want {
					t.Fatalf("14.2: Most(%d, %d): %v, but with %d: %v", set, v, want, other, !want)
				}
			}
		}
	}
}

// TestCommon: 14.3, each right set, with itself and with the same with one node more: any
// two sets of votes for which Most holds have a node in common, and it is one of both sets.
func TestCommon(t *testing.T) {
	wins := map[int][]int{}
	for _, set := range rights() {
		for v := 0; v <= 255; v++ {
			if member.Most(set, v) {
				wins[set] = append(wins[set], v)
			}
		}
		if list, _ := nodesOf(set); len(list) > 0 && !slices.Contains(wins[set], set) {
			t.Errorf("14.3: Most(%d, %d): false", set, set)
		}
	}
	pairs := 0
	for _, set := range rights() {
		for node := 0; node <= 7; node++ {
			other, e := member.Add(set, node)
			if node == 0 {
				other, e = set, api.OK
			}
			if e != api.OK {
				continue
			}
			for _, a := range wins[set] {
				for _, b := range wins[other] {
					if a&b&set&other == 0 {
						t.Fatalf("14.3: Most(%d, %d) and Most(%d, %d)", set, a, other, b)
					}
				}
			}
			pairs++
		}
	}
	// Each set with itself, and each but that of all nodes with one more.
	if pairs != 128+7*64 {
		t.Errorf("14.3: %d pairs of sets", pairs)
	}
}

// TestCommonLess: 14.3, each right set with the same with one node less, where votes of
// those that go are told too.
func TestCommonLess(t *testing.T) {
	for _, set := range rights() {
		for node := 1; node <= 7; node++ {
			less, e := member.Remove(set, node)
			if e != api.OK {
				continue
			}
			// Votes without a node in common: what one has the other has not.
			for v := 0; v <= 254; v += 2 {
				if member.Most(set, v) && member.Most(less, ^v) || member.Most(less, v) && member.Most(set, ^v) {
					t.Fatalf("14.3: %d and %d: Most of both, by votes of %d and of all others", set, less, v)
				}
			}
		}
	}
}
