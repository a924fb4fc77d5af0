package member_test

import (
	"math"
	"slices"
	"testing"

	"bursar/api"
	"bursar/member"
)

// nodesOf answers the nodes of a set as they rise, and whether the set is right: by
// halving, where package member shifts.
func nodesOf(set int) ([]int, bool) {
	if set < 0 || set > 254 || set%2 == 1 {
		return nil, false
	}
	var nodes []int
	for node := 1; node <= 7; node++ {
		set /= 2
		if set%2 == 1 {
			nodes = append(nodes, node)
		}
	}
	return nodes, true
}

// setOf answers the sum of what the nodes stand for, each of them once.
func setOf(nodes []int) int {
	set, worth := 0, 2
	for node := 1; node <= 7; node++ {
		if slices.Contains(nodes, node) {
			set += worth
		}
		worth *= 2
	}
	return set
}

// rights answers all right sets.
func rights() []int {
	var sets []int
	for set := 0; set <= 254; set += 2 {
		sets = append(sets, set)
	}
	return sets
}

// edges answers numbers at the ends of what an int, or a smaller one, can be, and some
// that come round to a right set, or to a node, in fewer bits.
func edges() []int {
	return []int{
		math.MinInt, math.MinInt + 1, math.MinInt + 2, math.MinInt + 14, math.MinInt + 254, math.MinInt32, math.MinInt32 + 2,
		-1 << 40, -1<<32 + 2, -1 << 16, -1<<16 + 14, -1 << 9, -1<<8 + 2,
		1 << 9, 1<<9 + 2, 1<<16 + 2, 1<<16 + 14, 1<<16 + 254, 1 << 31, 1<<32 + 1, 1<<32 + 2, 1<<32 + 254, 1 << 40, 1 << 62, 1<<62 + 2,
		math.MaxInt32, math.MaxInt32 - 1, math.MaxInt - 1, math.MaxInt,
	}
}

// sets answers all right sets, and many that are not right.
func sets() []int {
	all := edges()
	for set := -300; set <= 600; set++ {
		all = append(all, set)
	}
	return all
}

// nodes answers all nodes, and many numbers that are none.
func nodes() []int {
	all := edges()
	for node := -140; node <= 140; node++ {
		all = append(all, node)
	}
	return all
}

// isNode tells whether there is such a node.
func isNode(node int) bool { return node >= 1 && node <= 7 }

// told answers what All yields, but no more than twenty nodes.
func told(set int) []int {
	var list []int
	for node := range member.All(set) {
		if list = append(list, node); len(list) == 20 {
			break
		}
	}
	return list
}

// answers fails where a call did not answer a set and OK, or no set and an error.
func answers(t *testing.T, what string, set int, e api.Errno, want int, fault api.Errno) {
	t.Helper()
	if set != want || e != fault {
		t.Errorf("%s: %d %d, not %d %d", what, set, e, want, fault)
	}
}
