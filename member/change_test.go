package member_test

import (
	"fmt"
	"math"
	"slices"
	"testing"

	"bursar/api"
	"bursar/member"
)

// added answers what Add has to, by lists of nodes.
func added(set, node int) (int, api.Errno) {
	list, ok := nodesOf(set)
	if !ok || !isNode(node) {
		return 0, api.ErrArg
	}
	if slices.Contains(list, node) {
		return 0, api.ErrMember
	}
	return setOf(append(list, node)), api.OK
}

// removed answers what Remove has to, by lists of nodes.
func removed(set, node int) (int, api.Errno) {
	list, ok := nodesOf(set)
	if !ok || !isNode(node) {
		return 0, api.ErrArg
	}
	place := slices.Index(list, node)
	if place < 0 || len(list) == 1 {
		return 0, api.ErrMember
	}
	return setOf(slices.Delete(list, place, place+1)), api.OK
}

// TestAdd: 14.2, each node to each set, and all that is none.
func TestAdd(t *testing.T) {
	for _, set := range sets() {
		for _, node := range nodes() {
			want, fault := added(set, node)
			got, e := member.Add(set, node)
			answers(t, fmt.Sprintf("14.2: Add(%d, %d)", set, node), got, e, want, fault)
		}
	}
}

// TestRemove: 14.2, each node from each set, and all that is none.
func TestRemove(t *testing.T) {
	for _, set := range sets() {
		for _, node := range nodes() {
			want, fault := removed(set, node)
			got, e := member.Remove(set, node)
			answers(t, fmt.Sprintf("14.2: Remove(%d, %d)", set, node), got, e, want, fault)
		}
	}
}

// TestChangeEdges: 14.2, the chapter's examples and the edges that it names; where both
// errors could be told, it is ErrArg.
func TestChangeEdges(t *testing.T) {
	for _, c := range []struct {
		set, node   int
		add         int
		addFault    api.Errno
		remove      int
		removeFault api.Errno
	}{
		{10, 2, 14, api.OK, 0, api.ErrMember},
		{2, 1, 0, api.ErrMember, 0, api.ErrMember}, // the only node
		{128, 7, 0, api.ErrMember, 0, api.ErrMember},
		{2, 7, 130, api.OK, 0, api.ErrMember},
		{130, 7, 0, api.ErrMember, 2, api.OK},
		{130, 1, 0, api.ErrMember, 128, api.OK},
		{0, 1, 2, api.OK, 0, api.ErrMember}, // the empty set
		{0, api.MaxNodes, 128, api.OK, 0, api.ErrMember},
		{254, 4, 0, api.ErrMember, 238, api.OK},
		{238, 4, 254, api.OK, 0, api.ErrMember},
		{10, 0, 0, api.ErrArg, 0, api.ErrArg}, // nodes that are none
		{10, -1, 0, api.ErrArg, 0, api.ErrArg},
		{10, api.MaxNodes + 1, 0, api.ErrArg, 0, api.ErrArg},
		{10, math.MinInt, 0, api.ErrArg, 0, api.ErrArg},
		{10, math.MaxInt, 0, api.ErrArg, 0, api.ErrArg},
		{0, 0, 0, api.ErrArg, 0, api.ErrArg},
		{3, 0, 0, api.ErrArg, 0, api.ErrArg}, // sets that are not right, the node within and not
		{3, 1, 0, api.ErrArg, 0, api.ErrArg},
		{3, 2, 0, api.ErrArg, 0, api.ErrArg},
		{1, 1, 0, api.ErrArg, 0, api.ErrArg},
		{-2, 1, 0, api.ErrArg, 0, api.ErrArg},
		{255, 7, 0, api.ErrArg, 0, api.ErrArg},
		{256, 1, 0, api.ErrArg, 0, api.ErrArg},
		{256, 8, 0, api.ErrArg, 0, api.ErrArg},
		{258, 1, 0, api.ErrArg, 0, api.ErrArg},
		{math.MinInt, 1, 0, api.ErrArg, 0, api.ErrArg},
		{math.MaxInt, 1, 0, api.ErrArg, 0, api.ErrArg},
		{math.MaxInt - 1, 1, 0, api.ErrArg, 0, api.ErrArg},
	} {
		set, e := member.Add(c.set, c.node)
		answers(t, fmt.Sprintf("14.2: Add(%d, %d)", c.set, c.node), set, e, c.add, c.addFault)
		set, e = member.Remove(c.set, c.node)
		answers(t, fmt.Sprintf("14.2: Remove(%d, %d)", c.set, c.node), set, e, c.remove, c.removeFault)
	}
}

// TestChangeBack: 14.2, a node that came can go again, but for the only one; what Add
// and Remove answer is right, and has one node more or less.
func TestChangeBack(t *testing.T) {
	for _, set := range rights() {
		for node := 1; node <= 7; node++ {
			more, e := member.Add(set, node)
			if e != api.OK {
				continue
			}
			if !member.Right(more) || member.Count(more) != member.Count(set)+1 || !member.Has(more, node) {
				t.Errorf("14.2: Add(%d, %d): %d", set, node, more)
			}
			want, fault := set, api.OK
			if set == 0 {
				fault = api.ErrMember
			}
			less, e := member.Remove(more, node)
			answers(t, fmt.Sprintf("14.2: Remove(%d, %d)", more, node), less, e, want, fault)
		}
	}
}

// TestFill: 14.2, a set grows to all nodes and shrinks to each one of them.
func TestFill(t *testing.T) {
	for stays := 1; stays <= 7; stays++ {
		set := 0
		for node := 7; node >= 1; node-- {
			more, e := member.Add(set, node)
			answers(t, "14.2: all nodes come", more, e, set+1<<node, api.OK)
			set = more
		}
		for node := 1; node <= 7; node++ {
			if node == stays {
				continue
			}
			less, e := member.Remove(set, node)
			answers(t, "14.2: all but one go", less, e, set-1<<node, api.OK)
			set = less
		}
		less, e := member.Remove(set, stays)
		answers(t, "14.2: the last one stays", less, e, 0, api.ErrMember)
	}
}
