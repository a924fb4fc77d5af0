package core_test

import (
	"math"
	"testing"

	"bursar/api"
	"bursar/core"
)

// grown answers a follower of term 4 with entries 2 to 9 and two configurations, of which 7
// are committed.
func grown(t *testing.T) *core.Core {
	t.Helper()
	n := made(t, 2, api.Hard{Term: 4}, none(1, 2), conf(2, 3, 6), none(2, 4), command(3, 5, "x"), conf(3, 6, 14), none(4, 7), conf(4, 8, 10), none(4, 9))
	does(t, "seven are committed", n, appends(1, 2, 4, 9, 4, 7), has(2, 1, 4, 9))
	return n
}

// TestCompact: 17.6, a snapshot in the place of the entries up to it, of a follower and of
// a leader; nothing is told of it.
func TestCompact(t *testing.T) {
	for _, c := range []struct {
		b    api.Base
		left int
	}{
		{api.Base{Index: 2, Term: 1, Conf: 14}, 7}, {api.Base{Index: 3, Term: 2, Conf: 6}, 6}, {api.Base{Index: 5, Term: 3, Conf: 6}, 4},
		{api.Base{Index: 6, Term: 3, Conf: 14}, 3}, {api.Base{Index: 7, Term: 4, Conf: 14}, 2},
	} {
		for _, size := range []int{0, 1, mostPiece, mostImage} {
			n := grown(t)
			s := n.Status()
			all := n.Entries(2, 99)
			if e := n.Compact(api.Snap{Base: c.b, Data: stuff(size)}); e != api.OK {
				t.Errorf("17.6: Compact at %v with %d bytes: %d", c.b, size, e)
			}
			stands(t, "Compact", n, s, func(s *api.Status) { s.Base = c.b })
			logged(t, "Compact", n, all[len(all)-c.left:]...)
			keeps(t, "Compact", tells(t, "17.7: Compact", n), api.Snap{}, false)
			if e := n.Compact(api.Snap{Base: c.b, Data: stuff(size)}); e != api.ErrArg {
				t.Errorf("17.6: Compact at %v again: %d", c.b, e)
			}
		}
	}
}

// TestWrongCompact: 17.6, each reason for ErrArg by itself.
func TestWrongCompact(t *testing.T) {
	good := api.Base{Index: 5, Term: 3, Conf: 6}
	for what, s := range map[string]api.Snap{
		"none":                      {},
		"data of no base":           {Data: []byte("a")},
		"too great":                 {Base: good, Data: make([]byte, mostImage+1)},
		"no Index":                  {Base: api.Base{Term: 3, Conf: 6}},
		"no Term":                   {Base: api.Base{Index: 5, Conf: 6}},
		"no Conf":                   {Base: api.Base{Index: 5, Term: 3}},
		"an odd Conf":               {Base: api.Base{Index: 5, Term: 3, Conf: 7}},
		"the base's Index":          {Base: base},
		"just behind Commit":        {Base: api.Base{Index: 8, Term: 4, Conf: 10}},
		"at the last":               {Base: api.Base{Index: 9, Term: 4, Conf: 10}},
		"behind the last":           {Base: api.Base{Index: 10, Term: 4, Conf: 10}},
		"far behind":                {Base: api.Base{Index: mostNumber, Term: 4, Conf: 10}},
		"an Index of 2^56":          {Base: api.Base{Index: mostNumber + 1, Term: 4, Conf: 10}},
		"the greatest Index":        {Base: api.Base{Index: math.MaxUint64, Term: 4, Conf: 10}},
		"a greater Term":            {Base: api.Base{Index: 5, Term: 4, Conf: 6}},
		"a lower Term":              {Base: api.Base{Index: 5, Term: 2, Conf: 6}},
		"another Conf":              {Base: api.Base{Index: 5, Term: 3, Conf: 4}},
		"the Conf before":           {Base: api.Base{Index: 5, Term: 3, Conf: 14}},
		"the Conf of a later entry": {Base: api.Base{Index: 4, Term: 2, Conf: 14}},
		"the Conf of the last":      {Base: api.Base{Index: 7, Term: 4, Conf: 10}},
	} {
		n := grown(t)
		was, all := n.Status(), n.Entries(2, 99)
		if e := n.Compact(s); e != api.ErrArg {
			t.Errorf("17.6: Compact, %s: %d", what, e)
		}
		stands(t, what, n, was, nil)
		logged(t, what, n, all...)
		tells(t, "17.6: "+what, n)
	}
	n := grown(t)
	if e := n.Compact(api.Snap{Base: good, Data: stuff(5)}); e != api.OK {
		t.Errorf("17.6: Compact: %d", e)
	}
	for _, b := range []api.Base{good, base, {Index: 4, Term: 2, Conf: 6}, {Index: 3, Term: 2, Conf: 6}} {
		if e := n.Compact(api.Snap{Base: b}); e != api.ErrArg {
			t.Errorf("17.6: Compact at %v, behind one at 5: %d", b, e)
		}
	}
}

// TestCompactOfNobody: 17.6, a log that tells of no members has no snapshot that may be.
func TestCompactOfNobody(t *testing.T) {
	n := begun(t, config(3), 2, api.Hard{}, api.Snap{}, 0)
	does(t, "entries, all committed", n, appends(1, 2, 1, 0, 0, 3, none(1, 1), none(1, 2), conf(1, 3, 6)), has(2, 1, 1, 3))
	for _, b := range []api.Base{{}, {Index: 1, Term: 1}, {Index: 2, Term: 1}, {Index: 2, Term: 1, Conf: 6}, {Index: 3, Term: 1}} {
		if e := n.Compact(api.Snap{Base: b}); e != api.ErrArg {
			t.Errorf("17.6: Compact at %v: %d", b, e)
		}
	}
	if e := n.Compact(api.Snap{Base: api.Base{Index: 3, Term: 1, Conf: 6}}); e != api.OK {
		t.Errorf("17.6: Compact: %d", e)
	}
}

// TestCompactTaking: 17.6, a snapshot of its own does not touch what it has of another.
func TestCompactTaking(t *testing.T) {
	n := grown(t)
	does(t, "a piece", n, piece(1, 2, 4, far, 0, stuff(3), false), wants(2, 1, 4, far, 3))
	s := n.Status()
	if e := n.Compact(api.Snap{Base: api.Base{Index: 7, Term: 4, Conf: 14}}); e != api.OK {
		t.Errorf("17.6: Compact: %d", e)
	}
	stands(t, "Compact", n, s, func(s *api.Status) { s.Base = api.Base{Index: 7, Term: 4, Conf: 14} })
	o := does(t, "the rest", n, piece(1, 2, 4, far, 3, stuff(4), true), has(2, 1, 4, 9))
	keeps(t, "the rest", o, api.Snap{Base: far, Data: append(stuff(3), stuff(4)...)}, true)
}

// TestLog: 17.6, Entries, Term and ConfAt tell what the log does.
func TestLog(t *testing.T) {
	n := grown(t)
	if e := n.Compact(api.Snap{Base: api.Base{Index: 4, Term: 2, Conf: 6}}); e != api.OK {
		t.Errorf("17.6: Compact: %d", e)
	}
	for index, c := range []struct {
		term uint64
		ok   bool
		set  int
	}{
		{0, false, 6}, {0, false, 6}, {0, false, 6}, {0, false, 6}, {2, true, 6}, {3, true, 6}, {3, true, 14}, {4, true, 14}, {4, true, 10}, {4, true, 10}, {0, false, 10}, {0, false, 10},
	} {
		term, ok := n.Term(uint64(index))
		if set := n.ConfAt(uint64(index)); term != c.term || ok != c.ok || set != c.set {
			t.Errorf("17.6: of %d: Term %d %t, ConfAt %d, not %v", index, term, ok, set, c)
		}
	}
	five := row(command(3, 5, "x"), conf(3, 6, 14), none(4, 7), conf(4, 8, 10), none(4, 9))
	for _, c := range []struct {
		from uint64
		most int
		want []api.Entry
	}{
		{5, 99, five}, {5, 5, five}, {5, 2, five[:2]}, {9, 1, five[4:]}, {7, math.MaxInt, five[2:]},
		{5, 0, nil}, {5, -1, nil}, {5, math.MinInt, nil}, {4, 99, nil}, {0, 99, nil}, {10, 99, nil}, {math.MaxUint64, 99, nil},
	} {
		if got := n.Entries(c.from, c.most); !same(got, c.want) {
			t.Errorf("17.6: Entries(%d, %d): %s, not %s", c.from, c.most, short(got), short(c.want))
		}
	}
	if term, ok := n.Term(math.MaxUint64); term != 0 || ok || n.ConfAt(math.MaxUint64) != 10 {
		t.Errorf("17.6: of the greatest index: %d %t", term, ok)
	}
}

// TestStatus: 17.6, what is told of a snapshot that comes.
func TestStatus(t *testing.T) {
	n := alone(t).n
	stands(t, "no snapshot comes", n, api.Status{
		ID: 2, Hard: api.Hard{Term: 4}, Base: base, Last: 4, Commit: 2, Conf: 14, ConfIndex: 1, Limit: 13,
	}, nil)
	does(t, "a piece out of turn", n, piece(1, 2, 4, far, 9, stuff(4), false), wants(2, 1, 4, far, 0))
	if s := n.Status(); s.Receiving != 1 || s.Buffered != 0 {
		t.Errorf("17.6: a snapshot comes, of which nothing is there: %+v", s)
	}
	does(t, "a piece", n, piece(1, 2, 4, far, 0, stuff(4), false), wants(2, 1, 4, far, 4))
	if s := n.Status(); s.Receiving != 1 || s.Buffered != 4 {
		t.Errorf("17.6: a snapshot comes: %+v", s)
	}
}
