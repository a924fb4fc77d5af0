package rpc_test

import (
	"bytes"
	"math"
	"testing"

	"bursar/api"
	"bursar/rpc"
)

// refused fails where m is right, or where Encode answers anything but ErrArg and no
// bytes.
func refused(t *testing.T, what string, m api.Msg) {
	t.Helper()
	b, e := rpc.Encode(m)
	if rpc.Right(m) || e != api.ErrArg || len(b) != 0 {
		t.Errorf("6.2: %s: %+v: Right %v, Encode % x %d", what, m, rpc.Right(m), b, e)
	}
}

// TestRight: 6.2, each kind with each edge of its fields.
func TestRight(t *testing.T) {
	kinds := map[int]int{}
	right(func(m api.Msg) {
		kinds[m.Kind]++
		if !rpc.Right(m) {
			t.Errorf("6.2: Right of %+v: false", m)
		}
	})
	if len(kinds) != lastKind {
		t.Errorf("there are %d kinds", len(kinds))
	}
}

// TestWrongKinds: 6.2, a kind that is not in the table, with no field and with those
// of each kind; some of them come round to one that is.
func TestWrongKinds(t *testing.T) {
	for _, kind := range []int{0, -1, -2, -250, -255, 7, 8, 127, 128, 255, 256, 257, 262, 1<<32 + 1, math.MaxInt, math.MinInt, math.MinInt + 3} {
		m := api.Msg{Kind: kind}
		refused(t, "Kind", m)
		m.From, m.To = 1, 2
		refused(t, "Kind", m)
		m.Term = 1
		refused(t, "Kind", m)
		for of := range list {
			m = full(of)
			m.Kind = kind
			refused(t, "Kind", m)
		}
	}
}

// TestWrongNodes: 6.2, a From or a To that is no node, or both the same.
func TestWrongNodes(t *testing.T) {
	for kind := range list {
		m := full(kind)
		for _, n := range []int{0, -1, -7, 8, 9, 255, 256, 257, 256 + 7, 1<<32 + 3, math.MaxInt, math.MinInt, math.MinInt + 3} {
			m.From, m.To = n, 2
			refused(t, "From", m)
			m.From, m.To = 2, n
			refused(t, "To", m)
		}
		for n := -1; n <= 9; n++ {
			m.From, m.To = n, n
			refused(t, "the same node", m)
		}
	}
}

// wrongFields calls f with the message that is right but for the field of a letter.
func wrongFields(f func(letter rune, m api.Msg)) {
	for _, n := range beyond(1) {
		f('T', api.Msg{Term: n})
		f('B', api.Msg{Base: api.Base{Index: n, Term: 4, Conf: 14}})
		f('B', api.Msg{Base: api.Base{Index: 200, Term: n, Conf: 14}})
	}
	for _, n := range beyond(0) {
		f('I', api.Msg{Index: n})
		f('G', api.Msg{LogTerm: n})
		f('C', api.Msg{Commit: n})
	}
	for _, set := range wrongSets() {
		f('B', api.Msg{Base: api.Base{Index: 200, Term: 4, Conf: set}})
	}
	f('B', api.Msg{})
	for _, n := range []int{-1, -256, mostImage + 1, mostImage + 2, 1 << 16, 1 << 32, 1<<32 + 5, math.MaxInt, math.MinInt} {
		f('O', api.Msg{Offset: n})
	}
	for _, n := range []int{257, 258, 512, 513, 1 << 16, 1<<16 + 1} {
		f('D', api.Msg{Data: make([]byte, n)})
	}
}

// TestWrongFields: 6.2, a field of a kind that is out of its range, with the entries
// and without any.
func TestWrongFields(t *testing.T) {
	wrongFields(func(letter rune, to api.Msg) {
		for kind, fields := range list {
			for _, has := range fields {
				if has != letter {
					continue
				}
				m := full(kind)
				set(&m, letter, to)
				refused(t, string(letter), m)
				m.Entries = nil
				refused(t, string(letter), m)
			}
		}
	})
}

// TestForeignFields: 6.2, a field that a kind has not, with the least that is there,
// with what another kind may have, and with what none may.
func TestForeignFields(t *testing.T) {
	least := api.Msg{Term: 1, Index: 1, LogTerm: 1, Commit: 1, Entries: []api.Entry{{}}, Refused: true, Offset: 1, Last: true, Data: []byte{0}}
	for kind, fields := range list {
		has := map[rune]bool{}
		for _, letter := range fields {
			has[letter] = true
		}
		foreign := func(letter rune, to api.Msg) {
			if has[letter] {
				return
			}
			m := full(kind)
			set(&m, letter, to)
			refused(t, string(letter), m)
		}
		for _, letter := range allLetters {
			foreign(letter, every())
			if letter != 'B' {
				foreign(letter, least)
			}
		}
		foreign('E', api.Msg{Entries: []api.Entry{none(5, 301)}})
		foreign('E', api.Msg{Entries: []api.Entry{none(5, 1)}})
		foreign('E', api.Msg{Entries: make([]api.Entry, 1000)})
		for _, base := range []api.Base{{Index: 1}, {Term: 1}, {Conf: 1}, {Conf: -1}, {Conf: 2}, {Index: 1, Term: 1, Conf: 2}} {
			foreign('B', api.Msg{Base: base})
		}
		for _, n := range []int{-1, 1, math.MaxInt, math.MinInt} {
			foreign('O', api.Msg{Offset: n})
		}
		for _, n := range numbers() {
			if n != 0 {
				foreign('I', api.Msg{Index: n})
				foreign('G', api.Msg{LogTerm: n})
				foreign('C', api.Msg{Commit: n})
			}
		}
	}
}

// TestEmptyFields: 6.2, nil and an empty list are the same, of a kind that has them
// and of one that has them not.
func TestEmptyFields(t *testing.T) {
	for kind := range list {
		for _, empty := range []api.Msg{{}, {Entries: []api.Entry{}, Data: []byte{}}, {Entries: make([]api.Entry, 0, 9), Data: make([]byte, 0, 9)}} {
			m := full(kind)
			m.Entries, m.Data = empty.Entries, empty.Data
			b, e := rpc.Encode(m)
			if !rpc.Right(m) || e != api.OK || !bytes.Equal(b, encoded(m)) {
				t.Errorf("6.2: %#v: Right %v, Encode % x %d", m, rpc.Right(m), b, e)
			}
		}
	}
}

// wrongAppends are messages whose entries may be, but not there: too many, or
// with an Index or a Term that does not follow.
func wrongAppends() (row []api.Msg) {
	add := func(term, index, logTerm uint64, entries ...api.Entry) {
		row = append(row, api.Msg{Kind: api.MsgAppend, From: 1, To: 2, Term: term, Index: index, LogTerm: logTerm, Entries: entries})
	}
	// How many.
	add(5, 7, 4, none(5, 8), none(5, 9), none(5, 10), none(5, 11), none(5, 12))
	long := make([]api.Entry, 256+4)
	for i := range long {
		long[i] = none(5, uint64(8+i))
	}
	add(5, 7, 4, long...)
	add(5, 7, 4, long[:256]...)
	add(5, 7, 4, long[:256+1]...)
	// Indexes.
	add(5, 7, 4, none(5, 7))
	add(5, 7, 4, none(5, 9))
	add(5, 7, 4, none(5, 1))
	add(5, 0, 0, none(5, 2))
	add(5, 7, 4, none(5, 8), none(5, 8))
	add(5, 7, 4, none(5, 8), none(5, 10))
	add(5, 7, 4, none(5, 9), none(5, 8))
	add(5, 7, 4, none(5, 8), none(5, 9), none(5, 10), none(5, 12))
	add(5, 7, 4, none(5, 8), none(5, 9), none(5, 10), none(5, 10))
	add(5, mostNumber, 4, none(5, mostNumber))
	add(5, mostNumber, 4, none(5, 1))
	add(5, mostNumber, 4, none(5, mostNumber+1))
	add(5, mostNumber-1, 4, none(5, mostNumber), none(5, mostNumber+1))
	add(5, math.MaxUint64, 4, none(5, 0))
	add(5, math.MaxUint64, 4, none(5, 1))
	// Terms.
	add(5, 7, 4, none(3, 8))
	add(5, 7, 5, none(4, 8))
	add(5, 7, 6, none(5, 8))
	add(5, 7, 6, none(6, 8))
	add(5, 7, 4, none(6, 8))
	add(5, 7, 4, none(5, 8), none(6, 9))
	add(5, 7, 4, none(5, 8), none(4, 9))
	add(5, 7, 4, none(6, 8), none(5, 9))
	add(5, 7, 4, none(3, 8), none(4, 9))
	add(5, 7, 2, none(2, 8), none(3, 9), none(5, 10), none(4, 11))
	add(5, 7, 2, none(2, 8), none(4, 9), none(3, 10), none(5, 11))
	add(5, 7, 2, none(2, 8), none(3, 9), none(4, 10), none(6, 11))
	add(1, 0, 2, none(1, 1))
	add(mostNumber-1, 7, 4, none(mostNumber, 8))
	return row
}

// TestWrongAppends: 6.2, entries that do not follow.
func TestWrongAppends(t *testing.T) {
	for _, m := range wrongAppends() {
		refused(t, "entries", m)
	}
	// LogTerm is held against entries alone.
	m := api.Msg{Kind: api.MsgAppend, From: 1, To: 2, Term: 5, Index: 7, LogTerm: 6}
	if !rpc.Right(m) {
		t.Errorf("6.2: %+v: false", m)
	}
}

// TestWrongEntriesInside: 6.2, an entry that may not be, at each place.
func TestWrongEntriesInside(t *testing.T) {
	for _, wrong := range wrongEntries() {
		for i := range 4 {
			m := full(api.MsgAppend)
			x := wrong
			// What is not wrong with it follows.
			if x.Index == 1 {
				x.Index = m.Entries[i].Index
			}
			if x.Term == 1 {
				x.Term = m.Entries[i].Term
			}
			m.Entries[i] = x
			refused(t, "an entry", m)
		}
	}
	for n := range uint64(3) {
		refused(t, "an entry", api.Msg{Kind: api.MsgAppend, From: 1, To: 2, Term: 5, Entries: []api.Entry{none(0, n)}})
	}
}
