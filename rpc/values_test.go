package rpc_test

import (
	"bytes"
	"hash/crc32"
	"math"
	"math/big"
	"math/rand/v2"
	"slices"
	"testing"

	"bursar/api"
	"bursar/rpc"
)

// list is the chapter's table: the fields of each kind of message, a letter each,
// in their order. G is the LogTerm.
var list = map[int]string{
	api.MsgVote:        "TIGL",
	api.MsgVoteReply:   "TRL",
	api.MsgAppend:      "TIGCE",
	api.MsgAppendReply: "TIR",
	api.MsgSnap:        "TBOLD",
	api.MsgSnapReply:   "TBO",
}

const (
	lastKind   = 6
	allLetters = "TIGCERBOLD"
	mostNumber = 1<<56 - 1
	mostImage  = 32768
)

func none(term, index uint64) api.Entry { return api.Entry{Term: term, Index: index} }

func command(term, index uint64, data string) api.Entry {
	return api.Entry{Kind: api.EntryCmd, Term: term, Index: index, Data: []byte(data)}
}

func conf(term, index uint64, set int) api.Entry {
	return api.Entry{Kind: api.EntryConf, Term: term, Index: index, Conf: set}
}

// rising answers n bytes that differ from those beside them.
func rising(n int) []byte {
	b := make([]byte, n)
	for i := range b {
		b[i] = byte(i + 1)
	}
	return b
}

// set sets the field of a letter to that of another message.
func set(m *api.Msg, letter rune, to api.Msg) {
	switch letter {
	case 'T':
		m.Term = to.Term
	case 'I':
		m.Index = to.Index
	case 'G':
		m.LogTerm = to.LogTerm
	case 'C':
		m.Commit = to.Commit
	case 'E':
		m.Entries = to.Entries
	case 'R':
		m.Refused = to.Refused
	case 'B':
		m.Base = to.Base
	case 'O':
		m.Offset = to.Offset
	case 'L':
		m.Last = to.Last
	case 'D':
		m.Data = to.Data
	}
}

// ofKind answers the message of a kind that has its fields from the one given.
func ofKind(kind int, from api.Msg) api.Msg {
	m := api.Msg{Kind: kind, From: from.From, To: from.To}
	for _, letter := range list[kind] {
		set(&m, letter, from)
	}
	return m
}

// every answers a message, of no kind, with something in each field.
func every() api.Msg {
	return api.Msg{
		From: 1, To: 2, Term: 5, Index: 300, LogTerm: 3, Commit: 299, Refused: true, Last: true,
		Entries: []api.Entry{none(3, 301), command(4, 302, "ab"), conf(4, 303, 14), command(5, 304, "c")},
		Base:    api.Base{Index: 200, Term: 4, Conf: 14}, Offset: 256, Data: []byte("xyz"),
	}
}

// full answers a message of a kind with something in each of its fields.
func full(kind int) api.Msg { return ofKind(kind, every()) }

// numbers are some of 64 bits: of each length as a varint the least and the
// greatest, and those beside MaxNumber.
func numbers() []uint64 {
	row := []uint64{0, 1, 2, math.MaxUint64 - 1, math.MaxUint64}
	for k := 7; k < 64; k += 7 {
		row = append(row, 1<<k-1, 1<<k, 1<<k+1)
	}
	return row
}

// ranged are those among them from least to MaxNumber.
func ranged(least uint64) (row []uint64) {
	for _, n := range numbers() {
		if n >= least && n <= mostNumber {
			row = append(row, n)
		}
	}
	return row
}

// beyond are the others.
func beyond(least uint64) (row []uint64) {
	for _, n := range append(numbers(), 1<<63, 1<<56+5) {
		if n < least || n > mostNumber {
			row = append(row, n)
		}
	}
	return row
}

// sets are all sets of nodes that are right and not empty.
func sets() (row []int) {
	for set := 2; set <= 254; set += 2 {
		row = append(row, set)
	}
	return row
}

// wrongSets are none, or empty; some of them come round to one that is right.
func wrongSets() []int {
	row := []int{0, -1, -2, -14, -242, math.MinInt, math.MinInt + 14, 255, 256, 257, 256 + 14, 1<<16 + 14, 1<<32 + 14, math.MaxInt, math.MaxInt - 1}
	for set := 1; set <= 255; set += 2 {
		row = append(row, set)
	}
	return row
}

// rightEntries calls f with entries of each kind, at each edge of each field.
func rightEntries(f func(e api.Entry)) {
	for _, n := range ranged(1) {
		for _, e := range []api.Entry{none(n, 7), none(7, n), none(n, n), command(n, 7, "ab"), command(7, n, "ab"), conf(n, 7, 14), conf(7, n, 14)} {
			f(e)
		}
	}
	for n := 1; n <= 128; n++ {
		f(command(2, 3, string(rising(n))))
		f(command(mostNumber, mostNumber, string(make([]byte, n))))
	}
	for _, set := range sets() {
		f(conf(2, 3, set))
		f(conf(mostNumber, mostNumber, set))
	}
	rnd := rand.New(rand.NewPCG(6, 1))
	for range 2000 {
		f(drawnEntry(rnd, drawnNumber(rnd, 1), drawnNumber(rnd, 1)))
	}
}

// drawnNumber answers a number from least to MaxNumber, all lengths alike often.
func drawnNumber(rnd *rand.Rand, least uint64) uint64 {
	return max(rnd.Uint64()>>(8+rnd.IntN(56)), least)
}

// drawnBytes answers from least to most bytes.
func drawnBytes(rnd *rand.Rand, least, most int) []byte {
	b := make([]byte, least+rnd.IntN(most-least+1))
	for i := range b {
		b[i] = byte(rnd.Uint64())
	}
	return b
}

// drawnEntry answers an entry that is right.
func drawnEntry(rnd *rand.Rand, term, index uint64) api.Entry {
	switch rnd.IntN(3) {
	case 0:
		return none(term, index)
	case 1:
		return command(term, index, string(drawnBytes(rnd, 1, 128)))
	}
	return conf(term, index, 2*(1+rnd.IntN(127)))
}

// drawn answers a message of a kind that is right.
func drawn(rnd *rand.Rand, kind int) api.Msg {
	m := api.Msg{From: 1 + rnd.IntN(7), Term: drawnNumber(rnd, 1), Index: drawnNumber(rnd, 0), LogTerm: drawnNumber(rnd, 0), Commit: drawnNumber(rnd, 0)}
	m.To = 1 + (m.From-1+1+rnd.IntN(6))%7
	m.Refused, m.Last = rnd.IntN(2) == 0, rnd.IntN(2) == 0
	m.Base = api.Base{Index: drawnNumber(rnd, 1), Term: drawnNumber(rnd, 1), Conf: 2 * (1 + rnd.IntN(127))}
	m.Offset, m.Data = rnd.IntN(mostImage+1), drawnBytes(rnd, 0, 256)
	if kind == api.MsgAppend && rnd.IntN(4) > 0 {
		m.LogTerm = min(m.LogTerm, m.Term)
		at := m.LogTerm
		for i := range rnd.IntN(5) {
			at = max(at+rnd.Uint64N(m.Term-at+1), 1)
			if m.Index+uint64(i)+1 <= mostNumber {
				m.Entries = append(m.Entries, drawnEntry(rnd, at, m.Index+uint64(i)+1))
			}
		}
	}
	return ofKind(kind, m)
}

// nodes calls f with all pairs of nodes.
func nodes(f func(from, to int)) {
	for from := 1; from <= 7; from++ {
		for to := 1; to <= 7; to++ {
			if from != to {
				f(from, to)
			}
		}
	}
}

// right calls f with messages of all kinds, at each edge of each field.
func right(f func(m api.Msg)) {
	for kind := range list {
		each := func(turn func(m *api.Msg)) {
			m := every()
			turn(&m)
			f(ofKind(kind, m))
		}
		each(func(m *api.Msg) {})
		each(func(m *api.Msg) { m.Entries, m.Data = nil, nil })
		each(func(m *api.Msg) { m.Entries, m.Data = []api.Entry{}, []byte{} })
		nodes(func(from, to int) { each(func(m *api.Msg) { m.From, m.To = from, to }) })
		for _, n := range ranged(1) {
			each(func(m *api.Msg) { m.Term, m.Entries = n, nil })
			each(func(m *api.Msg) { m.Base.Index = n })
			each(func(m *api.Msg) { m.Base.Term = n })
		}
		for _, n := range ranged(0) {
			each(func(m *api.Msg) { m.Index, m.Entries = n, nil })
			each(func(m *api.Msg) { m.LogTerm, m.Entries = n, nil })
			each(func(m *api.Msg) { m.Commit = n })
		}
		for _, set := range sets() {
			each(func(m *api.Msg) { m.Base.Conf = set })
		}
		for _, n := range []int{0, 1, 127, 128, 255, 256, 16383, 16384, mostImage - 1, mostImage} {
			each(func(m *api.Msg) { m.Offset = n })
		}
		for i := range 4 {
			each(func(m *api.Msg) { m.Refused, m.Last = i&1 == 0, i&2 == 0 })
		}
		for n := range 257 {
			each(func(m *api.Msg) { m.Data = rising(n) })
		}
		rnd := rand.New(rand.NewPCG(6, uint64(kind)))
		for range 1000 {
			f(drawn(rnd, kind))
		}
	}
	appends(f)
}

// appends calls f with messages of entries that just follow.
func appends(f func(m api.Msg)) {
	for _, c := range []struct {
		term, index, logTerm uint64
		row                  []api.Entry
	}{
		{1, 0, 0, []api.Entry{none(1, 1)}},
		{1, 0, 0, []api.Entry{none(1, 1), none(1, 2), none(1, 3), none(1, 4)}},
		{1, 0, 1, []api.Entry{none(1, 1)}},
		{5, 7, 2, []api.Entry{none(2, 8), none(2, 9), none(5, 10), none(5, 11)}},
		{5, 7, 0, []api.Entry{none(1, 8), none(2, 9), none(3, 10), none(4, 11)}},
		{5, 7, 5, []api.Entry{command(5, 8, "a"), conf(5, 9, 2)}},
		{mostNumber, mostNumber - 4, mostNumber, []api.Entry{none(mostNumber, mostNumber-3), none(mostNumber, mostNumber-2), none(mostNumber, mostNumber-1), none(mostNumber, mostNumber)}},
		{mostNumber, mostNumber - 1, 0, []api.Entry{command(1, mostNumber, "a")}},
		{mostNumber, mostNumber, mostNumber, nil},
		{1, mostNumber, mostNumber, nil},
	} {
		f(api.Msg{Kind: api.MsgAppend, From: 1, To: 2, Term: c.term, Index: c.index, LogTerm: c.logTerm, Entries: c.row})
	}
	rightEntries(func(e api.Entry) {
		f(api.Msg{Kind: api.MsgAppend, From: 7, To: 1, Term: mostNumber, Index: e.Index - 1, LogTerm: e.Term, Entries: []api.Entry{e}})
	})
}

// sameEntry tells whether two entries are the same; nil and no bytes are.
func sameEntry(a, b api.Entry) bool {
	return a.Kind == b.Kind && a.Term == b.Term && a.Index == b.Index && a.Conf == b.Conf && bytes.Equal(a.Data, b.Data)
}

// same tells whether two messages are the same.
func same(a, b api.Msg) bool {
	return slices.EqualFunc(a.Entries, b.Entries, sameEntry) && bytes.Equal(a.Data, b.Data) &&
		a.Kind == b.Kind && a.From == b.From && a.To == b.To && a.Term == b.Term && a.Index == b.Index && a.LogTerm == b.LogTerm &&
		a.Commit == b.Commit && a.Refused == b.Refused && a.Base == b.Base && a.Offset == b.Offset && a.Last == b.Last
}

// varint answers n to the base 128, by other means than pack's.
func varint(n uint64) (b []byte) {
	base, digit := big.NewInt(128), new(big.Int)
	left := new(big.Int).SetUint64(n)
	for {
		left.DivMod(left, base, digit)
		if left.Sign() == 0 {
			return append(b, byte(digit.Int64()))
		}
		b = append(b, byte(digit.Int64()+128))
	}
}

// text answers b with its length before it.
func text(b []byte) []byte { return append(varint(uint64(len(b))), b...) }

// flag answers 0 or 1.
func flag(b bool) byte {
	if b {
		return 1
	}
	return 0
}

// ofEntry answers the bytes of e as LayEntry's section tells them, right or not.
func ofEntry(e api.Entry) []byte {
	b := bytes.Join([][]byte{{byte(e.Kind)}, varint(e.Term), varint(e.Index)}, nil)
	switch e.Kind {
	case api.EntryCmd:
		b = append(b, text(e.Data)...)
	case api.EntryConf:
		b = append(b, byte(e.Conf))
	}
	return b
}

// body answers the bytes of m as 6.3 and the table tell them, right or not, without
// their sum.
func body(m api.Msg) []byte {
	b := []byte{byte(m.Kind), byte(m.From), byte(m.To)}
	for _, letter := range list[m.Kind] {
		switch letter {
		case 'T':
			b = append(b, varint(m.Term)...)
		case 'I':
			b = append(b, varint(m.Index)...)
		case 'G':
			b = append(b, varint(m.LogTerm)...)
		case 'C':
			b = append(b, varint(m.Commit)...)
		case 'E':
			b = append(b, varint(uint64(len(m.Entries)))...)
			for _, e := range m.Entries {
				b = append(b, text(ofEntry(e))...)
			}
		case 'R':
			b = append(b, flag(m.Refused))
		case 'B':
			b = append(b, bytes.Join([][]byte{varint(m.Base.Index), varint(m.Base.Term), {byte(m.Base.Conf)}}, nil)...)
		case 'O':
			b = append(b, varint(uint64(m.Offset))...)
		case 'L':
			b = append(b, flag(m.Last))
		case 'D':
			b = append(b, text(m.Data)...)
		}
	}
	return b
}

// sealed answers b and its CRC-32C, by other means than pack's.
func sealed(b []byte) []byte {
	h := crc32.Checksum(b, crc32.MakeTable(crc32.Castagnoli))
	return append(bytes.Clone(b), byte(h), byte(h>>8), byte(h>>16), byte(h>>24))
}

// encoded answers the bytes of m.
func encoded(m api.Msg) []byte { return sealed(body(m)) }

// readsEntry fails where ReadEntry of b is not the entry x, or the error e and a
// zero entry.
func readsEntry(t *testing.T, what string, b []byte, x api.Entry, e api.Errno) {
	t.Helper()
	if got, f := rpc.ReadEntry(b); !sameEntry(got, x) || f != e {
		t.Errorf("%s: ReadEntry of % x: %+v %d, not %+v %d", what, b, got, f, x, e)
	}
}

// decodes fails where Decode of b is not the message m, or the error e and a zero
// message.
func decodes(t *testing.T, what string, b []byte, m api.Msg, e api.Errno) {
	t.Helper()
	if got, f := rpc.Decode(b); !same(got, m) || f != e {
		t.Errorf("%s: Decode of % x: %+v %d, not %+v %d", what, b, got, f, m, e)
	}
}
