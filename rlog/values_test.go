package rlog_test

import (
	"bytes"
	"fmt"
	"math"
	"slices"
	"testing"

	"bursar/api"
	"bursar/rlog"
)

// What the chapter and api tell in words, written anew.
const (
	mostNumber = 1<<56 - 1
	mostData   = 128
)

// Short ways to write entries.

func none(term, index uint64) api.Entry { return api.Entry{Term: term, Index: index} }
func command(term, index uint64, data string) api.Entry {
	return api.Entry{Kind: api.EntryCmd, Term: term, Index: index, Data: []byte(data)}
}
func conf(term, index uint64, set int) api.Entry {
	return api.Entry{Kind: api.EntryConf, Term: term, Index: index, Conf: set}
}
func row(some ...api.Entry) []api.Entry { return some }

// run answers entries with the given terms, from an index on.
func run(from uint64, terms ...uint64) []api.Entry {
	var some []api.Entry
	for k, term := range terms {
		some = append(some, none(term, from+uint64(k)))
	}
	return some
}

// The chapter's examples.
var base = api.Base{Index: 4, Term: 2, Conf: 14}

func example() []api.Entry { return run(5, 2, 2) }

// wrong answers entries with an index that may not be, each for another reason.
func wrong(term, index uint64) []api.Entry {
	some := slices.Repeat(row(none(term, index), command(term, index, "a"), conf(term, index, 14)), 4)
	some[0].Kind, some[1].Kind, some[2].Kind = -1, 3, math.MinInt
	some[3].Data, some[4].Data, some[5].Data = []byte("a"), nil, []byte("a")
	some[6].Conf, some[7].Conf, some[8].Conf = 2, 2, 0
	some[9].Conf, some[10].Data, some[11].Conf = -2, make([]byte, mostData+1), 15
	for _, set := range []int{1, 255, 256, -2, math.MinInt, math.MaxInt} {
		some = append(some, conf(term, index, set))
	}
	return some
}

// made makes a Log, which may not fail.
func made(t *testing.T, base api.Base, some ...api.Entry) *rlog.Log {
	t.Helper()
	l, e := rlog.New(base, some)
	if l == nil || e != api.OK {
		t.Fatalf("15.1: New(%v, %s): %v %d", base, short(some), l, e)
	}
	return l
}

// short answers the beginning of what v is told as.
func short(v any) string {
	s := fmt.Sprint(v)
	if len(s) > 200 {
		return s[:200] + ".."
	}
	return s
}

// same tells whether two rows of entries are alike.
func same(some, others []api.Entry) bool {
	return slices.EqualFunc(some, others, func(x, y api.Entry) bool {
		return x.Kind == y.Kind && x.Term == y.Term && x.Index == y.Index && bytes.Equal(x.Data, y.Data) && x.Conf == y.Conf
	})
}

// twin answers entries in memory of their own.
func twin(some []api.Entry) []api.Entry {
	c := slices.Clone(some)
	for i := range c {
		c[i].Data = bytes.Clone(c[i].Data)
	}
	return c
}

// told answers all entries of l by its range. Of one that would go on for ever, it
// answers many.
func told(l *rlog.Log) []api.Entry {
	var got []api.Entry
	for index, x := range l.All() {
		if index != x.Index {
			got = append(got, api.Entry{Kind: -1, Index: index})
		}
		if got = append(got, x); len(got) > 1<<16 {
			break
		}
	}
	return got
}

// around answers the indexes that are worth a question of a log.
func around(m *model) []uint64 {
	some := []uint64{0, 1, m.base.Index - 1, m.last() + 1, m.last() + 2, m.last() + 1<<32, mostNumber, mostNumber + 1, 1 << 63, math.MaxUint64}
	for index := m.base.Index; index <= m.last(); index++ {
		some = append(some, index)
	}
	return some
}

// holds fails where l tells anything but what a log of that base and those entries does.
func holds(t *testing.T, what string, l *rlog.Log, base api.Base, some ...api.Entry) {
	t.Helper()
	m := &model{base, some}
	if got := l.Base(); got != base {
		t.Errorf("15.1: %s: Base %v, not %v", what, got, base)
	}
	if l.Last() != m.last() || l.Len() != len(some) {
		t.Errorf("15.1: %s: Last %d, Len %d, not %d, %d", what, l.Last(), l.Len(), m.last(), len(some))
	}
	if got := told(l); !same(got, some) {
		t.Errorf("15.1: %s: All tells %s, not %s", what, short(got), short(some))
	}
	set, at := l.Conf()
	if s, i := m.conf(math.MaxUint64); set != s || at != i {
		t.Errorf("15.4: %s: Conf %d %d, not %d %d", what, set, at, s, i)
	}
	for _, index := range around(m) {
		asked(t, what, l, m, index)
	}
}

// asked fails where l tells of an index anything but what m does.
func asked(t *testing.T, what string, l *rlog.Log, m *model, index uint64) {
	t.Helper()
	got, ok := l.Term(index)
	if term, there := m.term(index); got != term || ok != there {
		t.Errorf("15.1: %s: Term(%d): %d %t, not %d %t", what, index, got, ok, term, there)
	}
	for _, most := range []int{-1, 0, 1, 2, len(m.row) - 1, len(m.row), math.MaxInt} {
		if got, want := l.Entries(index, most), m.entries(index, most); !same(got, want) {
			t.Errorf("15.1: %s: Entries(%d, %d): %s, not %s", what, index, most, short(got), short(want))
		}
	}
	for _, term := range []uint64{0, 1, m.lastTerm() - 1, m.lastTerm(), m.lastTerm() + 1, math.MaxUint64} {
		if got, want := l.Good(index, term), m.good(index, term); got != want {
			t.Errorf("15.2: %s: Good(%d, %d): %t", what, index, term, got)
		}
	}
	if set, _ := m.conf(index); l.ConfAt(index) != set {
		t.Errorf("15.4: %s: ConfAt(%d): %d, not %d", what, index, l.ConfAt(index), set)
	}
}

// model is a log as the chapter tells it: a base, and a row that is gone through from its
// beginning for each question.
type model struct {
	base api.Base
	row  []api.Entry
}

func (m *model) last() uint64 { return m.base.Index + uint64(len(m.row)) }

func (m *model) lastTerm() uint64 {
	term, _ := m.term(m.last())
	return term
}

func (m *model) term(index uint64) (uint64, bool) {
	for _, x := range m.row {
		if x.Index == index {
			return x.Term, true
		}
	}
	if index == m.base.Index {
		return m.base.Term, true
	}
	return 0, false
}

func (m *model) entries(from uint64, most int) []api.Entry {
	var some []api.Entry
	for _, x := range m.row {
		if from > m.base.Index && x.Index >= from && len(some) < most {
			some = append(some, x)
		}
	}
	return some
}

func (m *model) good(index, term uint64) bool {
	if term == m.lastTerm() {
		return index >= m.last()
	}
	return term > m.lastTerm()
}

func (m *model) conf(index uint64) (int, uint64) {
	set, at := m.base.Conf, m.base.Index
	for _, x := range m.row {
		if x.Kind == api.EntryConf && x.Index <= index {
			set, at = x.Conf, x.Index
		}
	}
	return set, at
}

func (m *model) append(some []api.Entry) api.Errno {
	if !following(m.last(), m.lastTerm(), some) {
		return api.ErrArg
	}
	m.row = append(m.row, twin(some)...)
	return api.OK
}

// ahead answers the entries ahead of an index.
func (m *model) ahead(index uint64) []api.Entry {
	return slices.DeleteFunc(slices.Clone(m.row), func(x api.Entry) bool { return x.Index >= index })
}

// behind answers the entries behind an index.
func (m *model) behind(index uint64) []api.Entry {
	return slices.DeleteFunc(slices.Clone(m.row), func(x api.Entry) bool { return x.Index <= index })
}

func (m *model) put(index, term uint64, some []api.Entry) (uint64, bool) {
	if own, ok := m.term(index); !ok || own != term || !following(index, term, some) {
		return 0, false
	}
	for k, x := range some {
		if own, ok := m.term(x.Index); !ok || own != x.Term {
			m.row = append(m.ahead(x.Index), twin(some[k:])...)
			return x.Index, true
		}
	}
	return 0, true
}

func (m *model) compact(index uint64) api.Errno {
	if index <= m.base.Index || index > m.last() {
		return api.ErrArg
	}
	term, _ := m.term(index)
	set, _ := m.conf(index)
	m.base, m.row = api.Base{Index: index, Term: term, Conf: set}, m.behind(index)
	return api.OK
}

func (m *model) restore(base api.Base) bool {
	if base == (api.Base{}) || !mayBe(base) {
		return false
	}
	left := m.behind(base.Index)
	own, ok := m.term(base.Index)
	if ok = ok && own == base.Term; !ok {
		left = nil
	}
	m.base, m.row = base, left
	return ok
}

// mayBe tells whether a base is right.
func mayBe(b api.Base) bool {
	if b.Index == 0 && b.Term == 0 && b.Conf == 0 {
		return true
	}
	return numbers(b.Index, b.Term) && nodes(b.Conf)
}

// numbers tells whether all of these are at least 1, and no more than there may be.
func numbers(some ...uint64) bool {
	return !slices.ContainsFunc(some, func(n uint64) bool { return n == 0 || n > mostNumber })
}

// nodes tells whether a set has some nodes, and nothing else.
func nodes(set int) bool {
	return set > 0 && set < 256 && set%2 == 0
}

// following tells whether entries follow an index and a term.
func following(index, term uint64, some []api.Entry) bool {
	for k, x := range some {
		if !valid(x) || x.Index != index+uint64(k)+1 || x.Term < term {
			return false
		}
		term = max(term, x.Term)
	}
	return true
}

// valid tells whether an entry may be, as chapter 6 tells it.
func valid(x api.Entry) bool {
	if !numbers(x.Term, x.Index) {
		return false
	}
	size := len(x.Data)
	return x.Kind == 0 && size == 0 && x.Conf == 0 ||
		x.Kind == 1 && size > 0 && size <= mostData && x.Conf == 0 ||
		x.Kind == 2 && size == 0 && nodes(x.Conf)
}
