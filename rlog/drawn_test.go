package rlog_test

import (
	"math/rand/v2"
	"testing"

	"bursar/api"
	"bursar/rlog"
)

// drawnEntry draws an entry of any kind.
func drawnEntry(rnd *rand.Rand, term, index uint64) api.Entry {
	switch rnd.IntN(4) {
	case 0:
		return none(term, index)
	case 1:
		return conf(term, index, 2*(1+rnd.IntN(127)))
	}
	data := make([]byte, 1+rnd.IntN(mostData))
	for i := range data {
		data[i] = byte(rnd.Uint64())
	}
	return command(term, index, string(data))
}

// drawnRow draws entries behind an index and a term, of which now and then one is wrong.
func drawnRow(rnd *rand.Rand, index, term uint64) []api.Entry {
	var some []api.Entry
	for range rnd.IntN(6) {
		index++
		if rnd.IntN(3) == 0 {
			term += uint64(rnd.IntN(3))
		}
		some = append(some, drawnEntry(rnd, term, index))
	}
	if len(some) == 0 || rnd.IntN(5) > 0 {
		return some
	}
	x := &some[rnd.IntN(len(some))]
	switch rnd.IntN(5) {
	case 0:
		x.Index += uint64(rnd.IntN(3)) - 1
	case 1:
		x.Term -= uint64(1 + rnd.IntN(2))
	case 2:
		x.Kind = rnd.IntN(5) - 1
	case 3:
		x.Conf = rnd.IntN(300) - 20
	case 4:
		x.Data = make([]byte, rnd.IntN(2)*(mostData+1))
	}
	return some
}

// drawnIndex draws one that the log has, or one near by, or any.
func drawnIndex(rnd *rand.Rand, m *model) uint64 {
	if rnd.IntN(12) == 0 {
		return rnd.Uint64() >> rnd.IntN(64)
	}
	return m.base.Index + uint64(rnd.IntN(len(m.row)+3)) - 1
}

// drawnBase draws a base for a Restore: of what the log has, or of what it does not.
func drawnBase(rnd *rand.Rand, m *model) api.Base {
	b := api.Base{Index: drawnIndex(rnd, m), Conf: 2 * rnd.IntN(128)}
	b.Term, _ = m.term(b.Index)
	if rnd.IntN(3) == 0 {
		b.Term += uint64(rnd.IntN(4)) - 1
	}
	if rnd.IntN(8) == 0 {
		b = api.Base{Conf: rnd.IntN(2)}
	}
	return b
}

// step does one drawn thing to l and to its model, and fails where they answer otherwise.
func step(t *testing.T, rnd *rand.Rand, l *rlog.Log, m *model) {
	t.Helper()
	switch what := rnd.IntN(12); {
	case what < 5:
		some := drawnRow(rnd, m.last(), m.lastTerm()+uint64(rnd.IntN(2)))
		if e, want := l.Append(some...), m.append(some); e != want {
			t.Errorf("15.2: Append(%s): %d, not %d", short(some), e, want)
		}
	case what < 9:
		index := drawnIndex(rnd, m)
		term, _ := m.term(index)
		if rnd.IntN(6) == 0 {
			term += uint64(rnd.IntN(3)) - 1
		}
		some := drawnRow(rnd, index, term)
		if rnd.IntN(3) == 0 {
			some = append(twin(m.entries(index+1, rnd.IntN(4))), some...)
			for k := range some {
				some[k].Index = index + 1 + uint64(k)
			}
		}
		from, ok := l.Put(index, term, some)
		if f, o := m.put(index, term, some); from != f || ok != o {
			t.Errorf("15.3: Put(%d, %d, %s): %d %t, not %d %t", index, term, short(some), from, ok, f, o)
		}
	case what < 11:
		index := drawnIndex(rnd, m)
		if e, want := l.Compact(index), m.compact(index); e != want {
			t.Errorf("15.4: Compact(%d): %d, not %d", index, e, want)
		}
	default:
		b := drawnBase(rnd, m)
		if kept, want := l.Restore(b), m.restore(b); kept != want {
			t.Errorf("15.4: Restore(%v): %t, not %t", b, kept, want)
		}
	}
}

// TestSteps: 15.1 to 15.4, many drawn steps, held against the model.
func TestSteps(t *testing.T) {
	long := 0
	for seed := range uint64(60) {
		rnd := rand.New(rand.NewPCG(15, 100+seed))
		l, m := made(t, base, many()...), &model{base, many()}
		for n := 0; n < 150 && !t.Failed(); n++ {
			step(t, rnd, l, m)
			holds(t, "after a step", l, m.base, m.row...)
			if len(m.row) > 6 {
				long++
			}
		}
	}
	if long < 1000 && !t.Failed() {
		t.Errorf("%d logs only were long", long)
	}
}

// TestMadeAnew: 15.1, a log that is made of what another tells is as that one is.
func TestMadeAnew(t *testing.T) {
	rnd := rand.New(rand.NewPCG(15, 2))
	l, m := made(t, base), &model{base: base}
	for n := 0; n < 1000 && !t.Failed(); n++ {
		step(t, rnd, l, m)
		if mayBe(m.base) {
			l = made(t, l.Base(), told(l)...)
		}
		holds(t, "made anew", l, m.base, m.row...)
	}
}

// TestAlike: R4, the same calls have the same results, whatever other logs do meanwhile.
func TestAlike(t *testing.T) {
	first, second := rand.New(rand.NewPCG(15, 3)), rand.New(rand.NewPCG(15, 3))
	l, other := made(t, base), made(t, base)
	m, n := &model{base: base}, &model{base: base}
	for range 500 {
		step(t, first, l, m)
		made(t, base, many()...).Compact(7)
		step(t, second, other, n)
		holds(t, "R4: done alike", l, other.Base(), told(other)...)
	}
}

// TestSlides: 15.2 and 15.4, a log that goes on and on, and whose base follows it, is as
// short as it is asked to be.
func TestSlides(t *testing.T) {
	for _, width := range []uint64{1, 2, 3, 7, 64} {
		l := made(t, api.Base{}, conf(1, 1, 14))
		for index := uint64(2); index < 2000 && !t.Failed(); index++ {
			if e := l.Append(command(1+index/100, index, "slide")); e != api.OK {
				t.Fatalf("15.2: Append of %d: %d", index, e)
			}
			if index <= width {
				continue
			}
			if e := l.Compact(index - width); e != api.OK {
				t.Fatalf("15.4: Compact(%d): %d", index-width, e)
			}
			if l.Last() != index || uint64(l.Len()) != width || l.ConfAt(index) != 14 {
				t.Errorf("15.4: Last %d, Len %d, ConfAt %d", l.Last(), l.Len(), l.ConfAt(index))
			}
			for k, x := range l.All() {
				if !same(row(x), row(command(1+k/100, k, "slide"))) {
					t.Errorf("15.1: %d is %v", k, x)
				}
			}
		}
	}
}

// TestLong: 15.1, as many entries as a log may have, in great steps and in small ones.
func TestLong(t *testing.T) {
	terms := make([]uint64, 4*api.MaxLog)
	for k := range terms {
		terms[k] = 2 + uint64(k)/10
	}
	some := run(5, terms...)
	l := made(t, base, some...)
	slow := made(t, base)
	for _, x := range some {
		slow.Append(x)
	}
	if !same(told(l), some) || !same(told(slow), some) {
		t.Error("15.1: a long log tells something else")
	}
	for k, term := range terms {
		if got, ok := slow.Term(5 + uint64(k)); got != term || !ok {
			t.Errorf("15.1: Term(%d): %d %t, not %d", 5+k, got, ok, term)
		}
	}
	if from, ok := l.Put(4, 2, some); from != 0 || !ok {
		t.Errorf("15.3: Put of all: %d %t", from, ok)
	}
	if e := l.Compact(l.Last() - 1); e != api.OK || !same(told(l), some[len(some)-1:]) {
		t.Errorf("15.4: Compact of all but one: %d %s", e, short(told(l)))
	}
}
