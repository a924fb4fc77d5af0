package store_test

import (
	"fmt"
	"math"
	"strings"
	"testing"

	"bursar/api"
)

// TestExample: 12.3, the chapter's example.
func TestExample(t *testing.T) {
	d, s := ready(t, "12.3", stored(votes(1, 2), api.Snap{}, row(none(1, 1))))
	p := snap(1, 1, "one")
	asks(t, "12.3: the example", s, photo(p, true), api.OK)
	asks(t, "12.3: the example", s, saving(votes(1, 2), 2, none(1, 2)), api.OK)
	opens(t, "12.3: the example", d, told(votes(1, 2), p, none(1, 2)))
	d, s = ready(t, "12.3", nil)
	asks(t, "12.3: the example, without 1", s, photo(p, true), api.OK)
	asks(t, "12.3: the example, without 1", s, saving(votes(1, 2), 2, none(1, 2)), api.OK)
	d.Crash(0, 0)
	opens(t, "12.3: the example, without 1", d, told(votes(1, 2), p, none(1, 2)))
}

// TestKeep: 12.3, a snapshot whose Index is ahead of the log, in it, at its end and behind
// it: if the log is kept, whole segments up to it go, but never the last.
func TestKeep(t *testing.T) {
	h := votes(5, 3)
	a, b, c := run(2, 5, 6), row(sized(3, 7, 30), sized(3, 8, 30)), row(sized(5, 9, 30))
	for _, x := range []struct {
		index, term uint64
		left        [][]api.Entry
	}{
		{1, 1, [][]api.Entry{a, b, c}}, {3, 1, [][]api.Entry{a, b, c}}, {4, 2, [][]api.Entry{a, b, c}}, {5, 2, [][]api.Entry{a, b, c}},
		{6, 2, [][]api.Entry{b, c}}, {7, 3, [][]api.Entry{b, c}}, {8, 3, [][]api.Entry{c}}, {9, 5, [][]api.Entry{c}},
		{10, 5, [][]api.Entry{c}}, {mostNumber, 5, [][]api.Entry{c}},
	} {
		p := snap(x.index, x.term, "new")
		what := fmt.Sprintf("12.3: the Index %d", x.index)
		d, s := ready(t, what, five())
		asks(t, what, s, photo(p, true), api.OK)
		lies(t, what, d, stored(h, p, x.left...))
		ends(t, what, s, 9)
		d, s = ready(t, what, five())
		asks(t, what+", not kept", s, photo(p, false), api.OK)
		lies(t, what+", not kept", d, stored(h, p))
		ends(t, what+", not kept", s, 0)
		opens(t, what+", not kept", d, told(h, p))
		for _, keep := range []bool{true, false} {
			does(t, what, five(), photo(p, keep))
			does(t, what+", another term", five(), photo(snap(x.index, x.term+1, "new"), keep))
			does(t, what+", a log in one segment", stored(h, snap(4, 2, "ab"), run(2, 5, 5)), photo(p, keep))
			does(t, what+", no log", stored(h, snap(4, 2, "ab")), photo(p, keep))
			does(t, what+", nothing", nil, photo(p, keep))
			does(t, what+", files left", five().with(snapNew, "left").with(hardNew, "left"), photo(p, keep))
		}
	}
}

// TestKept: 12.3, what is told of a log that was kept, and how it goes on.
func TestKept(t *testing.T) {
	h := votes(5, 3)
	for index, want := range map[uint64][]api.Entry{
		5: {sized(2, 6, 30), sized(3, 7, 30), sized(3, 8, 30), sized(5, 9, 30)},
		6: {sized(3, 7, 30), sized(3, 8, 30), sized(5, 9, 30)},
		8: {sized(5, 9, 30)},
		9: nil,
	} {
		_, k, _ := opening(five(), leastLimit)
		p := snap(index, k.log.term(index), "new")
		d, s := ready(t, "12.3", five())
		asks(t, "12.3: a log that is kept", s, photo(p, true), api.OK)
		d.Crash(0, 0)
		s = opens(t, "12.3: a log that is kept", d, told(h, p, want...))
		asks(t, "12.3: a log that is kept, behind a gap", s, saving(h, 11, none(5, 11)), api.ErrArg)
		asks(t, "12.3: a log that is kept", s, saving(h, 10, none(5, 10)), api.OK)
		opens(t, "12.3: a log that is kept, gone on with", d, told(h, p, append(want, none(5, 10))...))
	}
}

// TestAnew: 12.3, a log that is not kept begins anew, anywhere, and is told if that is
// just behind the snapshot.
func TestAnew(t *testing.T) {
	h := votes(9, 3)
	for _, from := range []uint64{1, 7, 19, 20, 21, 22, 99} {
		d, s := ready(t, "12.3", five())
		p := snap(20, 6, "new")
		asks(t, "12.3: not kept", s, photo(p, false), api.OK)
		asks(t, "12.3: not kept, begun anew", s, saving(h, from, none(6, from)), api.OK)
		ends(t, "12.3: not kept, begun anew", s, from)
		want := told(h, p)
		if from == 21 {
			want.Entries = row(none(6, 21))
		}
		d.Crash(0, 0)
		opens(t, fmt.Sprintf("12.3: not kept, begun anew at %d", from), d, want)
	}
}

// TestPhotos: 12.3, one snapshot after the other, older ones and the same one too: the
// last one is told.
func TestPhotos(t *testing.T) {
	d, s := ready(t, "12.3", five())
	for i, p := range []api.Snap{
		snap(6, 2, "six"), snap(6, 2, "six"), snap(5, 2, "five"), snap(8, 3, ""), snap(9, 5, strings.Repeat("x", mostImage)), snap(4, 2, "four"), snap(9, 5, "nine"),
	} {
		asks(t, "12.3: snapshots", s, photo(p, true), api.OK)
		b, _ := d.Read(snapName)
		if string(b) != image(p) || d.Pending() != 0 {
			t.Errorf("12.3: the snapshot %d does not lie there", i)
		}
	}
	opens(t, "12.3: snapshots", d, told(votes(5, 3), snap(9, 5, "nine")))
}

// TestHardBehindPhoto: 12.2 and 12.3, a snapshot leaves the Hard as it is known, also
// where its term is greater.
func TestHardBehindPhoto(t *testing.T) {
	d, s := ready(t, "12.3", five())
	p := snap(20, 30, "")
	asks(t, "12.3: a greater term", s, photo(p, false), api.OK)
	asks(t, "12.3: a greater term, the same Hard", s, saving(votes(5, 3), 0), api.OK)
	lies(t, "12.3: a greater term", d, stored(votes(5, 3), p))
	s = opens(t, "12.3: a greater term", d, told(votes(30, 0), p))
	asks(t, "12.3: a greater term, the one that was told", s, saving(votes(30, 0), 0), api.OK)
	lies(t, "12.3: a greater term", d, stored(votes(5, 3), p))
	asks(t, "12.3: a greater term, another", s, saving(votes(30, 1), 0), api.OK)
	lies(t, "12.3: a greater term", d, stored(votes(5, 3), p).with(hardName, hards(votes(5, 3), votes(30, 1))))
}

// TestPhotoArgs: 12.3, snapshots that may not be: ErrArg, and nothing has changed.
func TestPhotoArgs(t *testing.T) {
	for _, p := range []api.Snap{
		{}, snap(0, 5, ""), snap(mostNumber+1, 5, ""), snap(math.MaxUint64, 5, ""), snap(9, 0, ""), snap(9, mostNumber+1, ""),
		{Base: api.Base{Index: 9, Term: 5}}, {Base: api.Base{Index: 9, Term: 5, Conf: 1}}, {Base: api.Base{Index: 9, Term: 5, Conf: 15}},
		{Base: api.Base{Index: 9, Term: 5, Conf: 255}}, {Base: api.Base{Index: 9, Term: 5, Conf: 256}}, {Base: api.Base{Index: 9, Term: 5, Conf: -2}},
		snap(9, 5, strings.Repeat("x", mostImage+1)), {Data: []byte("ab")},
	} {
		for _, keep := range []bool{true, false} {
			errs(t, "12.3: a wrong snapshot", nil, photo(p, keep))
			errs(t, "12.3: a wrong snapshot", five(), photo(p, keep))
			errs(t, "12.3: a wrong snapshot", stored(votes(5, 3), snap(7, 3, "")), photo(p, keep))
		}
	}
	for _, p := range []api.Snap{
		snap(1, 1, ""), snap(mostNumber, mostNumber, ""), snap(9, 5, strings.Repeat("x", 99)),
		{Base: api.Base{Index: 9, Term: 5, Conf: 2}}, {Base: api.Base{Index: 9, Term: 5, Conf: mostConf}},
	} {
		for _, keep := range []bool{true, false} {
			does(t, "12.3: at the edge", nil, photo(p, keep))
			does(t, "12.3: at the edge", five(), photo(p, keep))
		}
	}
}
