package seg_test

import (
	"fmt"
	"math"
	"slices"
	"strings"
	"testing"

	"bursar/api"
	"bursar/disk"
	"bursar/seg"
)

// TestAppend: 9.1 and 9.4, what lies in the files, byte for byte.
func TestAppend(t *testing.T) {
	some := row(none(2, 5), command(2, 6, "ab"), conf(300, 7, 14))
	d, l := begun(t, leastLimit, some...)
	holds(t, "9.4: one of each kind", l, some)
	lies(t, "9.1: one of each kind", d, map[string]string{
		"s000000000000005": "\x03\x00\x00\x00" + framed("\x00\x02\x05")[4:8] + "\x00\x02\x05" +
			"\x06\x00\x00\x00" + framed("\x01\x02\x06\x02ab")[4:8] + "\x01\x02\x06\x02ab" +
			"\x05\x00\x00\x00" + framed("\x02\xac\x02\x07\x0e")[4:8] + "\x02\xac\x02\x07\x0e",
	})
	if d.Pending() != 3 {
		t.Errorf("9.5: %d operations, not 3", d.Pending())
	}
	d, l = begun(t, leastLimit, run(2, 5, 7)...)
	holds(t, "9.4: the example", l, run(2, 5, 7))
	lies(t, "9.4: the example", d, named(map[uint64]string{5: file(run(2, 5, 6)...), 7: file(run(2, 7, 7)...)}))
	asks(t, "9.4: nothing", l, add(), api.OK)
	if d.Pending() != 3 {
		t.Errorf("9.4: an Append of nothing, %d operations, not 3", d.Pending())
	}
}

// filling answers entries whose frames have n bytes in all.
func filling(n int) (some []api.Entry) {
	for n > 0 {
		size := n
		if n > 130 {
			size = 60
		}
		some = append(some, sized(2, uint64(len(some)+1), size))
		n -= size
	}
	return some
}

// TestLimit: 9.4, a segment that just reaches the limit, and one that would pass it by
// a byte, whether they come at once, one by one, or to a log that was opened anew.
func TestLimit(t *testing.T) {
	for _, limit := range []int{64, 65, 66, 100, 127, 128, 1000, mostLimit - 1, mostLimit} {
		for n := limit - 30; n <= limit+1; n++ {
			if n < limit-1 && n > limit-30 {
				continue
			}
			for _, more := range []int{28, 29, 30, 31, 64} {
				some := filling(n)
				next := uint64(len(some) + 1)
				limits(t, limit, append(some, sized(2, next, more), sized(3, next+1, 14)))
			}
		}
	}
}

// limits appends entries, and fails where they are in other segments than the chapter says.
func limits(t *testing.T, limit int, some []api.Entry) {
	t.Helper()
	steps := add(some...).steps(nil, limit)
	want := steps[len(steps)-1].files()
	what := fmt.Sprintf("9.4: limit %d, %d bytes", limit, len(file(some...)))
	d, l := begun(t, limit, some...)
	holds(t, what, l, some)
	lies(t, what, d, want)
	d, l = begun(t, limit)
	for _, x := range some {
		asks(t, what, l, add(x), api.OK)
	}
	lies(t, what+", one by one", d, want)
	d = blank(t)
	for i, x := range some {
		// Not each time, for long ones are read long.
		if i < 9 || len(some)-i < 4 {
			l = opened(t, d, limit)
		}
		asks(t, what, l, add(x), api.OK)
	}
	lies(t, what+", opened anew", d, want)
}

// TestLimitByHand: 9.4, the same, with what must come written out.
func TestLimitByHand(t *testing.T) {
	for _, c := range []struct {
		sizes []int
		names []uint64
	}{
		{[]int{64}, []uint64{1}},
		{[]int{65}, []uint64{1}},
		{[]int{63, 13}, []uint64{1, 2}},
		{[]int{51, 13}, []uint64{1}},
		{[]int{52, 13}, []uint64{1, 2}},
		{[]int{51, 14}, []uint64{1, 2}},
		{[]int{30, 30, 30}, []uint64{1, 3}},
		{[]int{32, 32, 32, 32}, []uint64{1, 3}},
		{[]int{32, 33, 32, 32}, []uint64{1, 2, 3}},
		{[]int{139, 139, 13}, []uint64{1, 2, 3}},
		{[]int{13, 139, 13, 13}, []uint64{1, 2, 3}},
		{[]int{13, 13, 13, 13, 13}, []uint64{1, 5}},
		{[]int{13, 13, 13, 13}, []uint64{1}},
	} {
		var some []api.Entry
		for i, n := range c.sizes {
			some = append(some, sized(2, uint64(i+1), n))
		}
		d, _ := begun(t, leastLimit, some...)
		var want []string
		for _, first := range c.names {
			want = append(want, name(first))
		}
		if got := d.Names(); !slices.Equal(got, want) {
			t.Errorf("9.4: %v: %q, not %q", c.sizes, got, want)
		}
		limits(t, leastLimit, some)
	}
}

// TestOtherLimit: 9.4, a log that is opened with another limit: its segments stay, and
// what is appended goes by the new one.
func TestOtherLimit(t *testing.T) {
	d, _ := begun(t, 90, run(2, 1, 5)...)
	lies(t, "9.4: a limit of 90", d, named(map[uint64]string{1: file(run(2, 1, 3)...), 4: file(run(2, 4, 5)...)}))
	asks(t, "9.4: a limit of 64", opened(t, d, 64), add(run(2, 6, 6)...), api.OK)
	asks(t, "9.4: a limit of 120", opened(t, d, 120), add(run(2, 7, 10)...), api.OK)
	asks(t, "9.4: a limit of 89", opened(t, d, 89), add(run(2, 11, 11)...), api.OK)
	lies(t, "9.4: other limits", d, named(map[uint64]string{
		1: file(run(2, 1, 3)...), 4: file(run(2, 4, 5)...), 6: file(run(2, 6, 9)...), 10: file(run(2, 10, 11)...),
	}))
}

// TestFirst: 9.4, the first entry of an empty log may have any index and term, also
// where there were others.
func TestFirst(t *testing.T) {
	for _, x := range []api.Entry{none(1, 1), none(1, 5), none(mostNumber, 1), none(1, mostNumber), command(mostNumber, mostNumber, strings.Repeat("x", mostData))} {
		d, l := begun(t, leastLimit, x)
		holds(t, "9.4: the first", l, row(x))
		lies(t, "9.4: the first", d, named(map[uint64]string{x.Index: file(x)}))
		for _, c := range []call{reset(), cut(0), cut(30)} {
			_, l := begun(t, leastLimit, run(7, 30, 33)...)
			asks(t, "9.4: nothing is left", l, c, api.OK)
			asks(t, "9.4: the first anew", l, add(x), api.OK)
			holds(t, "9.4: the first anew", l, row(x))
		}
	}
	_, l := begun(t, leastLimit, none(1, mostNumber))
	for _, x := range []api.Entry{none(1, mostNumber+1), none(1, 0), none(1, 1), none(1, mostNumber)} {
		asks(t, "9.4: behind the last number", l, add(x), api.ErrArg)
	}
}

// TestAppendArgs: 9.4, entries that may not be, or do not follow, alone and at each
// place among others: nothing has changed.
func TestAppendArgs(t *testing.T) {
	const at = 8 // where the next is to come, in term 3
	wrong := []api.Entry{
		{}, none(0, at), none(mostNumber+1, at), none(math.MaxUint64, at), none(3, 0), none(3, mostNumber+1), none(3, math.MaxUint64),
		command(3, at, ""), command(3, at, strings.Repeat("x", mostData+1)), conf(3, at, 0), conf(3, at, 1), conf(3, at, 3), conf(3, at, 256), conf(3, at, -2),
		{Kind: 3, Term: 3, Index: at}, {Kind: -1, Term: 3, Index: at}, {Term: 3, Index: at, Conf: 2}, {Term: 3, Index: at, Data: []byte("x")},
		{Kind: api.EntryCmd, Term: 3, Index: at, Data: []byte("x"), Conf: 2}, {Kind: api.EntryConf, Term: 3, Index: at, Data: []byte("x"), Conf: 2},
		none(3, at-1), none(3, at+1), none(3, 1), none(3, mostNumber), none(2, at), none(1, at),
	}
	for _, x := range wrong {
		d, l := begun(t, leastLimit, run(3, 5, 7)...)
		refuses(t, d, l, run(3, 5, 7), row(x))
		refuses(t, d, l, run(3, 5, 7), append(row(x), run(3, at, at+1)...))
		refuses(t, d, l, run(3, 5, 7), append(row(x), run(3, x.Index+1, x.Index+2)...))
	}
	for i, some := range [][]api.Entry{
		{none(3, 8), none(3, 8)}, {none(3, 8), none(3, 10)}, {none(3, 8), none(3, 7)}, {none(4, 8), none(3, 9)}, {none(3, 8), none(4, 9), none(3, 10)},
		{none(3, 8), none(3, 9), none(3, 10), none(3, 12)}, {none(3, 8), command(3, 9, "")}, {none(3, 8), {}}, {none(3, 9), none(3, 8)},
		{none(3, 8), none(3, 9), conf(3, 10, 255)}, {none(3, 8), none(mostNumber+1, 9)}, append(run(3, 8, 20), none(2, 21)),
	} {
		d, l := begun(t, leastLimit, run(3, 5, 7)...)
		refuses(t, d, l, run(3, 5, 7), some)
		if t.Failed() {
			t.Fatalf("9.4: the row %d", i)
		}
	}
	for _, some := range [][]api.Entry{{none(0, 1)}, {none(1, 0)}, {none(3, 8), none(3, 8)}, {none(3, 8), none(2, 9)}, {none(3, 8), none(3, 10)}, {command(1, 1, "")}} {
		d, l := begun(t, leastLimit)
		refuses(t, d, l, nil, some)
		asks(t, "9.4: the first behind ErrArg", l, add(none(1, 1)), api.OK)
	}
}

// refuses fails where an Append of wrong to l, which has some, does not answer ErrArg,
// or changes anything, or lets the fuse of the disk burn.
func refuses(t *testing.T, d *disk.Disk, l *seg.Log, some, wrong []api.Entry) {
	t.Helper()
	names, done := d.Names(), d.Pending()
	d.Fuse(0)
	asks(t, "9.4: wrong", l, add(wrong...), api.ErrArg)
	if d.Down() {
		t.Errorf("9.4: the disk was asked to append %s", short(wrong))
	}
	d.Fuse(-1)
	holds(t, "R3: after ErrArg", l, some)
	if !slices.Equal(d.Names(), names) || d.Pending() != done {
		t.Errorf("R3: after ErrArg for %s: %q, %d operations, not %d", short(wrong), d.Names(), d.Pending(), done)
	}
}
