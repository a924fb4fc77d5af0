package rpc_test

import (
	"bytes"
	"math"
	"strings"
	"testing"

	"bursar/api"
	"bursar/rpc"
)

// TestEntryBytes: LayEntry and ReadEntry, the bytes of each kind, written out.
func TestEntryBytes(t *testing.T) {
	const great = "\xff\xff\xff\xff\xff\xff\xff\x7f"
	for b, e := range map[string]api.Entry{
		"\x00\x01\x01":                        none(1, 1),
		"\x00\x7f\x80\x01":                    none(127, 128),
		"\x00" + great + "\x01":               none(mostNumber, 1),
		"\x00\x01" + great:                    none(1, mostNumber),
		"\x01\x02\x03\x01\x00":                command(2, 3, "\x00"),
		"\x01\xac\x02\x03\x02ab":              command(300, 3, "ab"),
		"\x02\x02\x03\x0e":                    conf(2, 3, 14),
		"\x02\x02\x03\x02":                    conf(2, 3, 2),
		"\x02\x02\xac\x02\xfe":                conf(2, 300, 254),
		"\x02\x02\x03\x80":                    conf(2, 3, 128),
		"\x02" + great + great + "\xfe":       conf(mostNumber, mostNumber, 254),
		"\x01\x01\x01\x7f" + letters(127):     command(1, 1, letters(127)),
		"\x01\x01\x01\x80\x01" + letters(128): command(1, 1, letters(128)),
	} {
		if got, f := rpc.LayEntry(e); string(got) != b || f != api.OK {
			t.Errorf("6.1: LayEntry of %+v: % x %d, not % x", e, got, f, b)
		}
		readsEntry(t, "6.1", []byte(b), e, api.OK)
	}
}

// letters answers a text of n bytes.
func letters(n int) string { return strings.Repeat("x", n) }

// TestEntries: 6.1 and 6.4, each kind with each edge of its fields, and back.
func TestEntries(t *testing.T) {
	longest := 0
	rightEntries(func(x api.Entry) {
		if !rpc.RightEntry(x) {
			t.Errorf("6.1: RightEntry of %+v: false", x)
		}
		b, e := rpc.LayEntry(x)
		if !bytes.Equal(b, ofEntry(x)) || e != api.OK {
			t.Errorf("6.4: LayEntry of %+v: % x %d, not % x", x, b, e, ofEntry(x))
		}
		readsEntry(t, "6.4", b, x, api.OK)
		longest = max(longest, len(b))
	})
	// The kind, twice 8 bytes, and 2 and 128 of data.
	if longest != 1+8+8+2+128 {
		t.Errorf("6.1: the longest has %d bytes", longest)
	}
}

// wrongEntries are none, each for one thing; some of them come round to one that is.
func wrongEntries() []api.Entry {
	row := []api.Entry{{}, {Term: 1}, {Index: 1}, {Kind: api.EntryCmd}, {Kind: api.EntryConf}}
	for _, n := range beyond(1) {
		row = append(row, none(n, 1), none(1, n), command(n, 1, "a"), command(1, n, "a"), conf(n, 1, 2), conf(1, n, 2))
	}
	for _, n := range []int{-1, -254, -255, -256, 3, 4, 127, 255, 256, 257, 258, 1 << 32, 1<<32 + 1, math.MaxInt, math.MinInt, math.MinInt + 1} {
		for _, e := range []api.Entry{none(1, 1), command(1, 1, "a"), conf(1, 1, 2)} {
			e.Kind = n
			row = append(row, e)
		}
	}
	for _, n := range []int{0, 129, 130, 160, 256, 257, 384, 1 << 16, 1<<16 + 1} {
		row = append(row, command(1, 1, letters(n)))
	}
	row = append(row, api.Entry{Kind: api.EntryCmd, Term: 1, Index: 1}, api.Entry{Term: 1, Index: 1, Data: []byte{0}}, api.Entry{Kind: api.EntryConf, Term: 1, Index: 1, Conf: 2, Data: []byte{0}})
	for _, set := range wrongSets() {
		row = append(row, conf(1, 1, set))
		if set != 0 {
			row = append(row, api.Entry{Term: 1, Index: 1, Conf: set}, api.Entry{Kind: api.EntryCmd, Term: 1, Index: 1, Data: []byte{1}, Conf: set})
		}
	}
	return append(row, api.Entry{Term: 1, Index: 1, Conf: 2}, api.Entry{Kind: api.EntryCmd, Term: 1, Index: 1, Data: []byte{1}, Conf: 2})
}

// TestWrongEntries: 6.1, what is no entry has no bytes.
func TestWrongEntries(t *testing.T) {
	for _, x := range wrongEntries() {
		if b, e := rpc.LayEntry(x); rpc.RightEntry(x) || e != api.ErrArg || len(b) != 0 {
			t.Errorf("6.1: %+v: RightEntry %v, LayEntry % x %d", x, rpc.RightEntry(x), b, e)
		}
	}
}

// TestEmptyData: 6.1, no data is no data, whether it is nil or of no bytes.
func TestEmptyData(t *testing.T) {
	for _, data := range [][]byte{nil, {}, make([]byte, 0, 9)} {
		for _, x := range []api.Entry{none(1, 1), conf(1, 1, 2)} {
			x.Data = data
			if b, e := rpc.LayEntry(x); !rpc.RightEntry(x) || e != api.OK || !bytes.Equal(b, ofEntry(x)) {
				t.Errorf("6.1: %#v: RightEntry %v, LayEntry % x %d", x, rpc.RightEntry(x), b, e)
			}
		}
		if rpc.RightEntry(api.Entry{Kind: api.EntryCmd, Term: 1, Index: 1, Data: data}) {
			t.Errorf("6.1: an EntryCmd of %#v: true", data)
		}
	}
}

// TestFirstEntryError: ReadEntry, the error that comes first, where there is one or
// more.
func TestFirstEntryError(t *testing.T) {
	const nine = "\xff\xff\xff\xff\xff\xff\xff\xff\xff"
	const over = "\x80\x80\x80\x80\x80\x80\x80\x80\x01"
	for _, c := range []struct {
		what, b string
		e       api.Errno
	}{
		{"no bytes", "", api.ErrShort},
		{"a kind alone", "\x00", api.ErrShort},
		{"Kind 3", "\x03\x01\x01", api.ErrLong},
		{"Kind 3, and too short", "\x03", api.ErrLong},
		{"Kind 128", "\x80\x01\x01", api.ErrLong},
		{"Kind 255", "\xff", api.ErrLong},
		{"no Index", "\x00\x01", api.ErrShort},
		{"Term 0", "\x00\x00\x01", api.ErrForm},
		{"Index 0", "\x00\x01\x00", api.ErrForm},
		{"Term 0, and too short", "\x00\x00", api.ErrShort},
		{"Term 0, then an Index too great", "\x00\x00" + over, api.ErrLong},
		{"Term MaxNumber + 1", "\x00" + over + "\x01", api.ErrLong},
		{"Term MaxNumber + 1, and too short", "\x00" + over, api.ErrLong},
		{"Term MaxNumber + 1, then an Index of more bytes than it needs", "\x00" + over + "\x81\x00", api.ErrLong},
		{"Term of more bytes than it needs", "\x00\x81\x00\x01", api.ErrForm},
		{"Term of more bytes than it needs, then an Index too great", "\x00\x81\x00" + over, api.ErrForm},
		{"Term 2^64 - 1", "\x00" + nine + "\x01\x01", api.ErrLong},
		{"Term above 2^64", "\x00" + nine + "\x02\x01", api.ErrForm},
		{"Index MaxNumber + 1", "\x00\x01" + over, api.ErrLong},
		{"Index of more bytes than it needs", "\x00\x01\x80\x00", api.ErrForm},
		{"Index without an end", "\x00\x01\x80", api.ErrShort},
		{"a byte left", "\x00\x01\x01\x00", api.ErrForm},
		{"a length of data where none is", "\x02\x01\x01\x02\x00", api.ErrForm},
		{"no length of data", "\x01\x01\x01", api.ErrShort},
		{"no data", "\x01\x01\x01\x00", api.ErrForm},
		{"no data, and a byte left", "\x01\x01\x01\x00\x07", api.ErrForm},
		{"Term 0, and data too short", "\x01\x00\x01\x02a", api.ErrShort},
		{"data too short", "\x01\x01\x01\x02a", api.ErrShort},
		{"data too long", "\x01\x01\x01\x02abc", api.ErrForm},
		{"a length of more bytes than it needs", "\x01\x01\x01\x81\x00a", api.ErrForm},
		{"129 bytes of data", "\x01\x01\x01\x81\x01" + letters(129), api.ErrLong},
		{"129 bytes of data, and too short", "\x01\x01\x01\x81\x01", api.ErrLong},
		{"128 bytes of data, and too short", "\x01\x01\x01\x80\x01" + letters(127), api.ErrShort},
		{"128 bytes of data, and a byte left", "\x01\x01\x01\x80\x01" + letters(129), api.ErrForm},
		{"no Conf", "\x02\x01\x01", api.ErrShort},
		{"Conf 0", "\x02\x01\x01\x00", api.ErrForm},
		{"Conf 1", "\x02\x01\x01\x01", api.ErrForm},
		{"Conf 253", "\x02\x01\x01\xfd", api.ErrForm},
		{"Conf 255", "\x02\x01\x01\xff", api.ErrLong},
		{"Conf 255, and a byte left", "\x02\x01\x01\xff\x00", api.ErrLong},
		{"Term 0, then Conf 255", "\x02\x00\x01\xff", api.ErrLong},
		{"Conf as a varint", "\x02\x01\x01\xfe\x01", api.ErrForm},
	} {
		readsEntry(t, "6.1: "+c.what, []byte(c.b), api.Entry{}, c.e)
	}
}

// TestEntryLength: ReadEntry, no more than MaxData + 32 bytes, ahead of anything else.
func TestEntryLength(t *testing.T) {
	for _, e := range []api.Entry{none(2, 3), command(2, 3, "ab"), conf(2, 3, 14)} {
		b := append(ofEntry(e), make([]byte, 1<<16)...)
		readsEntry(t, "160 bytes", b[:160], api.Entry{}, api.ErrForm)
		readsEntry(t, "161 bytes", b[:161], api.Entry{}, api.ErrLong)
		readsEntry(t, "2^16 bytes", b, api.Entry{}, api.ErrLong)
	}
	// A Term without an end is ErrForm, and one of too many bytes is none.
	b := bytes.Repeat([]byte{255}, 161)
	b[0] = 0
	readsEntry(t, "160 bytes", b[:160], api.Entry{}, api.ErrForm)
	readsEntry(t, "161 bytes", b, api.Entry{}, api.ErrLong)
	// The longest entry, and as many bytes more as the limit leaves.
	b = ofEntry(command(mostNumber, mostNumber, letters(128)))
	b = append(b, make([]byte, 161-len(b))...)
	readsEntry(t, "the longest and more", b[:160], api.Entry{}, api.ErrForm)
	readsEntry(t, "the longest and more", b, api.Entry{}, api.ErrLong)
}

// toldEntry tells whether b are the bytes of an entry. It fails where ReadEntry
// answers other than the chapter tells, or an entry whose bytes are not b.
func toldEntry(t *testing.T, b []byte) bool {
	t.Helper()
	x, e := rpc.ReadEntry(b)
	want, f := scannedEntry(b)
	if !sameEntry(x, want) || e != f {
		t.Fatalf("6.1: ReadEntry of % x: %+v %d, not %+v %d", b, x, e, want, f)
	}
	if e != api.OK {
		return false
	}
	if again, g := rpc.LayEntry(x); !rpc.RightEntry(x) || !bytes.Equal(again, b) || g != api.OK {
		t.Fatalf("6.4: ReadEntry of % x: %+v, and back % x %d", b, x, again, g)
	}
	return true
}

// TestShortEntries: ReadEntry, all bytes of up to two, and many of three to five.
func TestShortEntries(t *testing.T) {
	toldEntry(t, nil)
	right := 0
	try := func(b ...byte) {
		if toldEntry(t, b) {
			right++
		}
	}
	some := []byte{0, 1, 2, 3, 14, 127, 128, 129, 254, 255}
	for x := range 256 {
		try(byte(x))
		for y := range 256 {
			try(byte(x), byte(y))
			for _, z := range some {
				try(byte(x), byte(y), z)
				if x > 3 {
					continue
				}
				for _, v := range some {
					try(byte(x), byte(y), z, v)
					try(byte(x), byte(y), z, v, 7)
				}
			}
		}
	}
	// Of three bytes alone there are so many EntryNone.
	if right < 127*5 {
		t.Errorf("only %d were right", right)
	}
}

// TestTurnedEntries: ReadEntry and 6.4, bytes that are nearly those of an entry: it
// is told what is wrong first, or they are its bytes.
func TestTurnedEntries(t *testing.T) {
	tried, right := 0, 0
	for _, e := range []api.Entry{
		none(1, 1), none(300, mostNumber), none(mostNumber, 127), none(1<<49, 1<<28-1),
		command(1, 1, "a"), command(300, 301, "abc\x00"), command(2, mostNumber, letters(128)),
		conf(1, 1, 2), conf(128, 300, 254), conf(mostNumber, mostNumber, 14),
	} {
		turned(ofEntry(e), func(b []byte) {
			tried++
			if toldEntry(t, b) {
				right++
			}
		})
	}
	if right < tried/20 || right > tried*9/10 {
		t.Errorf("%d of %d were right", right, tried)
	}
}

// TestCutEntries: ReadEntry, bytes that end too early or go on too long.
func TestCutEntries(t *testing.T) {
	rightEntries(func(x api.Entry) {
		b := ofEntry(x)
		for k := range b {
			readsEntry(t, "6.1: cut", b[:k], api.Entry{}, api.ErrShort)
		}
		for _, c := range []byte{0, 1, 128, 255} {
			readsEntry(t, "6.1: longer", append(bytes.Clone(b), c), api.Entry{}, api.ErrForm)
		}
	})
}
