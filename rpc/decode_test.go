package rpc_test

import (
	"bytes"
	"maps"
	"math/rand/v2"
	"slices"
	"testing"

	"bursar/api"
	"bursar/rpc"
)

// told tells whether b, with its right sum behind it, is a message. It fails where
// Decode answers other than the chapter tells, or a message whose bytes are not b.
func told(t *testing.T, b []byte) bool {
	t.Helper()
	s := sealed(b)
	m, e := rpc.Decode(s)
	want, f := scanned(b)
	if !same(m, want) || e != f {
		t.Fatalf("6.3: Decode of % x and its sum: %+v %d, not %+v %d", b, m, e, want, f)
	}
	if e != api.OK {
		return false
	}
	if again, g := rpc.Encode(m); !rpc.Right(m) || !bytes.Equal(again, s) || g != api.OK {
		t.Fatalf("6.4: Decode of % x: %+v, and back % x %d", s, m, again, g)
	}
	return true
}

// turned calls f with b as it is, and with what comes of it by one turn: a byte that
// is another, one more, one less, or two that change their places.
func turned(b []byte, f func(b []byte)) {
	f(b)
	for i := range len(b) + 1 {
		for _, x := range []byte{0, 1, 2, 3, 4, 5, 6, 7, 8, 14, 127, 128, 129, 160, 161, 254, 255} {
			f(bytes.Join([][]byte{b[:i], {x}, b[i:]}, nil))
			if i < len(b) {
				f(bytes.Join([][]byte{b[:i], {x}, b[i+1:]}, nil))
			}
		}
		if i < len(b) {
			f(bytes.Join([][]byte{b[:i], b[i+1:]}, nil))
		}
		if i > 0 && i < len(b) {
			c := bytes.Clone(b)
			c[i-1], c[i] = c[i], c[i-1]
			f(c)
		}
	}
}

// inOrder are the kinds, in order: what is drawn for one is to be the same always.
func inOrder() []int { return slices.Sorted(maps.Keys(list)) }

// TestTurnedBytes: Decode and 6.4, bytes that are nearly those of a message, with a
// right sum: it is told what is wrong first, or they are its bytes.
func TestTurnedBytes(t *testing.T) {
	rnd := rand.New(rand.NewPCG(6, 4))
	tried, right := 0, 0
	try := func(b []byte) {
		tried++
		if told(t, b) {
			right++
		}
	}
	for _, kind := range inOrder() {
		turned(body(full(kind)), try)
		for range 20 {
			m := drawn(rnd, kind)
			m.Data = m.Data[:min(len(m.Data), 20)]
			turned(body(m), try)
		}
	}
	if right < tried/20 || right > tried*9/10 {
		t.Errorf("%d of %d were right", right, tried)
	}
}

// TestTurnedAppends: Decode and 6.4, entries that are nearly right, or right but for
// their place.
func TestTurnedAppends(t *testing.T) {
	m := api.Msg{Kind: api.MsgAppend, From: 1, To: 2, Term: 4, Index: 2, LogTerm: 2, Commit: 1}
	for _, m.Entries = range [][]api.Entry{
		{none(2, 3)}, {command(4, 3, "ab")}, {conf(3, 3, 14)},
		{none(2, 3), none(4, 4)}, {command(2, 3, "a"), conf(2, 4, 2)}, {none(4, 3), command(4, 4, "a"), none(4, 5), none(4, 6)},
	} {
		turned(body(m), func(b []byte) {
			told(t, b)
			// Twice turned, what is wrong first is another thing than what is wrong.
			if len(b) < 16 {
				turned(b, func(b []byte) { told(t, b) })
			}
		})
	}
	for _, m := range wrongAppends() {
		if len(m.Entries) <= 4 && m.Index <= mostNumber && m.Index+uint64(len(m.Entries)) <= mostNumber {
			decodes(t, "6.3: entries that do not follow", encoded(m), api.Msg{}, api.ErrForm)
		} else if told(t, body(m)) {
			t.Errorf("6.3: %+v is right", m)
		}
	}
}

// TestDrawnBytes: Decode and 6.4, whatever bytes follow a kind and two nodes.
func TestDrawnBytes(t *testing.T) {
	rnd := rand.New(rand.NewPCG(6, 5))
	for range 100000 {
		b := make([]byte, 1+rnd.IntN(40))
		for i := range b {
			// Most bytes are small, so that many parts are right.
			b[i] = byte(rnd.Uint64()) >> rnd.IntN(8)
		}
		b[0] = byte(rnd.IntN(lastKind + 2))
		told(t, b)
		if len(b) > 8 {
			copy(b, []byte{3, 1, 2, 9, 1, 1, 1, byte(rnd.IntN(5))})
			told(t, b)
		}
	}
}

// TestShortBytes: Decode, all bytes of up to two, and many of three and four; without
// their sum, none are a message.
func TestShortBytes(t *testing.T) {
	told(t, nil)
	some := []byte{0, 1, 2, 7, 8, 127, 128, 255}
	for x := range 256 {
		told(t, []byte{byte(x)})
		for y := range 256 {
			told(t, []byte{byte(x), byte(y)})
			for _, z := range some {
				told(t, []byte{byte(x), byte(y), z})
				told(t, []byte{byte(x), byte(y), z, 1})
			}
		}
	}
	for n := range 4 {
		decodes(t, "6.3: no sum", make([]byte, n), api.Msg{}, api.ErrShort)
		decodes(t, "6.3: no sum", bytes.Repeat([]byte{255}, n), api.Msg{}, api.ErrShort)
	}
	// The sum of no bytes is 0; then nothing is left for a kind.
	decodes(t, "6.3: a sum alone", make([]byte, 4), api.Msg{}, api.ErrShort)
	decodes(t, "6.3: a wrong sum alone", []byte{1, 0, 0, 0}, api.Msg{}, api.ErrSum)
}

// TestCutBytes: Decode, bytes that end too early or go on too long, with a right sum
// and without one.
func TestCutBytes(t *testing.T) {
	rnd := rand.New(rand.NewPCG(6, 6))
	for _, kind := range inOrder() {
		for i := range 40 {
			m := full(kind)
			if i > 0 {
				m = drawn(rnd, kind)
			}
			b := body(m)
			for k := range b {
				decodes(t, "6.3: cut", sealed(b[:k]), api.Msg{}, api.ErrShort)
			}
			for _, x := range []byte{0, 1, 128, 255} {
				decodes(t, "6.3: longer", sealed(append(bytes.Clone(b), x)), api.Msg{}, api.ErrForm)
			}
			s := sealed(b)
			for k := range s {
				e := api.ErrSum
				if k < 4 {
					e = api.ErrShort
				}
				decodes(t, "6.3: cut with its sum", s[:k], api.Msg{}, e)
			}
			decodes(t, "6.3: longer than its sum", append(s, 0), api.Msg{}, api.ErrSum)
		}
	}
}

// TestWrongSum: Decode, a message in which one byte was changed, and one in which no
// part is right: its sum is what is told.
func TestWrongSum(t *testing.T) {
	for kind := range list {
		s := encoded(full(kind))
		for i := range s {
			for x := 1; x < 256; x++ {
				c := bytes.Clone(s)
				c[i] ^= byte(x)
				decodes(t, "6.3: a byte changed", c, api.Msg{}, api.ErrSum)
			}
		}
	}
	for _, b := range [][]byte{{0}, {7}, {255, 255, 255, 255}, {2, 1, 2, 5, 2, 0}} {
		decodes(t, "6.3: no sum", append(b, 1, 2, 3, 4), api.Msg{}, api.ErrSum)
	}
}

// TestLength: Decode, no more than MaxDatagram bytes, ahead of anything else.
func TestLength(t *testing.T) {
	for kind := range lastKind + 2 {
		var b []byte
		if kind >= 1 && kind <= lastKind {
			b = body(full(kind))
		}
		e := api.ErrForm
		if kind > lastKind {
			b, e = []byte{byte(kind)}, api.ErrLong
		}
		b = append(b, make([]byte, 1<<16)...)
		decodes(t, "1024 bytes", sealed(b[:1020]), api.Msg{}, e)
		decodes(t, "1025 bytes", sealed(b[:1021]), api.Msg{}, api.ErrLong)
		decodes(t, "2^16 bytes", sealed(b), api.Msg{}, api.ErrLong)
		// Their last four bytes are not their sum.
		b[1023] = 1
		decodes(t, "1024 bytes without a sum", b[:1024], api.Msg{}, api.ErrSum)
		decodes(t, "1025 bytes without a sum", b[:1025], api.Msg{}, api.ErrLong)
	}
}

// TestFirstError: Decode, the error that comes first, where there is one or more.
// The bytes are without their sum, which is right.
func TestFirstError(t *testing.T) {
	const nine = "\xff\xff\xff\xff\xff\xff\xff\xff\xff"
	const over = "\x80\x80\x80\x80\x80\x80\x80\x80\x01"
	for _, c := range []struct {
		what, b string
		e       api.Errno
	}{
		{"no bytes", "", api.ErrShort},
		{"Kind 0", "\x00", api.ErrForm},
		{"Kind 0, bytes left that would be too great", "\x00\xff\xff", api.ErrForm},
		{"Kind 0, and the rest of a MsgVote", "\x00\x01\x02\x05\x00\x00\x00", api.ErrForm},
		{"Kind 7", "\x07", api.ErrLong},
		{"Kind 7, and more", "\x07\x01\x02\x05", api.ErrLong},
		{"Kind 128", "\x80\x01\x01\x02\x05\x00\x00", api.ErrLong},
		{"Kind 255", "\xff", api.ErrLong},
		{"From 0", "\x02\x00\x02\x05\x00\x00", api.ErrForm},
		{"From 0, and too short", "\x02\x00\x02\x05\x00", api.ErrShort},
		{"From 8", "\x02\x08\x02\x05\x00\x00", api.ErrLong},
		{"From 8, and too short", "\x02\x08", api.ErrLong},
		{"From 255", "\x02\xff\x01\x02\x05\x00", api.ErrLong},
		{"To 0", "\x02\x01\x00\x05\x00\x00", api.ErrForm},
		{"To 8", "\x02\x01\x08\x05\x00\x00", api.ErrLong},
		{"From 0, then To 8", "\x02\x00\x08", api.ErrLong},
		{"From and To the same", "\x02\x03\x03\x05\x00\x00", api.ErrForm},
		{"From and To the same, then Refused 2", "\x02\x03\x03\x05\x02\x00", api.ErrLong},
		{"Term 0", "\x02\x01\x02\x00\x00\x00", api.ErrForm},
		{"Term 0, and too short", "\x02\x01\x02\x00\x00", api.ErrShort},
		{"Term 0, and a byte left", "\x02\x01\x02\x00\x00\x00\x00", api.ErrForm},
		{"Term MaxNumber + 1", "\x02\x01\x02" + over + "\x00\x00", api.ErrLong},
		{"Term MaxNumber + 1, and too short", "\x02\x01\x02" + over, api.ErrLong},
		{"Term 2^64 - 1", "\x02\x01\x02" + nine + "\x01\x00\x00", api.ErrLong},
		{"Term above 2^64", "\x02\x01\x02" + nine + "\x02\x00\x00", api.ErrForm},
		{"Term of more bytes than it needs", "\x02\x01\x02\x85\x00\x00\x00", api.ErrForm},
		{"Term of more bytes than it needs, then Refused 2", "\x02\x01\x02\x85\x00\x02\x00", api.ErrForm},
		{"Refused 2", "\x02\x01\x02\x05\x02\x00", api.ErrLong},
		{"Refused 2, and too short", "\x02\x01\x02\x05\x02", api.ErrLong},
		{"Last 2", "\x02\x01\x02\x05\x00\x02", api.ErrLong},
		{"Last 255", "\x02\x01\x02\x05\x00\xff", api.ErrLong},
		{"no Last", "\x02\x01\x02\x05\x01", api.ErrShort},
		{"a byte left", "\x02\x01\x02\x05\x01\x00\x00", api.ErrForm},
		{"Index MaxNumber + 1", "\x01\x01\x02\x05" + over + "\x00\x00", api.ErrLong},
		{"Index of more bytes than it needs", "\x01\x01\x02\x05\x80\x00\x00\x00", api.ErrForm},
		{"LogTerm MaxNumber + 1", "\x01\x01\x02\x05\x00" + over + "\x00", api.ErrLong},
		{"LogTerm of more bytes than it needs", "\x01\x01\x02\x05\x00\x81\x00\x00", api.ErrForm},
		{"Last of a MsgVote 2", "\x01\x01\x02\x05\x00\x00\x02", api.ErrLong},
		{"Index of a MsgAppendReply MaxNumber + 1", "\x04\x01\x02\x05" + over + "\x00", api.ErrLong},
		{"Refused of a MsgAppendReply 2", "\x04\x01\x02\x05\x00\x02", api.ErrLong},
		{"Last of a MsgAppendReply", "\x04\x01\x02\x05\x00\x00\x00", api.ErrForm},
		{"Commit MaxNumber + 1", "\x03\x01\x02\x05\x07\x04" + over + "\x00", api.ErrLong},
		{"Commit of more bytes than it needs", "\x03\x01\x02\x05\x07\x04\x86\x00\x00", api.ErrForm},
	} {
		decodes(t, "6.3: "+c.what, sealed([]byte(c.b)), api.Msg{}, c.e)
	}
}

// TestFirstErrorOfEntries: Decode, the error that comes first in entries, be it of
// their number, of a length, or of what ReadEntry answers.
func TestFirstErrorOfEntries(t *testing.T) {
	const over = "\x80\x80\x80\x80\x80\x80\x80\x80\x01"
	for _, c := range []struct {
		what, b string
		e       api.Errno
	}{
		{"no number", "", api.ErrShort},
		{"5 of them", "\x05", api.ErrLong},
		{"5 of them, all there", "\x05\x03\x00\x04\x08\x03\x00\x04\x09\x03\x00\x04\x0a\x03\x00\x04\x0b\x03\x00\x04\x0c", api.ErrLong},
		{"a number of more bytes than it needs", "\x80\x00", api.ErrForm},
		{"a byte left behind none", "\x00\x00", api.ErrForm},
		{"a byte left behind one", "\x01\x03\x00\x04\x08\x00", api.ErrForm},
		{"one more than their number", "\x01\x03\x00\x04\x08\x03\x00\x04\x09", api.ErrForm},
		{"one less than their number", "\x02\x03\x00\x04\x08", api.ErrShort},
		{"no length", "\x01", api.ErrShort},
		{"a length without an end", "\x01\x80", api.ErrShort},
		{"a length of more bytes than it needs", "\x01\x80\x00", api.ErrForm},
		{"a length of more bytes than it needs, and bytes left", "\x01\x80\x00\x00\x07", api.ErrForm},
		{"a length of 161", "\x01\xa1\x01" + letters(161), api.ErrLong},
		{"a length of 161, and too short", "\x01\xa1\x01", api.ErrLong},
		{"a length of 160, and too short", "\x01\xa0\x01" + letters(159), api.ErrShort},
		{"a length of 160, of Kind 0, and bytes left", "\x01\xa0\x01\x00\x04\x08" + letters(157), api.ErrForm},
		{"a length of 160, of no kind", "\x01\xa0\x01" + letters(160), api.ErrLong},
		{"no bytes, and nothing left", "\x01\x00", api.ErrShort},
		{"no bytes, and a byte left", "\x01\x00\x00", api.ErrShort},
		{"no bytes, and bytes left", "\x01\x00\x07\x00\xff", api.ErrShort},
		{"no bytes, then one that is right", "\x02\x00\x03\x00\x04\x08", api.ErrShort},
		{"no bytes, then a length of 161", "\x02\x00\xa1\x01", api.ErrShort},
		{"no bytes, then a length of more bytes than it needs", "\x02\x00\x80\x00", api.ErrShort},
		{"one that is right, then no bytes", "\x02\x03\x00\x04\x08\x00\x05", api.ErrShort},
		{"one that is right, then a length of more bytes than it needs", "\x02\x03\x00\x04\x08\x80\x00\x05", api.ErrForm},
		{"one that is right, then a length of 161", "\x02\x03\x00\x04\x08\xa1\x01\x05", api.ErrLong},
		{"a length of more bytes than it needs, then no bytes", "\x02\x80\x00\x00", api.ErrForm},
		{"a length of 161, then no bytes", "\x02\xa1\x01\x00", api.ErrLong},
		{"one too short", "\x01\x02\x00\x04", api.ErrShort},
		{"one too short, and bytes left", "\x01\x02\x00\x04\x08", api.ErrShort},
		{"one too short, then a length of 161", "\x02\x02\x00\x04\xa1\x01", api.ErrShort},
		{"one too long", "\x01\x04\x00\x04\x08\x00", api.ErrForm},
		{"one too long, then nothing", "\x02\x04\x00\x04\x08\x00", api.ErrForm},
		{"Kind 3", "\x01\x03\x03\x04\x08", api.ErrLong},
		{"Kind 3, then nothing", "\x02\x03\x03\x04\x08", api.ErrLong},
		{"Term 0", "\x01\x03\x00\x00\x08", api.ErrForm},
		{"Term 0, then nothing", "\x02\x03\x00\x00\x08", api.ErrForm},
		{"Term 0, then Kind 3", "\x02\x03\x00\x00\x08\x03\x03\x04\x09", api.ErrForm},
		{"Kind 3, then Term 0", "\x02\x03\x03\x04\x08\x03\x00\x00\x09", api.ErrLong},
		{"Term MaxNumber + 1", "\x01\x0b\x00" + over + "\x08", api.ErrLong},
		{"no data", "\x01\x04\x01\x04\x08\x00", api.ErrForm},
		{"129 bytes of data", "\x01\x86\x01\x01\x04\x08\x81\x01" + letters(129), api.ErrLong},
		{"Conf 255", "\x01\x04\x02\x04\x08\xff", api.ErrLong},
		{"Conf 13", "\x01\x04\x02\x04\x08\x0d", api.ErrForm},
		{"an Index that does not follow", "\x01\x03\x00\x04\x09", api.ErrForm},
		{"an Index that does not follow, then nothing", "\x02\x03\x00\x04\x09", api.ErrShort},
		{"an Index that does not follow, then Kind 3", "\x02\x03\x00\x04\x09\x03\x03\x04\x0a", api.ErrLong},
		{"a Term below LogTerm", "\x01\x03\x00\x03\x08", api.ErrForm},
		{"a Term below LogTerm, then nothing", "\x02\x03\x00\x03\x08", api.ErrShort},
		{"a Term above Term", "\x01\x03\x00\x06\x08", api.ErrForm},
		{"a Term that is less than the one before", "\x02\x03\x00\x05\x08\x03\x00\x04\x09", api.ErrForm},
	} {
		b := append([]byte{3, 1, 2, 5, 7, 4, 6}, c.b...)
		decodes(t, "6.3: "+c.what, sealed(b), api.Msg{}, c.e)
		// What is wrong ahead of the entries is told ahead of them where a Reader
		// tells it, and else after them.
		b[1] = 8
		decodes(t, "6.3: From 8, then "+c.what, sealed(b), api.Msg{}, api.ErrLong)
		b[1] = 2
		decodes(t, "6.3: From and To the same, then "+c.what, sealed(b), api.Msg{}, c.e)
	}
}

// TestFirstErrorOfSnaps: Decode, the error that comes first in what only a MsgSnap
// and a MsgSnapReply have.
func TestFirstErrorOfSnaps(t *testing.T) {
	const over = "\x80\x80\x80\x80\x80\x80\x80\x80\x01"
	for _, c := range []struct {
		what, b string
		e       api.Errno
	}{
		{"no Base", "", api.ErrShort},
		{"Index 0", "\x00\x03\x0e\x00", api.ErrForm},
		{"Index MaxNumber + 1", over + "\x03\x0e\x00", api.ErrLong},
		{"Index of more bytes than it needs", "\x89\x00\x03\x0e\x00", api.ErrForm},
		{"Term 0", "\x09\x00\x0e\x00", api.ErrForm},
		{"Term MaxNumber + 1", "\x09" + over + "\x0e\x00", api.ErrLong},
		{"Term of more bytes than it needs", "\x09\x83\x00\x0e\x00", api.ErrForm},
		{"Conf 0", "\x09\x03\x00\x00", api.ErrForm},
		{"Conf 13", "\x09\x03\x0d\x00", api.ErrForm},
		{"Conf 253", "\x09\x03\xfd\x00", api.ErrForm},
		{"Conf 255", "\x09\x03\xff\x00", api.ErrLong},
		{"Conf 255, and too short", "\x09\x03\xff", api.ErrLong},
		{"Index 0, then Conf 255", "\x00\x03\xff", api.ErrLong},
		{"Offset MaxImage + 1", "\x09\x03\x0e\x81\x80\x02", api.ErrLong},
		{"Offset 2^64 - 1", "\x09\x03\x0e\xff\xff\xff\xff\xff\xff\xff\xff\xff\x01", api.ErrLong},
		{"Offset above 2^64", "\x09\x03\x0e\xff\xff\xff\xff\xff\xff\xff\xff\xff\x02", api.ErrForm},
		{"Offset of more bytes than it needs", "\x09\x03\x0e\x80\x80\x00", api.ErrForm},
		{"Offset without an end", "\x09\x03\x0e\x80", api.ErrShort},
	} {
		tail := "\x00\x00"
		if c.e == api.ErrShort {
			tail = ""
		}
		decodes(t, "6.3: MsgSnap, "+c.what, sealed([]byte("\x05\x01\x02\x05"+c.b+tail)), api.Msg{}, c.e)
		decodes(t, "6.3: MsgSnapReply, "+c.what, sealed([]byte("\x06\x01\x02\x05"+c.b)), api.Msg{}, c.e)
	}
	for what, c := range map[string]struct {
		b string
		e api.Errno
	}{
		"Last 2":                                {"\x02\x00", api.ErrLong},
		"Last 2, and too short":                 {"\x02", api.ErrLong},
		"no length":                             {"\x01", api.ErrShort},
		"a length of more bytes than it needs":  {"\x00\x80\x00", api.ErrForm},
		"data too short":                        {"\x00\x02a", api.ErrShort},
		"data too long":                         {"\x00\x02abc", api.ErrForm},
		"256 bytes of data, and too short":      {"\x00\x80\x02" + letters(255), api.ErrShort},
		"257 bytes of data":                     {"\x00\x81\x02" + letters(257), api.ErrLong},
		"257 bytes of data, and too short":      {"\x00\x81\x02", api.ErrLong},
		"257 bytes of data, with 256 of them":   {"\x00\x80\x02" + letters(257), api.ErrForm},
		"a length of 2^64 - 1":                  {"\x00\xff\xff\xff\xff\xff\xff\xff\xff\xff\x01", api.ErrLong},
		"Data and Last that change their place": {"\x02ab\x00", api.ErrLong},
	} {
		decodes(t, "6.3: MsgSnap, "+what, sealed([]byte("\x05\x01\x02\x05\x09\x03\x0e\x00"+c.b)), api.Msg{}, c.e)
		decodes(t, "6.3: MsgSnapReply, Last or Data", sealed([]byte("\x06\x01\x02\x05\x09\x03\x0e\x00"+c.b)), api.Msg{}, api.ErrForm)
	}
}
