package cmd_test

import (
	"bytes"
	"math"
	"math/rand/v2"
	"testing"

	"bursar/api"
	"bursar/cmd"
)

// replies calls f with replies at each edge of each field, and with drawn ones.
func replies(f func(r api.Reply)) {
	for code := range api.Errno(100) {
		f(api.Reply{Code: code, Value: 300, Amount: amount(-5, 2)})
	}
	for _, n := range numbers() {
		f(api.Reply{Code: 42, Value: n, Amount: amount(5, 18)})
		f(api.Reply{Value: n})
	}
	for _, a := range amounts() {
		f(api.Reply{Code: 99, Value: math.MaxUint64, Amount: a})
		f(api.Reply{Amount: a})
	}
	rnd := rand.New(rand.NewPCG(5, 6))
	for range 2000 {
		f(api.Reply{Code: api.Errno(rnd.IntN(100)), Value: rnd.Uint64() >> rnd.IntN(64), Amount: drawnAmount(rnd)})
	}
}

// TestReplyBytes: 5.3, bytes written out.
func TestReplyBytes(t *testing.T) {
	const nine = "\xff\xff\xff\xff\xff\xff\xff\xff\xff"
	for b, r := range map[string]api.Reply{
		"\x00\x00\x00\x00\x00":                         {},
		"\x01\x00\x00\x00\x00":                         {Code: api.ErrArg},
		"\x2a\x00\x12\x00\x05":                         {Code: api.ErrFunds, Amount: amount(5, 18)},
		"\x63\xac\x02\x02\x01" + nine + "\x01":         {Code: 99, Value: 300, Amount: amount(-1, 2)},
		"\x00" + nine + "\x01\x00" + nine + "\x01\x00": {Value: math.MaxUint64, Amount: api.Dec{C: least}},
		"\x00\x00\x01\x02\x00":                         {Amount: api.Dec{C: api.Wide{Hi: 1}, Scale: 1}},
	} {
		if got, e := cmd.LayReply(r); string(got) != b || e != api.OK {
			t.Errorf("5.3: LayReply of %+v: % x %d, not % x", r, got, e, b)
		}
		reads(t, "5.3", []byte(b), r, api.OK)
	}
}

// TestReplies: 5.3 and 5.4, each edge of each field, and back; the bytes are not
// too many for an entry, and they can't be cut or made longer.
func TestReplies(t *testing.T) {
	replies(func(r api.Reply) {
		b, e := cmd.LayReply(r)
		if !bytes.Equal(b, ofReply(r)) || e != api.OK || len(b) > api.MaxData {
			t.Errorf("5.3: LayReply of %+v: % x %d, not % x", r, b, e, ofReply(r))
		}
		reads(t, "5.4", b, r, api.OK)
		for k := range b {
			reads(t, "5.3: cut", b[:k], api.Reply{}, api.ErrShort)
		}
		for _, x := range []byte{0, 1, 128, 255} {
			reads(t, "5.3: longer", append(bytes.Clone(b), x), api.Reply{}, api.ErrForm)
		}
	})
}

// TestWrongReplies: 5.3, a Code or a Scale that may not be, some of which come
// round to one that may.
func TestWrongReplies(t *testing.T) {
	var row []api.Reply
	for _, n := range []int{-1, -2, -99, -256, math.MinInt, math.MinInt + 5, 256, 256 + 5, 1 << 32, math.MaxInt} {
		row = append(row, api.Reply{Code: api.Errno(n)}, api.Reply{Amount: amount(0, n)}, api.Reply{Code: 1, Value: 2, Amount: amount(-3, n)})
	}
	for _, code := range []api.Errno{100, 101, 127, 128, 255} {
		row = append(row, api.Reply{Code: code}, api.Reply{Code: code, Value: 7, Amount: amount(7, 7)})
	}
	for _, scale := range []int{19, 20, 127, 128, 255} {
		row = append(row, api.Reply{Amount: amount(0, scale)}, api.Reply{Code: 99, Value: 7, Amount: amount(7, scale)})
	}
	for _, r := range row {
		if b, e := cmd.LayReply(r); e != api.ErrArg || len(b) != 0 {
			t.Errorf("5.3: LayReply of %+v: % x %d", r, b, e)
		}
	}
}

// TestFirstReplyError: ReadReply, the error that comes first, where there is one
// or more.
func TestFirstReplyError(t *testing.T) {
	const nine = "\xff\xff\xff\xff\xff\xff\xff\xff\xff"
	for _, c := range []struct {
		what, b string
		e       api.Errno
	}{
		{"no bytes", "", api.ErrShort},
		{"Code 100", "\x64\x00\x00\x00\x00", api.ErrLong},
		{"Code 100, and too short", "\x64", api.ErrLong},
		{"Code 128", "\x80\x01\x00\x00\x00", api.ErrLong},
		{"Code 255", "\xff\x00\x00\x00\x00", api.ErrLong},
		{"Value of more bytes than it needs", "\x00\x80\x00\x00\x00\x00", api.ErrForm},
		{"Value above 2^64", "\x00" + nine + "\x02\x00\x00\x00", api.ErrForm},
		{"Value without an end", "\x00\x80", api.ErrShort},
		{"Scale 19", "\x00\x00\x13\x00\x00", api.ErrLong},
		{"Scale 19, and too short", "\x00\x00\x13", api.ErrLong},
		{"Scale 255", "\x00\x00\xff\x00\x00", api.ErrLong},
		{"Scale 19, and bytes left", "\x00\x00\x13\x00\x00\x00", api.ErrLong},
		{"Hi of more bytes than it needs", "\x00\x00\x00\x80\x00\x00", api.ErrForm},
		{"Hi above 64 bits", "\x00\x00\x00" + nine + "\x02\x00", api.ErrForm},
		{"Lo of more bytes than it needs", "\x00\x00\x00\x00\x81\x00", api.ErrForm},
		{"Lo above 64 bits", "\x00\x00\x00\x00" + nine + "\x02", api.ErrForm},
		{"a byte left", "\x00\x00\x00\x00\x00\x00", api.ErrForm},
		{"many bytes left", string(make([]byte, 1<<16)), api.ErrForm},
	} {
		reads(t, c.what, []byte(c.b), api.Reply{}, c.e)
	}
}

// TestTurnedReplies: ReadReply and 5.4, bytes that are nearly those of a reply: it
// is told what is wrong first, or they are its bytes.
func TestTurnedReplies(t *testing.T) {
	number := part{most: math.MaxUint64}
	row := []part{{one: true, most: 99}, number, {one: true, most: 18}, number, number}
	tried, right := 0, 0
	try := func(b []byte) {
		tried++
		r, e := cmd.ReadReply(b)
		if want := fault(b, row); want != e || e != api.OK && r != (api.Reply{}) {
			t.Fatalf("5.3: ReadReply of % x: %+v %d, not %d", b, r, e, want)
		}
		if e != api.OK {
			return
		}
		right++
		if again, f := cmd.LayReply(r); !bytes.Equal(ofReply(r), b) || !bytes.Equal(again, b) || f != api.OK {
			t.Fatalf("5.4: ReadReply of % x: %+v, and back % x %d", b, r, again, f)
		}
	}
	rnd := rand.New(rand.NewPCG(5, 7))
	for range 200 {
		r := api.Reply{Code: api.Errno(rnd.IntN(100)), Value: rnd.Uint64() >> rnd.IntN(64), Amount: drawnAmount(rnd)}
		turned(ofReply(r), try)
	}
	if right < tried/10 || right > tried*9/10 {
		t.Errorf("%d of %d were right", right, tried)
	}
}
