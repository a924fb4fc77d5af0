package cmd_test

import (
	"bytes"
	"math"
	"math/rand/v2"
	"strings"
	"testing"

	"bursar/api"
	"bursar/cmd"
)

// part is one of an encoding: one byte, or a varint, and what it may be at most.
type part struct {
	one  bool
	most uint64
}

// partsOf answers the parts of a field, with the chapter's limits.
func partsOf(letter rune) []part {
	number, free := part{most: 1<<56 - 1}, part{most: math.MaxUint64}
	switch letter {
	case 'S', 'Q':
		return []part{number}
	case 'A', 'B':
		return []part{free}
	case 'M':
		return []part{{one: true, most: 18}, free, free}
	}
	ofName := part{one: true, most: 90}
	return []part{ofName, ofName, ofName}
}

// first answers the number of a part at the beginning of b and how many bytes it
// takes, or what is wrong with it first, as chapter 1 tells it.
func first(b []byte, p part) (n uint64, size int, e api.Errno) {
	digit := uint64(1)
	for i, c := range b {
		if !p.one && i == 9 && c > 1 {
			return 0, 0, api.ErrForm
		}
		if !p.one && c >= 128 {
			n += uint64(c-128) * digit
			digit *= 128
			continue
		}
		n += uint64(c) * digit
		if !p.one && c == 0 && i > 0 {
			return 0, 0, api.ErrForm
		}
		if n > p.most {
			return 0, 0, api.ErrLong
		}
		return n, i + 1, api.OK
	}
	return 0, 0, api.ErrShort
}

// fault answers what is wrong first with b, read as parts one after the other:
// with a part, or that bytes are left.
func fault(b []byte, row []part) api.Errno {
	for _, p := range row {
		_, size, e := first(b, p)
		if e != api.OK {
			return e
		}
		b = b[size:]
	}
	if len(b) > 0 {
		return api.ErrForm
	}
	return api.OK
}

// faultOf answers what is wrong first with b as a command, as Decode's section tells
// it, but for numbers and letters that are too small.
func faultOf(b []byte) api.Errno {
	if len(b) > 128 {
		return api.ErrLong
	}
	row := []part{{one: true, most: lastKind}}
	if e := fault(b[:min(len(b), 1)], row); e != api.OK {
		return e
	}
	for _, letter := range list[int(b[0])] {
		row = append(row, partsOf(letter)...)
	}
	return fault(b, row)
}

// told tells whether b are the bytes of a command. It fails where Decode answers
// another error than the first one, or a command whose bytes are not b.
func told(t *testing.T, b []byte) bool {
	t.Helper()
	c, e := cmd.Decode(b)
	if want := faultOf(b); want != api.OK {
		if e != want || c != (api.Cmd{}) {
			t.Fatalf("Decode of % x: %+v %d, not the error %d", b, c, e, want)
		}
		return false
	}
	// Nothing more can be wrong than a 0, or a byte below A in a name.
	if e == api.ErrForm && c == (api.Cmd{}) && tooSmall(b) {
		return false
	}
	again, f := cmd.Encode(c)
	if e != api.OK || tooSmall(b) || !bytes.Equal(encoded(c), b) || !bytes.Equal(again, b) || f != api.OK {
		t.Fatalf("5.4: Decode of % x: %+v %d, and back % x %d", b, c, e, again, f)
	}
	return true
}

// tooSmall tells whether b, in which all else is right, has a Kind, a Session or a
// Seq 0, or a byte below A in a name.
func tooSmall(b []byte) bool {
	fields := list[int(b[0])]
	at := 1
	for _, letter := range fields {
		for _, p := range partsOf(letter) {
			n, size, _ := first(b[at:], p)
			at += size
			if n == 0 && strings.ContainsRune("SQ", letter) || n < 'A' && strings.ContainsRune("XY", letter) {
				return true
			}
		}
	}
	return b[0] == 0
}

// TestShortBytes: Decode, all bytes of up to two, and many of three and four.
func TestShortBytes(t *testing.T) {
	told(t, nil)
	right := 0
	try := func(b ...byte) {
		if told(t, b) {
			right++
		}
	}
	for x := range 256 {
		try(byte(x))
		for y := range 256 {
			try(byte(x), byte(y))
			for _, z := range []byte{0, 1, 2, 127, 128, 129, 255} {
				try(byte(x), byte(y), z)
				if x <= lastKind+1 {
					try(byte(x), byte(y), z, 0)
					try(byte(x), byte(y), z, 1)
				}
			}
		}
	}
	// Of Registers alone there are so many: of two bytes, and of three.
	if right < 127+128*3 {
		t.Errorf("only %d were right", right)
	}
}

// turned calls f with b as it is, and with what comes of it by one turn: a byte
// that is another, one more, one less, or two that change their places.
func turned(b []byte, f func(b []byte)) {
	f(b)
	for i := range len(b) + 1 {
		for _, x := range []byte{0, 1, 18, 19, '@', 'A', 'Z', '[', 'a', 99, 100, 127, 128, 129, 255} {
			f(bytes.Join([][]byte{b[:i], {x}, b[i:]}, nil))
			if i < len(b) {
				f(bytes.Join([][]byte{b[:i], {x}, b[i+1:]}, nil))
			}
		}
		if i < len(b) {
			f(bytes.Join([][]byte{b[:i], b[i+1:]}, nil))
		}
		if i > 0 && i < len(b) {
			c := bytes.Clone(b)
			c[i-1], c[i] = c[i], c[i-1]
			f(c)
		}
	}
}

// TestTurnedBytes: Decode and 5.4, bytes that are nearly those of a command: it is
// told what is wrong first, or they are its bytes.
func TestTurnedBytes(t *testing.T) {
	rnd := rand.New(rand.NewPCG(5, 4))
	tried, right := 0, 0
	for kind := range list {
		for range 30 {
			turned(encoded(ofKind(kind, drawn(rnd))), func(b []byte) {
				tried++
				if told(t, b) {
					right++
				}
			})
		}
	}
	if right < tried/10 || right > tried*9/10 {
		t.Errorf("%d of %d were right", right, tried)
	}
}

// TestDrawnBytes: Decode and 5.4, whatever bytes follow a kind.
func TestDrawnBytes(t *testing.T) {
	rnd := rand.New(rand.NewPCG(5, 5))
	for range 50000 {
		b := make([]byte, 1+rnd.IntN(40))
		for i := range b {
			// Most bytes are small, so that many parts are right.
			b[i] = byte(rnd.Uint64()) >> rnd.IntN(8)
		}
		b[0] = byte(rnd.IntN(lastKind + 2))
		told(t, b)
	}
}

// TestCutBytes: Decode, bytes that end too early or go on too long.
func TestCutBytes(t *testing.T) {
	right(func(c api.Cmd) {
		b := encoded(c)
		for k := range b {
			decodes(t, "cut", b[:k], api.Cmd{}, api.ErrShort)
		}
		for _, x := range []byte{0, 1, 'A', 128, 255} {
			decodes(t, "longer", append(bytes.Clone(b), x), api.Cmd{}, api.ErrForm)
		}
	})
}

// TestLength: Decode, no more than MaxData bytes, ahead of anything else.
func TestLength(t *testing.T) {
	for kind := range lastKind + 1 {
		b := encoded(full(kind))
		b = append(b, make([]byte, 1000)...)
		decodes(t, "128 bytes", b[:128], api.Cmd{}, api.ErrForm)
		decodes(t, "129 bytes", b[:129], api.Cmd{}, api.ErrLong)
		decodes(t, "1000 bytes", b[:1000], api.Cmd{}, api.ErrLong)
	}
	// A Session without an end is ErrForm, and one of too many bytes is none.
	b := bytes.Repeat([]byte{255}, 1<<16)
	b[0] = api.Register
	decodes(t, "128 bytes", b[:128], api.Cmd{}, api.ErrForm)
	decodes(t, "129 bytes", b[:129], api.Cmd{}, api.ErrLong)
	decodes(t, "2^16 bytes", b, api.Cmd{}, api.ErrLong)
}

// TestFirstError: Decode, the error that comes first, where there is one or more.
func TestFirstError(t *testing.T) {
	const nine = "\xff\xff\xff\xff\xff\xff\xff\xff\xff"
	for _, c := range []struct {
		what, b string
		e       api.Errno
	}{
		{"no bytes", "", api.ErrShort},
		{"Kind 0", "\x00", api.ErrForm},
		{"Kind 0, bytes left that would be too long", "\x00\xff", api.ErrForm},
		{"Kind 12", "\x0c", api.ErrLong},
		{"Kind 12, and more", "\x0c\x05\x06", api.ErrLong},
		{"Kind 128", "\x80\x01", api.ErrLong},
		{"Kind 255", "\xff", api.ErrLong},
		{"bytes left", "\x01\x05\x00", api.ErrForm},
		{"Session 0", "\x01\x00", api.ErrForm},
		{"Session of two bytes that needs one", "\x01\x85\x00", api.ErrForm},
		{"Session 0 of two bytes", "\x01\x80\x00", api.ErrForm},
		{"Session MaxNumber + 1", "\x01\x80\x80\x80\x80\x80\x80\x80\x80\x01", api.ErrLong},
		{"Session MaxNumber + 1, and more", "\x01\x80\x80\x80\x80\x80\x80\x80\x80\x01\x00", api.ErrLong},
		{"Session 2^64 - 1", "\x01" + nine + "\x01", api.ErrLong},
		{"Session above 2^64", "\x01" + nine + "\x02", api.ErrForm},
		{"Session of eleven bytes", "\x01" + nine + "\x80\x01", api.ErrForm},
		{"Seq 0", "\x09\x05\x00\x07", api.ErrForm},
		{"Seq 0, and too short", "\x09\x05\x00", api.ErrShort},
		{"Seq MaxNumber + 1", "\x09\x05\x80\x80\x80\x80\x80\x80\x80\x80\x01\x07", api.ErrLong},
		{"Seq MaxNumber + 1, and too short", "\x09\x05\x80\x80\x80\x80\x80\x80\x80\x80\x01", api.ErrLong},
		{"Session 0, and too short", "\x03\x00", api.ErrShort},
		{"Session 0, then a Seq that is too great", "\x03\x00" + nine + "\x01", api.ErrLong},
		{"Session 0, then a byte above Z", "\x03\x00\x06EU[", api.ErrLong},
		{"Session 0, and bytes left", "\x01\x00\x05", api.ErrForm},
		{"A above 2^64", "\x09\x05\x06" + nine + "\x02", api.ErrForm},
		{"A of more bytes than it needs", "\x09\x05\x06\x87\x80\x00", api.ErrForm},
		{"A without an end", "\x09\x05\x06\x87", api.ErrShort},
		{"B of more bytes than it needs", "\x06\x05\x06\x07\x80\x00\x00\x00\x00", api.ErrForm},
		{"Scale 19", "\x04\x05\x06\x07\x13\x00\x01", api.ErrLong},
		{"Scale 128", "\x04\x05\x06\x07\x80\x01\x00\x01", api.ErrLong},
		{"Scale 19, and too short", "\x04\x05\x06\x07\x13", api.ErrLong},
		{"Session 0, then Scale 19", "\x04\x00\x06\x07\x13\x00\x01", api.ErrLong},
		{"Hi above 64 bits", "\x04\x05\x06\x07\x02" + nine + "\x02\x01", api.ErrForm},
		{"Hi of more bytes than it needs", "\x04\x05\x06\x07\x02\x80\x00\x01", api.ErrForm},
		{"Lo above 64 bits", "\x04\x05\x06\x07\x02\x00" + nine + "\x02", api.ErrForm},
		{"Lo of more bytes than it needs", "\x04\x05\x06\x07\x02\x00\x81\x00", api.ErrForm},
		{"a byte above Z", "\x03\x05\x06EUr", api.ErrLong},
		{"a byte just above Z", "\x03\x05\x06EU[", api.ErrLong},
		{"a byte of 128", "\x03\x05\x06\x80\x01A", api.ErrLong},
		{"a byte above Z, and too short", "\x03\x05\x06[", api.ErrLong},
		{"a byte below A", "\x03\x05\x06EU@", api.ErrForm},
		{"a byte below A, and too short", "\x03\x05\x06@U", api.ErrShort},
		{"a byte below A, then one above Z", "\x03\x05\x06@U[", api.ErrLong},
		{"a byte 0", "\x03\x05\x06\x00EU", api.ErrForm},
		{"a name with its length", "\x03\x05\x06\x03EUR", api.ErrForm},
		{"X below A, then Y above Z", "\x0b\x05\x06EU@EU[", api.ErrLong},
		{"Y below A", "\x0b\x05\x06EUREU@", api.ErrForm},
		{"no Y", "\x0b\x05\x06EUR", api.ErrShort},
		{"a third name", "\x0b\x05\x06EUREURE", api.ErrForm},
		{"the names of a Rate ahead of its Amount", "\x07\x05\x06EURJPY\x01\x00\xcf\x0c", api.ErrLong},
	} {
		decodes(t, c.what, []byte(c.b), api.Cmd{}, c.e)
	}
}
