package pack_test

import (
	"bytes"
	"math"
	"testing"

	"bursar/api"
	"bursar/pack"
)

// ends fails where End does not answer want, twice over.
func ends(t *testing.T, what string, r *pack.Reader, want api.Errno) {
	t.Helper()
	for range 2 {
		if e := r.End(); e != want {
			t.Errorf("%s: End answers %d, not %d", what, e, want)
		}
	}
}

// stuck fails where a Reader with a fault reads anything, or forgets the fault.
func stuck(t *testing.T, what string, r *pack.Reader, want api.Errno) {
	t.Helper()
	ends(t, what, r, want)
	if b := r.Byte(255); b != 0 {
		t.Errorf("%s: Byte goes on: %d", what, b)
	}
	if n := r.Num(math.MaxUint64); n != 0 {
		t.Errorf("%s: Num goes on: %d", what, n)
	}
	if n := r.Int(); n != 0 {
		t.Errorf("%s: Int goes on: %d", what, n)
	}
	if b := r.Text(math.MaxInt); len(b) != 0 {
		t.Errorf("%s: Text goes on: % x", what, b)
	}
	ends(t, what, r, want)
}

// TestReaderEnd: 1.2, bytes that are left are a fault, but none that is kept.
func TestReaderEnd(t *testing.T) {
	for _, b := range [][]byte{nil, {}} {
		ends(t, "1.2: nothing", pack.NewReader(b), api.OK)
	}
	r := pack.NewReader([]byte{1, 2, 3, 1, 'a'})
	ends(t, "1.2: at first", r, api.ErrForm)
	if b := r.Byte(255); b != 1 {
		t.Errorf("1.2: Byte: %d", b)
	}
	ends(t, "1.2: after Byte", r, api.ErrForm)
	if n := r.Num(9); n != 2 {
		t.Errorf("1.2: Num: %d", n)
	}
	ends(t, "1.2: after Num", r, api.ErrForm)
	if n := r.Int(); n != -2 {
		t.Errorf("1.2: Int: %d", n)
	}
	ends(t, "1.2: after Int", r, api.ErrForm)
	if b := r.Text(1); string(b) != "a" {
		t.Errorf("1.2: Text: %s", b)
	}
	ends(t, "1.2: at the end", r, api.OK)
}

// TestReaderByte: 1.2, one byte up to its limit.
func TestReaderByte(t *testing.T) {
	for _, c := range []struct {
		b    []byte
		most byte
		want byte
		e    api.Errno
	}{
		{[]byte{0}, 0, 0, api.OK},
		{[]byte{8}, 8, 8, api.OK},
		{[]byte{255}, 255, 255, api.OK},
		{[]byte{8, 1}, 8, 8, api.ErrForm},
		{[]byte{1}, 0, 0, api.ErrLong},
		{[]byte{9, 5}, 8, 0, api.ErrLong},
		{[]byte{255}, 254, 0, api.ErrLong},
		{nil, 0, 0, api.ErrShort},
		{nil, 255, 0, api.ErrShort},
	} {
		r := pack.NewReader(c.b)
		if got := r.Byte(c.most); got != c.want {
			t.Errorf("1.2: Byte(%d) of % x: %d", c.most, c.b, got)
		}
		ends(t, "1.2: Byte", r, c.e)
	}
}

// numCase is a varint, its limit, and what comes of it.
type numCase struct {
	b    string
	most uint64
	want uint64
	e    api.Errno
}

// nine are the bytes of a varint that a tenth must follow.
const nine = "\xff\xff\xff\xff\xff\xff\xff\xff\xff"

func numCases() []numCase {
	const all = math.MaxUint64
	return []numCase{
		{"\x00", 0, 0, api.OK},
		{"\x7f", 127, 127, api.OK},
		{"\xac\x02", 300, 300, api.OK},
		{nine + "\x01", all, all, api.OK},
		{"\x80\x80\x80\x80\x80\x80\x80\x80\x80\x01", 1 << 63, 1 << 63, api.OK},
		// Bytes that end too early come ahead of what is wrong with the number.
		{"", 9, 0, api.ErrShort},
		{"\x80", 0, 0, api.ErrShort},
		{"\xac", 9, 0, api.ErrShort},
		{nine, 0, 0, api.ErrShort},
		// A digit 0 on top comes ahead of the limit.
		{"\x80\x00", 9, 0, api.ErrForm},
		{"\xac\x00", 9, 0, api.ErrForm},
		{"\xff\x80\x00", all, 0, api.ErrForm},
		{nine + "\x00", 5, 0, api.ErrForm},
		// So does a tenth byte above 1, also one that goes on.
		{nine + "\x02", all, 0, api.ErrForm},
		{nine + "\x7f", 0, 0, api.ErrForm},
		{nine + "\x80", all, 0, api.ErrForm},
		{nine + "\x81\x01", all, 0, api.ErrForm},
		{nine + "\xff\x01", all, 0, api.ErrForm},
		// The limit.
		{"\x01", 0, 0, api.ErrLong},
		{"\x7f", 126, 0, api.ErrLong},
		{"\xac\x02", 299, 0, api.ErrLong},
		{nine + "\x01", all - 1, 0, api.ErrLong},
		{"\xac\x02\x09", 299, 0, api.ErrLong},
		// What lies behind is left.
		{"\xac\x02\x09", 300, 300, api.ErrForm},
		{"\x00\x00", 0, 0, api.ErrForm},
	}
}

// TestReaderNum: 1.2, varints, and their faults in order.
func TestReaderNum(t *testing.T) {
	for _, c := range numCases() {
		r := pack.NewReader([]byte(c.b))
		if got := r.Num(c.most); got != c.want {
			t.Errorf("1.2: Num(%d) of % x: %d", c.most, c.b, got)
		}
		if e := r.End(); e != c.e {
			t.Errorf("1.2: Num(%d) of % x: End answers %d, not %d", c.most, c.b, e, c.e)
		}
	}
}

// TestReaderInt: 1.2, what Int lays, with the faults of Num and no limit.
func TestReaderInt(t *testing.T) {
	for _, c := range []struct {
		b    string
		want int64
		e    api.Errno
	}{
		{"\x00", 0, api.OK},
		{"\x01", -1, api.OK},
		{"\x02", 1, api.OK},
		{"\x05", -3, api.OK},
		{"\x7e", 63, api.OK},
		{"\x7f", -64, api.OK},
		{"\x80\x01", 64, api.OK},
		{"\xfe" + nine[1:] + "\x01", math.MaxInt64, api.OK},
		{nine + "\x01", math.MinInt64, api.OK},
		{"", 0, api.ErrShort},
		{"\xff", 0, api.ErrShort},
		{"\x81\x00", 0, api.ErrForm},
		{nine + "\x03", 0, api.ErrForm},
		{"\x05\x05", -3, api.ErrForm},
	} {
		r := pack.NewReader([]byte(c.b))
		if got := r.Int(); got != c.want {
			t.Errorf("1.2: Int of % x: %d", c.b, got)
		}
		ends(t, "1.2: Int", r, c.e)
	}
}

// TestReaderText: 1.2, bytes with their length ahead, and their faults in order.
func TestReaderText(t *testing.T) {
	for _, c := range []struct {
		b    string
		most int
		want string
		e    api.Errno
	}{
		{"\x02ab", 2, "ab", api.OK},
		{"\x02ab", 5, "ab", api.OK},
		{"\x02ab", math.MaxInt, "ab", api.OK},
		{"\x00", 0, "", api.OK},
		{"\x00", -1, "", api.OK},
		{"\x00", math.MinInt, "", api.OK},
		{"\x02abc", 2, "ab", api.ErrForm},
		{"\x01a", 0, "", api.ErrLong},
		{"\x01a", -1, "", api.ErrLong},
		{"\x01a", math.MinInt, "", api.ErrLong},
		{"\x02ab", 1, "", api.ErrLong},
		{"\x02", 1, "", api.ErrLong},
		{"", 0, "", api.ErrShort},
		{"\x80", 0, "", api.ErrShort},
		{"\x02a", 5, "", api.ErrShort},
		{"\x02a", 2, "", api.ErrShort},
		{"\x01", 1, "", api.ErrShort},
		{"\x82\x00ab", 5, "", api.ErrForm},
		{nine + "\x02ab", 5, "", api.ErrForm},
		// Lengths that no int has room for.
		{nine + "\x01ab", math.MaxInt, "", api.ErrLong},
		{nine[1:] + "\x7fab", math.MaxInt, "", api.ErrShort},
	} {
		r := pack.NewReader([]byte(c.b))
		if got := r.Text(c.most); string(got) != c.want {
			t.Errorf("1.2: Text(%d) of %q: %q", c.most, c.b, got)
		}
		ends(t, "1.2: Text", r, c.e)
	}
}

// TestReaderKeepsFirst: 1.2, the first fault stands, and nothing is read behind it.
func TestReaderKeepsFirst(t *testing.T) {
	num := func(most uint64) func(r *pack.Reader) {
		return func(r *pack.Reader) { r.Num(most) }
	}
	text := func(most int) func(r *pack.Reader) {
		return func(r *pack.Reader) { r.Text(most) }
	}
	for _, c := range []struct {
		what string
		b    string
		read func(r *pack.Reader)
		e    api.Errno
	}{
		{"Byte, none left", "", func(r *pack.Reader) { r.Byte(9) }, api.ErrShort},
		{"Byte, too great", "\x09\x05\x01a", func(r *pack.Reader) { r.Byte(8) }, api.ErrLong},
		{"Num, too short", "\x80", num(9), api.ErrShort},
		{"Num, two forms", "\x80\x00\x01a", num(9), api.ErrForm},
		{"Num, too great", "\xac\x02\x01a", num(299), api.ErrLong},
		{"Int, too short", "\x80", func(r *pack.Reader) { r.Int() }, api.ErrShort},
		{"Int, two forms", "\x80\x00\x01a", func(r *pack.Reader) { r.Int() }, api.ErrForm},
		{"Text, no length", "\x80", text(9), api.ErrShort},
		{"Text, two forms", "\x81\x00a", text(9), api.ErrForm},
		{"Text, too long", "\x02ab", text(1), api.ErrLong},
		{"Text, too short", "\x03ab", text(9), api.ErrShort},
	} {
		r := pack.NewReader([]byte(c.b))
		c.read(r)
		stuck(t, "1.2: "+c.what, r, c.e)
		r = pack.NewReader(append([]byte{4}, c.b...))
		if b := r.Byte(4); b != 4 {
			t.Errorf("1.2: %s: Byte ahead: %d", c.what, b)
		}
		c.read(r)
		stuck(t, "1.2: behind a byte: "+c.what, r, c.e)
	}
}

// TestReaderMixed: 1.2, the chapter's examples.
func TestReaderMixed(t *testing.T) {
	r := pack.NewReader([]byte{7, 0xac, 2, 5, 2, 'a', 'b'})
	if b := r.Byte(9); b != 7 {
		t.Errorf("1.2: Byte: %d", b)
	}
	if n := r.Num(300); n != 300 {
		t.Errorf("1.2: Num: %d", n)
	}
	if n := r.Int(); n != -3 {
		t.Errorf("1.2: Int: %d", n)
	}
	if b := r.Text(5); !bytes.Equal(b, []byte("ab")) {
		t.Errorf("1.2: Text: %s", b)
	}
	ends(t, "1.2: mixed", r, api.OK)
	r = pack.NewReader([]byte{9, 5})
	if b := r.Byte(8); b != 0 {
		t.Errorf("1.2: Byte: %d", b)
	}
	stuck(t, "1.2: Byte(8) of 09 05", r, api.ErrLong)
}
