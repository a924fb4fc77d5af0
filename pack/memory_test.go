package pack_test

import (
	"bytes"
	"math"
	"testing"

	"bursar/api"
	"bursar/pack"
)

// roomy answers s, and all the memory that it lies in: s with room behind it, marked.
func roomy(s string) (b, whole []byte) {
	whole = append([]byte(s), bytes.Repeat([]byte{0xcc}, 16)...)
	return whole[:len(s)], whole
}

// scrawl writes over b and over the room behind it.
func scrawl(b []byte) {
	b = b[:cap(b)]
	for i := range b {
		b[i] = 0xee
	}
}

// TestArgumentsStay: R2, what is handed in is not changed, nor the room behind it.
func TestArgumentsStay(t *testing.T) {
	sealed := string(pack.Seal([]byte("abc")))
	for what, call := range map[string]struct {
		given string
		f     func(b []byte)
	}{
		"Text":   {"abc", func(b []byte) { w := pack.NewWriter(); w.Text(b); w.Num(9); scrawl(w.Bytes()) }},
		"Reader": {"\x07\x02ab", func(b []byte) { r := pack.NewReader(b); r.Byte(9); scrawl(r.Text(9)); r.End() }},
		"Sum":    {"abc", func(b []byte) { pack.Sum(b) }},
		"Seal":   {"abc", func(b []byte) { scrawl(pack.Seal(b)) }},
		"Unseal": {sealed, func(b []byte) { x, _ := pack.Unseal(b); scrawl(x) }},
		"wrong":  {"abcdefg", func(b []byte) { x, _ := pack.Unseal(b); scrawl(x) }},
	} {
		b, whole := roomy(call.given)
		before := bytes.Clone(whole)
		call.f(b)
		same(t, "R2: "+what, whole, before)
	}
}

// TestArgumentsAreNotKept: R2, a caller may write over what was handed in.
func TestArgumentsAreNotKept(t *testing.T) {
	w := pack.NewWriter()
	b, _ := roomy("abc")
	w.Text(b)
	scrawl(b)
	same(t, "R2: Writer.Text", w.Bytes(), []byte("\x03abc"))

	b, _ = roomy("\x07\x02ab")
	r := pack.NewReader(b)
	scrawl(b)
	if x := r.Byte(9); x != 7 {
		t.Errorf("R2: NewReader keeps its argument: Byte %d", x)
	}
	same(t, "R2: NewReader", r.Text(9), []byte("ab"))
	ends(t, "R2: NewReader", r, api.OK)
}

// TestResultsAreNew: R2, a caller may write over what was answered.
func TestResultsAreNew(t *testing.T) {
	w := pack.NewWriter()
	w.Text([]byte("abc"))
	one, two := w.Bytes(), w.Bytes()
	scrawl(one)
	same(t, "R2: Bytes, the other answer", two, []byte("\x03abc"))
	same(t, "R2: Bytes, the Writer", w.Bytes(), []byte("\x03abc"))
	// The room behind an answer is not where the Writer goes on.
	three := w.Bytes()
	w.Byte(5)
	scrawl(three)
	same(t, "R2: Bytes, its room", w.Bytes(), []byte("\x03abc\x05"))
	w.Byte(6)
	scrawl(two)
	same(t, "R2: Bytes, its room", w.Bytes(), []byte("\x03abc\x05\x06"))

	r := pack.NewReader([]byte("\x02ab\x00\x02cd\x07"))
	scrawl(r.Text(9))
	empty := r.Text(9)
	if len(empty) != 0 {
		t.Errorf("R2: an empty text: % x", empty)
	}
	scrawl(empty)
	last := r.Text(9)
	same(t, "R2: Text", last, []byte("cd"))
	scrawl(last)
	if b := r.Byte(9); b != 7 {
		t.Errorf("R2: the room behind a Text is the Reader's: %d", b)
	}
}

// TestSealsAreNew: R2, sealed and unsealed bytes share nothing.
func TestSealsAreNew(t *testing.T) {
	given, _ := roomy("abc")
	sealed := pack.Seal(given)
	want := bytes.Clone(sealed)
	scrawl(given)
	same(t, "R2: Seal", sealed, want)
	b, e := pack.Unseal(sealed)
	if e != api.OK {
		t.Errorf("R2: Unseal: %d", e)
	}
	scrawl(b)
	same(t, "R2: Unseal, what it was given", sealed, want)
	b, _ = pack.Unseal(sealed)
	scrawl(sealed)
	same(t, "R2: Unseal, its answer", b, []byte("abc"))
}

// TestApart: R8, two objects do not know of each other.
func TestApart(t *testing.T) {
	v, w := pack.NewWriter(), pack.NewWriter()
	v.Byte(1)
	w.Byte(2)
	v.Byte(3)
	same(t, "R8: one Writer", v.Bytes(), []byte{1, 3})
	same(t, "R8: the other", w.Bytes(), []byte{2})

	b := []byte{5, 6}
	q, r := pack.NewReader(b), pack.NewReader(b)
	q.Byte(0)
	ends(t, "R8: one Reader", q, api.ErrLong)
	if x, y := r.Byte(9), r.Num(math.MaxUint64); x != 5 || y != 6 {
		t.Errorf("R8: the other reads %d and %d", x, y)
	}
	ends(t, "R8: the other", r, api.OK)
}
