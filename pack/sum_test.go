package pack_test

import (
	"bytes"
	"hash/crc32"
	"testing"

	"bursar/api"
	"bursar/pack"
)

// ruled is the sum step by step as the chapter words it.
func ruled(b []byte) uint32 {
	h := uint32(1<<32 - 1)
	for _, c := range b {
		h ^= uint32(c)
		for range 8 {
			odd := h%2 == 1
			h /= 2
			if odd {
				h ^= 2197175160
			}
		}
	}
	return h ^ (1<<32 - 1)
}

// rising answers n bytes 0, 1, 2, ..
func rising(n int) []byte {
	b := make([]byte, n)
	for i := range b {
		b[i] = byte(i)
	}
	return b
}

// TestSum: 1.3, known sums, the rule, and the library's CRC-32C.
func TestSum(t *testing.T) {
	for _, c := range []struct {
		b    []byte
		want uint32
	}{
		{nil, 0},
		{[]byte{}, 0},
		{[]byte("123456789"), 3808858755},
		{[]byte{0}, 0x527d5351},
		{make([]byte, 32), 0x8a9136aa},
		{bytes.Repeat([]byte{255}, 32), 0x62a8ab43},
		{rising(32), 0x46dd794e},
	} {
		if s := pack.Sum(c.b); s != c.want {
			t.Errorf("1.3: Sum of % x: %#x, not %#x", c.b, s, c.want)
		}
	}
	table := crc32.MakeTable(crc32.Castagnoli)
	for n := range 600 {
		b := rising(n)
		s := pack.Sum(b)
		if s != ruled(b) || s != crc32.Checksum(b, table) {
			t.Errorf("1.3: Sum of %d rising bytes: %#x", n, s)
		}
	}
	for c := range 256 {
		b := []byte{byte(c)}
		if s := pack.Sum(b); s != ruled(b) {
			t.Errorf("1.3: Sum of % x: %#x", b, s)
		}
	}
}

// TestSeal: 1.3, the sum behind the bytes, its least byte first.
func TestSeal(t *testing.T) {
	same(t, "1.3: Seal(nil)", pack.Seal(nil), []byte{0, 0, 0, 0})
	same(t, "1.3: Seal", pack.Seal([]byte("123456789")), []byte("123456789\x83\x92\x06\xe3"))
	for n := range 300 {
		b := rising(n)
		h := ruled(b)
		want := append(rising(n), byte(h), byte(h>>8), byte(h>>16), byte(h>>24))
		same(t, "1.3: Seal", pack.Seal(b), want)
	}
}

// TestUnseal: 1.3, what was sealed, and what was not.
func TestUnseal(t *testing.T) {
	for _, c := range []struct {
		b    string
		want string
		e    api.Errno
	}{
		{"\x00\x00\x00\x00", "", api.OK},
		{"123456789\x83\x92\x06\xe3", "123456789", api.OK},
		{"", "", api.ErrShort},
		{"\x00", "", api.ErrShort},
		{"\x00\x00\x00", "", api.ErrShort},
		{"abc", "", api.ErrShort},
		{"abcd", "", api.ErrSum},
		{"\x00\x00\x00\x01", "", api.ErrSum},
		{"123456789\xe3\x06\x92\x83", "", api.ErrSum},
		{"123456789\x83\x92\x06\xe3\x00", "", api.ErrSum},
		{"23456789\x83\x92\x06\xe3", "", api.ErrSum},
	} {
		got, e := pack.Unseal([]byte(c.b))
		if string(got) != c.want || e != c.e {
			t.Errorf("1.3: Unseal of %q: %q %d", c.b, got, e)
		}
	}
	if b, e := pack.Unseal(nil); len(b) != 0 || e != api.ErrShort {
		t.Errorf("1.3: Unseal(nil): % x %d", b, e)
	}
	for n := range 300 {
		got, e := pack.Unseal(pack.Seal(rising(n)))
		if e != api.OK {
			t.Errorf("1.3: Unseal of what was sealed: %d", e)
		}
		same(t, "1.3: Unseal", got, rising(n))
	}
}
