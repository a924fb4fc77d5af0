package frame_test

import (
	"bytes"
	"encoding/binary"
	"hash/crc32"
	"slices"
	"strings"
	"testing"

	"bursar/frame"
)

// What the chapter tells in words, written anew.
const (
	mostBytes = 65536
	headBytes = 8
)

// Short ways to write frames.

func framed(s string) string      { return string(frame.Frame([]byte(s))) }
func letters(n int) string        { return strings.Repeat("x", n) }
func zeros(n int) string          { return strings.Repeat("\x00", n) }
func row(some ...string) []string { return some }

// framedAll answers the frames of all in row, one after the other.
func framedAll(row []string) string {
	var s strings.Builder
	for _, x := range row {
		s.WriteString(framed(x))
	}
	return s.String()
}

// sumOf answers the checksum of s, reckoned by the library and not by the project.
func sumOf(s string) uint32 {
	return crc32.Checksum([]byte(s), crc32.MakeTable(crc32.Castagnoli))
}

// head answers eight bytes of a length and of a checksum, whether or not they fit.
func head(size, sum uint32) string {
	b := binary.LittleEndian.AppendUint32(nil, size)
	return string(binary.LittleEndian.AppendUint32(b, sum))
}

// whole answers the frame of s as the chapter tells it, of whatever length s is.
func whole(s string) string { return head(uint32(len(s)), sumOf(s)) + s }

// plain reads the chapter anew: what List answers for s.
func plain(s string) (parts []string, end int) {
	for {
		rest := s[end:]
		if len(rest) < headBytes {
			return parts, end
		}
		size := uint64(binary.LittleEndian.Uint32([]byte(rest[:4])))
		sum := binary.LittleEndian.Uint32([]byte(rest[4:8]))
		rest = rest[headBytes:]
		if size > mostBytes || size > uint64(len(rest)) || sumOf(rest[:size]) != sum {
			return parts, end
		}
		parts = append(parts, rest[:size])
		end += headBytes + int(size)
	}
}

// ranged answers what a range over All of s tells.
func ranged(s string) []string {
	var got []string
	for b := range frame.All([]byte(s)) {
		got = append(got, string(b))
	}
	return got
}

// texts answers the byte strings of l as strings.
func texts(l [][]byte) []string {
	var got []string
	for _, b := range l {
		got = append(got, string(b))
	}
	return got
}

// holds asks List and All of s: they tell parts, and that the frames end at end.
func holds(t *testing.T, what, s string, parts []string, end int) {
	t.Helper()
	l, at := frame.List([]byte(s))
	if got := texts(l); !slices.Equal(got, parts) || at != end {
		t.Errorf("%s: List tells %d parts, %.99q, %d, not %d parts, %.99q, %d", what, len(got), got, at, len(parts), parts, end)
	}
	if got := ranged(s); !slices.Equal(got, parts) {
		t.Errorf("%s: All tells %d parts, %.99q, not %d, %.99q", what, len(got), got, len(parts), parts)
	}
}

// roomy answers s, and all the memory that it lies in: s with room behind it, marked.
func roomy(s string) (b, whole []byte) {
	whole = append([]byte(s), bytes.Repeat([]byte{0xcc}, 16)...)
	return whole[:len(s)], whole
}

// scrawl writes over b and over the room behind it.
func scrawl(b []byte) {
	b = b[:cap(b)]
	for i := range b {
		b[i] = 0xee
	}
}
