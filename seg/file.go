package seg

import (
	"iter"
	"strconv"
	"strings"

	"bursar/api"
	"bursar/frame"
	"bursar/rpc"
)

const (
	letter  = "s" // in front of a segment's number
	digits  = 15  // of that number
	base    = 16  // of those digits
	bitSize = 64  // of an index
)

// segment is a file of entries; while its Log is open, it has one at least.
type segment struct {
	first uint64
	marks []mark // one for each entry
}

// mark is what is kept of an entry.
type mark struct {
	term uint64
	end  int // of its frame, in the file
}

// Name answers what the segment that begins with an index is called.
func Name(first uint64) string {
	if first > api.MaxNumber {
		return ""
	}
	s := strconv.FormatUint(first, base)
	return letter + strings.Repeat("0", digits-len(s)) + s
}

// number answers the index of which name is the Name, and whether there is one.
func number(name string) (uint64, bool) {
	first, err := strconv.ParseUint(strings.TrimPrefix(name, letter), base, bitSize)
	// Held against Name, for capitals, other lengths and greater numbers are read as well.
	if err != nil || Name(first) != name {
		return 0, false
	}
	return first, true
}

// size answers how many bytes the entries of s, which has one, have in its file.
func (s segment) size() int { return s.marks[len(s.marks)-1].end }

// last answers the index of the last entry of s, which has one.
func (s segment) last() uint64 { return s.first + uint64(len(s.marks)) - 1 }

// entries yields what the frames at the beginning of b hold, each with the place where
// its frame ends, up to the first one that is not complete or holds no entry.
func entries(b []byte) iter.Seq2[api.Entry, int] {
	return func(yield func(api.Entry, int) bool) {
		head, end := len(frame.Frame(nil)), 0
		for part := range frame.All(b) {
			x, e := rpc.ReadEntry(part)
			end += head + len(part)
			if e != api.OK || !yield(x, end) {
				return
			}
		}
	}
}
