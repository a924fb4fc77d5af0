package frame_test

import (
	"math"
	"testing"

	"bursar/frame"
)

// TestList: 8.2, what was framed, one after the other.
func TestList(t *testing.T) {
	a, bc := framed("a"), framed("bc")
	holds(t, "8: the example", a+bc+"\x07", row("a", "bc"), 19)
	holds(t, "8.2: nothing", "", nil, 0)
	holds(t, "8.2: one", a, row("a"), 9)
	holds(t, "8.2: the other way round", bc+a, row("bc", "a"), 19)
	holds(t, "8.2: the same again", a+a+a, row("a", "a", "a"), 27)
	holds(t, "8.2: one of no bytes", zeros(8), row(""), 8)
	holds(t, "8.2: some of no bytes", zeros(24)+a+zeros(8), row("", "", "", "a", ""), 41)
	holds(t, "8.2: a frame in a frame", framed(a+bc)+bc, row(a+bc, "bc"), 37)
	if l, at := frame.List(nil); len(l) != 0 || at != 0 {
		t.Errorf("8.2: List(nil): %q %d", l, at)
	}
	for range frame.All(nil) {
		t.Error("8.2: All(nil) tells something")
	}
}

// TestListOfMost: 8.2, frames of just Most bytes, and those of more, which have none.
func TestListOfMost(t *testing.T) {
	most := letters(mostBytes)
	holds(t, "8.2: Most bytes", framed(most), row(most), mostBytes+8)
	holds(t, "8.2: Most bytes, with others", framed("a")+framed(most)+framed(most)+framed("b"),
		row("a", most, most, "b"), 2*mostBytes+34)
	more := letters(mostBytes + 1)
	holds(t, "8: more than Most", whole(more), nil, 0)
	holds(t, "8: more than Most, behind another", framed("a")+whole(more)+framed("b"), row("a"), 9)
	holds(t, "8.2: what has no frame", framed("a")+framed(more)+framed("b"), row("a", "b"), 18)
}

// TestLength: 8, a length that is more than Most, or than the bytes that follow.
func TestLength(t *testing.T) {
	a := framed("a")
	for _, size := range []uint32{1, 2, 7, 255, 256, mostBytes - 1, mostBytes} {
		s := letters(int(size))
		holds(t, "8: the bytes that it tells", head(size, sumOf(s))+s, row(s), int(size)+8)
		holds(t, "8: a byte less than it tells", head(size, sumOf(s))+s[1:], nil, 0)
		holds(t, "8: the sum of those that follow", head(size, sumOf(s[1:]))+s[1:], nil, 0)
		holds(t, "8: no byte follows", a+head(size, 0), row("a"), 9)
	}
	for _, size := range []uint32{mostBytes + 1, 1 << 17, 1 << 24, math.MaxInt32, 1 << 31, 1<<31 + 1, 0xffff0000, 0xfffffff8, math.MaxUint32} {
		for _, s := range row("", "a", zeros(8), letters(mostBytes), letters(1<<17)) {
			holds(t, "8: more than Most", head(size, sumOf(s))+s, nil, 0)
			holds(t, "8: more than Most, behind another", a+head(size, sumOf(s))+s, row("a"), 9)
		}
	}
	holds(t, "8: a length that has come round", whole("abc")[:2]+"\x01\x00"+whole("abc")[4:], nil, 0)
}

// TestSum: 8, a checksum that does not fit its bytes, or is laid in another way.
func TestSum(t *testing.T) {
	a := framed("a")
	for bit := range 32 {
		for _, s := range row("", "a", "abc") {
			x := head(uint32(len(s)), sumOf(s)^1<<bit) + s
			holds(t, "8: a bit of the sum", x, nil, 0)
			holds(t, "8: a bit of the sum, between others", a+x+a, row("a"), 9)
		}
	}
	f := framed("abc")
	holds(t, "8: the sum first", f[4:8]+f[:4]+f[8:], nil, 0)
	holds(t, "8: the most significant byte first", f[:4]+string([]byte{f[7], f[6], f[5], f[4]})+f[8:], nil, 0)
	holds(t, "8: the length too", "\x00\x00\x00\x03"+f[4:], nil, 0)
	holds(t, "8: a sum of nothing", head(3, 0)+"abc", nil, 0)
	holds(t, "8: the sum of all that follows", head(1, sumOf("ab"))+"ab", nil, 0)
	holds(t, "8: the sum of the length too", head(1, sumOf("\x01\x00\x00\x00a"))+"a", nil, 0)
}

// TestBehind: 8, bytes behind the last complete frame: fewer than eight, or more.
func TestBehind(t *testing.T) {
	f := framed("a") + framed("")
	for n := range 8 {
		holds(t, "8: fewer than eight, of 0", zeros(n), nil, 0)
		holds(t, "8: fewer than eight, of 0, behind", f+zeros(n), row("a", ""), 17)
		holds(t, "8: fewer than eight, behind", f+letters(n), row("a", ""), 17)
	}
	for n := 8; n < 40; n++ {
		holds(t, "8: eight or more, behind", f+letters(n), row("a", ""), 17)
	}
	holds(t, "8: eight of 0, behind", f+zeros(8)+zeros(7), row("a", "", ""), 25)
	// What lies behind the first place without a complete frame isn't looked for.
	holds(t, "8: frames behind a torn one", f+framed("bcd")[:10]+f+f, row("a", ""), 17)
	holds(t, "8: frames behind a byte", "\x07"+f, nil, 0)
}
