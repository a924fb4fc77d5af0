package frame_test

import (
	"bytes"
	"slices"
	"testing"

	"bursar/frame"
)

// TestBytesStay: R2, bytes that are handed in are not changed, nor the room behind them.
func TestBytesStay(t *testing.T) {
	for _, s := range row("", "abc", framed("abc")+framed("")+"\x07", letters(mostBytes+1)) {
		b, whole := roomy(s)
		before := bytes.Clone(whole)
		scrawl(frame.Frame(b))
		l, _ := frame.List(b)
		for _, x := range l {
			scrawl(x)
		}
		for x := range frame.All(b) {
			scrawl(x)
		}
		if !bytes.Equal(whole, before) {
			t.Errorf("R2: %.20q is changed: % .40x", s, whole)
		}
	}
}

// TestBytesAreNotKept: R2, what was handed in may be written over: what was answered,
// what an iterator tells after that, and what it tells in its midst stay as they are.
func TestBytesAreNotKept(t *testing.T) {
	some := row("ab", "", "c", "def")
	s := framedAll(some)
	b, _ := roomy("abc")
	f := frame.Frame(b)
	scrawl(b)
	if string(f) != whole("abc") {
		t.Errorf("R2: Frame keeps its argument: % x", f)
	}
	b, _ = roomy(s)
	l, _ := frame.List(b)
	all := frame.All(b)
	scrawl(b)
	if got := texts(l); !slices.Equal(got, some) {
		t.Errorf("R2: List keeps its argument: %q", got)
	}
	if got := firsts(all, 9); !slices.Equal(got, some) {
		t.Errorf("R2: All keeps its argument: %q", got)
	}
	b, _ = roomy(s)
	var got []string
	for x := range frame.All(b) {
		scrawl(b)
		got = append(got, string(x))
	}
	if !slices.Equal(got, some) {
		t.Errorf("R2: a range over All reads its argument: %q", got)
	}
}

// TestRoomIsNotRead: 8, what lies behind the length of a slice is none of its bytes.
func TestRoomIsNotRead(t *testing.T) {
	s := framedAll(row("ab", "c"))
	for k := range s {
		b := []byte(s)[:k]
		want, end := plain(s[:k])
		l, at := frame.List(b)
		if got := texts(l); !slices.Equal(got, want) || at != end {
			t.Errorf("8: the first %d bytes: List tells %q, %d", k, got, at)
		}
		if got := firsts(frame.All(b), 9); !slices.Equal(got, want) {
			t.Errorf("8: the first %d bytes: All tells %q", k, got)
		}
	}
}

// TestPartsAreNew: R2, no two parts that are told share memory, nor their spare room,
// within one answer, between two of them, or between an iterator and its later ranges.
func TestPartsAreNew(t *testing.T) {
	some := row("ab", "", "c", "def")
	b := []byte(framedAll(some))
	one, _ := frame.List(b)
	other, _ := frame.List(b)
	for i := range one {
		scrawl(one[i])
		one[i] = nil
		if got := texts(one[i+1:]); !slices.Equal(got, some[i+1:]) && i+1 < len(some) {
			t.Errorf("R2: the parts behind %d share its memory: %q", i, got)
		}
	}
	if got := texts(other); !slices.Equal(got, some) {
		t.Errorf("R2: another answer of List: %q", got)
	}
	all := frame.All(b)
	for range 2 {
		var kept [][]byte
		for x := range all {
			kept = append(kept, x)
		}
		for i, x := range kept {
			if got := string(x); got != some[i] {
				t.Errorf("R2: part %d of All: %q", i, got)
			}
			scrawl(x)
		}
	}
	var got []string
	for x := range all {
		got = append(got, string(x))
		scrawl(x)
	}
	if !slices.Equal(got, some) {
		t.Errorf("R2: parts that are written over as they come: %q", got)
	}
	if got := firsts(all, 9); !slices.Equal(got, some) {
		t.Errorf("R2: All after its parts were written over: %q", got)
	}
}

// TestFramesAreNew: R2, two frames share no memory, not even of no bytes.
func TestFramesAreNew(t *testing.T) {
	for _, s := range row("", "abc") {
		one, other := frame.Frame([]byte(s)), frame.Frame([]byte(s))
		scrawl(one)
		if string(other) != whole(s) || framed(s) != whole(s) {
			t.Errorf("R2: Frame(%q) after another was written over: % x", s, other)
		}
	}
}
