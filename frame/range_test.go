package frame_test

import (
	"iter"
	"slices"
	"testing"

	"bursar/frame"
)

// firsts answers the first n that all tells, by a range that breaks off there.
func firsts(all iter.Seq[[]byte], n int) []string {
	var got []string
	if n == 0 {
		return nil
	}
	for b := range all {
		got = append(got, string(b))
		if len(got) == n {
			break
		}
	}
	return got
}

// TestBreak: 8, a range over All that breaks off is told nothing more, and what it
// was told is what List tells first.
func TestBreak(t *testing.T) {
	some := row("a", "", "bc", "def")
	for _, behind := range row("", "\x07", framed("xyz")[:9]) {
		s := framedAll(some) + behind
		for n := range len(some) + 1 {
			if got := firsts(frame.All([]byte(s)), n); !slices.Equal(got, some[:n]) {
				t.Errorf("8: the first %d: %q", n, got)
			}
		}
		for n := 1; n <= len(some); n++ {
			calls := 0
			frame.All([]byte(s))(func([]byte) bool { calls++; return calls < n })
			if calls != n {
				t.Errorf("8: broken off at %d: %d calls", n, calls)
			}
		}
	}
}

// TestAgain: 8, R4, an iterator that was ranged over, or broken off, tells the same again.
func TestAgain(t *testing.T) {
	some := row("a", "", "bc", "def")
	all := frame.All([]byte(framedAll(some) + "\x07"))
	for n := range len(some) + 2 {
		want := some[:min(n, len(some))]
		if got := firsts(all, n); !slices.Equal(got, want) {
			t.Errorf("8: again, the first %d: %q", n, got)
		}
	}
	if got := firsts(all, 9); !slices.Equal(got, some) {
		t.Errorf("8: again, all: %q", got)
	}
}

// TestWithin: 8, R8, ranges within one another: each tells all of it.
func TestWithin(t *testing.T) {
	all := frame.All([]byte(framedAll(row("a", "b", "c"))))
	var got string
	for x := range all {
		for y := range all {
			got += string(x) + string(y) + " "
			if y[0] == 'b' && x[0] == 'b' {
				break
			}
		}
	}
	if got != "aa ab ac ba bb ca cb cc " {
		t.Errorf("8: within: %q", got)
	}
}

// TestTwo: R8, two iterators know nothing of each other.
func TestTwo(t *testing.T) {
	one, other := frame.All([]byte(framed("a"))), frame.All([]byte(framed("b")+framed("c")))
	if got := firsts(one, 9); !slices.Equal(got, row("a")) {
		t.Errorf("R8: one: %q", got)
	}
	if got := firsts(other, 9); !slices.Equal(got, row("b", "c")) {
		t.Errorf("R8: the other: %q", got)
	}
}

// TestNoYield: R1, an iterator that is given nil ends, and can be ranged over after that.
func TestNoYield(t *testing.T) {
	for _, s := range row("", "\x07", framed("a")) {
		all := frame.All([]byte(s))
		all(nil)
		want, _ := plain(s)
		if got := firsts(all, 9); !slices.Equal(got, want) {
			t.Errorf("R1: after nil: %q", got)
		}
	}
}

// TestMany: 8.2, so many frames that each is told once, in their order.
func TestMany(t *testing.T) {
	var some []string
	for i := range 3000 {
		some = append(some, letters(i%7)+string(rune('a'+i%26)))
	}
	s := framedAll(some)
	holds(t, "8.2: many", s, some, len(s))
	holds(t, "8.2: many of no bytes", zeros(8*3000), make([]string, 3000), 8*3000)
}
