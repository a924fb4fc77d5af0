package bag_test

import (
	"math"
	"testing"

	"bursar/api"
)

// note is a struct with fields of several types.
type note struct {
	from, to int
	text     string
	flags    [3]bool
	data     []byte
}

// name is a type of its own.
type name string

// carried fails where a Bag of a type does not carry x as it is, or answers another than
// the type's zero value where there is no item.
func carried[T any](t *testing.T, x T) {
	t.Helper()
	var zero T
	b := filled(t, 3, x, zero)
	holds(t, "13.1: an item and a zero", b, []T{x, zero}, 0)
	for _, k := range outside(2) {
		none(t, "13.1: an item and a zero", b, k)
	}
	if !b.Double(0) || b.Double(0) || b.Put(x) {
		t.Errorf("13.1: Double of %v, and once more", x)
	}
	holds(t, "13.1: doubled", b, []T{x, zero, x}, 1)
	for _, want := range []T{x, zero, x} {
		got, ok := b.Take(0)
		same(t, "13.1: Take", got, want)
		same(t, "13.1: Take", ok, true)
	}
	for _, k := range outside(0) {
		none(t, "13.1: all are gone", b, k)
	}
	holds(t, "13.1: all are gone", b, nil, 1)
}

// TestTypes: 13.1, anything may be an item, a zero too.
func TestTypes(t *testing.T) {
	n := 5
	carried(t, math.MinInt)
	carried[uint64](t, math.MaxUint64)
	carried[int8](t, -128)
	carried(t, 0.5)
	carried(t, 1i)
	carried(t, true)
	carried(t, "text")
	carried(t, "")
	carried[name](t, "EUR")
	carried(t, note{from: 1, to: 2, text: "a", flags: [3]bool{true, false, true}, data: []byte("bc")})
	carried(t, &note{from: 3})
	carried(t, api.Datagram{From: 1, To: 2, Bytes: []byte("ab")})
	carried(t, api.ErrArg)
	carried(t, struct{}{})
	carried(t, [4]int{1, 2, 3, 4})
	carried(t, []byte("ab"))
	carried(t, []string{"a", "", "b"})
	carried(t, [][]int{{1}, nil, {2, 3}})
	carried(t, map[string]int{"a": 1})
	carried(t, &n)
	carried[any](t, "any")
	carried[any](t, []int{1})
	carried[error](t, nil)
	carried(t, made[int](t, 1))
}

// TestFunctions: 13.1, items that can not be held against each other.
func TestFunctions(t *testing.T) {
	b := made[func(int) int](t, 2)
	b.Put(nil)
	b.Put(func(n int) int { return n + 1 })
	if f, ok := b.Peek(0); f != nil || !ok {
		t.Errorf("13.1: Peek of a nil function: %v", ok)
	}
	if f, ok := b.Take(2); f != nil || ok {
		t.Errorf("13.1: Take of a function that is not there: %v", ok)
	}
	b.Take(0)
	b.Double(0)
	for k, f := range b.All() {
		if f == nil || f(k) != k+1 {
			t.Errorf("13.1: All of functions: item %d", k)
		}
	}
	if b.Len() != 2 {
		t.Errorf("13.1: Len of functions: %d", b.Len())
	}
}

// TestSlices: 13.1, slices as items: each is told with the length it was put with, and
// an empty one is an item like others.
func TestSlices(t *testing.T) {
	whole := []byte("abcd")
	b := filled(t, 4, whole[:1], whole[:0], whole[1:3])
	whole = nil
	for k, want := range []string{"a", "", "bc"} {
		if x, ok := b.Peek(k); string(x) != want || !ok {
			t.Errorf("13.1: Peek(%d): %q %v, not %q", k, x, ok, want)
		}
	}
	if !b.Double(1) || b.Double(2) {
		t.Error("13.1: Double of an empty slice, and of a full Bag")
	}
	if x, ok := b.Take(3); len(x) != 0 || !ok {
		t.Errorf("13.1: Take of an empty slice: %q %v", x, ok)
	}
	if x, ok := b.Take(3); x != nil || ok {
		t.Errorf("13.1: Take of a slice that is not there: %q %v", x, ok)
	}
	if x, ok := made[[]byte](t, 1).Peek(0); x != nil || ok {
		t.Errorf("13.1: Peek of an empty Bag of slices: %q %v", x, ok)
	}
}
