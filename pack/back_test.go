package pack_test

import (
	"bytes"
	"math"
	"math/rand/v2"
	"testing"

	"bursar/api"
	"bursar/pack"
)

// item is a value that is written and read again: of a byte, a number, an int or a text.
type item struct {
	kind int
	num  uint64
	text []byte
}

func (x item) lay(w *pack.Writer) {
	switch x.kind {
	case 0:
		w.Byte(byte(x.num))
	case 1:
		w.Num(x.num)
	case 2:
		w.Int(int64(x.num))
	case 3:
		w.Text(x.text)
	}
}

// read reads an item of x's kind, with limits that are x itself or much more.
func (x item) read(r *pack.Reader, wide bool) item {
	got := item{kind: x.kind}
	num, text := x.num, len(x.text)
	if wide {
		num, text = math.MaxUint64, math.MaxInt
	}
	switch x.kind {
	case 0:
		got.num = uint64(r.Byte(byte(num)))
	case 1:
		got.num = r.Num(num)
	case 2:
		got.num = uint64(r.Int())
	case 3:
		got.text = r.Text(text)
	}
	return got
}

func (x item) equal(y item) bool {
	return x.kind == y.kind && x.num == y.num && bytes.Equal(x.text, y.text)
}

// drawn answers a row of items, alike for the same numbers.
func drawn(rnd *rand.Rand) []item {
	row := make([]item, rnd.IntN(8))
	for i := range row {
		kind := rnd.IntN(4)
		// All lengths of numbers are to come up alike often.
		n := rnd.Uint64() >> rnd.IntN(64)
		switch kind {
		case 0:
			row[i] = item{kind: kind, num: n & 255}
		case 3:
			row[i] = item{kind: kind, text: rising(rnd.IntN(200))}
		default:
			row[i] = item{kind: kind, num: n}
		}
	}
	return row
}

func lay(row []item) []byte {
	return laid(func(w *pack.Writer) {
		for _, x := range row {
			x.lay(w)
		}
	})
}

// TestBack: 1.4, what was written is read, and nothing is left.
func TestBack(t *testing.T) {
	rnd := rand.New(rand.NewPCG(1, 4))
	for range 2000 {
		row := drawn(rnd)
		b := lay(row)
		for _, wide := range []bool{false, true} {
			r := pack.NewReader(b)
			for _, x := range row {
				if got := x.read(r, wide); !got.equal(x) {
					t.Fatalf("1.4: %v is read as %v", x, got)
				}
			}
			ends(t, "1.4: back", r, api.OK)
		}
	}
	for _, n := range edges() {
		for kind := 1; kind <= 2; kind++ {
			x := item{kind: kind, num: n}
			r := pack.NewReader(lay([]item{x}))
			if got := x.read(r, false); !got.equal(x) || r.End() != api.OK {
				t.Errorf("1.4: %v is read as %v", x, got)
			}
		}
	}
}

// TestPrefix: 1.4, what is cut off anywhere ends too early.
func TestPrefix(t *testing.T) {
	rnd := rand.New(rand.NewPCG(1, 5))
	for range 300 {
		row := drawn(rnd)
		b := lay(row)
		for k := range b {
			r := pack.NewReader(b[:k])
			for _, x := range row {
				x.read(r, false)
			}
			ends(t, "1.4: prefix", r, api.ErrShort)
		}
	}
}

// TestOneForm: 1.4, whatever bytes can be read are written as the same bytes.
func TestOneForm(t *testing.T) {
	check := func(b []byte) {
		for kind := range 4 {
			r := pack.NewReader(b)
			got := item{kind: kind}.read(r, true)
			if r.End() != api.OK {
				continue
			}
			if w := lay([]item{got}); !bytes.Equal(w, b) {
				t.Fatalf("1.4: % x is read as %v, which is written % x", b, got, w)
			}
		}
	}
	for x := range 256 {
		check([]byte{byte(x)})
		for y := range 256 {
			check([]byte{byte(x), byte(y)})
			for _, z := range []byte{0, 1, 2, 127, 128, 129, 255} {
				check([]byte{byte(x), byte(y), z})
				check([]byte(nine[:8] + string([]byte{byte(x), byte(y), z})))
			}
		}
	}
}

// TestSealedByte: 1.4, one byte that was changed is seen.
func TestSealedByte(t *testing.T) {
	for _, n := range []int{0, 1, 2, 9, 40} {
		s := pack.Seal(rising(n))
		for i := range s {
			for x := 1; x < 256; x++ {
				c := bytes.Clone(s)
				c[i] ^= byte(x)
				if b, e := pack.Unseal(c); e != api.ErrSum || len(b) != 0 {
					t.Fatalf("1.4: byte %d of %d changed by %d: % x %d", i, len(s), x, b, e)
				}
			}
		}
	}
}
