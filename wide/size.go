package wide

import (
	"cmp"
	"math/bits"

	"bursar/api"
)

const wordTens = 19 // 10^19 is the greatest power of ten in a word

// ten answers 10^k, for a k up to wordTens.
func ten(k int) uint64 {
	p := uint64(1)
	for range k {
		p *= 10
	}
	return p
}

// size is how great a number is without its sign. It goes up to 2^128 - 1, so
// that -2^127 has one.
type size struct{ hi, lo uint64 }

// turned answers what m is short of 2^128, which is how -m is written.
func (m size) turned() size { return size{}.less(m) }

// sized answers how great a is, and whether it is below zero.
func sized(a api.Wide) (size, bool) {
	m := size{uint64(a.Hi), a.Lo}
	if a.Hi < 0 {
		return m.turned(), true
	}
	return m, false
}

// signed answers the number that is m great, or ErrOver.
func (m size) signed(minus bool) (api.Wide, api.Errno) {
	n := m
	if minus {
		n = m.turned()
	}
	a := api.Wide{Hi: int64(n.hi), Lo: n.lo}
	// What is too great has come round to the other sign; 0 has none.
	if m != (size{}) && (a.Hi < 0) != minus {
		return api.Wide{}, api.ErrOver
	}
	return a, api.OK
}

// compare answers -1, 0 or 1: m is below, at or above n.
func (m size) compare(n size) int {
	return cmp.Or(cmp.Compare(m.hi, n.hi), cmp.Compare(m.lo, n.lo))
}

// less answers m - n, from 2^128 down where n is greater.
func (m size) less(n size) size {
	lo, borrow := bits.Sub64(m.lo, n.lo, 0)
	hi, _ := bits.Sub64(m.hi, n.hi, borrow)
	return size{hi, lo}
}

// by answers how often n, which is not 0, goes into m, and what is left.
func (m size) by(n size) (q, r size) {
	if n.hi > 0 {
		return m.byTwo(n)
	}
	q.hi, r.lo = bits.Div64(0, m.hi, n.lo)
	q.lo, r.lo = bits.Div64(r.lo, m.lo, n.lo)
	return q, r
}

// byTwo is by for an n of two words: what it answers first has one.
func (m size) byTwo(n size) (q, r size) {
	// The 64 highest bits of n alone, and m halved so that the quotient has a
	// place in a word, tell it, or one more: so one less is taken, and mended.
	shift := bits.LeadingZeros64(n.hi)
	top := n.hi<<shift | n.lo>>(64-shift)
	guess, _ := bits.Div64(m.hi>>1, m.hi<<63|m.lo>>1, top)
	guess >>= 63 - shift
	if guess > 0 {
		guess--
	}
	hi, lo := bits.Mul64(guess, n.lo)
	r = m.less(size{hi + guess*n.hi, lo})
	if r.compare(n) >= 0 {
		guess++
		r = r.less(n)
	}
	return size{lo: guess}, r
}

// words is a product of two sizes, its lowest word first.
type words [4]uint64

// times answers m times n.
func times(m, n size) (p words) {
	for i, x := range [2]uint64{m.lo, m.hi} {
		over := uint64(0)
		for k, y := range [2]uint64{n.lo, n.hi} {
			hi, lo := bits.Mul64(x, y)
			lo, carry := bits.Add64(lo, over, 0)
			hi += carry
			p[i+k], carry = bits.Add64(p[i+k], lo, 0)
			over = hi + carry
		}
		p[i+2] = over
	}
	return p
}

// product answers how great a times b is, and whether they differ in sign.
func product(a, b api.Wide) (words, bool) {
	m, minusA := sized(a)
	n, minusB := sized(b)
	return times(m, n), minusA != minusB
}

// signed answers the number that is p great, or ErrOver.
func (p words) signed(minus bool) (api.Wide, api.Errno) {
	if p[2]|p[3] > 0 {
		return api.Wide{}, api.ErrOver
	}
	return size{p[1], p[0]}.signed(minus)
}

// scale divides p by 10^k, for a k up to mostScale, and rounds half-even.
func (p *words) scale(k int) {
	// Two powers that have a place in a word each stand for one that has none.
	first := ten(min(k, mostScale/2))
	second := ten(k - min(k, mostScale/2))
	small := p.cut(first)
	great := p.cut(second)
	hi, lo := bits.Mul64(great, first)
	lo, carry := bits.Add64(lo, small, 0)
	hi += carry
	// The rest is less than 10^36, so its double has a place.
	double := size{hi<<1 | lo>>63, lo << 1}
	hi, lo = bits.Mul64(first, second)
	switch double.compare(size{hi, lo}) {
	case 1:
		p.add(1)
	case 0:
		p.add(p[0] & 1)
	}
}

// cut divides p by d, which is not 0, and answers what is left.
func (p *words) cut(d uint64) (rest uint64) {
	for i := len(p) - 1; i >= 0; i-- {
		p[i], rest = bits.Div64(rest, p[i], d)
	}
	return rest
}

// add adds n to p.
func (p *words) add(n uint64) {
	for i := range p {
		p[i], n = bits.Add64(p[i], n, 0)
	}
}
