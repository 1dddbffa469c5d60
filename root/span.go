package root

import (
	"surd/poly"
	"surd/ratio"
	"surd/sturm"
	"surd/whole"
)

// span is the numbers above low and at most high.
type span struct {
	low, high ratio.Rat
}

func wholeRat(n int) ratio.Rat {
	a, _ := ratio.Of(whole.Of(n), whole.Of(1))
	return a
}

// around is a span that has all roots of p. Its ends are powers of 2: so the ends of halves of halves are whole for as long as can be.
func around(p poly.Poly) span {
	bound, high := sturm.Bound(p), wholeRat(1)
	for high.Order(bound) < 0 {
		high = high.Plus(high)
	}
	return span{ratio.Rat{}.Minus(high), high}
}

func (s span) middle() ratio.Rat {
	half, _ := ratio.Of(whole.Of(1), whole.Of(2))
	return s.low.Plus(s.high).Times(half)
}

// within tells whether x is between the ends.
func (s span) within(x ratio.Rat) bool {
	return s.low.Order(x) < 0 && x.Order(s.high) < 0
}

// severalParts tells whether a span has more than one whole multiple of 1/n.
func (s span) severalParts(n whole.Int) bool {
	return partsUpTo(s.high, n).Minus(partsUpTo(s.low, n)).Order(whole.Of(1)) > 0
}

// partsUpTo is the greatest number of whole parts of 1/n that are together not above x.
func partsUpTo(x ratio.Rat, n whole.Int) whole.Int {
	k, _, _ := x.Num().Times(n).Split(x.Den())
	return k
}

// halves parts a span in its middle.
func (s span) halves() (span, span) {
	lower, upper := s, s
	lower.high, upper.low = s.middle(), s.middle()
	return lower, upper
}

// parted tells, rising, spans with one root each, of a span with n of them; count counts them.
func (s span) parted(n int, count func(span) int, tell func(span)) {
	switch n {
	case 0:
	case 1:
		tell(s)
	default:
		lower, upper := s.halves()
		ahead := count(lower)
		lower.parted(ahead, count, tell)
		upper.parted(n-ahead, count, tell)
	}
}

// lost tells how many changes of signs the row has at the span's low end, and no more at its high end.
func lost(row []poly.Poly, s span) int {
	return changes(row, s.low) - changes(row, s.high)
}

// changes tells how often the sign changes in the row at x: as often as in coefficients of these signs.
func changes(row []poly.Poly, x ratio.Rat) int {
	signs := make([]ratio.Rat, len(row))
	for i, q := range row {
		signs[i] = wholeRat(signAt(q, x))
	}
	return sturm.Changes(poly.Of(signs))
}

// signAt tells on which side of 0 a polynomial with whole coefficients is at x. At does so, too, but brings each sum on
// the way to its least numbers; here all are multiplied with powers of x's number below, and stay whole.
func signAt(p poly.Poly, x ratio.Rat) int {
	var sum whole.Int
	scale := whole.Of(1)
	for i := p.Degree(); i >= 0; i-- {
		sum = sum.Times(x.Num()).Plus(p.Coef(i).Num().Times(scale))
		scale = scale.Times(x.Den())
	}
	return sum.Order(whole.Int{})
}
