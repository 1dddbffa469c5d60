package whole

import (
	"math/bits"
	"slices"
)

// gcd is the greatest common divisor: Euclid's way, but the top words of long rows
// tell many steps at once (Lehmer's way), so that the rows are seldom divided whole.
func (r row) gcd(b row) row {
	if r.order(b) < 0 {
		r, b = b, r
	}
	for len(b) > 1 {
		greater, lesser := stepsOf(r, b)
		if greater.b != 0 {
			r, b = greater.of(r, b), lesser.of(r, b)
		} else { // the top words tell too little
			_, rest := r.split(b)
			r, b = b, rest
		}
	}
	if len(b) == 0 {
		return slices.Clone(r)
	}
	_, rest := r.split(b)
	return row{b[0]}.wordGCD(rest)
}

// wordGCD is gcd of rows of at most one word, of which r is not 0.
func (r row) wordGCD(b row) row {
	if len(b) == 0 {
		return r
	}
	x, y := r[0], b[0]
	for y != 0 {
		x, y = y, x%y
	}
	return row{x}
}

// mix is what Euclid's steps make of two rows: how far so many times the one is from so many times the other.
type mix struct{ a, b uint64 }

// of is the number that m makes of a and b.
func (m mix) of(a, b row) row {
	x, y := a.times(row{m.a}), b.times(row{m.b})
	if x.order(y) < 0 {
		x, y = y, x
	}
	x.takeOff(y)
	return x.trimmed()
}

// stepsOf tells a pair of numbers that Euclid's steps from a and b on come through, as their top words tell it;
// a is not below b, and b has two words or more.
func stepsOf(a, b row) (mix, mix) {
	shift := uint(bits.LeadingZeros64(a[len(a)-1]))
	high, low := a.top(len(a), shift), b.top(len(a), shift)
	before, now, next := mix{}, mix{a: 1}, mix{b: 1}
	// While this holds (Collins' condition), the steps up to before and now are the same
	// whatever stands below the top words.
	for low >= next.b && high-low >= now.b+next.b {
		q := high / low
		high, low = low, high%low
		before, now, next = now, next, mix{now.a + q*next.a, now.b + q*next.b}
	}
	return before, now
}

// top is the highest word of r, shifted up, as if r had n words; n is not below 2 and not below its length.
func (r row) top(n int, shift uint) uint64 {
	switch len(r) {
	case n:
		return r[n-1]<<shift | r[n-2]>>(64-shift)
	case n - 1:
		return r[n-2] >> (64 - shift)
	}
	return 0
}
