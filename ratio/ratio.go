// Package ratio works with fractions: see doc/02-ratio.md.
package ratio

import (
	"strings"

	"surd/whole"
)

const (
	maxText   = 2000
	maxPlaces = 100
)

// Rat is a fraction. Its zero value is 0.
type Rat struct {
	num whole.Int
	den whole.Int // above 1; 0 stands for 1, so that the zero value is a fraction like others
}

func isZero(n whole.Int) bool {
	return n.Order(whole.Int{}) == 0
}

// Of makes a Rat (B2).
func Of(n whole.Int, d whole.Int) (Rat, bool) {
	if isZero(d) {
		return Rat{}, false
	}
	return reduced(n, d), true
}

// reduced is n / d in its least numbers; d is not 0.
func reduced(n, d whole.Int) Rat {
	common := n.GCD(d)
	if d.Order(whole.Int{}) < 0 {
		common = whole.Int{}.Minus(common) // turns both signs
	}
	return least(part(n, common), part(d, common))
}

// least is n / d, of which the numbers are the least ones already, d above 0.
func least(n, d whole.Int) Rat {
	if d.Order(whole.Of(1)) == 0 {
		return Rat{num: n}
	}
	return Rat{n, d}
}

// part is n / d, where d divides n.
func part(n, d whole.Int) whole.Int {
	q, _, _ := n.Split(d)
	return q
}

// Parse reads a fraction (B2).
func Parse(s string) (Rat, bool) {
	if len(s) > maxText {
		return Rat{}, false
	}
	above, below, parted := strings.Cut(s, "/")
	n, ok := whole.Parse(above)
	if !ok || !parted {
		return Rat{num: n}, ok
	}
	d, ok := whole.Parse(below)
	if !ok || d.Order(whole.Int{}) <= 0 {
		return Rat{}, false
	}
	return reduced(n, d), true
}

// Text writes a fraction (B2).
func (a Rat) Text() string {
	if a.isWhole() {
		return a.num.Text()
	}
	return a.num.Text() + "/" + a.den.Text()
}

func (a Rat) isWhole() bool {
	return isZero(a.den)
}

// Num is the number above (B1).
func (a Rat) Num() whole.Int {
	return a.num
}

// Den is the number below (B1).
func (a Rat) Den() whole.Int {
	if a.isWhole() {
		return whole.Of(1)
	}
	return a.den
}

// Plus is the sum (B3).
func (a Rat) Plus(b Rat) Rat {
	if a.isWhole() && b.isWhole() {
		return Rat{num: a.num.Plus(b.num)}
	}
	// Only what both numbers below have in common can divide the one above, too:
	// to look for it there keeps the numbers small.
	common := a.Den().GCD(b.Den())
	left, right := part(a.Den(), common), part(b.Den(), common)
	above := a.num.Times(right).Plus(b.num.Times(left))
	again := above.GCD(common)
	return least(part(above, again), left.Times(part(b.Den(), again)))
}

// Minus is the difference (B3).
func (a Rat) Minus(b Rat) Rat {
	return a.Plus(Rat{whole.Int{}.Minus(b.num), b.den})
}

// Times is the product (B3).
func (a Rat) Times(b Rat) Rat {
	if a.isWhole() && b.isWhole() {
		return Rat{num: a.num.Times(b.num)}
	}
	// Each fraction is in its least numbers: only crosswise there can be something in common.
	down, up := a.num.GCD(b.Den()), b.num.GCD(a.Den())
	above := part(a.num, down).Times(part(b.num, up))
	return least(above, part(a.Den(), up).Times(part(b.Den(), down)))
}

// Over is the quotient (B3).
func (a Rat) Over(b Rat) (Rat, bool) {
	return Of(a.num.Times(b.Den()), a.Den().Times(b.num))
}

// Order tells which is the greater one (B3).
func (a Rat) Order(b Rat) int {
	if a.isWhole() && b.isWhole() {
		return a.num.Order(b.num)
	}
	return a.num.Times(b.Den()).Order(b.num.Times(a.Den()))
}

// Floor rounds down (B3).
func (a Rat) Floor() whole.Int {
	q, _, _ := a.num.Split(a.Den())
	return q
}

// Digits writes a fraction with so many places (B4).
func (a Rat) Digits(n int) string {
	n = min(max(n, 0), maxPlaces)
	scale, _ := whole.Of(10).Power(n)
	digits, below := strings.CutPrefix(Rat{a.num.Times(scale), a.den}.Floor().Text(), "-")
	if missing := n + 1 - len(digits); missing > 0 { // the whole part has a digit, too
		digits = strings.Repeat("0", missing) + digits
	}
	point := len(digits) - n
	text := digits[:point]
	if below {
		text = "-" + text
	}
	if n > 0 {
		text += "." + digits[point:]
	}
	return text
}
