// Package whole works with whole numbers of any size: see doc/01-whole.md.
package whole

import "strings"

const (
	maxText  = 2000
	maxPower = 200
)

// Int is a whole number. Its zero value is 0.
type Int struct {
	below bool // below 0
	size  row  // the number without its sign
}

// signed gives a number its sign; 0 has none, so that each number is told in one way only.
func signed(below bool, size row) Int {
	return Int{below && len(size) > 0, size}
}

// Of makes an Int (A2).
func Of(n int) Int {
	if n < 0 {
		return signed(true, row{-uint64(n)}) // the lowest int has no negative, but its word has
	}
	return signed(false, row{uint64(n)}.trimmed())
}

// Parse reads a number (A2).
func Parse(s string) (Int, bool) {
	digits, below := strings.CutPrefix(s, "-")
	if len(s) > maxText || !isNumber(digits) || below && digits == "0" {
		return Int{}, false
	}
	return signed(below, read(digits)), true
}

// isNumber tells whether s is digits alone, without a needless zero.
func isNumber(s string) bool {
	for i := range len(s) {
		if s[i] < '0' || s[i] > '9' {
			return false
		}
	}
	return s == "0" || s != "" && s[0] != '0'
}

// Text writes a number (A2).
func (a Int) Text() string {
	switch {
	case len(a.size) == 0:
		return "0"
	case a.below:
		return "-" + a.size.text()
	}
	return a.size.text()
}

// Plus is the sum (A3).
func (a Int) Plus(b Int) Int {
	switch {
	case a.below == b.below:
		return signed(a.below, a.size.plus(b.size))
	case a.size.order(b.size) < 0:
		return signed(b.below, b.size.minus(a.size))
	}
	return signed(a.below, a.size.minus(b.size))
}

// Minus is the difference (A3).
func (a Int) Minus(b Int) Int {
	return a.Plus(signed(!b.below, b.size))
}

// Times is the product (A3).
func (a Int) Times(b Int) Int {
	return signed(a.below != b.below, a.size.times(b.size))
}

// Split is quotient and rest (A3).
func (a Int) Split(b Int) (Int, Int, bool) {
	if len(b.size) == 0 {
		return Int{}, Int{}, false
	}
	quotient, rest := a.size.split(b.size)
	if a.below && len(rest) > 0 { // the rest is not below 0: the quotient is one further from 0
		quotient, rest = quotient.plus(row{1}), b.size.minus(rest)
	}
	return signed(a.below != b.below, quotient), signed(false, rest), true
}

// GCD is the greatest common divisor (A3).
func (a Int) GCD(b Int) Int {
	return signed(false, a.size.gcd(b.size))
}

// Order tells which is the greater one (A3).
func (a Int) Order(b Int) int {
	switch {
	case a.below != b.below:
		return sign(b.below)
	case a.below:
		return b.size.order(a.size)
	}
	return a.size.order(b.size)
}

// Power multiplies a number with itself (A3).
func (a Int) Power(n int) (Int, bool) {
	switch {
	case n < 0 || n > maxPower:
		return Int{}, false
	case n == 0:
		return Of(1), true
	}
	return signed(a.below && n%2 == 1, a.size.power(uint(n))), true
}
