package poly

import (
	"strings"

	"surd/api"
	"surd/ratio"
)

const (
	maxText   = 300
	maxDigits = 12
	maxPower  = 8
)

// fault is what a reader panics with: the first thing in the text that is wrong.
type fault struct {
	errno api.Errno
	place int
}

// Parse reads a polynomial (D2).
func Parse(s string) (Poly, api.Errno, int) {
	if len(s) > maxText {
		return Poly{}, api.ErrLong, 0
	}
	p, f := read(s)
	return p, f.errno, f.place
}

// read reads a whole text; a fault's errno is OK, if there is none.
func read(s string) (p Poly, f fault) {
	defer func() {
		if found, ok := recover().(fault); ok {
			p, f = Poly{}, found
		}
	}()
	r := reader{text: s}
	return r.poly(), fault{}
}

// reader goes through a text from the left; each of its methods takes what it reads.
type reader struct {
	text  string
	place int
}

// fail ends the reading.
func (r *reader) fail(errno api.Errno, place int) {
	panic(fault{errno, place})
}

// ended tells whether nothing but blanks is left, and goes past them.
func (r *reader) ended() bool {
	for r.place < len(r.text) && r.text[r.place] == ' ' {
		r.place++
	}
	return r.place == len(r.text)
}

// found tells whether the sign c stands there, and takes it.
func (r *reader) found(c byte) bool {
	if r.ended() || r.text[r.place] != c {
		return false
	}
	r.place++
	return true
}

// atDigit tells whether a NUMBER stands there.
func (r *reader) atDigit() bool {
	return !r.ended() && isDigit(r.text[r.place])
}

func isDigit(c byte) bool {
	return c >= '0' && c <= '9'
}

// poly reads the whole text.
func (r *reader) poly() Poly {
	sum := make(row[ratio.Rat], maxPower+1)
	join := ratio.Rat.Plus
	if r.found('-') {
		join = ratio.Rat.Minus
	}
	for {
		c, power := r.term()
		sum[power] = join(sum[power], c)
		switch {
		case r.found('+'):
			join = ratio.Rat.Plus
		case r.found('-'):
			join = ratio.Rat.Minus
		case r.ended():
			return made(sum)
		default:
			r.fail(api.ErrForm, r.place)
		}
	}
}

// term reads a term's coefficient and its power.
func (r *reader) term() (ratio.Rat, int) {
	c := wholeRat(1)
	hasCoef := r.atDigit()
	if hasCoef {
		c = r.coef()
	}
	switch {
	case r.found('x'):
		return c, r.power()
	case !hasCoef:
		r.fail(api.ErrForm, r.place)
	}
	return c, 0
}

// coef reads a coefficient.
func (r *reader) coef() ratio.Rat {
	text, _ := r.number()
	if r.found('/') {
		below, place := r.number()
		if below == "0" {
			r.fail(api.ErrZero, place)
		}
		text += "/" + below
	}
	c, _ := ratio.Parse(text)
	return c
}

// power reads what may stand behind `x`.
func (r *reader) power() int {
	if !r.found('^') {
		return 1
	}
	digits, place := r.number()
	if len(digits) > 1 || digits[0]-'0' > maxPower {
		r.fail(api.ErrRange, place)
	}
	return int(digits[0] - '0')
}

// number reads a NUMBER: its digits without needless zeros, and the place of the first one.
func (r *reader) number() (string, int) {
	if !r.atDigit() {
		r.fail(api.ErrForm, r.place)
	}
	place := r.place
	for r.place < len(r.text) && isDigit(r.text[r.place]) {
		r.place++
	}
	digits := r.text[place:r.place]
	if len(digits) > maxDigits {
		r.fail(api.ErrRange, place)
	}
	if digits = strings.TrimLeft(digits, "0"); digits == "" {
		digits = "0"
	}
	return digits, place
}
