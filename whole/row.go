package whole

import (
	"math/bits"
	"slices"
	"strconv"
	"strings"
)

// A chunk is as many digits of base ten as always fit into one word.
const (
	chunkDigits = 19
	chunkValue  = 10_000_000_000_000_000_000
)

// row is a number that is not below 0: its words, the lowest one first.
// Rows that are handed from one function to another have no zeros on top,
// so that 0 is the empty row, and the longer of two rows is the greater one.
type row []uint64

// trimmed leaves the zeros on top away.
func (r row) trimmed() row {
	for i, w := range slices.Backward(r) {
		if w != 0 {
			return r[:i+1]
		}
	}
	return nil
}

// order is -1, 0 or 1, as r is below, equal to or above b.
func (r row) order(b row) int {
	if len(r) != len(b) {
		return sign(len(r) > len(b))
	}
	for i, w := range slices.Backward(r) {
		if w != b[i] {
			return sign(w > b[i])
		}
	}
	return 0
}

// sign is the order of two things that are not equal.
func sign(above bool) int {
	if above {
		return 1
	}
	return -1
}

// add adds b, which is not longer, to r in its place, and tells what goes over.
func (r row) add(b row) uint64 {
	var carry uint64
	for i, w := range b {
		r[i], carry = bits.Add64(r[i], w, carry)
	}
	for i := len(b); i < len(r) && carry != 0; i++ {
		r[i], carry = bits.Add64(r[i], 0, carry)
	}
	return carry
}

// takeOff takes b, which is not longer, off r in its place, and tells what is missing.
func (r row) takeOff(b row) uint64 {
	var borrow uint64
	for i, w := range b {
		r[i], borrow = bits.Sub64(r[i], w, borrow)
	}
	for i := len(b); i < len(r) && borrow != 0; i++ {
		r[i], borrow = bits.Sub64(r[i], 0, borrow)
	}
	return borrow
}

// addTimes adds b times w to r, which has b's length, in its place, and tells what goes over.
func (r row) addTimes(b row, w uint64) uint64 {
	var over uint64
	for i, x := range b {
		high, low := bits.Mul64(x, w)
		low, carry := bits.Add64(low, over, 0)
		high += carry // cannot overflow: a product's high word is never all ones
		r[i], carry = bits.Add64(r[i], low, 0)
		over = high + carry
	}
	return over
}

// takeOffTimes takes b times w off r, which is one word longer than b, in its place, and tells what is missing.
func (r row) takeOffTimes(b row, w uint64) uint64 {
	var over, borrow uint64
	for i, x := range b {
		high, low := bits.Mul64(x, w)
		low, carry := bits.Add64(low, over, 0)
		over = high + carry
		r[i], borrow = bits.Sub64(r[i], low, borrow)
	}
	r[len(b)], borrow = bits.Sub64(r[len(b)], over, borrow)
	return borrow
}

// plus is the sum.
func (r row) plus(b row) row {
	if len(r) < len(b) {
		r, b = b, r
	}
	sum := make(row, len(r)+1)
	copy(sum, r)
	sum.add(b)
	return sum.trimmed()
}

// minus is the difference of r and a b that is not above it.
func (r row) minus(b row) row {
	rest := make(row, len(r))
	copy(rest, r)
	rest.takeOff(b)
	return rest.trimmed()
}

// times is the product.
func (r row) times(b row) row {
	return product(make(row, len(r)+len(b)), r, b)
}

// product works a times b out in room, which has as many words as both or more, and shares none with them.
func product(room, a, b row) row {
	room = room[:len(a)+len(b)]
	clear(room)
	for i, w := range a {
		room[i+len(b)] = room[i:i+len(b)].addTimes(b, w)
	}
	return room.trimmed()
}

// power is r, n times multiplied with one another, n above 0.
func (r row) power(n uint) row {
	z := slices.Clone(r)
	room, spare := make(row, len(r)*int(n)), make(row, len(r)*int(n))
	for i := bits.Len(n) - 2; i >= 0; i-- {
		z = product(room, z, z)
		room, spare = spare, room
		if n>>uint(i)&1 == 1 {
			z = product(room, z, r)
			room, spare = spare, room
		}
	}
	return z
}

// up is r, shifted up by less than a word, with a word on top for what goes over.
func (r row) up(shift uint) row {
	z := make(row, len(r)+1)
	for i, w := range r {
		z[i] |= w << shift
		z[i+1] = w >> (64 - shift)
	}
	return z
}

// down is r, shifted down by less than a word.
func (r row) down(shift uint) row {
	z := make(row, len(r))
	var over uint64
	for i, w := range slices.Backward(r) {
		z[i] = over | w>>shift
		over = w << (64 - shift)
	}
	return z.trimmed()
}

// splitByWord divides r by w, which is not 0, in its place, and tells the rest.
func (r row) splitByWord(w uint64) uint64 {
	var rest uint64
	for i, x := range slices.Backward(r) {
		r[i], rest = bits.Div64(rest, x, w)
	}
	return rest
}

// split is quotient and rest of a division by b, which is not 0.
func (r row) split(b row) (row, row) {
	if len(r) < len(b) {
		return nil, slices.Clone(r)
	}
	if len(b) == 1 {
		quotient := slices.Clone(r)
		rest := quotient.splitByWord(b[0])
		return quotient.trimmed(), row{rest}.trimmed()
	}
	// The guesses are good only if the divisor's top bit is set.
	shift := uint(bits.LeadingZeros64(b[len(b)-1]))
	rest, divisor := r.up(shift), b.up(shift)[:len(b)]
	quotient := make(row, len(rest)-len(divisor))
	for i := range slices.Backward(quotient) {
		quotient[i] = rest[i : i+len(b)+1].splitOff(divisor)
	}
	return quotient.trimmed(), rest.down(shift)
}

// splitOff divides r, which is one word longer than b and below b times 2^64, in its place:
// the rest stays there, the quotient, a word, is told.
func (r row) splitOff(b row) uint64 {
	word := r.guess(b)
	if r.takeOffTimes(b, word) != 0 {
		word--
		r.add(b)
	}
	return word
}

// guess is the quotient's word as the three highest words of r and the two of b tell it: it may be one too great.
func (r row) guess(b row) uint64 {
	n := len(b)
	high, next := b[n-1], b[n-2]
	if r[n] >= high { // they are equal: the word is 2^64 - 2 at least, and Div64 would overflow
		return 1<<64 - 1
	}
	word, rest := bits.Div64(r[n], r[n-1], high)
	for {
		top, low := bits.Mul64(word, next)
		if top < rest || top == rest && low <= r[n-2] {
			return word
		}
		word--
		var carry uint64
		rest, carry = bits.Add64(rest, high, 0)
		if carry != 0 {
			return word
		}
	}
}

// read is the number that digits tell.
func read(digits string) row {
	var r row
	for len(digits) > 0 {
		n := (len(digits)-1)%chunkDigits + 1 // so that all chunks but the first one are whole
		chunk, _ := strconv.ParseUint(digits[:n], 10, 64)
		digits = digits[n:]
		next := make(row, len(r)+1)
		next[0] = chunk
		next[len(r)] += next[:len(r)].addTimes(r, chunkValue)
		r = next.trimmed()
	}
	return r
}

// text is the number in base ten.
func (r row) text() string {
	var chunks []uint64 // the lowest one first
	for rest := slices.Clone(r); len(rest) > 0; rest = rest.trimmed() {
		chunks = append(chunks, rest.splitByWord(chunkValue))
	}
	var b strings.Builder
	for i, c := range slices.Backward(chunks) {
		digits := strconv.FormatUint(c, 10)
		if i < len(chunks)-1 {
			b.WriteString(strings.Repeat("0", chunkDigits-len(digits)))
		}
		b.WriteString(digits)
	}
	return b.String()
}
