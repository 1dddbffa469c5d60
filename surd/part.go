package surd

import (
	"strconv"

	"surd/api"
	"surd/poly"
	"surd/ratio"
)

// refusal is the answer to a line that has none. A word panics with it, so that nothing behind the first part that is wrong is asked for.
type refusal string

// refused writes an error, and its place, if one is told.
func refused(e api.Errno, places ...int) refusal {
	text := "ERR " + strconv.Itoa(int(e))
	for _, place := range places {
		text += " " + strconv.Itoa(place)
	}
	return refusal(text)
}

// next takes the first one of the parts that are left, and reads it.
func next[T any](left *[]string, read func(string) T) T {
	first := (*left)[0]
	*left = (*left)[1:]
	return read(first)
}

// sure is what was read, if it could be.
func sure[T any](v T, ok bool) T {
	if !ok {
		panic(refused(api.ErrForm))
	}
	return v
}

func polynomial(s string) poly.Poly {
	p, e, place := poly.Parse(s)
	if e != api.OK {
		panic(refused(e, place))
	}
	return p
}

func fraction(s string) ratio.Rat {
	return sure(ratio.Parse(s))
}

func number(s string) int {
	return sure(digits(s))
}

// digits reads one or two digits.
func digits(s string) (int, bool) {
	if len(s) != 1 && len(s) != 2 {
		return 0, false
	}
	n := 0
	for i := range len(s) {
		if s[i] < '0' || s[i] > '9' {
			return 0, false
		}
		n = 10*n + int(s[i]-'0')
	}
	return n, true
}

// itself reads a part that is handed on as it stands.
func itself(s string) string {
	return s
}
