package poly

import (
	"reflect"
	"strings"
	"sync"
	"testing"

	"surd/api"
	"surd/ratio"
)

// rat reads a text that a test wrote itself.
func rat(t *testing.T, s string) ratio.Rat {
	t.Helper()
	a, ok := ratio.Parse(s)
	if !ok {
		t.Fatalf("B2: Parse(%q) is refused", s)
	}
	return a
}

// rats reads fractions, blanks between them.
func rats(t *testing.T, s string) []ratio.Rat {
	t.Helper()
	var l []ratio.Rat
	for _, w := range strings.Fields(s) {
		l = append(l, rat(t, w))
	}
	return l
}

func poly(t *testing.T, s string) Poly {
	t.Helper()
	p, e, at := Parse(s)
	if e != api.OK {
		t.Fatalf("D2: Parse(%q): %d, %d", s, e, at)
	}
	return p
}

// samples is polynomials of all sorts.
func samples(t *testing.T) []Poly {
	t.Helper()
	var l []Poly
	for _, s := range []string{"0", "1", "-1", "2/3", "x", "-x", "x-1", "2x+1", "-1/2x+3/4", "x^2-2", "x^2", "x^2+x+1", "1/3x^3-2x+5/7", "x^4-4", "999999999999x^8-1/999999999999x+7", "-3x^5+x^4-1"} {
		l = append(l, poly(t, s))
	}
	return append(l, Of(rats(t, "1 0 0 0 0 0 0 0 0 0 0 0 5/2")), Of(rats(t, "0 123456789012345678901234567890/7 0 -1/340282366920938463463374607431768211456")))
}

func same(p, q Poly) bool {
	return p.Text() == q.Text() && p.Degree() == q.Degree()
}

func TestZeroValueIsZero(t *testing.T) { // D1
	var zero Poly
	p := poly(t, "x^2-2")
	if zero.Text() != "0" || zero.Degree() != -1 || !isZero(zero.Coef(0)) || !isZero(zero.At(rat(t, "5"))) || zero.Slope().Degree() != -1 || zero.Moved(rat(t, "5")).Degree() != -1 {
		t.Error("D1: Poly{} is not 0")
	}
	if !same(zero.Plus(p), p) || !same(p.Plus(zero), p) || !same(p.Minus(zero), p) || zero.Minus(p).Text() != "-x^2+2" || zero.Times(p).Degree() != -1 || p.Times(zero).Degree() != -1 || zero.Times(zero).Degree() != -1 {
		t.Error("D1: Poly{} does not count as 0")
	}
	for i, q := range []Poly{Of(nil), Of([]ratio.Rat{}), Of(make([]ratio.Rat, 9)), poly(t, "x-x"), p.Minus(p), p.Times(zero), poly(t, "7").Slope()} {
		if !reflect.DeepEqual(q, Poly{}) {
			t.Errorf("D1: zero %d is %#v", i, q)
		}
	}
}

func TestOfDegreeCoef(t *testing.T) { // D1
	for _, c := range []struct {
		l, text string
		degree  int
	}{{"", "0", -1}, {"0", "0", -1}, {"0 0 0", "0", -1}, {"5", "5", 0}, {"1 0 0", "1", 0}, {"0 1", "x", 1}, {"1 2 3", "3x^2+2x+1", 2}, {"-1/2 0 0 0 0 0 0 0 0 0 4/6 0", "2/3x^10-1/2", 10}} {
		l := rats(t, c.l)
		p := Of(l)
		if p.Text() != c.text || p.Degree() != c.degree {
			t.Errorf("D1: Of(%s): %s, %d", c.l, p.Text(), p.Degree())
		}
		for i, want := range l {
			if got := p.Coef(i); got.Order(want) != 0 {
				t.Errorf("D1: Coef(%d) of %s: %s", i, p.Text(), got.Text())
			}
		}
		for _, i := range []int{-1, -1 << 63, c.degree + 1, len(l), 1<<63 - 1} {
			if got := p.Coef(i); !reflect.DeepEqual(got, ratio.Rat{}) {
				t.Errorf("D1: Coef(%d) of %s: %s", i, p.Text(), got.Text())
			}
		}
	}
}

func TestOfKeepsNoList(t *testing.T) { // G4
	l := rats(t, "1 2 3 0")
	p := Of(l)
	l[1], l[2] = rat(t, "7"), ratio.Rat{}
	if p.Text() != "3x^2+2x+1" {
		t.Errorf("G4: became %s", p.Text())
	}
	if l[0].Text() != "1" || l[1].Text() != "7" || l[3].Text() != "0" {
		t.Error("G4: the list was changed")
	}
}

func TestPolynomialsDoNotChange(t *testing.T) { // D1, G1
	l := samples(t)
	var texts []string
	for _, p := range l {
		texts = append(texts, p.Text())
	}
	var all sync.WaitGroup
	for range 4 {
		all.Go(func() {
			for i, p := range l {
				q := l[len(l)-1-i]
				p.Plus(q)
				p.Minus(q)
				p.Times(q)
				p.Split(q)
				q.Split(p)
				p.Slope()
				p.Moved(q.Coef(0))
			}
		})
	}
	all.Wait()
	for i, p := range l {
		if p.Text() != texts[i] {
			t.Errorf("D1: %s became %s", texts[i], p.Text())
		}
	}
}

func TestParseReads(t *testing.T) { // D2, D3
	for s, want := range map[string]string{
		"0": "0", "7": "7", "-7": "-7", "x": "x", "-x": "-x", "1x": "x", "-1x": "-x", "2x": "2x", "x^0": "1", "-x^0": "-1", "x^1": "x", "x^8": "x^8", "3x^0": "3", "0x^3": "0", "0x^8-0": "0",
		"1 + x": "x+1", "-x^2+3/6x-0": "-x^2+1/2x", "x-x": "0", "x+x": "2x", "x^2-1/2x^2-1/2x^2": "0", "1/2+1/3": "5/6", "x-2x": "-x", "1-x": "-x+1",
		"007": "7", "2x^08 + 10": "2x^8+10", "x^000000000008": "x^8", "1/0004": "1/4", "000000000001": "1", "000/1": "0", "0/5x": "0",
		"999999999999": "999999999999", "1/999999999999": "1/999999999999", "-999999999999/999999999998x^8": "-999999999999/999999999998x^8", "100000000000x": "100000000000x",
		" - 3 / 4 x ^ 2 ": "-3/4x^2", "   x   ": "x", "  0  ": "0", "3/4 x ^ 2": "3/4x^2",
		"x^8+x^7+x^6+x^5+x^4+x^3+x^2+x+1":                            "x^8+x^7+x^6+x^5+x^4+x^3+x^2+x+1",
		"1+x+x^2-x^3":                                                "-x^3+x^2+x+1",
		strings.Repeat("x+", 149) + "10":                             "149x+10",
		strings.Repeat(" ", 299) + "x":                               "x",
		"x" + strings.Repeat(" ", 299):                               "x",
		strings.Repeat("1-", 149) + "10":                             "-157",
		"x^2" + strings.Repeat("-999999999999x^8", 18) + "-00000000": "-17999999999982x^8+x^2",
	} {
		if p, e, at := Parse(s); e != api.OK || at != 0 || p.Text() != want {
			t.Errorf("D2, D3: Parse(%q): %s, %d, %d, want %s", s, p.Text(), e, at, want)
		}
	}
}

type refusal struct {
	text  string
	errno api.Errno
	place int
}

func checkRefused(t *testing.T, l []refusal) {
	t.Helper()
	for _, c := range l {
		if p, e, at := Parse(c.text); e != c.errno || at != c.place || !reflect.DeepEqual(p, Poly{}) {
			t.Errorf("D2: Parse(%q): %s, %d, %d, want %d, %d", c.text, p.Text(), e, at, c.errno, c.place)
		}
	}
}

func TestParseRefusesForms(t *testing.T) { // D2: ErrForm
	checkRefused(t, []refusal{
		// what ends too early is told at the text's length
		{"", api.ErrForm, 0}, {"   ", api.ErrForm, 3}, {"-", api.ErrForm, 1}, {"- ", api.ErrForm, 2}, {"x+", api.ErrForm, 2}, {"x- ", api.ErrForm, 3}, {"x^", api.ErrForm, 2}, {"x ^  ", api.ErrForm, 5}, {"1/", api.ErrForm, 2}, {"1 / ", api.ErrForm, 4},
		// what cannot stand there is told where it stands
		{"+x", api.ErrForm, 0}, {"--x", api.ErrForm, 1}, {"x--1", api.ErrForm, 2}, {"x+-1", api.ErrForm, 2}, {"x++1", api.ErrForm, 2}, {"/2", api.ErrForm, 0}, {"^2", api.ErrForm, 0},
		{"x x", api.ErrForm, 2}, {"xx", api.ErrForm, 1}, {"x2", api.ErrForm, 1}, {"x 2", api.ErrForm, 2}, {"1 2", api.ErrForm, 2}, {"2*x", api.ErrForm, 1}, {"x^-1", api.ErrForm, 2}, {"x^x", api.ErrForm, 2}, {"x^2^2", api.ErrForm, 3}, {"x^2x", api.ErrForm, 3}, {"x^ +", api.ErrForm, 3},
		{"1/x", api.ErrForm, 2}, {"1/-2", api.ErrForm, 2}, {"1//2", api.ErrForm, 2}, {"1/2/3", api.ErrForm, 3}, {"x/2", api.ErrForm, 1}, {"x^2/3", api.ErrForm, 3}, {"1^2", api.ErrForm, 1}, {"1.5", api.ErrForm, 1}, {"1/ /", api.ErrForm, 3},
		{"X", api.ErrForm, 0}, {"y", api.ErrForm, 0}, {"(x)", api.ErrForm, 0}, {"x;", api.ErrForm, 1}, {"\tx", api.ErrForm, 0}, {"x\n", api.ErrForm, 1}, {"x\x00", api.ErrForm, 1}, {"\x00", api.ErrForm, 0}, {"1\xff", api.ErrForm, 1}, {"x²", api.ErrForm, 1}, {"٣", api.ErrForm, 0}, {"x+\u00a0", api.ErrForm, 2}, {"x :", api.ErrForm, 2}, {"x^/", api.ErrForm, 2},
		{strings.Repeat("x+", 150), api.ErrForm, 300}, {strings.Repeat(" ", 300), api.ErrForm, 300},
	})
}

func TestParseRefusesNumbers(t *testing.T) { // D2: ErrRange, ErrZero
	checkRefused(t, []refusal{
		{"1234567890123", api.ErrRange, 0}, {" 1234567890123x", api.ErrRange, 1}, {"x-0000000000000", api.ErrRange, 2}, {"1/1234567890123", api.ErrRange, 2}, {"1/0000000000000", api.ErrRange, 2}, {"0000000000001", api.ErrRange, 0}, {strings.Repeat("9", 300), api.ErrRange, 0},
		{"x^9", api.ErrRange, 2}, {"x^09", api.ErrRange, 2}, {"x^10", api.ErrRange, 2}, {"x ^  80", api.ErrRange, 5}, {"2x^999999999999", api.ErrRange, 3}, {"x^0000000000000", api.ErrRange, 2}, {"x^0000000000008", api.ErrRange, 2}, {"x^18446744073709551617", api.ErrRange, 2}, {"x+x^9", api.ErrRange, 4}, {"0x^9", api.ErrRange, 3},
		{"1/0", api.ErrZero, 2}, {"1/000000000000", api.ErrZero, 2}, {"0/0x", api.ErrZero, 2}, {"x + 1 /  00", api.ErrZero, 9}, {"-5/0", api.ErrZero, 3},
	})
}

func TestParseTellsTheFirstFromTheLeft(t *testing.T) { // D2
	checkRefused(t, []refusal{
		{"1/0+", api.ErrZero, 2}, {"1/0*", api.ErrZero, 2}, {"*1/0", api.ErrForm, 0}, {"1234567890123*", api.ErrRange, 0}, {"1*1234567890123", api.ErrForm, 1}, {"x^9+1/0", api.ErrRange, 2}, {"1/0+x^9", api.ErrZero, 2}, {"1234567890123/0", api.ErrRange, 0}, {"1/0/1234567890123", api.ErrZero, 2}, {"x^9^", api.ErrRange, 2}, {"1/0x^9", api.ErrZero, 2}, {"x x^9", api.ErrForm, 2},
	})
}

func TestParseRefusesLongTexts(t *testing.T) { // D2: ErrLong, ahead of all others
	long := strings.Repeat("x+", 150)
	checkRefused(t, []refusal{
		{long + "x", api.ErrLong, 0}, {"*" + long, api.ErrLong, 0}, {strings.Repeat(" ", 301), api.ErrLong, 0}, {strings.Repeat("9", 301), api.ErrLong, 0}, {strings.Repeat("\xff", 100000), api.ErrLong, 0},
	})
	if p, e, at := Parse(long[1:] + "1"); e != api.ErrForm || at != 0 {
		t.Errorf("D2: 300 bytes: %s, %d, %d", p.Text(), e, at)
	}
}

func TestText(t *testing.T) { // D3
	for l, want := range map[string]string{
		"0": "0", "1": "1", "-1": "-1", "1/2": "1/2", "-1/2": "-1/2", "0 1": "x", "0 -1": "-x", "0 1/2": "1/2x", "0 -1/2": "-1/2x", "0 0 1": "x^2", "0 0 -1": "-x^2", "1 1 1": "x^2+x+1", "-1 -1 -1": "-x^2-x-1", "1 0 -3/4": "-3/4x^2+1", "-1 1 0 1": "x^3+x-1", "11 11": "11x+11", "0 0 0 0 0 0 0 0 0 0 0 0 1": "x^12",
		"18446744073709551616 -1/18446744073709551616": "-1/18446744073709551616x+18446744073709551616",
	} {
		if p := Of(rats(t, l)); p.Text() != want {
			t.Errorf("D3: %s: %s, want %s", l, p.Text(), want)
		}
	}
}

func TestTextIsReadAsItself(t *testing.T) { // D2, D3
	for _, p := range samples(t) {
		if p.Degree() <= 8 && len(p.Text()) < 40 {
			if q := poly(t, p.Text()); !same(p, q) {
				t.Errorf("D3: %s is read as %s", p.Text(), q.Text())
			}
		}
	}
}

func TestArithmetic(t *testing.T) { // D4: held against what the polynomials are worth at several places
	places := rats(t, "0 1 -1 2 -5/3 1/7 100 -12345678901234567890/11")
	for _, p := range samples(t) {
		for _, q := range samples(t) {
			sum, less, times := p.Plus(q), p.Minus(q), p.Times(q)
			for _, x := range places {
				a, b := p.At(x), q.At(x)
				if sum.At(x).Order(a.Plus(b)) != 0 || less.At(x).Order(a.Minus(b)) != 0 || times.At(x).Order(a.Times(b)) != 0 {
					t.Fatalf("D4: %s and %s: %s, %s, %s", p.Text(), q.Text(), sum.Text(), less.Text(), times.Text())
				}
			}
			if p.Degree() >= 0 && q.Degree() >= 0 && times.Degree() != p.Degree()+q.Degree() {
				t.Fatalf("D4: %s times %s: %s", p.Text(), q.Text(), times.Text())
			}
		}
	}
}

func TestSplitLaw(t *testing.T) { // D4
	for _, p := range samples(t) {
		for _, q := range samples(t) {
			quotient, rest, ok := p.Split(q)
			if q.Degree() < 0 {
				if ok || !reflect.DeepEqual(quotient, Poly{}) || !reflect.DeepEqual(rest, Poly{}) {
					t.Errorf("D4: %s by 0: %s, %s, %v", p.Text(), quotient.Text(), rest.Text(), ok)
				}
				continue
			}
			if back := q.Times(quotient).Plus(rest); !ok || !same(back, p) || rest.Degree() >= q.Degree() {
				t.Fatalf("D4: %s by %s: %s, %s", p.Text(), q.Text(), quotient.Text(), rest.Text())
			}
			if quotient, rest, _ = p.Times(q).Split(q); !same(quotient, p) || rest.Degree() != -1 {
				t.Fatalf("D4: %s times %s, and back: %s, %s", p.Text(), q.Text(), quotient.Text(), rest.Text())
			}
		}
	}
}

func TestSplit(t *testing.T) { // D4
	for _, c := range []struct{ p, q, quotient, rest string }{
		{"x^3-2x+1", "2x-1", "1/2x^2+1/4x-7/8", "1/8"}, {"x^3-1", "x-1", "x^2+x+1", "0"}, {"x", "x^2", "0", "x"}, {"x^2+1", "2", "1/2x^2+1/2", "0"}, {"0", "x", "0", "0"}, {"5", "7", "5/7", "0"}, {"x^4", "-x^2+1", "-x^2-1", "1"}, {"x^8", "x^8", "1", "0"},
	} {
		quotient, rest, ok := poly(t, c.p).Split(poly(t, c.q))
		if !ok || quotient.Text() != c.quotient || rest.Text() != c.rest {
			t.Errorf("D4: %s by %s: %s, %s", c.p, c.q, quotient.Text(), rest.Text())
		}
	}
}

func TestAt(t *testing.T) { // D4
	for _, c := range []struct{ p, x, want string }{
		{"x^3-2x+1", "1/2", "1/8"}, {"x^3-2x+1", "0", "1"}, {"x^3-2x+1", "-2", "-3"}, {"5", "7", "5"}, {"0", "7", "0"}, {"x", "-3/4", "-3/4"}, {"x^2-2", "18446744073709551616", "340282366920938463463374607431768211454"}, {"x^8", "1/10", "1/100000000"},
	} {
		if y := poly(t, c.p).At(rat(t, c.x)); y.Text() != c.want {
			t.Errorf("D4: %s at %s: %s", c.p, c.x, y.Text())
		}
	}
}

func TestSlope(t *testing.T) { // D4
	for s, want := range map[string]string{"0": "0", "5": "0", "x": "1", "-1/2x+3": "-1/2", "x^3-2x+1": "3x^2-2", "x^8": "8x^7", "1/8x^8-1/3x^3": "x^7-x^2"} {
		if d := poly(t, s).Slope(); d.Text() != want {
			t.Errorf("D4: Slope of %s: %s", s, d.Text())
		}
	}
	for _, p := range samples(t) {
		for _, q := range samples(t) {
			want := p.Slope().Times(q).Plus(p.Times(q.Slope()))
			if d := p.Times(q).Slope(); !same(d, want) {
				t.Fatalf("D4: Slope of %s times %s: %s", p.Text(), q.Text(), d.Text())
			}
		}
	}
}

func TestMoved(t *testing.T) { // D4
	for _, c := range []struct{ p, a, want string }{
		{"x^3-2x+1", "-1", "x^3-3x^2+x+2"}, {"x^3-2x+1", "0", "x^3-2x+1"}, {"x", "5/2", "x+5/2"}, {"7", "3", "7"}, {"0", "3", "0"}, {"x^2", "1", "x^2+2x+1"}, {"x^4", "-1/2", "x^4-2x^3+3/2x^2-1/2x+1/16"},
	} {
		if m := poly(t, c.p).Moved(rat(t, c.a)); m.Text() != c.want {
			t.Errorf("D4: %s moved by %s: %s", c.p, c.a, m.Text())
		}
	}
	for _, p := range samples(t) {
		for _, a := range rats(t, "0 1 -1 2/3 -1234567890123456789012/5") {
			moved := p.Moved(a)
			for _, x := range rats(t, "0 1 -7/2 1000000000000") {
				if moved.At(x).Order(p.At(x.Plus(a))) != 0 {
					t.Fatalf("D4: %s moved by %s: %s", p.Text(), a.Text(), moved.Text())
				}
			}
			if back := moved.Moved(ratio.Rat{}.Minus(a)); !same(back, p) {
				t.Fatalf("D4: %s moved by %s and back: %s", p.Text(), a.Text(), back.Text())
			}
		}
	}
}
