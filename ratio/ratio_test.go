package ratio

import (
	"reflect"
	"strings"
	"sync"
	"testing"

	"surd/whole"
)

// rat reads a text that a test wrote itself.
func rat(t *testing.T, s string) Rat {
	t.Helper()
	a, ok := Parse(s)
	if !ok {
		t.Fatalf("B2: Parse(%q) is refused", s)
	}
	return a
}

// grid is all fractions of small numbers, each once or more.
func grid(t *testing.T) []Rat {
	t.Helper()
	var l []Rat
	for n := -7; n <= 7; n++ {
		for d := 1; d <= 6; d++ {
			a, ok := Of(whole.Of(n), whole.Of(d))
			if !ok {
				t.Fatalf("B2: Of(%d, %d) is refused", n, d)
			}
			l = append(l, a)
		}
	}
	return append(l, rat(t, "-123456789012345678901234567890/98765432109876543210987654321"), rat(t, "340282366920938463463374607431768211456/3"), rat(t, "1/18446744073709551616"))
}

// same tells whether a is n / d, by a product of each with the other's d.
func same(a Rat, n, d whole.Int) bool {
	return a.Num().Times(d).Order(n.Times(a.Den())) == 0
}

// checkLeast holds Num and Den against B1.
func checkLeast(t *testing.T, a Rat) {
	t.Helper()
	common := a.Num().GCD(a.Den())
	if a.Den().Order(whole.Int{}) <= 0 || common.Text() != "1" {
		t.Errorf("B1: %s / %s", a.Num().Text(), a.Den().Text())
	}
}

func TestZeroValueIsZero(t *testing.T) { // B1
	var zero Rat
	if zero.Text() != "0" || zero.Num().Text() != "0" || zero.Den().Text() != "1" || zero.Order(rat(t, "0")) != 0 || zero.Floor().Text() != "0" || zero.Digits(3) != "0.000" {
		t.Error("B1: Rat{} is not 0")
	}
	half := rat(t, "1/2")
	sum, less, times := zero.Plus(half), zero.Minus(half), zero.Times(half)
	if sum.Text() != "1/2" || less.Text() != "-1/2" || times.Text() != "0" || zero.Order(half) != -1 || half.Order(zero) != 1 {
		t.Errorf("B1: %s, %s, %s", sum.Text(), less.Text(), times.Text())
	}
	if q, ok := zero.Over(half); !ok || q.Text() != "0" {
		t.Errorf("B3: 0 over 1/2: %s, %v", q.Text(), ok)
	}
	for i, z := range []Rat{rat(t, "0/5"), half.Minus(half), half.Times(zero), rat(t, "0/7")} {
		if !reflect.DeepEqual(z, Rat{}) {
			t.Errorf("B1: zero %d is %#v", i, z)
		}
	}
}

func TestOf(t *testing.T) { // B1, B2
	for _, c := range []struct {
		n, d     int
		num, den string
	}{{6, 4, "3", "2"}, {-6, 4, "-3", "2"}, {6, -4, "-3", "2"}, {-6, -4, "3", "2"}, {0, 5, "0", "1"}, {0, -5, "0", "1"}, {8, 4, "2", "1"}, {7, 1, "7", "1"}, {7, -1, "-7", "1"}, {1, -1 << 63, "-1", "9223372036854775808"}} {
		a, ok := Of(whole.Of(c.n), whole.Of(c.d))
		if !ok || a.Num().Text() != c.num || a.Den().Text() != c.den {
			t.Errorf("B1, B2: Of(%d, %d): %s / %s, %v", c.n, c.d, a.Num().Text(), a.Den().Text(), ok)
		}
	}
	for _, n := range []int{0, 1, -1} {
		if a, ok := Of(whole.Of(n), whole.Of(0)); ok || !reflect.DeepEqual(a, Rat{}) {
			t.Errorf("B2: Of(%d, 0): %s", n, a.Text())
		}
	}
}

func TestParseReads(t *testing.T) { // B2
	for s, want := range map[string]string{
		"0": "0", "5": "5", "-5": "-5", "6/4": "3/2", "-6/4": "-3/2", "4/2": "2", "-4/2": "-2", "0/7": "0", "5/1": "5", "1/3": "1/3",
		strings.Repeat("9", 2000):                                      strings.Repeat("9", 2000),
		"-" + strings.Repeat("9", 1999):                                "-" + strings.Repeat("9", 1999),
		"1/1" + strings.Repeat("0", 1997):                              "1/1" + strings.Repeat("0", 1997),
		strings.Repeat("8", 1998) + "/4":                               strings.Repeat("2", 1998),
		"340282366920938463463374607431768211456/18446744073709551616": "18446744073709551616",
	} {
		if a, ok := Parse(s); !ok || a.Text() != want {
			t.Errorf("B2: Parse(%q): %q, %v", s, a.Text(), ok)
		}
	}
}

func TestParseRefuses(t *testing.T) { // B2, G2
	for _, s := range []string{"", "-", "/", "1/", "/2", "1/0", "0/0", "1/-2", "-1/-2", "1/02", "01/2", "-0", "-0/2", "1/2/3", "1//2", "1 /2", "1/ 2", " 1/2", "1/2 ", "+1/2", "1/+2", "1/00", "1.5", "a/2", "1/a", "1/2\x00", "\xff/1", "1/x",
		strings.Repeat("9", 2001), "1/1" + strings.Repeat("0", 1998), strings.Repeat("8", 1999) + "/4", strings.Repeat("1/", 50000)} {
		if a, ok := Parse(s); ok || !reflect.DeepEqual(a, Rat{}) {
			t.Errorf("B2: Parse(%q) is read as %s", s, a.Text())
		}
	}
}

func TestTextIsReadAsItself(t *testing.T) { // B2
	for _, a := range grid(t) {
		checkLeast(t, a)
		want := a.Num().Text()
		if d := a.Den().Text(); d != "1" {
			want += "/" + d
		}
		if b, ok := Parse(a.Text()); a.Text() != want || !ok || b.Order(a) != 0 {
			t.Errorf("B2: %q, want %q, read as %s", a.Text(), want, b.Text())
		}
	}
}

func TestArithmetic(t *testing.T) { // B1, B3: held against the whole numbers
	l := grid(t)
	for _, a := range l {
		for _, b := range l {
			n, d, m, e := a.Num(), a.Den(), b.Num(), b.Den()
			sum, less, times := a.Plus(b), a.Minus(b), a.Times(b)
			if !same(sum, n.Times(e).Plus(m.Times(d)), d.Times(e)) || !same(less, n.Times(e).Minus(m.Times(d)), d.Times(e)) || !same(times, n.Times(m), d.Times(e)) {
				t.Fatalf("B3: %s and %s: %s, %s, %s", a.Text(), b.Text(), sum.Text(), less.Text(), times.Text())
			}
			if a.Order(b) != less.Num().Order(whole.Int{}) {
				t.Fatalf("B3: Order of %s and %s: %d", a.Text(), b.Text(), a.Order(b))
			}
			over, ok := a.Over(b)
			if ok != (m.Order(whole.Int{}) != 0) || ok && !same(over, n.Times(e), d.Times(m)) || !ok && !reflect.DeepEqual(over, Rat{}) {
				t.Fatalf("B3: %s over %s: %s, %v", a.Text(), b.Text(), over.Text(), ok)
			}
			for _, c := range []Rat{sum, less, times, over} {
				checkLeast(t, c)
			}
		}
	}
}

func TestFractionsDoNotChange(t *testing.T) { // B1, G1
	l := grid(t)
	var texts []string
	for _, a := range l {
		texts = append(texts, a.Text())
	}
	var all sync.WaitGroup
	for range 4 {
		all.Go(func() {
			for i, a := range l {
				b := l[len(l)-1-i]
				a.Plus(b)
				a.Minus(b)
				a.Times(b)
				a.Over(b)
				a.Floor()
				a.Digits(20)
			}
		})
	}
	all.Wait()
	for i, a := range l {
		if a.Text() != texts[i] {
			t.Errorf("B1: %s became %s", texts[i], a.Text())
		}
	}
}

func TestFloor(t *testing.T) { // B3
	for s, want := range map[string]string{"0": "0", "7/2": "3", "-7/2": "-4", "1/2": "0", "-1/2": "-1", "4": "4", "-4": "-4", "-1/18446744073709551616": "-1", "36893488147419103233/2": "18446744073709551616"} {
		if f := rat(t, s).Floor(); f.Text() != want {
			t.Errorf("B3: Floor of %s: %s", s, f.Text())
		}
	}
}

func TestDigits(t *testing.T) { // B4
	for _, c := range []struct {
		s    string
		n    int
		want string
	}{
		{"1/3", 3, "0.333"}, {"-1/3", 3, "-0.334"}, {"2/3", 3, "0.666"}, {"5/2", 0, "2"}, {"-5/2", 0, "-3"}, {"5/2", 1, "2.5"}, {"-5/2", 1, "-2.5"},
		{"1/8", 5, "0.12500"}, {"0", 0, "0"}, {"0", 2, "0.00"}, {"7", 2, "7.00"}, {"-7", 2, "-7.00"}, {"100", 0, "100"}, {"-100", 1, "-100.0"},
		{"1/1000", 2, "0.00"}, {"-1/1000", 2, "-0.01"}, {"-1/1000", 3, "-0.001"}, {"-1/1000", 0, "-1"}, {"-999/1000", 2, "-1.00"}, {"999/1000", 2, "0.99"}, {"1999/100", 1, "19.9"},
		{"1/3", -1, "0"}, {"-1/3", -1 << 63, "-1"}, {"22/7", -4, "3"},
		{"1/3", 100, "0." + strings.Repeat("3", 100)}, {"1/3", 101, "0." + strings.Repeat("3", 100)}, {"1/3", 1<<63 - 1, "0." + strings.Repeat("3", 100)}, {"1/3", 99, "0." + strings.Repeat("3", 99)},
		{"-1/3", 101, "-0." + strings.Repeat("3", 99) + "4"},
	} {
		if d := rat(t, c.s).Digits(c.n); d != c.want {
			t.Errorf("B4: Digits(%d) of %s: %s, want %s", c.n, c.s, d, c.want)
		}
	}
}
