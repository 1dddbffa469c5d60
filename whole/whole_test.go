package whole

import (
	"reflect"
	"strings"
	"sync"
	"testing"
)

// number reads a text that a test wrote itself.
func number(t *testing.T, s string) Int {
	t.Helper()
	a, ok := Parse(s)
	if !ok {
		t.Fatalf("A2: Parse(%q) is refused", s)
	}
	return a
}

// source tells numbers that look like chance, but are the same in each run.
type source uint64

func (s *source) next() uint64 {
	*s = *s*6364136223846793005 + 1442695040888963407
	return uint64(*s) ^ uint64(*s)>>29
}

func (s *source) below(n uint64) uint64 {
	return s.next() >> 11 % n
}

// digits is a number's text with up to n digits, rich in the digits at which carries begin and end.
func (s *source) digits(n uint64) string {
	var b strings.Builder
	kind := s.below(3)
	for range 1 + s.below(n) {
		b.WriteByte("0123456789"[s.below(10)])
		if kind > 0 {
			b.WriteString(strings.Repeat("09"[s.below(2):][:1], int(s.below(9))))
		}
	}
	text := strings.TrimLeft(b.String(), "0")
	switch {
	case text == "":
		return "0"
	case s.below(2) == 0:
		return "-" + text
	}
	return text
}

// words is a row of n words, among which those of zeros and of ones alone are many.
func (s *source) words(n uint64) row {
	r := make(row, n)
	for i := range r {
		r[i] = []uint64{s.next(), s.next() >> s.below(64), 0, 1<<64 - 1, 1 << s.below(64)}[s.below(5)]
	}
	return r.trimmed()
}

func (s *source) number() Int {
	return signed(s.below(2) == 0, s.words(s.below(9)))
}

// residue is what is left of a text's number by a small m: worked out of the text alone.
func residue(text string, m int64) int64 {
	digits, below := strings.CutPrefix(text, "-")
	var r int64
	for _, c := range []byte(digits) {
		r = (r*10 + int64(c-'0')) % m
	}
	if below {
		return (m - r) % m
	}
	return r
}

var primes = []int64{2147483647, 2147483629, 998244353, 10007}

func TestZeroValueIsZero(t *testing.T) { // A1
	var zero Int
	five := Of(5)
	if zero.Text() != "0" || zero.Order(Of(0)) != 0 || zero.Order(five) != -1 || zero.Order(Of(-5)) != 1 {
		t.Error("A1: Int{} is not 0")
	}
	if a := zero.Plus(five); a.Text() != "5" {
		t.Errorf("A1: 0+5: %s", a.Text())
	}
	if a := zero.Minus(five); a.Text() != "-5" {
		t.Errorf("A1: 0-5: %s", a.Text())
	}
	if a := zero.Times(five); a.Text() != "0" {
		t.Errorf("A1: 0*5: %s", a.Text())
	}
	if a := zero.GCD(zero); a.Text() != "0" {
		t.Errorf("A3: gcd of 0 and 0: %s", a.Text())
	}
}

func TestEachWayToZeroIsTheSame(t *testing.T) { // A1, A2: no -0, no zeros on top
	big := number(t, "-340282366920938463463374607431768211456")
	zeros := []Int{Of(0), number(t, "0"), big.Minus(big), big.Times(Of(0)), big.GCD(Int{}).Plus(big)}
	q, r, _ := Of(3).Split(big)
	none, _ := Of(0).Power(7)
	for i, z := range append(zeros, q, r.Minus(Of(3)), none) {
		if !reflect.DeepEqual(z, Int{}) || z.Text() != "0" {
			t.Errorf("A1: zero %d is %#v", i, z)
		}
	}
}

func TestNumbersDoNotChange(t *testing.T) { // A1, G1: also while several goroutines use them
	texts := []string{"0", "7", "-18446744073709551616", "99999999999999999999999999999999999999", "-340282366920938463463374607431768211455"}
	var numbers []Int
	for _, s := range texts {
		numbers = append(numbers, number(t, s))
	}
	var all sync.WaitGroup
	for range 4 {
		all.Go(func() {
			for _, a := range numbers {
				for _, b := range numbers {
					a.Plus(b)
					a.Minus(b)
					a.Times(b)
					a.Split(b)
					a.GCD(b)
					a.Order(b)
					a.Power(5)
				}
			}
		})
	}
	all.Wait()
	for i, a := range numbers {
		if a.Text() != texts[i] {
			t.Errorf("A1: %s became %s", texts[i], a.Text())
		}
	}
}

func TestOf(t *testing.T) { // A2
	for n, want := range map[int]string{0: "0", 1: "1", -1: "-1", 1<<63 - 1: "9223372036854775807", -1 << 63: "-9223372036854775808", 4294967296: "4294967296", -4294967295: "-4294967295"} {
		if a := Of(n); a.Text() != want {
			t.Errorf("A2: Of(%d): %s", n, a.Text())
		}
	}
}

func TestParseReads(t *testing.T) { // A2
	nines := strings.Repeat("9", 2001)
	texts := []string{"0", "1", "9", "-1", "10", "-10", "18446744073709551615", "18446744073709551616", "-18446744073709551617", nines[:1999], nines[:2000], "-" + nines[:1999], "1" + strings.Repeat("0", 1999)}
	for n := 17; n < 60; n++ { // around the bounds of words and chunks
		texts = append(texts, nines[:n], "1"+strings.Repeat("0", n), "-1"+strings.Repeat("0", n-1)+"1")
	}
	for _, s := range texts {
		if a, ok := Parse(s); !ok || a.Text() != s {
			t.Errorf("A2: Parse(%q): %q, %v", s, a.Text(), ok)
		}
	}
}

func TestParseRefuses(t *testing.T) { // A2, G2
	texts := []string{"", "-", "--1", "-0", "00", "01", "-01", "+1", " 1", "1 ", "1-", "1_0", "1.0", "1e3", "0x1", "a", "1a", "a1", "\x00", "1\x00", "١", "½", "\xff", "/", ":", "1/2",
		strings.Repeat("9", 2001), "-" + strings.Repeat("9", 2000), strings.Repeat("0", 2000), strings.Repeat("9", 100000)}
	for _, s := range texts {
		if a, ok := Parse(s); ok || !reflect.DeepEqual(a, Int{}) {
			t.Errorf("A2: Parse(%q) is read as %s", s, a.Text())
		}
	}
}

func TestTextIsOfAnyLength(t *testing.T) { // A2
	a, _ := number(t, "1"+strings.Repeat("0", 1999)).Power(5)
	if a.Text() != "1"+strings.Repeat("0", 1999*5) {
		t.Error("A2: 10^9995")
	}
	if a = a.Minus(Of(1)); a.Text() != strings.Repeat("9", 1999*5) {
		t.Error("A2: 10^9995 - 1")
	}
	if a = Of(0).Minus(a); a.Text() != "-"+strings.Repeat("9", 1999*5) {
		t.Error("A2: 1 - 10^9995")
	}
}

func TestSumDifferenceProduct(t *testing.T) { // A3: held against residues of the texts
	var s source
	for range 3000 {
		x, y := s.digits(40), s.digits(40)
		a, b := number(t, x), number(t, y)
		sum, less, times := a.Plus(b).Text(), a.Minus(b).Text(), a.Times(b).Text()
		for _, m := range primes {
			p, q := residue(x, m), residue(y, m)
			if residue(sum, m) != (p+q)%m {
				t.Fatalf("A3: %s plus %s: %s", x, y, sum)
			}
			if residue(less, m) != (p-q+m)%m {
				t.Fatalf("A3: %s minus %s: %s", x, y, less)
			}
			if residue(times, m) != p*q%m {
				t.Fatalf("A3: %s times %s: %s", x, y, times)
			}
		}
	}
}

func TestCarriesGoAllTheWay(t *testing.T) { // A3
	for _, n := range []int{63, 64, 65, 127, 128, 129, 192, 200} {
		power, _ := Of(2).Power(n)
		ones := power.Minus(Of(1))
		back := ones.Plus(Of(1))
		square := ones.Times(ones) // (2^n - 1)^2 = 2^2n - 2^(n+1) + 1
		want := power.Times(power).Minus(power).Minus(power).Plus(Of(1))
		if back.Order(power) != 0 || square.Order(want) != 0 {
			t.Errorf("A3: 2^%d: %s, %s", n, back.Text(), square.Text())
		}
	}
}

func TestSplitSigns(t *testing.T) { // A3
	for _, c := range []struct{ a, b, q, r int }{
		{7, 3, 2, 1}, {-7, 3, -3, 2}, {7, -3, -2, 1}, {-7, -3, 3, 2},
		{6, 3, 2, 0}, {-6, 3, -2, 0}, {6, -3, -2, 0}, {-6, -3, 2, 0},
		{0, 3, 0, 0}, {0, -3, 0, 0}, {2, 3, 0, 2}, {-2, 3, -1, 1}, {2, -3, 0, 2}, {-2, -3, 1, 1}, {5, 1, 5, 0}, {5, -1, -5, 0}, {-5, 1, -5, 0},
	} {
		q, r, ok := Of(c.a).Split(Of(c.b))
		if !ok || q.Order(Of(c.q)) != 0 || r.Order(Of(c.r)) != 0 {
			t.Errorf("A3: %d by %d: %s, %s, %v", c.a, c.b, q.Text(), r.Text(), ok)
		}
	}
}

func TestSplitByZero(t *testing.T) { // A3, G2
	for _, a := range []Int{{}, Of(5), Of(-5), number(t, strings.Repeat("9", 100))} {
		q, r, ok := a.Split(Of(0))
		if ok || !reflect.DeepEqual(q, Int{}) || !reflect.DeepEqual(r, Int{}) {
			t.Errorf("A3: %s by 0: %s, %s, %v", a.Text(), q.Text(), r.Text(), ok)
		}
	}
}

// checkSplit holds quotient and rest against their law, which has one answer only.
func checkSplit(t *testing.T, a, b Int) {
	t.Helper()
	q, r, ok := a.Split(b)
	size := b
	if b.Order(Int{}) < 0 {
		size = Int{}.Minus(b)
	}
	back := q.Times(b).Plus(r)
	if !ok || back.Order(a) != 0 || r.Order(Int{}) < 0 || r.Order(size) >= 0 {
		t.Fatalf("A3: %s by %s: %s, %s, %v", a.Text(), b.Text(), q.Text(), r.Text(), ok)
	}
}

func TestSplitLaw(t *testing.T) { // A3
	var s source
	for range 20000 {
		a, b := s.number(), s.number()
		if b.Order(Int{}) != 0 {
			checkSplit(t, a, b)
			checkSplit(t, a.Times(b), b)
			checkSplit(t, a.Times(b).Minus(Of(1)), b)
		}
	}
}

func TestSplitWhereTheGuessIsTooGreat(t *testing.T) { // A3
	const top, ones = 1 << 63, 1<<64 - 1
	for _, c := range []struct{ a, b row }{
		{row{0, 0, top, top - 1}, row{1, 0, top}},
		{row{0, 0, top - 1}, row{ones, top}},
		{row{3, 0, top}, row{1, 0, top >> 2}},
		{row{0, ones - 1, top}, row{ones, top}},
		{row{ones, ones - 1, ones - 1}, row{ones, ones}},
	} {
		checkSplit(t, Int{size: c.a}, Int{size: c.b})
	}
	// The three highest words are told alike by both; only the lowest one shows that the guess is one too great.
	rest, divisor := row{0, 0, top, top - 1}, row{1, 0, top}
	guess := rest.guess(divisor)
	if word := rest.splitOff(divisor); word != guess-1 {
		t.Errorf("A3: guessed %d, found %d: the test does not reach the second guess", guess, word)
	}
}

func TestGCD(t *testing.T) { // A3
	for _, c := range []struct{ a, b, want string }{
		{"0", "0", "0"}, {"0", "7", "7"}, {"7", "0", "7"}, {"0", "-7", "7"}, {"-7", "0", "7"}, {"12", "18", "6"}, {"-12", "18", "6"}, {"12", "-18", "6"}, {"-12", "-18", "6"}, {"1", "-1", "1"}, {"5", "5", "5"},
		{"0", "-340282366920938463463374607431768211456", "340282366920938463463374607431768211456"},
		{"340282366920938463463374607431768211456", "-18446744073709551616", "18446744073709551616"},
		{"340282366920938463463374607431768211455", "18446744073709551615", "18446744073709551615"},
	} {
		if g := number(t, c.a).GCD(number(t, c.b)); g.Text() != c.want {
			t.Errorf("A3: GCD of %s and %s: %s", c.a, c.b, g.Text())
		}
	}
}

func TestGCDLaw(t *testing.T) { // A3: what is put into both is found, and nothing else
	var s source
	fib, next := Of(0), Of(1) // neighbours have nothing in common, and need the most steps
	for range 600 {
		fib, next = next, fib.Plus(next)
		g := s.number()
		size := g.GCD(Int{})
		if common := fib.Times(g).GCD(next.Times(g)); common.Order(size) != 0 {
			t.Fatalf("A3: GCD of two multiples of %s: %s", g.Text(), common.Text())
		}
	}
	for range 5000 {
		a, b := s.number(), s.number()
		g := a.GCD(b)
		if g.Order(b.GCD(a)) != 0 || g.Order(Int{}) < 0 {
			t.Fatalf("A3: GCD of %s and %s: %s", a.Text(), b.Text(), g.Text())
		}
		if g.Order(Int{}) == 0 {
			continue
		}
		x, r, _ := a.Split(g)
		y, u, _ := b.Split(g)
		if one := x.GCD(y); r.Order(Int{}) != 0 || u.Order(Int{}) != 0 || one.Text() != "1" {
			t.Fatalf("A3: GCD of %s and %s: %s", a.Text(), b.Text(), g.Text())
		}
	}
}

func TestOrder(t *testing.T) { // A3
	rising := []string{"-18446744073709551617", "-18446744073709551616", "-9", "-8", "-1", "0", "1", "8", "9", "18446744073709551615", "18446744073709551616", "18446744073709551617", "36893488147419103232", "340282366920938463463374607431768211456"}
	for i, x := range rising {
		for j, y := range rising {
			want := 0
			if i != j {
				want = sign(i > j)
			}
			if got := number(t, x).Order(number(t, y)); got != want {
				t.Errorf("A3: Order of %s and %s: %d", x, y, got)
			}
		}
	}
}

func TestPower(t *testing.T) { // A3
	for _, a := range []Int{{}, Of(1), Of(-1), Of(10), Of(-3), number(t, "18446744073709551615"), number(t, "-340282366920938463463374607431768211457")} {
		want := Of(1)
		for n := 0; n <= 200; n++ {
			if p, ok := a.Power(n); !ok || p.Order(want) != 0 {
				t.Fatalf("A3: %s to the power of %d: %s, %v", a.Text(), n, p.Text(), ok)
			}
			want = want.Times(a)
		}
	}
}

func TestPowerRefuses(t *testing.T) { // A3, G2
	for _, n := range []int{-1, 201, -1 << 63, 1<<63 - 1} {
		for _, a := range []Int{{}, Of(1), Of(2)} {
			if p, ok := a.Power(n); ok || !reflect.DeepEqual(p, Int{}) {
				t.Errorf("A3: %s to the power of %d: %s", a.Text(), n, p.Text())
			}
		}
	}
}
