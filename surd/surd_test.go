package surd

import (
	"runtime"
	"slices"
	"strconv"
	"strings"
	"sync"
	"sync/atomic"
	"testing"
	"time"

	"surd/api"
	"surd/poly"
	"surd/ratio"
)

// asked is a line and what K1 says of it.
type asked struct{ line, want string }

func check(t *testing.T, l []asked) {
	t.Helper()
	for _, c := range l {
		if got := Line(c.line); got != c.want {
			t.Errorf("K1: %.100q is answered %.100q, want %.100q", c.line, got, c.want)
		}
	}
}

// good is a line of each word, and its answer.
var good = []asked{
	{"AT x^2+1;1/2", "5/4"},
	{"SPLIT x^3-2x+1;2x-1", "1/2x^2+1/4x-7/8;1/8"},
	{"GCD x^3-1;x^2-1", "x-1"},
	{"PARTS x^3-x^2-x+1", "x+1*1 x-1*2"},
	{"COUNT x^3-x;-1;1", "2"},
	{"ROOTS 3;x^2-2", "-1.415 1.414"},
	{"SIGN 2;x^2-2;x^4-4", "0"},
	{"SOLVE 2;x^3-2x;<=", "(-inf,~-1.42] [0,~1.41]"},
}

func TestEachWord(t *testing.T) { // K1
	check(t, good)
	check(t, []asked{
		{"AT 0;7", "0"}, {"AT 5;-1/3", "5"}, {"AT x;6/4", "3/2"}, {"AT -x^8;-2", "-256"}, {"AT x;-0", "ERR 2"}, {"AT 1/3x+2/6;-1", "0"},
		{"SPLIT 0;x", "0;0"}, {"SPLIT x;x^2", "0;x"}, {"SPLIT x^2-1;x+1", "x-1;0"}, {"SPLIT x^8;-2", "-1/2x^8;0"},
		{"GCD 0;0", "0"}, {"GCD 0;2x-4", "x-2"}, {"GCD 3x+6;0", "x+2"}, {"GCD x;7", "1"}, {"GCD 4;0", "1"},
		{"PARTS 2x-1", "x-1/2*1"}, {"PARTS -3x^8", "x*8"}, {"PARTS x^4+2x^2+1", "x^2+1*2"}, {"PARTS x^5-x^4", "x-1*1 x*4"},
		{"COUNT x^2-2;-1;1", "0"}, {"COUNT x^2-2;1;2", "1"}, {"COUNT x^2;-1/2;1/2", "1"}, {"COUNT x;0;1", "0"}, {"COUNT x;-1;0", "1"}, {"COUNT x;1;-1", "0"}, {"COUNT x;0;0", "0"},
		{"COUNT 0;1;2", "-1"}, {"COUNT 3;-1;1", "0"},
		{"ROOTS 0;x^3-3x+2", "-2 1*2"}, {"ROOTS 2;2x-1", "0.50"}, {"ROOTS 1;x^8", "0.0*8"}, {"ROOTS 2;x^4-4x^2+4", "-1.42*2 1.41*2"},
		{"SIGN 1;x^2-2;x", "-1"}, {"SIGN 2;x^2-2;x", "1"}, {"SIGN 1;x;x", "0"}, {"SIGN 2;x^3-3x+2;x-2", "-1"}, {"SIGN 1;x;0", "0"}, {"SIGN 1;x;-1/9", "-1"}, {"SIGN 8;x^8-36x^7+546x^6-4536x^5+22449x^4-67284x^3+118124x^2-109584x+40320;x-7", "1"},
		{"SOLVE 2;x^2-2x+1;<=", "{1}"}, {"SOLVE 2;x^2-2x+1;>", "(-inf,1) (1,inf)"}, {"SOLVE 2;x^2-2x+1;<", "none"}, {"SOLVE 2;x;=", "{0}"}, {"SOLVE 2;0;>=", "(-inf,inf)"}, {"SOLVE 1;x^2-2;!=", "(-inf,~-1.5) (~-1.5,~1.4) (~1.4,inf)"},
	})
}

func TestNothingToList(t *testing.T) { // K1
	check(t, []asked{
		{"PARTS 5", "none"}, {"PARTS 0", "none"}, {"PARTS x-x", "none"},
		{"ROOTS 5;x^2+1", "none"}, {"ROOTS 1;0", "none"}, {"ROOTS 0;-7/3", "none"},
	})
}

func TestWhatIsNotThere(t *testing.T) { // K1
	check(t, []asked{
		{"SPLIT x;0", "ERR 4"}, {"SPLIT 0;0", "ERR 4"}, {"SPLIT x;x-x", "ERR 4"}, {"SPLIT x;0/5x^3", "ERR 4"},
		{"SIGN 3;x^2-2;x", "ERR 5"}, {"SIGN 0;x;x", "ERR 5"}, {"SIGN 00;x;x", "ERR 5"}, {"SIGN 99;x;x", "ERR 5"}, {"SIGN 2;x^2;x", "ERR 5"},
		{"SIGN 1;x^2+1;x", "ERR 5"}, {"SIGN 1;0;x", "ERR 5"}, {"SIGN 1;4;x", "ERR 5"}, {"SIGN 1;0;0", "ERR 5"},
		{"SIGN 0;x;y", "ERR 2 0"}, {"SIGN 1;0;x+", "ERR 2 2"}, {"SPLIT 1/0;0", "ERR 4 2"},
	})
}

func TestLinesOfNoWord(t *testing.T) { // K1
	for _, s := range []string{"", " ", ";", "x", "x;1", "FOO x", "at x;1", "At x;1", "ATT x;1", "A x;1", " AT x;1", "\tAT x;1", "AT\tx;1", "AT\nx;1", "AT;x;1", "ATx;1", "AT\u00a0x;1", "\ufeffAT x;1", "\x00", "\xff x;1",
		"PART x", "PARTSX x", "ROOT 1;x", "roots 1;x", "SOLVE\x00 1;x;<", "ERR 2", "GCD,x;x", "ÄT x;1", strings.Repeat("AT", 100000) + " x;1", strings.Repeat(" ", 100000), strings.Repeat(";", 100000)} {
		check(t, []asked{{s, "ERR 2"}})
	}
}

func TestOtherNumbersOfParts(t *testing.T) { // K1
	for _, c := range good {
		name, rest, _ := strings.Cut(c.line, " ")
		check(t, []asked{
			{name, "ERR 2"},
			{name + ";" + rest, "ERR 2"},
			{c.line + ";", "ERR 2"},
			{c.line + ";x", "ERR 2"},
			{name + " ;" + rest, "ERR 2"},
			{c.line + strings.Repeat(";1", 100000), "ERR 2"},
		})
		if i := strings.LastIndexByte(c.line, ';'); i >= 0 {
			check(t, []asked{{c.line[:i], "ERR 2"}, {name + " ", "ERR 2"}})
		}
	}
	check(t, []asked{{"PARTS ", "ERR 2 0"}, {"AT ;", "ERR 2 0"}, {"COUNT ;;", "ERR 2 0"}, {"ROOTS ;", "ERR 2"}, {"GCD x^9;x;", "ERR 2"}})
}

func TestBlanks(t *testing.T) { // K1, D2: polynomials may have blanks, and nothing else
	check(t, []asked{
		{"AT  x;1", "1"}, {"AT  x ^ 2 - 1 ;3", "8"}, {"GCD x - 1 ; x - 1 ", "x-1"}, {"SIGN 1;  x; x ", "0"}, {"PARTS   x  ", "x*1"},
		{"AT x; 1", "ERR 2"}, {"AT x;1 ", "ERR 2"}, {"AT x;1 /2", "ERR 2"}, {"COUNT x; -1;1", "ERR 2"}, {"COUNT x;-1;1 ", "ERR 2"},
		{"ROOTS  1;x", "ERR 2"}, {"ROOTS 1 ;x", "ERR 2"}, {"SIGN  1;x;x", "ERR 2"}, {"SOLVE  1;x;<", "ERR 2"}, {"SOLVE 1;x; <", "ERR 2"}, {"SOLVE 1;x;< ", "ERR 2"},
		{"PARTS \tx", "ERR 2 0"}, {"PARTS   ", "ERR 2 2"}, {"PARTS x  +  ", "ERR 2 6"},
	})
}

func TestPolynomialsThatAreNone(t *testing.T) { // K1, D2: in each place where a polynomial stands
	longest := strings.Repeat("+x", 150)[1:]
	faults := []asked{
		{"", "ERR 2 0"}, {"y", "ERR 2 0"}, {"x+", "ERR 2 2"}, {"x^", "ERR 2 2"}, {"2*x", "ERR 2 1"}, {"x x", "ERR 2 2"}, {"+x", "ERR 2 0"}, {"x\xff", "ERR 2 1"},
		{"x^9", "ERR 3 2"}, {"x+1234567890123", "ERR 3 2"}, {"1414213562373x/1000000000000-2", "ERR 3 0"}, {"x-1/0", "ERR 4 4"}, {"1/000x", "ERR 4 2"}, {"x^9+1/0", "ERR 3 2"}, {"1/0+x^9", "ERR 4 2"},
		{longest + "  ", "ERR 1 0"}, {strings.Repeat("y", 301), "ERR 1 0"}, {strings.Repeat("x", 100000), "ERR 1 0"},
	}
	for _, f := range faults {
		check(t, []asked{
			{"AT " + f.line + ";1", f.want}, {"SPLIT " + f.line + ";x", f.want}, {"SPLIT x;" + f.line, f.want}, {"GCD " + f.line + ";x", f.want}, {"GCD x;" + f.line, f.want},
			{"PARTS " + f.line, f.want}, {"COUNT " + f.line + ";0;1", f.want}, {"ROOTS 2;" + f.line, f.want}, {"SIGN 1;" + f.line + ";x", f.want}, {"SIGN 1;x;" + f.line, f.want}, {"SOLVE 2;" + f.line + ";<", f.want},
		})
	}
	check(t, []asked{{"AT " + longest + " ;2", "300"}, {"AT 999999999999x^8;1", "999999999999"}})
}

func TestFractionsThatAreNone(t *testing.T) { // K1, B2: in each place where a fraction stands
	for _, s := range []string{"", "z", "x", "+1", "01", "-0", "--1", "1/0", "1/-2", "1/", "/2", "1/2/3", "1.5", "1e3", "1/02", "١", strings.Repeat("1", 2001), "1/" + strings.Repeat("1", 1999)} {
		check(t, []asked{{"AT x;" + s, "ERR 2"}, {"COUNT x;" + s + ";1", "ERR 2"}, {"COUNT x;1;" + s, "ERR 2"}})
	}
	long := strings.Repeat("1", 2000)
	check(t, []asked{{"AT x;" + long, long}, {"COUNT x^2-1;0;" + long, "1"}, {"COUNT x^2-1;-" + long[1:] + ";0", "1"}, {"AT 999999999999;1/" + long[2:], "999999999999"}})
}

func TestNumbersThatAreNone(t *testing.T) { // K1: in each place where a number stands
	for _, s := range []string{"", "x", "-1", "+1", "-", "1x", "x1", "100", "000", "001", "1.", "1/", "1/1", "0x", "1_", "٣", "\x001", "/", ":", "1/", "1:", "/1", ":1", strings.Repeat("1", 100000)} {
		check(t, []asked{{"ROOTS " + s + ";x", "ERR 2"}, {"SIGN " + s + ";x;x", "ERR 2"}, {"SOLVE " + s + ";x;<", "ERR 2"}})
	}
}

func TestNumbers(t *testing.T) { // K1, H2: one or two digits
	check(t, []asked{
		{"ROOTS 0;3x-1", "0"}, {"ROOTS 00;3x-1", "0"}, {"ROOTS 9;3x-1", "0.333333333"}, {"ROOTS 09;3x-1", "0.333333333"}, {"ROOTS 10;3x-1", "0.3333333333"}, {"ROOTS 21;3x-1", "0." + strings.Repeat("3", 21)},
		{"SIGN 02;x^2-1;x", "1"}, {"SIGN 01;x^2-1;x", "-1"}, {"SIGN 10;x^2-1;x", "ERR 5"},
		{"SOLVE 0;x^2-2;=", "{~-2} {~1}"}, {"SOLVE 05;x^2-2;<", "(~-1.41422,~1.41421)"},
	})
	for _, n := range []string{"30", "31", "99"} {
		check(t, []asked{{"ROOTS " + n + ";x-1", "1.000000000000000000000000000000"}, {"SOLVE " + n + ";x^2-2;>", "(-inf,~-1.414213562373095048801688724210) (~1.414213562373095048801688724209,inf)"}})
	}
}

func TestOpsThatAreNone(t *testing.T) { // K1, J1
	for _, s := range []string{"", "==", "=<", "=>", "<>", "!", "x", "lt", "≤", strings.Repeat("<", 100000)} {
		check(t, []asked{{"SOLVE 2;x;" + s, "ERR 2"}})
	}
}

func TestFirstPartThatIsNone(t *testing.T) { // K1: from the left
	check(t, []asked{
		{"AT x^9;z", "ERR 3 2"}, {"AT x;z", "ERR 2"},
		{"SPLIT 1/0;x^9", "ERR 4 2"}, {"SPLIT x;x^9", "ERR 3 2"}, {"SPLIT x^9;0", "ERR 3 2"},
		{"GCD 1/0;x^9", "ERR 4 2"}, {"GCD x;x^9", "ERR 3 2"},
		{"COUNT 1/0;z;z", "ERR 4 2"}, {"COUNT x;z;z", "ERR 2"}, {"COUNT x;0;z", "ERR 2"}, {"COUNT 0;0;z", "ERR 2"},
		{"ROOTS x;x^9", "ERR 2"}, {"ROOTS 1;x^9", "ERR 3 2"},
		{"SIGN x;x^9;1/0", "ERR 2"}, {"SIGN 1;x^9;1/0", "ERR 3 2"}, {"SIGN 1;x;1/0", "ERR 4 2"},
		{"SOLVE x;x^9;==", "ERR 2"}, {"SOLVE 1;x^9;==", "ERR 3 2"}, {"SOLVE 1;x;==", "ERR 2"},
	})
}

// random answers numbers below n, always the same ones.
func random(seed uint64) func(n int) int {
	return func(n int) int {
		seed = seed*6364136223846793005 + 1442695040888963407
		return int((seed >> 33) % uint64(n))
	}
}

// rubbish is a line that is put together of pieces of lines.
func rubbish(next func(n int) int) string {
	pieces := []string{"AT", "SPLIT", "GCD", "PARTS", "COUNT", "ROOTS", "SIGN", "SOLVE", " ", " ", " ", ";", ";", ";", "x", "x^", "^", "+", "-", "/", "0", "1", "2", "17", "999999999999", "<", "=", "\x00", "\xff", "é"}
	var s strings.Builder
	for range next(12) {
		s.WriteString(pieces[next(len(pieces))])
	}
	return s.String()
}

func TestAnyBytes(t *testing.T) { // G1, G3
	next := random(3)
	for range 20000 {
		s := rubbish(next)
		a := Line(s)
		if a == "" || a != Line(s) {
			t.Errorf("G3: %q is answered %q, and then %q", s, a, Line(s))
		}
	}
}

func TestWorkersOutOfRange(t *testing.T) { // K2, G2
	for _, workers := range []int{0, -1, 17, 18, 1 << 32, 1<<32 + 1, 1<<63 - 1, -1 << 63} {
		for _, lines := range [][]string{nil, {}, {"AT x;1"}} {
			if l, e := Run(lines, workers); l != nil || e != api.ErrRange {
				t.Errorf("K2: %d workers: %q, %d", workers, l, e)
			}
		}
	}
}

func TestNoLines(t *testing.T) { // K2
	for _, workers := range []int{1, 16} {
		for _, lines := range [][]string{nil, {}} {
			if l, e := Run(lines, workers); len(l) != 0 || e != api.OK {
				t.Errorf("K2: no lines: %q, %d", l, e)
			}
		}
	}
}

// manyLines is lines that take shorter and longer, and are answered differently.
func manyLines(n int) []string {
	next := random(11)
	var l []string
	for i := range n {
		switch next(3) {
		case 0:
			l = append(l, rubbish(next))
		case 1:
			l = append(l, "AT x^2;"+strconv.Itoa(i))
		default:
			l = append(l, "ROOTS 30;x^4-"+strconv.Itoa(i)+"x^2+"+strconv.Itoa(next(100)))
		}
	}
	return l
}

func TestRun(t *testing.T) { // K2, G3, G4
	for _, n := range []int{1, 2, 16, 17, 60} {
		lines := manyLines(n)
		handed := slices.Clone(lines)
		var want []string
		for _, s := range lines {
			want = append(want, Line(s))
		}
		for workers := 1; workers <= 16; workers++ {
			l, e := Run(handed, workers)
			if e != api.OK || !slices.Equal(l, want) {
				t.Errorf("K2: %d lines, %d workers: other answers than Line's (%d)", n, workers, e)
			}
			again, _ := Run(handed, workers)
			again[0] = "x"
			if l[0] != want[0] {
				t.Error("G4: two answers share memory")
			}
		}
		if !slices.Equal(handed, lines) {
			t.Error("G4: the lines are changed")
		}
	}
}

func TestRunsBesideEachOther(t *testing.T) { // G1, G3
	lines := manyLines(60)
	want, _ := Run(lines, 1)
	var all sync.WaitGroup
	for workers := 1; workers <= 16; workers++ {
		all.Go(func() {
			if l, _ := Run(lines, workers); !slices.Equal(l, want) {
				t.Errorf("G3: other answers beside other calls, with %d workers", workers)
			}
		})
	}
	all.Wait()
}

// soon waits until something is so, but not for ever.
func soon(isSo func() bool) bool {
	for range 10000 {
		if isSo() {
			return true
		}
		time.Sleep(time.Millisecond)
	}
	return false
}

func TestNothingGoesOn(t *testing.T) { // K2, G4
	ahead := runtime.NumGoroutine()
	for workers := 1; workers <= 16; workers++ {
		Run(manyLines(20), workers)
		Run(nil, workers)
		Run(nil, workers+16)
	}
	// A goroutine that has said that it is done may be there a little longer.
	if !soon(func() bool { return runtime.NumGoroutine() <= ahead }) {
		t.Errorf("K2: %d goroutines, and %d ahead", runtime.NumGoroutine(), ahead)
	}
}

// withWord has one more word until the test ends.
func withWord(t *testing.T, w word) {
	t.Helper()
	all := words
	words = append(slices.Clone(words), w)
	t.Cleanup(func() { words = all })
}

func TestSoManyGoroutines(t *testing.T) { // K2
	for workers := 1; workers <= 16 && !t.Failed(); workers++ {
		checkWorkers(t, workers)
	}
}

// checkWorkers lets no line be answered until as many as there are workers have been taken.
func checkWorkers(t *testing.T, workers int) {
	t.Helper()
	var taken atomic.Int64
	open := make(chan struct{})
	name := "WAIT" + strconv.Itoa(workers)
	withWord(t, word{name, 1, func(left *[]string) string {
		taken.Add(1)
		<-open
		return next(left, itself)
	}})
	done := make(chan []string, 1)
	go func() {
		l, _ := Run(slices.Repeat([]string{name + " x"}, 3*workers), workers)
		done <- l
	}()
	if !soon(func() bool { return taken.Load() >= int64(workers) }) {
		t.Errorf("K2: %d workers take %d lines", workers, taken.Load())
	}
	time.Sleep(5 * time.Millisecond) // for one worker too many, if there is one
	if n := taken.Load(); n > int64(workers) {
		t.Errorf("K2: %d workers take %d lines at a time", workers, n)
	}
	if len(done) > 0 {
		t.Errorf("K2: %d workers: Run answers ahead of the lines", workers)
	}
	close(open)
	if l := <-done; !slices.Equal(l, slices.Repeat([]string{"x"}, 3*workers)) {
		t.Errorf("K2: %d workers: %q", workers, l)
	}
}

// texts is polynomials, most of which have parts that stand more than once, or in others.
func texts(t *testing.T) []string {
	t.Helper()
	next := random(29)
	factors := []string{"x", "x-1", "x+2", "2x-1", "3x+2", "x^2-2", "x^2+1", "x^2-x-1", "2x^3-3x+1/2"}
	l := []string{"1", "-2/3", "x^8-1", "-x^7+x", "x^2+x+1"}
	for range 40 {
		p := read(t, []string{"1", "-1", "2/3"}[next(3)])
		for p.Degree() < 5 {
			p = p.Times(read(t, factors[next(len(factors))]))
		}
		l = append(l, p.Text())
	}
	return l
}

func read(t *testing.T, s string) poly.Poly {
	t.Helper()
	p, e, place := poly.Parse(s)
	if e != api.OK {
		t.Fatalf("K3: %q: %d, %d", s, e, place)
	}
	return p
}

// fields is the items of a list that was answered.
func fields(answer string) []string {
	if answer == "none" {
		return nil
	}
	return strings.Split(answer, " ")
}

// withTimes cuts an item into what it is and how often it stands.
func withTimes(t *testing.T, item string) (string, int) {
	t.Helper()
	what, after, ok := strings.Cut(item, "*")
	if !ok {
		return what, 1
	}
	n, err := strconv.Atoi(after)
	if err != nil || n < 1 {
		t.Fatalf("K3: %q", item)
	}
	return what, n
}

func TestSplitPutsTogether(t *testing.T) { // K3
	l := texts(t)
	for i, p := range l {
		q := l[(i*7+3)%len(l)]
		quotient, rest, _ := strings.Cut(Line("SPLIT "+p+";"+q), ";")
		if got := read(t, q).Times(read(t, quotient)).Plus(read(t, rest)).Text(); got != p {
			t.Errorf("K3: %s split by %s is put together as %s", p, q, got)
		}
		common := Line("GCD " + p + ";" + q)
		for _, s := range []string{p, q} {
			if _, rest, _ := strings.Cut(Line("SPLIT "+s+";"+common), ";"); rest != "0" {
				t.Errorf("K3: %s does not divide %s", common, s)
			}
		}
	}
}

func TestPartsMultiply(t *testing.T) { // K3
	for _, p := range texts(t) {
		product := poly.Of([]ratio.Rat{read(t, p).Coef(read(t, p).Degree())})
		for _, item := range fields(Line("PARTS " + p)) {
			part, times := withTimes(t, item)
			for range times {
				product = product.Times(read(t, part))
			}
		}
		if got := product.Text(); got != p {
			t.Errorf("K3: the parts of %s multiply to %s", p, got)
		}
	}
}

func TestAsManyRootsAsCounted(t *testing.T) { // K3
	for _, p := range texts(t) {
		roots := fields(Line("ROOTS 4;" + p))
		if n := Line("COUNT " + p + ";-100;100"); n != strconv.Itoa(len(roots)) {
			t.Errorf("K3: %s: %s roots are counted, %d told", p, n, len(roots))
		}
		zeros := fields(Line("SOLVE 4;" + p + ";="))
		if len(zeros) != len(roots) {
			t.Errorf("K3: %s is 0 at %q, and has the roots %q", p, zeros, roots)
		}
		for i := range roots {
			if s := Line("SIGN " + strconv.Itoa(i+1) + ";" + p + ";" + p); s != "0" {
				t.Errorf("K3: %s is %s at its root %d", p, s, i+1)
			}
		}
		if s := Line("SIGN " + strconv.Itoa(len(roots)+1) + ";" + p + ";" + p); s != "ERR 5" {
			t.Errorf("K3: %s has one more root: %s", p, s)
		}
	}
}

func TestRootsOfPartsAreRoots(t *testing.T) { // K3
	for _, p := range texts(t) {
		var want, got []string
		for _, item := range fields(Line("PARTS " + p)) {
			part, times := withTimes(t, item)
			for _, r := range fields(Line("ROOTS 4;" + part)) {
				want = append(want, r+"*"+strconv.Itoa(times))
			}
		}
		for _, item := range fields(Line("ROOTS 4;" + p)) {
			r, times := withTimes(t, item)
			got = append(got, r+"*"+strconv.Itoa(times))
		}
		slices.Sort(want)
		slices.Sort(got)
		if !slices.Equal(got, want) {
			t.Errorf("K3: %s has the roots %q, its parts %q", p, got, want)
		}
	}
}
