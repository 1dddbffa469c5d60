package surd

import (
	"strconv"
	"strings"

	"surd/api"
	"surd/parts"
	"surd/root"
	"surd/solve"
	"surd/sturm"
)

// word is what a line may begin with.
type word struct {
	name   string
	parts  int
	answer func(left *[]string) string // it takes the parts that are left, one after another
}

var words []word

func init() {
	words = []word{
		{"AT", 2, at},
		{"SPLIT", 2, split},
		{"GCD", 2, gcd},
		{"PARTS", 1, partsOf},
		{"COUNT", 3, count},
		{"ROOTS", 2, roots},
		{"SIGN", 3, sign},
		{"SOLVE", 3, solved},
	}
}

// answerTo answers so many parts as the word has.
func (w word) answerTo(list []string) (text string) {
	defer func() {
		if r, ok := recover().(refusal); ok {
			text = string(r)
		}
	}()
	return w.answer(&list)
}

func at(left *[]string) string {
	p := next(left, polynomial)
	x := next(left, fraction)
	return p.At(x).Text()
}

func split(left *[]string) string {
	p := next(left, polynomial)
	q := next(left, polynomial)
	quotient, rest, ok := p.Split(q)
	if !ok {
		panic(refused(api.ErrZero))
	}
	return quotient.Text() + ";" + rest.Text()
}

func gcd(left *[]string) string {
	p := next(left, polynomial)
	q := next(left, polynomial)
	return parts.GCD(p, q).Text()
}

func partsOf(left *[]string) string {
	p := next(left, polynomial)
	return listed(parts.Parts(p), func(part parts.Part) string {
		return part.Poly.Text() + "*" + strconv.Itoa(part.Times)
	})
}

func count(left *[]string) string {
	p := next(left, polynomial)
	a := next(left, fraction)
	b := next(left, fraction)
	return strconv.Itoa(sturm.Between(p, a, b))
}

func roots(left *[]string) string {
	n := next(left, number)
	p := next(left, polynomial)
	return listed(root.Roots(p), func(r root.Root) string {
		if r.Times() > 1 {
			return r.Digits(n) + "*" + strconv.Itoa(r.Times())
		}
		return r.Digits(n)
	})
}

func sign(left *[]string) string {
	k := next(left, number)
	p := next(left, polynomial)
	q := next(left, polynomial)
	l := root.Roots(p)
	if k < 1 || k > len(l) {
		panic(refused(api.ErrNone))
	}
	return strconv.Itoa(l[k-1].Sign(q))
}

func solved(left *[]string) string {
	n := next(left, number)
	p := next(left, polynomial)
	op := next(left, itself)
	text, e := solve.Solve(p, op, n)
	if e != api.OK {
		panic(refused(e))
	}
	return text
}

// listed writes items with blanks between.
func listed[T any](items []T, text func(T) string) string {
	if len(items) == 0 {
		return "none"
	}
	var texts []string
	for _, item := range items {
		texts = append(texts, text(item))
	}
	return strings.Join(texts, " ")
}
