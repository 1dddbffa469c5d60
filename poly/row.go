package poly

import "slices"

// number is what can be added to and multiplied with others of its kind. Its zero value is 0.
type number[T any] interface {
	Plus(T) T
	Times(T) T
}

// row is a polynomial's coefficients, numbers of any kind, that of the lowest power first.
type row[T number[T]] []T

// joint makes one number of two.
type joint[T number[T]] func(T, T) T

// trimmed leaves the highest powers away whose coefficients are 0.
func (r row[T]) trimmed(isZero func(T) bool) row[T] {
	for i, c := range slices.Backward(r) {
		if !isZero(c) {
			return r[:i+1]
		}
	}
	return nil
}

// coef is the coefficient of any power.
func (r row[T]) coef(i int) T {
	if i < 0 || i >= len(r) {
		var zero T
		return zero
	}
	return r[i]
}

// joined puts two rows together, power by power.
func joined[T number[T]](a, b row[T], f joint[T]) row[T] {
	z := make(row[T], max(len(a), len(b)))
	for i := range z {
		z[i] = f(a.coef(i), b.coef(i))
	}
	return z
}

// mapped is the row of what f makes of each coefficient.
func mapped[T number[T], S number[S]](r row[T], f func(T) S) row[S] {
	z := make(row[S], len(r))
	for i, c := range r {
		z[i] = f(c)
	}
	return z
}

// times is the product.
func (r row[T]) times(b row[T]) row[T] {
	z := make(row[T], max(0, len(r)+len(b)-1))
	for i, x := range r {
		for j, y := range b {
			z[i+j] = z[i+j].Plus(x.Times(y))
		}
	}
	return z
}

// at is what the polynomial is worth at x.
func (r row[T]) at(x T) T {
	var sum T
	for _, c := range slices.Backward(r) {
		sum = sum.Times(x).Plus(c)
	}
	return sum
}
