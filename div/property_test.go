package div

import (
	"testing"

	"hairsbreadth/api"
	"hairsbreadth/mul"
)

// P21.2: the quotient of a number and 1 is the number, by -1 the one with the other
// sign: zeros, subnormal and normal numbers and infinities, without flags.
func TestByOne(t *testing.T) {
	inParallel(t, func(t *testing.T, k kind) {
		l := envs()
		for i, b := range append(k.finite(), k.infinity()) {
			for _, v := range []api.Env{l[i%5], l[5+i%5]} {
				checkByOne(t, k, v, b)
			}
		}
		for _, b := range append(k.numbers(), k.infinity()) {
			for _, v := range l {
				checkByOne(t, k, v, b)
			}
		}
	})
}

func checkByOne(t *testing.T, k kind, v api.Env, b api.Bits) {
	t.Helper()
	one, minusOne := k.one(), k.turned(k.one())
	for _, x := range []api.Bits{b, k.turned(b)} {
		check(t, k.f, v, x, one, api.Result{Bits: x})
		check(t, k.f, v, x, minusOne, api.Result{Bits: k.turned(x)})
	}
}

// P21.2: the quotient of a finite number that is not zero and itself is 1, by the one
// with the other sign -1, without flags.
func TestByItself(t *testing.T) {
	inParallel(t, func(t *testing.T, k kind) {
		l := envs()
		for i, b := range k.finite() {
			for _, v := range []api.Env{l[i%5], l[5+i%5]} {
				checkByItself(t, k, v, b)
			}
		}
		for _, b := range k.numbers()[1:] {
			for _, v := range l {
				checkByItself(t, k, v, b)
			}
		}
	})
}

func checkByItself(t *testing.T, k kind, v api.Env, b api.Bits) {
	t.Helper()
	one, minus := api.Result{Bits: k.one()}, k.turned(b)
	check(t, k.f, v, b, b, one)
	check(t, k.f, v, minus, minus, one)
	one.Bits = k.turned(one.Bits)
	check(t, k.f, v, b, minus, one)
	check(t, k.f, v, minus, b, one)
}

// exponents are those of powers of 2 of which the format has the reciprocal, the one
// that is subnormal and the one whose reciprocal is subnormal among them.
func (k kind) exponents() []int {
	var l []int
	for i := -k.emax; i <= k.emax; i += 1 + k.emax/64 {
		l = append(l, i)
	}
	return append(l, -k.emax, k.least(), -k.prec-1, -k.prec, 1-k.prec, -1, 0, 1, k.prec-1, k.prec, k.prec+1, k.emax-1, k.emax)
}

// checkByPower holds the quotient with a power of 2 against the product with its
// reciprocal.
func checkByPower(t *testing.T, k kind, v api.Env, a api.Bits, exp int) {
	t.Helper()
	for _, neg := range both() {
		b, reciprocal := k.signed(neg, k.two(exp)), k.signed(neg, k.two(-exp))
		check(t, k.f, v, a, b, mul.Mul(k.f, v, a, reciprocal))
	}
}

// P21.2: division by a power of 2, in every mode, flags too, of operands of all classes
// at the edges, and of numbers whose quotients are at the ends of the format.
func TestByPower(t *testing.T) {
	inParallel(t, func(t *testing.T, k kind) {
		for _, v := range envs() {
			for _, exp := range k.exponents() {
				for _, a := range k.edges() {
					checkByPower(t, k, v, a, exp)
				}
			}
		}
		for i, b := range k.finite() {
			x := k.value(b)
			exp := x.n.BitLen() - 1 + x.unit
			for j, to := range []int{k.lowest() - 1, k.lowest(), k.lowest() + i%k.prec, k.least() - 1, k.least(), k.emax, k.emax + 1} {
				if by := exp - to; -k.emax <= by && by <= k.emax {
					l := envs()
					checkByPower(t, k, l[(i+j)%5], b, by)
					checkByPower(t, k, l[5+(i+j)%5], k.turned(b), by)
				}
			}
		}
	})
}

// checkBack holds the product of a quotient of two finite numbers and its divisor
// against the dividend, if the quotient is exact, and reports whether it is.
func checkBack(t *testing.T, k kind, v api.Env, a, b api.Bits) bool {
	t.Helper()
	r := Div(k.f, v, a, b)
	if r.Flags != 0 {
		return false
	}
	if back := mul.Mul(k.f, v, r.Bits, b); back != (api.Result{Bits: a}) {
		t.Fatalf("format %d, %v: %x / %x = %x, and times the divisor %x", k.f, v, a, b, r, back)
	}
	return true
}

// P21.2: the product of an exact quotient and the divisor is the dividend, without
// flags: of any numbers whose quotient is exact.
func TestBack(t *testing.T) {
	inParallel(t, func(t *testing.T, k kind) {
		exact, inexact := 0, 0
		count := func(a, b api.Bits) {
			for _, v := range envs() {
				if checkBack(t, k, v, a, b) {
					exact++
				} else {
					inexact++
				}
			}
		}
		for _, a := range k.withSigns(k.numbers()) {
			for _, b := range k.withSigns(k.numbers()[1:]) {
				count(a, b)
			}
		}
		for _, p := range append(k.exact(), k.simple()...) {
			for _, e := range k.ends() {
				at := k.apart(e)[e&1]
				count(k.normal(at[0], p[0]), k.turned(k.normal(at[1], p[1])))
			}
		}
		if exact < 5000 || inexact < 5000 {
			t.Errorf("%d: %d quotients are exact, and %d not", k.f, exact, inexact)
		}
	})
}

// P21.2: a product without flags, divided by a factor that is not 0, is the other one,
// without flags, and gives the product again.
func TestBackOfProducts(t *testing.T) {
	inParallel(t, func(t *testing.T, k kind) {
		exact := 0
		back := func(q, b api.Bits) {
			for _, v := range []api.Env{envs()[exact%10], envs()[(exact+5)%10]} {
				if product := mul.Mul(k.f, v, q, b); product.Flags == 0 {
					exact++
					check(t, k.f, v, product.Bits, b, api.Result{Bits: q})
					checkBack(t, k, v, product.Bits, b)
				}
			}
		}
		finite := k.finite()
		for i, q := range finite {
			for _, d := range []int{1, 2, 3, 17, len(finite) / 3} {
				back(k.signed(i%2 == 0, q), k.signed(i%3 == 0, finite[i*d%len(finite)]))
			}
		}
		half := k.prec / 2
		for e := k.least(); e < k.emax; e += 1 + k.emax/100 {
			back(k.normal(e, mixed(half)), k.normal(0, plus(half, -1)))
			back(k.normal(-e, plus(half, -1)), k.normal(e, mixed(half)))
		}
		if exact < 500 {
			t.Errorf("%d: %d products are exact", k.f, exact)
		}
	})
}
