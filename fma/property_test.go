package fma

import (
	"testing"

	"hairsbreadth/addsub"
	"hairsbreadth/api"
	"hairsbreadth/mul"
)

// pairs visits operands of all classes at the edges of the format, each with each, and
// any others.
func (k kind) pairs(visit func(a, b api.Bits)) {
	for _, a := range k.edges() {
		for _, b := range k.edges() {
			visit(a, b)
		}
	}
	scattered(2000, func(a, b uint64) {
		visit(api.Bits{Hi: a, Lo: b * 3}, api.Bits{Hi: b, Lo: a * 5})
	})
}

// P20.2: with a zero as the third operand, it is the product, with its flags; the sign
// of a zero is its too, unless a factor is a zero.
func TestIsProduct(t *testing.T) {
	inParallel(t, func(t *testing.T, k kind) {
		n := 0
		k.pairs(func(a, b api.Bits) {
			n++
			for _, v := range []api.Env{envs()[n%10], envs()[(n+5)%10]} {
				for _, c := range k.withSigns([]api.Bits{{}}) {
					want := mul.Mul(k.f, v, a, b)
					if k.isZero(want.Bits) && want.Flags == 0 {
						want = k.nought(v.Mode, k.negative(want.Bits), k.negative(c))
					}
					check(t, k.f, v, a, b, c, want)
				}
			}
		})
		for i, p := range k.factors() {
			for _, e := range k.ends() {
				by, v := k.split(e)[i&1], envs()[(i+e&0xff)%10]
				a, b := k.normal(by[0], p[0]), k.turned(k.normal(by[1], p[1]))
				check(t, k.f, v, a, b, api.Bits{}, mul.Mul(k.f, v, a, b))
			}
		}
	})
}

// P20.2: with 1 as the second factor, it is the sum, with its flags, of all operands.
func TestIsSum(t *testing.T) {
	inParallel(t, func(t *testing.T, k kind) {
		n := 0
		k.pairs(func(a, c api.Bits) {
			n++
			for _, v := range []api.Env{envs()[n%10], envs()[(n+5)%10]} {
				check(t, k.f, v, a, k.one(), c, addsub.Add(k.f, v, a, c))
			}
		})
		for _, q := range k.significands() {
			for _, d := range k.distances() {
				a := k.leading(0, q)
				for i, r := range k.significands() {
					for _, v := range envs() {
						c := k.signed(i&1 == 0, k.leading(d, r))
						check(t, k.f, v, a, k.one(), c, addsub.Add(k.f, v, a, c))
						check(t, k.f, v, c, k.one(), a, addsub.Add(k.f, v, c, a))
					}
				}
			}
		}
	})
}

// P20.2: the difference of an exact product and the rounded one is told exactly, in
// every mode, wherever the format has it.
func TestTellsDifference(t *testing.T) {
	inParallel(t, func(t *testing.T, k kind) {
		told := map[api.Env]int{}
		for i, p := range k.factors() {
			for _, e := range k.ends() {
				by := k.split(e)[i&1]
				a, b := k.normal(by[0], p[0]), k.signed(i&2 != 0, k.normal(by[1], p[1]))
				product := k.value(a).times(k.value(b))
				for _, v := range envs() {
					r := mul.Mul(k.f, v, a, b)
					if r.Flags&api.Inexact == 0 || k.isInfinite(r.Bits) {
						continue
					}
					difference := product.plus(k.value(r.Bits).minus())
					if want, ok := k.exact(difference); ok {
						told[v]++
						check(t, k.f, v, a, b, k.turned(r.Bits), api.Result{Bits: want})
					}
				}
			}
		}
		for _, v := range envs() {
			if told[v] < 50 {
				t.Errorf("%d, %v: %d differences", k.f, v, told[v])
			}
		}
	})
}

// P20.2: where the product is not too small for its last bit, the format has every such
// difference.
func TestHasDifference(t *testing.T) {
	inParallel(t, func(t *testing.T, k kind) {
		for _, p := range k.factors() {
			for _, e := range []int{k.least() + k.prec, k.least() + 2*k.prec, 0, k.emax - 2} {
				if e > k.emax-2 || e < k.least()+k.prec {
					continue
				}
				by := k.split(e)[0]
				a, b := k.normal(by[0], p[0]), k.normal(by[1], p[1])
				product := k.value(a).times(k.value(b))
				for _, v := range envs() {
					r := mul.Mul(k.f, v, a, b)
					got := Fma(k.f, v, a, b, k.turned(r.Bits))
					if back := k.value(r.Bits).plus(k.value(got.Bits)).plus(product.minus()); got.Flags != 0 || back.n.Sign() != 0 {
						t.Fatalf("%d, %v: %x * %x is not %x and %x", k.f, v, a, b, r, got)
					}
				}
			}
		}
	})
}
