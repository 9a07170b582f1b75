package mul

import (
	"testing"

	"hairsbreadth/api"
)

// P19.3: the order of the operands matters for two NaNs alone, and there for the bits alone.
func TestCommutative(t *testing.T) {
	inParallel(t, func(t *testing.T, k kind) {
		for _, v := range envs() {
			for _, a := range k.edges() {
				for _, b := range k.edges() {
					commutes(t, k, v, a, b)
				}
			}
		}
		scattered(1000, func(a, b uint64) {
			for _, v := range envs() {
				commutes(t, k, v, api.Bits{Hi: a, Lo: b * 3}, api.Bits{Hi: b, Lo: a * 5})
				commutes(t, k, v, api.Bits{Hi: a, Lo: b}, api.Bits{Hi: a, Lo: a})
			}
		})
	})
}

func commutes(t *testing.T, k kind, v api.Env, a, b api.Bits) {
	t.Helper()
	r, s := Mul(k.f, v, a, b), Mul(k.f, v, b, a)
	if k.isNaN(a) && k.isNaN(b) {
		if r.Flags != s.Flags || r.Bits != k.quieted(a) || s.Bits != k.quieted(b) {
			t.Fatalf("format %d, %v: %x and %x have the products %x and %x", k.f, v, a, b, r, s)
		}
	} else if r != s {
		t.Fatalf("format %d, %v: %x * %x = %x, turned round %x", k.f, v, a, b, r, s)
	}
}

// P19.3: a number times 1 is the number, times -1 the one with the other sign: zeros,
// subnormal and normal numbers and infinities.
func TestTimesOne(t *testing.T) {
	inParallel(t, func(t *testing.T, k kind) {
		one, minusOne, l := k.one(), k.turned(k.one()), envs()
		for i, b := range append(k.finite(), k.infinity()) {
			for _, v := range []api.Env{l[i%5], l[5+i%5]} {
				for _, x := range []api.Bits{b, k.turned(b)} {
					checkOrders(t, k.f, v, x, one, api.Result{Bits: x})
					checkOrders(t, k.f, v, x, minusOne, api.Result{Bits: k.turned(x)})
				}
			}
		}
		for _, b := range append(k.numbers(), k.infinity()) {
			for _, v := range l {
				checkOrders(t, k.f, v, b, one, api.Result{Bits: b})
			}
		}
	})
}

// P19.3: a product with a power of 2, which may be subnormal itself, has the same bits
// and no flags, unless it overflows or is tiny.
func TestTimesPower(t *testing.T) {
	inParallel(t, func(t *testing.T, k kind) {
		finite := k.finite()
		if k.f == api.B16 {
			finite = append(finite[:40], finite[0x3e0:0x820]...)
		}
		for i, b := range finite {
			if b == (api.Bits{}) {
				continue
			}
			// Products of exponents all over the format: within it, and at its ends.
			x := k.value(b)
			for _, exp := range []int{k.least(), k.least() + 1, -1, 0, 1, k.emax - 1, k.emax, k.least() + i%(2*k.emax)} {
				by := exp - x.exponent()
				if by < k.lowest() || by > k.emax {
					continue
				}
				want := api.Result{Bits: k.encoding(x.n, x.unit+by)}
				for _, v := range envs() {
					checkOrders(t, k.f, v, b, k.two(by), want)
					checkOrders(t, k.f, v, k.turned(b), k.two(by), api.Result{Bits: k.turned(want.Bits)})
				}
			}
		}
	})
}

// widened is a finite number of the sign 0 in another format, which has it.
func (k kind) widened(b api.Bits, to kind) api.Bits {
	x := k.value(b)
	return to.encoding(x.n, x.unit)
}

// P19.3: the product of two numbers of a format has no flags in the next wider one, and
// is the product there.
func TestExactInWider(t *testing.T) {
	l := kinds()
	for i, k := range l[:3] {
		wider := l[i+1]
		check := func(a, b api.Bits) {
			x, y := k.widened(a, wider), k.widened(b, wider)
			product := k.value(a).times(k.value(b))
			want := api.Result{Bits: wider.encoding(product.n, product.unit)}
			for _, v := range envs() {
				checkOrders(t, wider.f, v, x, y, want)
				checkOrders(t, wider.f, v, wider.turned(x), wider.turned(y), want)
			}
		}
		for _, a := range k.numbers() {
			for _, b := range k.numbers() {
				check(a, b)
			}
		}
		for _, p := range k.factors() {
			for _, e := range k.ends() {
				by := k.split(e)[e&1]
				check(k.normal(by[0], p[0]), k.normal(by[1], p[1]))
			}
		}
	}
}
