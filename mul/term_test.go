package mul

import (
	"math"
	"math/big"
	"testing"

	"hairsbreadth/api"
)

// classes are all of them, and some that don't exist.
func classes() []api.Class {
	return []api.Class{api.ClZero, api.ClSub, api.ClNormal, api.ClInf, api.ClQuiet, api.ClSignal, 6, 7, 128, 255}
}

func checkTerm(t *testing.T, x, y api.Num, exp int, product *big.Int) {
	t.Helper()
	if e, w := Term(x, y); e != exp || bigWide(w).Cmp(product) != 0 {
		t.Fatalf("Term(%v, %v) = %d, %x, want %d, %x", x, y, e, w, exp, product)
	}
}

// number is the number of that encoding of the sign 0, which is finite and not 0,
// taken apart.
func (k kind) number(b api.Bits) api.Num {
	x := k.value(b)
	n := api.Num{Class: api.ClNormal, Exp: x.exponent(), Sig: bitsOf(new(big.Int).Lsh(x.n, uint(128-x.n.BitLen())))}
	if n.Exp < k.least() {
		n.Class = api.ClSub
	}
	return n
}

// significands are those with the leading 1, the longest ones among them, and two that
// no number has.
func significands() []api.Bits {
	l := []api.Bits{{Hi: 1 << 63}, {Hi: 1 << 63, Lo: 1}, {Hi: all64, Lo: all64}, {Hi: 0xaaaaaaaaaaaaaaaa, Lo: 0xaaaaaaaaaaaaaaaa}}
	// Of 113 bits, as many as the format of 128 bits has.
	l = append(l, api.Bits{Hi: 1 << 63, Lo: 1 << 15}, api.Bits{Hi: all64, Lo: all64 &^ 0x7fff}, api.Bits{Hi: 0xfedcba9876543210, Lo: 0x0123456789ab8000})
	return append(l, api.Bits{}, low(3))
}

// P19.2: the classes of both decide whether there is a product, the signs do not.
func TestTermClasses(t *testing.T) {
	for _, p := range classes() {
		for _, q := range classes() {
			x := api.Num{Class: p, Exp: 5, Sig: api.Bits{Hi: 1 << 63, Lo: 3}}
			y := api.Num{Class: q, Exp: -9, Sig: api.Bits{Hi: 3 << 62}}
			exp, product := 0, new(big.Int)
			if (p == api.ClSub || p == api.ClNormal) && (q == api.ClSub || q == api.ClNormal) {
				exp, product = -3, new(big.Int).Mul(bigOf(x.Sig), bigOf(y.Sig))
			}
			for i := range 4 {
				x.Neg, y.Neg = i&1 != 0, i&2 != 0
				checkTerm(t, x, y, exp, product)
				checkTerm(t, y, x, exp, product)
			}
		}
	}
}

// P19.2: the product is whole, up to the longest significands.
func TestTermSignificands(t *testing.T) {
	for _, a := range significands() {
		for _, b := range significands() {
			product := new(big.Int).Mul(bigOf(a), bigOf(b))
			for _, e := range []int{0, 1, -1, 16383, -16382, -16494} {
				x := api.Num{Class: api.ClNormal, Exp: e, Sig: a}
				checkTerm(t, x, api.Num{Class: api.ClSub, Exp: 7, Sig: b}, e+8, product)
				checkTerm(t, x, api.Num{Class: api.ClNormal, Exp: e, Sig: b}, 2*e+1, product)
			}
		}
	}
}

// P19.2: written out: 1 times 1, 3 times 3, and the longest significands of the format
// of 128 bits.
func TestTermWritten(t *testing.T) {
	full := api.Bits{Hi: all64, Lo: all64 &^ 0x7fff}
	for _, x := range []struct {
		exp  int
		sig  api.Bits
		e    int
		want api.Wide
	}{
		{0, api.Bits{Hi: 1 << 63}, 1, api.Wide{3: 1 << 62}},
		{1, api.Bits{Hi: 3 << 62}, 3, api.Wide{3: 9 << 60}},
		{-16494, api.Bits{Hi: 1 << 63}, -32987, api.Wide{3: 1 << 62}},
		{16383, full, 32767, api.Wide{1 << 30, 0, all64 - 0xffff, all64}},
	} {
		n := api.Num{Class: api.ClNormal, Exp: x.exp, Sig: x.sig}
		if e, w := Term(n, n); e != x.e || w != x.want {
			t.Errorf("Term(%v, %v) = %d, %x, want %d, %x", n, n, e, w, x.e, x.want)
		}
	}
}

// P19.2: the term of two numbers of a format is their product: significand times 2 to
// the power of the exponent less 255.
func TestTermIsProduct(t *testing.T) {
	for _, k := range kinds() {
		for _, a := range k.numbers()[1:] {
			for _, b := range k.numbers()[1:] {
				exp, sig := Term(k.number(a), k.number(b))
				product := k.value(a).times(k.value(b))
				n := new(big.Int).Lsh(product.n, uint(product.unit-(exp-255)))
				if n.Cmp(bigWide(sig)) != 0 {
					t.Errorf("%d: Term of %x and %x = %d, %x", k.f, a, b, exp, sig)
				}
			}
		}
	}
}

// P19.2: exponents that no number has: the sum is that of integers, and nothing panics.
func TestTermExponents(t *testing.T) {
	one := api.Bits{Hi: 1 << 63}
	product := new(big.Int).Mul(bigOf(one), bigOf(one))
	l := []int{math.MinInt, math.MinInt + 1, -1 << 40, -1, 0, 1, 1 << 40, math.MaxInt - 1, math.MaxInt}
	for _, p := range l {
		for _, q := range l {
			checkTerm(t, api.Num{Class: api.ClNormal, Exp: p, Sig: one}, api.Num{Class: api.ClNormal, Exp: q, Sig: one}, p+q+1, product)
		}
	}
}

// P19.2: just a zero and an infinity, in each order, whatever else the numbers hold.
func TestBad(t *testing.T) {
	for _, p := range classes() {
		for _, q := range classes() {
			want := p == api.ClZero && q == api.ClInf || p == api.ClInf && q == api.ClZero
			for i := range 16 {
				x, y := api.Num{Neg: i&1 != 0, Class: p}, api.Num{Neg: i&2 != 0, Class: q}
				if i&4 != 0 {
					x.Exp, x.Sig = 5, api.Bits{Hi: 1 << 63}
				}
				if i&8 != 0 {
					y.Exp, y.Sig = -5, api.Bits{Hi: 1 << 63, Lo: 1}
				}
				if got := Bad(x, y); got != want {
					t.Errorf("Bad(%v, %v) = %v", x, y, got)
				}
			}
		}
	}
}
