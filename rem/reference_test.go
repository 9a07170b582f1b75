package rem

import (
	"math"
	"math/big"
	"slices"

	"hairsbreadth/api"
)

const all64 = math.MaxUint64

// kind is a format with its parameters, as the table of chapter 7 has them.
type kind struct {
	f                 api.Format
	width, prec, emax int
}

func kinds() []kind {
	return []kind{
		{api.B16, 16, 11, 15},
		{api.B32, 32, 24, 127},
		{api.B64, 64, 53, 1023},
		{api.B128, 128, 113, 16383},
	}
}

// least is the exponent of the least normal number.
func (k kind) least() int {
	return 1 - k.emax
}

// lowest is the exponent of the least subnormal number.
func (k kind) lowest() int {
	return k.least() - (k.prec - 1)
}

func both() []bool {
	return []bool{false, true}
}

func low(n uint64) api.Bits {
	return api.Bits{Lo: n}
}

func bigOf(b api.Bits) *big.Int {
	n := new(big.Int).SetUint64(b.Hi)
	return n.Or(n.Lsh(n, 64), new(big.Int).SetUint64(b.Lo))
}

func bitsOf(n *big.Int) api.Bits {
	return api.Bits{Hi: new(big.Int).Rsh(n, 64).Uint64(), Lo: new(big.Int).And(n, plus(64, -1)).Uint64()}
}

func power(n int) *big.Int {
	return new(big.Int).Lsh(big.NewInt(1), uint(n))
}

// plus is 2^n + d.
func plus(n int, d int64) *big.Int {
	return new(big.Int).Add(power(n), big.NewInt(d))
}

// next is b + 1.
func next(b api.Bits) api.Bits {
	return step(b, 1)
}

// step is b + d.
func step(b api.Bits, d int64) api.Bits {
	n := bigOf(b)
	return bitsOf(n.Add(n, big.NewInt(d)))
}

// cut is b without the bits above the width.
func (k kind) cut(b api.Bits) *big.Int {
	n := bigOf(b)
	return n.And(n, plus(k.width, -1))
}

func (k kind) negative(b api.Bits) bool {
	return k.cut(b).Bit(k.width-1) == 1
}

// turned is b with the other sign, the bits above the width left as they are.
func (k kind) turned(b api.Bits) api.Bits {
	n := bigOf(b)
	return bitsOf(n.SetBit(n, k.width-1, 1-n.Bit(k.width-1)))
}

// signed is an encoding of the sign 0, with that sign.
func (k kind) signed(neg bool, b api.Bits) api.Bits {
	if neg {
		return k.turned(b)
	}
	return b
}

// unsigned is b without its sign and the bits above it: exponent field and fraction.
func (k kind) unsigned(b api.Bits) *big.Int {
	n := k.cut(b)
	return n.SetBit(n, k.width-1, 0)
}

// above are b and encodings that differ from it in bits that are ignored.
func (k kind) above(b api.Bits) []api.Bits {
	if k.width == 128 {
		return []api.Bits{b}
	}
	l := []api.Bits{b}
	for _, i := range []int{k.width, k.width + 1, 126, 127} {
		n := bigOf(b)
		l = append(l, bitsOf(n.SetBit(n, i, 1)))
	}
	all := plus(128-k.width, -1)
	all.Lsh(all, uint(k.width))
	return append(l, bitsOf(all.Or(all, bigOf(b))))
}

// made is the encoding of those two fields.
func (k kind) made(field int, fraction *big.Int) api.Bits {
	n := new(big.Int).Lsh(big.NewInt(int64(field)), uint(k.prec-1))
	return bitsOf(n.Or(n, fraction))
}

// normal is the number of that exponent whose bits are those of n, which are no more
// than the format has.
func (k kind) normal(exp int, n *big.Int) api.Bits {
	m := new(big.Int).Lsh(n, uint(k.prec-n.BitLen()))
	return k.made(exp+k.emax, m.SetBit(m, k.prec-1, 0))
}

// two is 2^exp, normal or subnormal.
func (k kind) two(exp int) api.Bits {
	if exp < k.least() {
		return bitsOf(power(exp - k.lowest()))
	}
	return k.normal(exp, big.NewInt(1))
}

func (k kind) one() api.Bits {
	return k.made(k.emax, new(big.Int))
}

func (k kind) infinity() api.Bits {
	return k.made(2*k.emax+1, new(big.Int))
}

func (k kind) greatest() api.Bits {
	return step(k.infinity(), -1)
}

// standard is the default NaN.
func (k kind) standard() api.Bits {
	return k.made(2*k.emax+1, power(k.prec-2))
}

func (k kind) isZero(b api.Bits) bool {
	return k.unsigned(b).Sign() == 0
}

func (k kind) isInfinite(b api.Bits) bool {
	return k.unsigned(b).Cmp(bigOf(k.infinity())) == 0
}

func (k kind) isNaN(b api.Bits) bool {
	return k.unsigned(b).Cmp(bigOf(k.infinity())) > 0
}

func (k kind) isSignaling(b api.Bits) bool {
	return k.isNaN(b) && bigOf(b).Bit(k.prec-2) == 0
}

func (k kind) quieted(b api.Bits) api.Bits {
	n := k.cut(b)
	return bitsOf(n.SetBit(n, k.prec-2, 1))
}

// number is n * 2^unit.
type number struct {
	n    *big.Int
	unit int
}

// value is that of a finite encoding: chapter 9's formula.
func (k kind) value(b api.Bits) number {
	m := k.unsigned(b)
	field := int(new(big.Int).Rsh(m, uint(k.prec-1)).Int64())
	m.And(m, plus(k.prec-1, -1))
	if field > 0 {
		m.SetBit(m, k.prec-1, 1)
	}
	if k.negative(b) {
		m.Neg(m)
	}
	return number{m, max(field, 1) - k.emax - (k.prec - 1)}
}

// units is the number in units of 2^unit, of which it is a multiple.
func (x number) units(unit int) *big.Int {
	n := new(big.Int).Lsh(x.n, uint(max(x.unit-unit, 0)))
	return n.Rsh(n, uint(max(unit-x.unit, 0)))
}

// places are the values of two finite encodings in units that both are multiples of,
// and the exponent of these.
func (k kind) places(a, b api.Bits) (*big.Int, *big.Int, int) {
	x, y := k.value(a), k.value(b)
	unit := min(x.unit, y.unit)
	return x.units(unit), y.units(unit), unit
}

// divided is the remainder of two finite encodings, the second one not a zero.
func (k kind) divided(a, b api.Bits) api.Bits {
	x, y, unit := k.places(a, b)
	n := nearest(x, y)
	r := x.Sub(x, n.Mul(n, y))
	neg := r.Sign() < 0 || r.Sign() == 0 && k.negative(a)
	return k.signed(neg, k.encoding(r.Abs(r), unit))
}

// nearest is the integer nearest to x / y, the even one of two that are equally near.
func nearest(x, y *big.Int) *big.Int {
	d := new(big.Int).Abs(y)
	n, rest := new(big.Int).DivMod(x, y, new(big.Int)) // the rest is not negative
	half := rest.Lsh(rest, 1).Cmp(d)
	if half > 0 || half == 0 && n.Bit(0) == 1 {
		n.Add(n, big.NewInt(int64(y.Sign()))) // the other neighbor: the rest becomes less by d
	}
	return n
}

// encoding is that of q * 2^unit, which the format has.
func (k kind) encoding(q *big.Int, unit int) api.Bits {
	exp := q.BitLen() - 1 + unit
	if q.Sign() == 0 || exp < k.least() {
		return bitsOf(number{q, unit}.units(k.lowest()))
	}
	// More bits than the format has are zeros at the end.
	m := new(big.Int).Lsh(q, uint(k.prec))
	m.Rsh(m, uint(q.BitLen()))
	return k.made(exp+k.emax, m.SetBit(m, k.prec-1, 0))
}

// picked is the result for NaNs and invalid operations.
func (k kind) picked(a, b api.Bits) api.Result {
	r := api.Result{Bits: k.standard()}
	switch {
	case k.isNaN(a):
		r.Bits = k.quieted(a)
	case k.isNaN(b):
		r.Bits = k.quieted(b)
	default:
		r.Flags = api.Invalid
	}
	if k.isSignaling(a) || k.isSignaling(b) {
		r.Flags = api.Invalid
	}
	return r
}

// want is what Rem should answer, by the cases of the chapter one after the other.
func (k kind) want(a, b api.Bits) api.Result {
	switch {
	case k.isNaN(a), k.isNaN(b), k.isInfinite(a), k.isZero(b):
		return k.picked(a, b)
	case k.isInfinite(b):
		return api.Result{Bits: bitsOf(k.cut(a))}
	}
	return api.Result{Bits: k.divided(a, b)}
}

// fractions are those of both ends, and some between, even ones and odd ones.
func (k kind) fractions() []*big.Int {
	return []*big.Int{new(big.Int), big.NewInt(1), mixed(k.prec - 2), plus(k.prec-2, 0), plus(k.prec-1, -2), plus(k.prec-1, -1)}
}

// numbers are those at the edges of the format and some within, of the sign 0.
func (k kind) numbers() []api.Bits {
	one, normal := k.one(), k.two(k.least())
	l := []api.Bits{{}, low(1), low(2), low(3), k.two(k.least() - 1), step(normal, -2), step(normal, -1), normal, next(normal)}
	l = append(l, step(k.two(-1), -1), k.two(-1), next(k.two(-1)), step(one, -1), one, next(one), k.made(k.emax, power(k.prec-2)), k.two(1))
	l = append(l, k.two(k.lowest()/2), k.two(k.emax/2+1), k.two(k.emax), step(k.greatest(), -1), k.greatest())
	return l
}

// quiet and signaling are NaNs at both ends of their fractions, of the sign 0.
func (k kind) quiet() []api.Bits {
	return []api.Bits{k.standard(), next(k.standard()), k.made(2*k.emax+1, plus(k.prec-1, -1))}
}

func (k kind) signaling() []api.Bits {
	return []api.Bits{next(k.infinity()), step(k.standard(), -1), k.made(2*k.emax+1, power(k.prec-3))}
}

func (k kind) nans() []api.Bits {
	return k.withSigns(append(k.quiet(), k.signaling()...))
}

// withSigns are those of l with both signs.
func (k kind) withSigns(l []api.Bits) []api.Bits {
	var out []api.Bits
	for _, b := range l {
		out = append(out, b, k.turned(b))
	}
	return out
}

// edges are operands of all classes with both signs.
func (k kind) edges() []api.Bits {
	return append(k.withSigns(append(k.numbers(), k.infinity())), k.nans()...)
}

// finite are finite numbers of the sign 0 that are not 0: all of them in B16, in the
// other formats those of some exponents and those beside the powers of 2 as integers.
func (k kind) finite() []api.Bits {
	var l []api.Bits
	if k.f == api.B16 {
		for b := range uint64(0x7bff) {
			l = append(l, low(b+1))
		}
		return l
	}
	for field := 0; field <= 2*k.emax; field += 1 + k.emax/50 {
		for _, q := range k.fractions() {
			l = append(l, k.made(field, q))
		}
	}
	for i := range k.prec {
		l = append(l, bitsOf(power(i)), bitsOf(plus(i, 1)), bitsOf(plus(i, -1)), step(k.infinity(), -1-int64(i)))
	}
	return slices.DeleteFunc(l, k.isZero)
}
