package rint

import (
	"math"
	"math/big"
	"slices"

	"hairsbreadth/api"
)

const all64 = math.MaxUint64

// mixed is an integer of length bits, which are 1 and 0 in turn.
func mixed(length int) *big.Int {
	return new(big.Int).Quo(power(length+1), big.NewInt(3))
}

// kind is a format with its parameters, as the table of chapter 7 has them.
type kind struct {
	f                 api.Format
	width, prec, emax int
}

func kinds() []kind {
	return []kind{
		{api.B16, 16, 11, 15},
		{api.B32, 32, 24, 127},
		{api.B64, 64, 53, 1023},
		{api.B128, 128, 113, 16383},
	}
}

// least is the exponent of the least normal number.
func (k kind) least() int {
	return 1 - k.emax
}

// lowest is the exponent of the least subnormal number.
func (k kind) lowest() int {
	return k.least() - (k.prec - 1)
}

func modes() []api.Mode {
	return []api.Mode{api.Near, api.Away, api.Up, api.Down, api.Zero}
}

func both() []bool {
	return []bool{false, true}
}

func low(n uint64) api.Bits {
	return api.Bits{Lo: n}
}

func bigOf(b api.Bits) *big.Int {
	n := new(big.Int).SetUint64(b.Hi)
	return n.Or(n.Lsh(n, 64), new(big.Int).SetUint64(b.Lo))
}

func bitsOf(n *big.Int) api.Bits {
	return api.Bits{Hi: new(big.Int).Rsh(n, 64).Uint64(), Lo: new(big.Int).And(n, plus(64, -1)).Uint64()}
}

func power(n int) *big.Int {
	return new(big.Int).Lsh(big.NewInt(1), uint(n))
}

// plus is 2^n + d.
func plus(n int, d int64) *big.Int {
	return new(big.Int).Add(power(n), big.NewInt(d))
}

// next is b + 1.
func next(b api.Bits) api.Bits {
	return step(b, 1)
}

// step is b + d.
func step(b api.Bits, d int64) api.Bits {
	n := bigOf(b)
	return bitsOf(n.Add(n, big.NewInt(d)))
}

// cut is b without the bits above the width.
func (k kind) cut(b api.Bits) *big.Int {
	n := bigOf(b)
	return n.And(n, plus(k.width, -1))
}

func (k kind) negative(b api.Bits) bool {
	return k.cut(b).Bit(k.width-1) == 1
}

// turned is b with the other sign, the bits above the width left as they are.
func (k kind) turned(b api.Bits) api.Bits {
	n := bigOf(b)
	return bitsOf(n.SetBit(n, k.width-1, 1-n.Bit(k.width-1)))
}

// signed is an encoding of the sign 0, with that sign.
func (k kind) signed(neg bool, b api.Bits) api.Bits {
	if neg {
		return k.turned(b)
	}
	return b
}

// unsigned is b without its sign and the bits above it: exponent field and fraction.
func (k kind) unsigned(b api.Bits) *big.Int {
	n := k.cut(b)
	return n.SetBit(n, k.width-1, 0)
}

// above are b and encodings that differ from it in bits that are ignored.
func (k kind) above(b api.Bits) []api.Bits {
	if k.width == 128 {
		return []api.Bits{b}
	}
	l := []api.Bits{b}
	for _, i := range []int{k.width, k.width + 1, 126, 127} {
		n := bigOf(b)
		l = append(l, bitsOf(n.SetBit(n, i, 1)))
	}
	all := plus(128-k.width, -1)
	all.Lsh(all, uint(k.width))
	return append(l, bitsOf(all.Or(all, bigOf(b))))
}

// made is the encoding of those two fields.
func (k kind) made(field int, fraction *big.Int) api.Bits {
	n := new(big.Int).Lsh(big.NewInt(int64(field)), uint(k.prec-1))
	return bitsOf(n.Or(n, fraction))
}

// normal is the number of that exponent whose bits are those of n, which are no more
// than the format has.
func (k kind) normal(exp int, n *big.Int) api.Bits {
	m := new(big.Int).Lsh(n, uint(k.prec-n.BitLen()))
	return k.made(exp+k.emax, m.SetBit(m, k.prec-1, 0))
}

// two is 2^exp, normal or subnormal.
func (k kind) two(exp int) api.Bits {
	if exp < k.least() {
		return bitsOf(power(exp - k.lowest()))
	}
	return k.normal(exp, big.NewInt(1))
}

func (k kind) one() api.Bits {
	return k.made(k.emax, new(big.Int))
}

func (k kind) infinity() api.Bits {
	return k.made(2*k.emax+1, new(big.Int))
}

func (k kind) greatest() api.Bits {
	return step(k.infinity(), -1)
}

// standard is the NaN of which only the most significant bit of the fraction is 1.
func (k kind) standard() api.Bits {
	return k.made(2*k.emax+1, power(k.prec-2))
}

func (k kind) isZero(b api.Bits) bool {
	return k.unsigned(b).Sign() == 0
}

func (k kind) isInfinite(b api.Bits) bool {
	return k.unsigned(b).Cmp(bigOf(k.infinity())) == 0
}

func (k kind) isNaN(b api.Bits) bool {
	return k.unsigned(b).Cmp(bigOf(k.infinity())) > 0
}

func (k kind) isSignaling(b api.Bits) bool {
	return k.isNaN(b) && bigOf(b).Bit(k.prec-2) == 0
}

func (k kind) quieted(b api.Bits) api.Bits {
	n := k.cut(b)
	return bitsOf(n.SetBit(n, k.prec-2, 1))
}

// number is n * 2^unit.
type number struct {
	n    *big.Int
	unit int
}

// value is that of a finite encoding: chapter 9's formula.
func (k kind) value(b api.Bits) number {
	m := k.unsigned(b)
	field := int(new(big.Int).Rsh(m, uint(k.prec-1)).Int64())
	m.And(m, plus(k.prec-1, -1))
	if field > 0 {
		m.SetBit(m, k.prec-1, 1)
	}
	if k.negative(b) {
		m.Neg(m)
	}
	return number{m, max(field, 1) - k.emax - (k.prec - 1)}
}

// rounded is x rounded to an integer in the mode m, and whether that is x itself.
func (x number) rounded(m api.Mode) (*big.Int, bool) {
	if x.unit >= 0 {
		return new(big.Int).Lsh(x.n, uint(x.unit)), true
	}
	one := power(-x.unit)
	below, rest := new(big.Int).DivMod(x.n, one, new(big.Int)) // the rest is not negative
	if rest.Sign() == 0 {
		return below, true
	}
	if upwards(m, x.n.Sign() < 0, below.Bit(0) == 1, rest.Lsh(rest, 1).Cmp(one)) {
		below.Add(below, big.NewInt(1))
	}
	return below, false
}

// upwards is whether m rounds to the greater one of two neighboring integers, of which
// the lower one is odd or even, a number with that sign between them: below the middle,
// in it or above.
func upwards(m api.Mode, neg, odd bool, half int) bool {
	switch m {
	case api.Near:
		return half > 0 || half == 0 && odd
	case api.Away:
		return half > 0 || half == 0 && !neg
	case api.Up:
		return true
	case api.Down:
		return false
	}
	return neg // towards zero
}

// encoding is that of q * 2^unit, a number that is not negative and that the format has.
func (k kind) encoding(q *big.Int, unit int) api.Bits {
	exp := q.BitLen() - 1 + unit
	if q.Sign() == 0 || exp < k.least() {
		return bitsOf(shifted(q, unit-k.lowest()))
	}
	m := shifted(q, k.prec-q.BitLen())
	return k.made(exp+k.emax, m.SetBit(m, k.prec-1, 0))
}

// shifted is q * 2^by; the bits that fall off are zeros.
func shifted(q *big.Int, by int) *big.Int {
	n := new(big.Int).Lsh(q, uint(max(by, 0)))
	return n.Rsh(n, uint(max(-by, 0)))
}

// want is what Rint should answer, by the cases of the chapter one after the other.
func (k kind) want(m api.Mode, exactly bool, a api.Bits) api.Result {
	switch {
	case k.isSignaling(a):
		return api.Result{Bits: k.quieted(a), Flags: api.Invalid}
	case k.isNaN(a), k.isInfinite(a), k.isZero(a):
		return api.Result{Bits: bitsOf(k.cut(a))}
	}
	q, exact := k.value(a).rounded(m)
	r := api.Result{Bits: k.signed(k.negative(a), k.encoding(q.Abs(q), 0))}
	if exactly && !exact {
		r.Flags = api.Inexact
	}
	return r
}

// isWhole is what Whole should answer.
func (k kind) isWhole(a api.Bits) bool {
	if k.isNaN(a) || k.isInfinite(a) {
		return false
	}
	x := k.value(a)
	return x.n.Sign() == 0 || x.unit+int(x.n.TrailingZeroBits()) >= 0
}

// fractions are those of both ends, and some between, even ones and odd ones.
func (k kind) fractions() []*big.Int {
	return []*big.Int{new(big.Int), big.NewInt(1), mixed(k.prec - 2), plus(k.prec-2, 0), plus(k.prec-1, -2), plus(k.prec-1, -1)}
}

// numbers are those at the edges of the format and beside small integers and their
// halves, of the sign 0.
func (k kind) numbers() []api.Bits {
	normal := k.two(k.least())
	l := []api.Bits{{}, low(1), low(2), low(3), k.two(k.least() - 1), step(normal, -2), step(normal, -1), normal, next(normal)}
	for quarters := int64(1); quarters <= 16; quarters++ {
		b := k.encoding(big.NewInt(quarters), -2)
		l = append(l, step(b, -1), b, next(b))
	}
	for unit := -2; unit <= 2; unit++ { // where the places of the format end at the point
		l = append(l, k.encoding(plus(k.prec, -1), unit), k.encoding(plus(k.prec, -2), unit), k.two(k.prec-1+unit), next(k.two(k.prec-1+unit)))
	}
	return append(l, k.two(k.lowest()/2), k.two(k.emax), step(k.greatest(), -1), k.greatest())
}

// quiet and signaling are NaNs at both ends of their fractions, of the sign 0.
func (k kind) quiet() []api.Bits {
	return []api.Bits{k.standard(), next(k.standard()), k.made(2*k.emax+1, plus(k.prec-1, -1))}
}

func (k kind) signaling() []api.Bits {
	return []api.Bits{next(k.infinity()), step(k.standard(), -1), k.made(2*k.emax+1, power(k.prec-3))}
}

func (k kind) nans() []api.Bits {
	return k.withSigns(append(k.quiet(), k.signaling()...))
}

// withSigns are those of l with both signs.
func (k kind) withSigns(l []api.Bits) []api.Bits {
	var out []api.Bits
	for _, b := range l {
		out = append(out, b, k.turned(b))
	}
	return out
}

// edges are operands of all classes with both signs.
func (k kind) edges() []api.Bits {
	return append(k.withSigns(append(k.numbers(), k.infinity())), k.nans()...)
}

// finite are finite numbers of the sign 0 that are not 0: all of them in B16, in the
// other formats those of some exponents and those beside the powers of 2 as integers.
func (k kind) finite() []api.Bits {
	var l []api.Bits
	if k.f == api.B16 {
		for b := range uint64(0x7bff) {
			l = append(l, low(b+1))
		}
		return l
	}
	for _, field := range k.fields() {
		for _, q := range k.fractions() {
			l = append(l, k.made(field, q))
		}
	}
	for i := range k.prec {
		l = append(l, bitsOf(power(i)), bitsOf(plus(i, 1)), bitsOf(plus(i, -1)), step(k.infinity(), -1-int64(i)))
	}
	return slices.DeleteFunc(l, k.isZero)
}

// fields are exponent fields of finite numbers: some from one end to the other, and all
// of those of numbers with a fraction that are not far below 1, with some beyond.
func (k kind) fields() []int {
	var l []int
	for field := 0; field <= 2*k.emax; field += 1 + k.emax/100 {
		l = append(l, field)
	}
	for exp := -6; exp <= k.prec+2; exp++ {
		l = append(l, exp+k.emax)
	}
	return append(l, 1, 2*k.emax-1, 2*k.emax)
}
