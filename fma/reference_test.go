package fma

import (
	"math"
	"math/big"
	"slices"

	"hairsbreadth/api"
)

const all64 = math.MaxUint64

// kind is a format with its parameters, as the table of chapter 7 has them.
type kind struct {
	f                 api.Format
	width, prec, emax int
}

func kinds() []kind {
	return []kind{
		{api.B16, 16, 11, 15},
		{api.B32, 32, 24, 127},
		{api.B64, 64, 53, 1023},
		{api.B128, 128, 113, 16383},
	}
}

// least is the exponent of the least normal number.
func (k kind) least() int {
	return 1 - k.emax
}

// lowest is the exponent of the least subnormal number.
func (k kind) lowest() int {
	return k.least() - (k.prec - 1)
}

func modes() []api.Mode {
	return []api.Mode{api.Near, api.Away, api.Up, api.Down, api.Zero}
}

func envs() []api.Env {
	var l []api.Env
	for _, m := range modes() {
		l = append(l, api.Env{Mode: m}, api.Env{Mode: m, After: true})
	}
	return l
}

func both() []bool {
	return []bool{false, true}
}

func low(n uint64) api.Bits {
	return api.Bits{Lo: n}
}

func bigOf(b api.Bits) *big.Int {
	n := new(big.Int).SetUint64(b.Hi)
	return n.Or(n.Lsh(n, 64), new(big.Int).SetUint64(b.Lo))
}

func bitsOf(n *big.Int) api.Bits {
	return api.Bits{Hi: new(big.Int).Rsh(n, 64).Uint64(), Lo: new(big.Int).And(n, plus(64, -1)).Uint64()}
}

func power(n int) *big.Int {
	return new(big.Int).Lsh(big.NewInt(1), uint(n))
}

// plus is 2^n + d.
func plus(n int, d int64) *big.Int {
	return new(big.Int).Add(power(n), big.NewInt(d))
}

// next is b + 1.
func next(b api.Bits) api.Bits {
	return step(b, 1)
}

// step is b + d.
func step(b api.Bits, d int64) api.Bits {
	n := bigOf(b)
	return bitsOf(n.Add(n, big.NewInt(d)))
}

// cut is b without the bits above the width.
func (k kind) cut(b api.Bits) *big.Int {
	n := bigOf(b)
	return n.And(n, plus(k.width, -1))
}

func (k kind) negative(b api.Bits) bool {
	return k.cut(b).Bit(k.width-1) == 1
}

// turned is b with the other sign, the bits above the width left as they are.
func (k kind) turned(b api.Bits) api.Bits {
	n := bigOf(b)
	return bitsOf(n.SetBit(n, k.width-1, 1-n.Bit(k.width-1)))
}

// signed is an encoding of the sign 0, with that sign.
func (k kind) signed(neg bool, b api.Bits) api.Bits {
	if neg {
		return k.turned(b)
	}
	return b
}

// unsigned is b without its sign and the bits above it: exponent field and fraction.
func (k kind) unsigned(b api.Bits) *big.Int {
	n := k.cut(b)
	return n.SetBit(n, k.width-1, 0)
}

// above are b and encodings that differ from it in bits that are ignored.
func (k kind) above(b api.Bits) []api.Bits {
	if k.width == 128 {
		return []api.Bits{b}
	}
	l := []api.Bits{b}
	for _, i := range []int{k.width, k.width + 1, 126, 127} {
		n := bigOf(b)
		l = append(l, bitsOf(n.SetBit(n, i, 1)))
	}
	all := plus(128-k.width, -1)
	all.Lsh(all, uint(k.width))
	return append(l, bitsOf(all.Or(all, bigOf(b))))
}

// made is the encoding of those two fields.
func (k kind) made(field int, fraction *big.Int) api.Bits {
	n := new(big.Int).Lsh(big.NewInt(int64(field)), uint(k.prec-1))
	return bitsOf(n.Or(n, fraction))
}

// normal is the number of that exponent whose bits are those of n, which are no more
// than the format has.
func (k kind) normal(exp int, n *big.Int) api.Bits {
	m := new(big.Int).Lsh(n, uint(k.prec-n.BitLen()))
	return k.made(exp+k.emax, m.SetBit(m, k.prec-1, 0))
}

// leading is the number of that exponent, or of the nearest one that the format has,
// with as many of the leading bits of n as fit.
func (k kind) leading(exp int, n *big.Int) api.Bits {
	exp = min(max(exp, k.lowest()), k.emax)
	length := min(exp-k.lowest()+1, k.prec)
	m := new(big.Int).Lsh(n, uint(k.prec))
	m.Rsh(m, uint(m.BitLen()-length))
	return k.encoding(m, exp-(length-1))
}

// two is 2^exp, normal or subnormal.
func (k kind) two(exp int) api.Bits {
	if exp < k.least() {
		return bitsOf(power(exp - k.lowest()))
	}
	return k.normal(exp, big.NewInt(1))
}

func (k kind) one() api.Bits {
	return k.made(k.emax, new(big.Int))
}

func (k kind) infinity() api.Bits {
	return k.made(2*k.emax+1, new(big.Int))
}

func (k kind) greatest() api.Bits {
	return step(k.infinity(), -1)
}

// standard is the default NaN.
func (k kind) standard() api.Bits {
	return k.made(2*k.emax+1, power(k.prec-2))
}

func (k kind) isZero(b api.Bits) bool {
	return k.unsigned(b).Sign() == 0
}

func (k kind) isInfinite(b api.Bits) bool {
	return k.unsigned(b).Cmp(bigOf(k.infinity())) == 0
}

func (k kind) isNaN(b api.Bits) bool {
	return k.unsigned(b).Cmp(bigOf(k.infinity())) > 0
}

func (k kind) isSignaling(b api.Bits) bool {
	return k.isNaN(b) && bigOf(b).Bit(k.prec-2) == 0
}

func (k kind) quieted(b api.Bits) api.Bits {
	n := k.cut(b)
	return bitsOf(n.SetBit(n, k.prec-2, 1))
}

// number is n * 2^unit.
type number struct {
	n    *big.Int
	unit int
}

// value is that of a finite encoding: chapter 9's formula.
func (k kind) value(b api.Bits) number {
	m := k.unsigned(b)
	field := int(new(big.Int).Rsh(m, uint(k.prec-1)).Int64())
	m.And(m, plus(k.prec-1, -1))
	if field > 0 {
		m.SetBit(m, k.prec-1, 1)
	}
	if k.negative(b) {
		m.Neg(m)
	}
	return number{m, max(field, 1) - k.emax - (k.prec - 1)}
}

func (x number) times(y number) number {
	return number{new(big.Int).Mul(x.n, y.n), x.unit + y.unit}
}

func (x number) plus(y number) number {
	unit := min(x.unit, y.unit)
	n := new(big.Int).Lsh(x.n, uint(x.unit-unit))
	return number{n.Add(n, new(big.Int).Lsh(y.n, uint(y.unit-unit))), unit}
}

func (x number) minus() number {
	return number{new(big.Int).Neg(x.n), x.unit}
}

// exponent is that of a number that is not 0.
func (x number) exponent() int {
	return x.n.BitLen() - 1 + x.unit
}

// multiple is the multiple of 2^unit to which m rounds x, in these, and whether it is
// x itself: the one below, or the one above.
func (x number) multiple(unit int, m api.Mode) (*big.Int, bool) {
	by := unit - x.unit
	if by <= 0 {
		return new(big.Int).Lsh(x.n, uint(-by)), true
	}
	below := new(big.Int).Rsh(x.n, uint(by)) // towards minus infinity, for negative numbers too
	rest := new(big.Int).Lsh(below, uint(by))
	rest.Sub(x.n, rest)
	if rest.Sign() == 0 {
		return below, true
	}
	if upwards(m, below.Bit(0) == 1, x.n.Sign() < 0, rest.Cmp(power(by-1))) {
		return below.Add(below, big.NewInt(1)), false
	}
	return below, false
}

// upwards is whether m rounds to the greater one of two neighbors, of which the lower
// one is odd or even, a number in their lower half, in the middle or in the upper half.
func upwards(m api.Mode, odd, neg bool, half int) bool {
	switch m {
	case api.Near:
		return half > 0 || half == 0 && odd
	case api.Away:
		return half > 0 || half == 0 && !neg
	case api.Zero:
		return neg
	}
	return m == api.Up
}

// rounded is what a number that is not 0 comes to in the format, by the terms of
// chapter 16 one after the other.
func (k kind) rounded(v api.Env, x number) api.Result {
	neg, e := x.n.Sign() < 0, x.exponent()
	free := e - (k.prec - 1)
	unbounded, _ := x.multiple(free, v.Mode)
	after := unbounded.BitLen() - 1 + free
	if after > k.emax {
		return k.over(v.Mode, neg)
	}
	unit := max(e, k.least()) - (k.prec - 1)
	q, exact := x.multiple(unit, v.Mode)
	r := api.Result{Bits: k.signed(neg, k.encoding(q.Abs(q), unit))}
	if exact {
		return r
	}
	r.Flags = api.Inexact
	if !v.After && e < k.least() || v.After && after < k.least() {
		r.Flags |= api.Underflow
	}
	return r
}

// exact is the encoding of a number, if it is not 0 and the format has it.
func (k kind) exact(x number) (api.Bits, bool) {
	if x.n.Sign() == 0 {
		return api.Bits{}, false
	}
	r := k.rounded(api.Env{}, x)
	return r.Bits, r.Flags == 0
}

// neighbors are b, of the sign 0, and those within two steps of it, if they are finite.
func (k kind) neighbors(b api.Bits) []api.Bits {
	var l []api.Bits
	for d := int64(-2); d <= 2; d++ {
		n := new(big.Int).Add(bigOf(b), big.NewInt(d))
		if n.Sign() >= 0 && n.Cmp(bigOf(k.infinity())) < 0 {
			l = append(l, bitsOf(n))
		}
	}
	return l
}

// encoding is that of q * 2^unit, which the format has.
func (k kind) encoding(q *big.Int, unit int) api.Bits {
	exp := q.BitLen() - 1 + unit
	if q.Sign() == 0 || exp < k.least() {
		return bitsOf(new(big.Int).Lsh(q, uint(unit-k.lowest())))
	}
	// More bits than the format has are zeros at the end.
	m := new(big.Int).Lsh(q, uint(k.prec))
	m.Rsh(m, uint(q.BitLen()))
	return k.made(exp+k.emax, m.SetBit(m, k.prec-1, 0))
}

// over is what a number that overflows comes to.
func (k kind) over(m api.Mode, neg bool) api.Result {
	b := k.infinity()
	if m == api.Zero || m == api.Up && neg || m == api.Down && !neg {
		b = k.greatest()
	}
	return api.Result{Bits: k.signed(neg, b), Flags: api.Overflow | api.Inexact}
}

// picked is the result for NaNs and invalid operations.
func (k kind) picked(bad bool, l ...api.Bits) api.Result {
	r := api.Result{Bits: k.standard()}
	if i := slices.IndexFunc(l, k.isNaN); i >= 0 {
		r.Bits = k.quieted(l[i])
	}
	if bad || slices.ContainsFunc(l, k.isSignaling) {
		r.Flags = api.Invalid
	}
	return r
}

// nought is a zero that is an exact sum of two numbers of those signs.
func (k kind) nought(m api.Mode, p, q bool) api.Result {
	return api.Result{Bits: k.signed(p && q || p != q && m == api.Down, api.Bits{})}
}

// sum is a * b + c of finite numbers.
func (k kind) sum(a, b, c api.Bits) number {
	return k.value(a).times(k.value(b)).plus(k.value(c))
}

// want is what Fma should answer, by the cases of the chapter one after the other.
func (k kind) want(v api.Env, a, b, c api.Bits) api.Result {
	neg := k.negative(a) != k.negative(b)
	bad := k.isZero(a) && k.isInfinite(b) || k.isInfinite(a) && k.isZero(b)
	switch {
	case k.isNaN(a), k.isNaN(b), k.isNaN(c), bad:
		return k.picked(bad, a, b, c)
	case k.isInfinite(a), k.isInfinite(b):
		if k.isInfinite(c) && k.negative(c) != neg {
			return k.picked(true, a, b, c)
		}
		return api.Result{Bits: k.signed(neg, k.infinity())}
	case k.isInfinite(c):
		return api.Result{Bits: k.signed(k.negative(c), k.infinity())}
	}
	return k.finished(v, k.sum(a, b, c), neg, k.negative(c))
}

// finished is what a sum comes to, of a product and a number of those signs.
func (k kind) finished(v api.Env, sum number, p, q bool) api.Result {
	if sum.n.Sign() == 0 {
		return k.nought(v.Mode, p, q)
	}
	return k.rounded(v, sum)
}

// fractions are those of both ends, and some between, even ones and odd ones.
func (k kind) fractions() []*big.Int {
	mixed := new(big.Int).Quo(power(k.prec-1), big.NewInt(3)) // its bits are 1 and 0 in turn
	return []*big.Int{new(big.Int), big.NewInt(1), mixed, plus(k.prec-2, 0), plus(k.prec-1, -2), plus(k.prec-1, -1)}
}

// numbers are those at the edges of the format and some within, of the sign 0.
func (k kind) numbers() []api.Bits {
	one, normal := k.one(), k.two(k.least())
	l := []api.Bits{{}, low(1), low(2), low(3), k.two(k.least() - 1), step(normal, -2), step(normal, -1), normal, next(normal)}
	l = append(l, step(k.two(-1), -1), k.two(-1), next(k.two(-1)), step(one, -1), one, next(one), k.made(k.emax, power(k.prec-2)), k.two(1))
	l = append(l, k.two(k.lowest()/2), k.two(k.emax/2+1), k.two(k.emax), step(k.greatest(), -1), k.greatest())
	return l
}

// quiet and signaling are NaNs at both ends of their fractions, of the sign 0.
func (k kind) quiet() []api.Bits {
	return []api.Bits{k.standard(), next(k.standard()), k.made(2*k.emax+1, plus(k.prec-1, -1))}
}

func (k kind) signaling() []api.Bits {
	return []api.Bits{next(k.infinity()), step(k.standard(), -1), k.made(2*k.emax+1, power(k.prec-3))}
}

func (k kind) nans() []api.Bits {
	return k.withSigns(append(k.quiet(), k.signaling()...))
}

// withSigns are those of l with both signs.
func (k kind) withSigns(l []api.Bits) []api.Bits {
	var out []api.Bits
	for _, b := range l {
		out = append(out, b, k.turned(b))
	}
	return out
}

// edges are operands of all classes with both signs.
func (k kind) edges() []api.Bits {
	return append(k.withSigns(append(k.numbers(), k.infinity())), k.nans()...)
}

// finite are finite numbers of the sign 0: all of them in B16, in the other formats
// those of some exponents and those beside the powers of 2 as integers.
func (k kind) finite() []api.Bits {
	var l []api.Bits
	if k.f == api.B16 {
		for b := range uint64(0x7c00) {
			l = append(l, low(b))
		}
		return l
	}
	for field := 0; field <= 2*k.emax; field += 1 + k.emax/50 {
		for _, q := range k.fractions() {
			l = append(l, k.made(field, q))
		}
	}
	for i := range k.prec {
		l = append(l, bitsOf(power(i)), bitsOf(plus(i, 1)), bitsOf(plus(i, -1)), step(k.infinity(), -1-int64(i)))
	}
	return l
}

// pair are two factors, of no more bits than the format has.
type pair [2]*big.Int

// near are factors of as many bits as the format has, whose product has length bits
// and is d units of its last place beside the middle of two numbers: some odd number,
// and its inverse times that rest.
func (k kind) near(length int, d int64) pair {
	rest := length - k.prec
	modulus := power(rest)
	a := new(big.Int).Quo(power(k.prec+1), big.NewInt(3))
	for a.SetBit(a, 0, 1); ; a.Add(a, big.NewInt(2)) {
		b := new(big.Int).ModInverse(a, modulus)
		b.Mod(b.Mul(b, plus(rest-1, d)), modulus)
		for ; b.BitLen() <= k.prec; b.Add(b, modulus) {
			if b.BitLen() == k.prec && new(big.Int).Mul(a, b).BitLen() == length {
				return pair{a, b}
			}
		}
	}
}

// middle are factors whose product has a bit more than the format, and is in the
// middle of two numbers: the lower one even or odd, within and at the ends.
func (k kind) middle() []pair {
	three := big.NewInt(3)
	var l []pair
	for _, q := range []*big.Int{power(k.prec), new(big.Int).Quo(plus(k.prec+2, 0), three), plus(k.prec+1, -40)} {
		// From here on each sixth integer is odd and a multiple of 3.
		r := new(big.Int).Quo(q, three)
		r.SetBit(r, 0, 1)
		for range 3 {
			r = new(big.Int).Add(r, big.NewInt(2))
			l = append(l, pair{three, r})
		}
	}
	return append(l, k.ones())
}

// ones are factors whose product has a bit more than the format, all of them 1: it is
// in the middle of a power of 2 and what is before it.
func (k kind) ones() pair {
	switch k.f {
	case api.B16:
		return pair{big.NewInt(63), big.NewInt(65)}
	case api.B32:
		return pair{big.NewInt(31), big.NewInt(1082401)}
	}
	half := (k.prec + 1) / 2
	return pair{plus(half, -1), plus(half, 1)}
}

// between are factors of as many bits as the format has, whose product is a power of 2
// less more than a quarter and less than half a unit of the last place of what is below.
func (k kind) between() pair {
	whole := power(2*k.prec - 1)
	a := new(big.Int).Sqrt(whole)
	// The rest is about the square of the distance from the root.
	a.Add(a, new(big.Int).Sqrt(new(big.Int).Lsh(big.NewInt(3), uint(k.prec-3))))
	for {
		a.Add(a, big.NewInt(1))
		b, rest := new(big.Int).QuoRem(whole, a, new(big.Int))
		if rest.Cmp(power(k.prec-2)) > 0 && rest.Cmp(power(k.prec-1)) < 0 {
			return pair{a, b}
		}
	}
}

// beside are factors whose product is as near to the middle of two numbers as can be.
func (k kind) beside() []pair {
	var l []pair
	for _, length := range []int{2*k.prec - 1, 2 * k.prec} {
		for _, d := range []int64{-3, -1, 1, 3} {
			l = append(l, k.near(length, d))
		}
	}
	return l
}

// powers are factors whose product is a power of 2, just below it, just above it, and
// halfway to the next one and beside that.
func (k kind) powers() []pair {
	full, least, three := plus(k.prec, -1), power(k.prec-1), big.NewInt(3)
	l := []pair{{least, least}, {plus(k.prec-1, 1), plus(k.prec, -2)}, {plus(k.prec-1, 1), plus(k.prec-1, 1)}, {full, full}}
	half := new(big.Int).Lsh(three, uint(k.prec-2))
	above := new(big.Int).Add(half, big.NewInt(1))
	below := new(big.Int).Sub(half, big.NewInt(2))
	return append(l, pair{three, least}, pair{plus(k.prec-1, 1), below}, pair{plus(k.prec-1, 1), half}, pair{full, above})
}

// factors are pairs whose products are exact, are in the middle of two numbers and as
// near to that as can be, are carried into the next exponent, and others.
func (k kind) factors() []pair {
	full, least := plus(k.prec, -1), power(k.prec-1)
	mixed := new(big.Int).Quo(power(k.prec+1), big.NewInt(3)) // its bits are 1 and 0 in turn
	l := []pair{{least, least}, {big.NewInt(3), big.NewInt(5)}, {full, full}, {full, least}, {mixed, mixed}, {mixed, full}}
	// Just below a power of 2, and above it.
	l = append(l, pair{plus(k.prec-1, 1), plus(k.prec, -2)}, pair{plus(k.prec-1, 1), full}, pair{plus(k.prec-1, 1), plus(k.prec-1, 1)})
	// Exact, of all the bits of the format.
	l = append(l, pair{big.NewInt(3), new(big.Int).Quo(full, big.NewInt(3))}, pair{big.NewInt(7), new(big.Int).Quo(full, big.NewInt(7))})
	return append(append(l, k.middle()...), k.beside()...)
}

// significands are integers of as many bits as the format has.
func (k kind) significands() []*big.Int {
	var l []*big.Int
	for _, q := range k.fractions() {
		l = append(l, new(big.Int).Add(q, power(k.prec-1)))
	}
	return l
}

// fraction is that of an encoding.
func (k kind) fraction(b api.Bits) *big.Int {
	n := bigOf(b)
	return n.And(n, plus(k.prec-1, -1))
}

// places are exponents of products from end to end, fewer than ends.
func (k kind) places() []int {
	l := []int{2 * k.least(), k.lowest() - k.prec, k.lowest() - 1, k.lowest() + 1, k.least() - 1, k.least(), k.least() + 2*k.prec}
	return append(l, -1, 0, k.emax-1, k.emax, k.emax+1, 2*k.emax-1)
}

// distances are those of the third operand's exponent from that of the product: none,
// as far as one still meets the other, and as far as can be.
func (k kind) distances() []int {
	l := []int{0}
	for _, d := range []int{1, 2, k.prec - 2, k.prec - 1, k.prec, k.prec + 1, k.prec + 2, 2*k.prec - 1, 2 * k.prec, 2*k.prec + 2, 254, 257, 4 * k.emax} {
		l = append(l, d, -d)
	}
	return l
}

// ends are exponents of products at both ends of the format and some within, those
// from far below the least subnormal number to the least normal one all among them.
func (k kind) ends() []int {
	l := []int{-2, -1, 0, 1, 2, k.emax - 2, k.emax - 1, k.emax, k.emax + 1, k.emax + 2, 2*k.emax - 1}
	l = append(l, 2*k.least(), 2*k.least()+1, k.lowest()-3)
	for e := k.lowest() - 2; e <= k.least()+2; e++ {
		l = append(l, e)
	}
	return l
}

// split are exponents of two normal numbers, which add up to e: as near to each other
// as can be, and as far.
func (k kind) split(e int) [2][2]int {
	far := [2]int{k.emax, e - k.emax}
	if e < 1 {
		far = [2]int{k.least(), e - k.least()}
	}
	return [2][2]int{{e >> 1, e - e>>1}, far}
}
