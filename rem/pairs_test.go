package rem

import (
	"math/big"

	"hairsbreadth/api"
)

// mixed is an integer of length bits, which are 1 and 0 in turn.
func mixed(length int) *big.Int {
	return new(big.Int).Quo(power(length+1), big.NewInt(3))
}

// odd are odd integers of that many bits.
func odd(length int) []*big.Int {
	some := mixed(length)
	return []*big.Int{some.SetBit(some, 0, 1), plus(length, -1), new(big.Int).Or(power(length-1), big.NewInt(1))}
}

// divisors are odd integers of few bits, of some, and of as many as the format has.
func (k kind) divisors() []*big.Int {
	var l []*big.Int
	for _, length := range []int{2, 3, 4, k.prec / 2, k.prec - 1, k.prec} {
		l = append(l, odd(length)...)
	}
	return l
}

// rests are those of a division by d, an odd integer: at both ends and at both sides of
// the middle.
func rests(d *big.Int) []*big.Int {
	middle := new(big.Int).Rsh(d, 1)
	var l []*big.Int
	for _, i := range []int64{0, 1, 2, -1, -2} {
		r := big.NewInt(i)
		l = append(l, r.Mod(r, d), new(big.Int).Mod(new(big.Int).Add(middle, big.NewInt(i)), d))
	}
	return l
}

// landing is the integer below d, an odd one, that leaves rest if it is multiplied by
// 2^e and divided by d. It is d itself if the rest is 0.
func landing(d, rest *big.Int, e int) *big.Int {
	scale := new(big.Int).Exp(big.NewInt(2), big.NewInt(int64(e)), d)
	n := scale.ModInverse(scale, d)
	n.Mod(n.Mul(n, rest), d)
	if n.Sign() == 0 {
		n.Set(d)
	}
	return n
}

// distances are numbers of bits up to the longest one between two numbers of the
// format: all of the small ones, all of those at the end, and some between.
func (k kind) distances() []int {
	var l []int
	most := k.emax - k.lowest()
	for e := 0; e <= most; e++ {
		if e < 5 || e > most-2 || e%(1+most/60) == 0 || e > most-2*k.prec && e%(1+k.prec/6) == 0 {
			l = append(l, e)
		}
	}
	return l
}

// has is whether n * 2^unit is a number of the format; n is greater than 0.
func (k kind) has(n *big.Int, unit int) bool {
	odd := int(n.TrailingZeroBits())
	return n.BitLen()-odd <= k.prec && unit+odd >= k.lowest() && unit+n.BitLen()-1 <= k.emax
}

// placed are the encodings of a * 2^unit and b * 2^unit with the units at which the
// format has both: as low as can be, as high, and about 1.
func (k kind) placed(a, b *big.Int, visit func(x, y api.Bits, unit int)) {
	least := int(min(a.TrailingZeroBits(), b.TrailingZeroBits()))
	most := max(a.BitLen(), b.BitLen()) - 1
	for _, unit := range []int{k.lowest() - least, k.emax - most, -most, -most / 2} {
		if k.has(a, unit) && k.has(b, unit) {
			visit(k.encoding(a, unit), k.encoding(b, unit), unit)
		}
	}
}
