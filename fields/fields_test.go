package fields

import (
	"cmp"
	"math"
	"math/big"
	"slices"
	"testing"

	"hairsbreadth/api"
	"hairsbreadth/format"
)

const all64 = math.MaxUint64

// kind is a format with its parameters, as the table of chapter 7 has them.
type kind struct {
	f                 api.Format
	width, prec, emax int
}

func kinds() []kind {
	return []kind{
		{api.B16, 16, 11, 15},
		{api.B32, 32, 24, 127},
		{api.B64, 64, 53, 1023},
		{api.B128, 128, 113, 16383},
	}
}

// edge is an encoding and what it is, unpacked.
type edge struct {
	b api.Bits
	n api.Num
}

// half is the upper half of the Sig of a power of 2.
const half = 1 << 63

// edges are those of the classes: the least and the greatest subnormal and normal
// number, those beside them and some between, zero, infinity and NaNs.
func (k kind) edges() []edge {
	switch k.f {
	case api.B16:
		return edges16()
	case api.B32:
		return edges32()
	case api.B64:
		return edges64()
	default:
		return edges128()
	}
}

func edges16() []edge {
	return []edge{
		{low(0), num(api.ClZero, 0, 0, 0)},
		{low(0x0001), num(api.ClSub, -24, half, 0)},
		{low(0x0002), num(api.ClSub, -23, half, 0)},
		{low(0x0003), num(api.ClSub, -23, 0xc000000000000000, 0)},
		{low(0x0200), num(api.ClSub, -15, half, 0)},
		{low(0x03ff), num(api.ClSub, -15, 0xffc0000000000000, 0)},
		{low(0x0400), num(api.ClNormal, -14, half, 0)},
		{low(0x0401), num(api.ClNormal, -14, 0x8020000000000000, 0)},
		{low(0x3c00), num(api.ClNormal, 0, half, 0)},
		{low(0x3c01), num(api.ClNormal, 0, 0x8020000000000000, 0)},
		{low(0x7bff), num(api.ClNormal, 15, 0xffe0000000000000, 0)},
		{low(0x7c00), num(api.ClInf, 0, 0, 0)},
		{low(0x7c01), num(api.ClSignal, 0, 0, 0)},
		{low(0x7dff), num(api.ClSignal, 0, 0, 0)},
		{low(0x7e00), num(api.ClQuiet, 0, 0, 0)},
		{low(0x7fff), num(api.ClQuiet, 0, 0, 0)},
	}
}

func edges32() []edge {
	return []edge{
		{low(0), num(api.ClZero, 0, 0, 0)},
		{low(0x00000001), num(api.ClSub, -149, half, 0)},
		{low(0x00000003), num(api.ClSub, -148, 0xc000000000000000, 0)},
		{low(0x007fffff), num(api.ClSub, -127, 0xfffffe0000000000, 0)},
		{low(0x00800000), num(api.ClNormal, -126, half, 0)},
		{low(0x00800001), num(api.ClNormal, -126, 0x8000010000000000, 0)},
		{low(0x3f800000), num(api.ClNormal, 0, half, 0)},
		{low(0x40400000), num(api.ClNormal, 1, 0xc000000000000000, 0)},
		{low(0x7f7fffff), num(api.ClNormal, 127, 0xffffff0000000000, 0)},
		{low(0x7f800000), num(api.ClInf, 0, 0, 0)},
		{low(0x7f800001), num(api.ClSignal, 0, 0, 0)},
		{low(0x7fbfffff), num(api.ClSignal, 0, 0, 0)},
		{low(0x7fc00000), num(api.ClQuiet, 0, 0, 0)},
		{low(0x7fffffff), num(api.ClQuiet, 0, 0, 0)},
	}
}

func edges64() []edge {
	return []edge{
		{low(0), num(api.ClZero, 0, 0, 0)},
		{low(1), num(api.ClSub, -1074, half, 0)},
		{low(3), num(api.ClSub, -1073, 0xc000000000000000, 0)},
		{low(0x000fffffffffffff), num(api.ClSub, -1023, 0xfffffffffffff000, 0)},
		{low(0x0010000000000000), num(api.ClNormal, -1022, half, 0)},
		{low(0x0010000000000001), num(api.ClNormal, -1022, 0x8000000000000800, 0)},
		{low(0x3ff0000000000000), num(api.ClNormal, 0, half, 0)},
		{low(0x4008000000000000), num(api.ClNormal, 1, 0xc000000000000000, 0)},
		{low(0x7fefffffffffffff), num(api.ClNormal, 1023, 0xfffffffffffff800, 0)},
		{low(0x7ff0000000000000), num(api.ClInf, 0, 0, 0)},
		{low(0x7ff0000000000001), num(api.ClSignal, 0, 0, 0)},
		{low(0x7ff7ffffffffffff), num(api.ClSignal, 0, 0, 0)},
		{low(0x7ff8000000000000), num(api.ClQuiet, 0, 0, 0)},
		{low(0x7fffffffffffffff), num(api.ClQuiet, 0, 0, 0)},
	}
}

func edges128() []edge {
	return []edge{
		{low(0), num(api.ClZero, 0, 0, 0)},
		{low(1), num(api.ClSub, -16494, half, 0)},
		{low(3), num(api.ClSub, -16493, 0xc000000000000000, 0)},
		{api.Bits{Hi: 1}, num(api.ClSub, -16430, half, 0)},
		{api.Bits{Hi: 1<<48 - 1, Lo: all64}, num(api.ClSub, -16383, all64, 0xffffffffffff0000)},
		{api.Bits{Hi: 1 << 48}, num(api.ClNormal, -16382, half, 0)},
		{api.Bits{Hi: 1 << 48, Lo: 1}, num(api.ClNormal, -16382, half, 0x8000)},
		{api.Bits{Hi: 0x3fff << 48}, num(api.ClNormal, 0, half, 0)},
		{api.Bits{Hi: 0x40008 << 44}, num(api.ClNormal, 1, 0xc000000000000000, 0)},
		{api.Bits{Hi: 0x7fff<<48 - 1, Lo: all64}, num(api.ClNormal, 16383, all64, 0xffffffffffff8000)},
		{api.Bits{Hi: 0x7fff << 48}, num(api.ClInf, 0, 0, 0)},
		{api.Bits{Hi: 0x7fff << 48, Lo: 1}, num(api.ClSignal, 0, 0, 0)},
		{api.Bits{Hi: 0xffff<<47 - 1, Lo: all64}, num(api.ClSignal, 0, 0, 0)},
		{api.Bits{Hi: 0xffff << 47}, num(api.ClQuiet, 0, 0, 0)},
		{api.Bits{Hi: 1<<63 - 1, Lo: all64}, num(api.ClQuiet, 0, 0, 0)},
	}
}

func low(n uint64) api.Bits {
	return api.Bits{Lo: n}
}

func num(c api.Class, exp int, hi, lo uint64) api.Num {
	return api.Num{Class: c, Exp: exp, Sig: api.Bits{Hi: hi, Lo: lo}}
}

func negative(n api.Num) api.Num {
	n.Neg = true
	return n
}

func or(a, b api.Bits) api.Bits {
	return api.Bits{Hi: a.Hi | b.Hi, Lo: a.Lo | b.Lo}
}

// power returns 2^i.
func power(i int) api.Bits {
	if i < 64 {
		return api.Bits{Lo: 1 << i}
	}
	return api.Bits{Hi: 1 << (i - 64)}
}

// ones returns the number whose bits from to to - 1 are 1.
func ones(from, to int) api.Bits {
	var b api.Bits
	for i := from; i < to; i++ {
		b = or(b, power(i))
	}
	return b
}

func (k kind) sign() api.Bits {
	return power(k.width - 1)
}

// above are different bits above the width, none first.
func (k kind) above() []api.Bits {
	if k.width == 128 {
		return []api.Bits{{}}
	}
	return []api.Bits{{}, power(k.width), power(127), ones(k.width, 128)}
}

// encodings are the edges, what is one bit off them, and mixtures, with both signs.
func (k kind) encodings() []api.Bits {
	l := []api.Bits{
		{Hi: 0x0123456789abcdef, Lo: 0xfedcba9876543210},
		{Hi: 0x3edcba9876543210, Lo: 0x0123456789abcdef},
		{Hi: 0x1e3779b97f4a7c15, Lo: 0x5bd1e995a3c59ac3},
		{Hi: 0x7fff123456789abc, Lo: 0x3f9e3779b97f4a7c},
	}
	for _, e := range k.edges() {
		l = append(l, e.b)
		for i := range k.width - 1 {
			one := power(i)
			l = append(l, api.Bits{Hi: e.b.Hi ^ one.Hi, Lo: e.b.Lo ^ one.Lo})
		}
	}
	for _, b := range slices.Clone(l) {
		l = append(l, or(b, k.sign()))
	}
	return l
}

func bigOf(b api.Bits) *big.Int {
	n := new(big.Int).SetUint64(b.Hi)
	return n.Lsh(n, 64).Or(n, new(big.Int).SetUint64(b.Lo))
}

func bitsOf(n *big.Int) api.Bits {
	var hi, lo big.Int
	hi.Rsh(n, 64)
	lo.Sub(n, new(big.Int).Lsh(&hi, 64))
	return api.Bits{Hi: hi.Uint64(), Lo: lo.Uint64()}
}

// magnitude is m * 2^exp.
type magnitude struct {
	m   *big.Int
	exp int
}

// odd returns the same magnitude with an m that is odd; m is not 0.
func (x magnitude) odd() magnitude {
	n := x.m.TrailingZeroBits()
	return magnitude{new(big.Int).Rsh(x.m, n), x.exp + int(n)}
}

func (x magnitude) equal(y magnitude) bool {
	x, y = x.odd(), y.odd()
	return x.exp == y.exp && x.m.Cmp(y.m) == 0
}

// compare writes both to the lesser exponent.
func (x magnitude) compare(y magnitude) int {
	exp := min(x.exp, y.exp)
	a := new(big.Int).Lsh(x.m, uint(x.exp-exp))
	b := new(big.Int).Lsh(y.m, uint(y.exp-exp))
	return a.Cmp(b)
}

// read returns the fields of an encoding, and its magnitude by the chapter's
// formula, which is one of a number only if exp is not all ones.
func (k kind) read(b api.Bits) (neg bool, exp int, x magnitude) {
	n := bigOf(b)
	one := big.NewInt(1)
	leading := new(big.Int).Lsh(one, uint(k.prec-1))
	t := new(big.Int).Mod(n, leading)
	field := new(big.Int).Rsh(n, uint(k.prec-1))
	field.Mod(field, new(big.Int).Lsh(one, uint(k.width-k.prec)))
	neg, exp = n.Bit(k.width-1) == 1, int(field.Int64())
	if exp == 0 {
		return neg, exp, magnitude{t, 1 - k.emax - (k.prec - 1)}
	}
	return neg, exp, magnitude{t.Add(t, leading), exp - k.emax - (k.prec - 1)}
}

// class returns the class of an encoding by its fields.
func (k kind) class(b api.Bits) api.Class {
	_, exp, x := k.read(b)
	fraction := new(big.Int).SetBit(x.m, k.prec-1, 0)
	switch {
	case exp == 0 && fraction.Sign() == 0:
		return api.ClZero
	case exp == 0:
		return api.ClSub
	case exp <= 2*k.emax:
		return api.ClNormal
	case fraction.Sign() == 0:
		return api.ClInf
	case fraction.Bit(k.prec-2) == 1:
		return api.ClQuiet
	default:
		return api.ClSignal
	}
}

// encoded returns the encoding of a magnitude, and whether the format has it: its
// bits, without zeros at the end, must lie between the last place of the least
// number and the first of the greatest, and be no more than the precision.
func (k kind) encoded(neg bool, x magnitude) (api.Bits, bool) {
	x = x.odd()
	first := x.exp + x.m.BitLen() - 1
	last := 1 - k.emax - (k.prec - 1)
	if x.exp < last || first > k.emax || x.m.BitLen() > k.prec {
		return api.Bits{}, false
	}
	exp := max(first, 1-k.emax)
	n := new(big.Int).Lsh(x.m, uint(x.exp-(exp-(k.prec-1))))
	if first >= 1-k.emax {
		n.SetBit(n, k.prec-1, 0)
		n.Or(n, new(big.Int).Lsh(big.NewInt(int64(exp+k.emax)), uint(k.prec-1)))
	}
	b := bitsOf(n)
	if neg {
		b = or(b, k.sign())
	}
	return b, true
}

// hasMagnitude reports whether numbers of the class are finite and not zero.
func hasMagnitude(c api.Class) bool {
	return c == api.ClSub || c == api.ClNormal
}

// checkUnpack holds Unpack against the fields and the chapter's formula.
func checkUnpack(t *testing.T, k kind, b api.Bits) {
	t.Helper()
	neg, _, x := k.read(b)
	c := k.class(b)
	n := Unpack(k.f, b)
	if n.Neg != neg || n.Class != c {
		t.Fatalf("Unpack(%d, %x) = %v; want sign %v, class %d", k.f, b, n, neg, c)
	}
	if !hasMagnitude(c) {
		if n.Exp != 0 || n.Sig != low(0) {
			t.Fatalf("Unpack(%d, %x) = %v; want neither Exp nor Sig", k.f, b, n)
		}
		return
	}
	if n.Sig.Hi>>63 != 1 || !x.equal(magnitude{bigOf(n.Sig), n.Exp - 127}) {
		t.Fatalf("Unpack(%d, %x) = %v; want the magnitude %v", k.f, b, n, x)
	}
}

// checkPack holds Pack of a number whose class is ClSub or ClNormal against the
// bits that it needs, given as either class.
func checkPack(t *testing.T, k kind, neg bool, exp int, sig api.Bits) {
	t.Helper()
	want, has := k.encoded(neg, magnitude{bigOf(sig), exp - 127})
	for _, c := range []api.Class{api.ClSub, api.ClNormal} {
		n := api.Num{Neg: neg, Class: c, Exp: exp, Sig: sig}
		if b, ok := Pack(k.f, n); b != want || ok != has {
			t.Fatalf("Pack(%d, %v) = %x, %v; want %x, %v", k.f, n, b, ok, want, has)
		}
	}
}

func checkNoPack(t *testing.T, f api.Format, n api.Num) {
	t.Helper()
	if b, ok := Pack(f, n); b != low(0) || ok {
		t.Fatalf("Pack(%d, %v) = %x, %v; want 0, false", f, n, b, ok)
	}
}

// P9.1 and P9.2: the chapter's examples.
func TestExamples(t *testing.T) {
	for _, x := range []struct {
		b    uint64
		want api.Num
	}{
		{0x3c00, num(api.ClNormal, 0, 1<<63, 0)},
		{0x0001, num(api.ClSub, -24, 1<<63, 0)},
	} {
		if n := Unpack(api.B16, low(x.b)); n != x.want {
			t.Errorf("Unpack(B16, %x) = %v; want %v", x.b, n, x.want)
		}
	}
	checkNoPack(t, api.B16, num(api.ClNormal, 0, 1<<63, 1))
}

// P9.1: the edges of all classes, with both signs and with bits above the width.
func TestUnpackEdges(t *testing.T) {
	for _, k := range kinds() {
		seen := map[api.Class]bool{}
		for _, e := range k.edges() {
			seen[e.n.Class] = true
			for _, above := range k.above() {
				if n := Unpack(k.f, or(e.b, above)); n != e.n {
					t.Errorf("Unpack(%d, %x) = %v; want %v", k.f, or(e.b, above), n, e.n)
				}
				b := or(or(e.b, k.sign()), above)
				if n := Unpack(k.f, b); n != negative(e.n) {
					t.Errorf("Unpack(%d, %x) = %v; want %v", k.f, b, n, negative(e.n))
				}
			}
		}
		if len(seen) != 6 {
			t.Errorf("format %d: the edges are of %d classes", k.f, len(seen))
		}
	}
}

// P9.1: encodings of every format, held against the chapter's formula.
func TestUnpackMagnitude(t *testing.T) {
	for _, k := range kinds() {
		for _, b := range k.encodings() {
			checkUnpack(t, k, b)
		}
	}
	b16 := kinds()[0]
	for n := range uint64(1 << 16) {
		checkUnpack(t, b16, low(n))
	}
}

// P9.1: the numbers of the formats that Go has are those of Go.
func TestUnpackIsThatOfGo(t *testing.T) {
	for _, k := range kinds()[1:3] {
		for _, b := range k.encodings() {
			x := math.Float64frombits(b.Lo)
			if k.f == api.B32 {
				x = float64(math.Float32frombits(uint32(b.Lo)))
			}
			n := Unpack(k.f, b)
			if !hasMagnitude(n.Class) {
				continue
			}
			frac, exp := math.Frexp(math.Abs(x))
			sig := api.Bits{Hi: uint64(math.Ldexp(frac, 53)) << 11}
			if n.Exp != exp-1 || n.Sig != sig || n.Neg != math.Signbit(x) {
				t.Fatalf("Unpack(%d, %x) = %v; in Go it is %v", k.f, b, n, x)
			}
		}
	}
}

// P9.1 and P9.2: a format that doesn't exist has no numbers.
func TestNoFormat(t *testing.T) {
	for f := 4; f <= 255; f++ {
		f := api.Format(f)
		for _, k := range kinds() {
			for _, e := range k.edges() {
				for _, b := range []api.Bits{e.b, or(e.b, k.sign()), or(e.b, power(127))} {
					if n := Unpack(f, b); n != (api.Num{}) {
						t.Fatalf("Unpack(%d, %x) = %v", f, b, n)
					}
				}
				checkNoPack(t, f, e.n)
				checkNoPack(t, f, negative(e.n))
			}
		}
	}
}

// P9.2: the edges of all classes, with both signs. NaNs are not packed.
func TestPackEdges(t *testing.T) {
	for _, k := range kinds() {
		for _, e := range k.edges() {
			if e.n.Class == api.ClQuiet || e.n.Class == api.ClSignal {
				checkNoPack(t, k.f, e.n)
				checkNoPack(t, k.f, negative(e.n))
				continue
			}
			if b, ok := Pack(k.f, e.n); b != e.b || !ok {
				t.Errorf("Pack(%d, %v) = %x, %v; want %x", k.f, e.n, b, ok, e.b)
			}
			want := or(e.b, k.sign())
			if b, ok := Pack(k.f, negative(e.n)); b != want || !ok {
				t.Errorf("Pack(%d, %v) = %x, %v; want %x", k.f, negative(e.n), b, ok, want)
			}
		}
	}
}

// P9.2: a subnormal number given as ClNormal, and a normal one given as ClSub.
func TestPackTakesBothClassesAlike(t *testing.T) {
	for _, k := range kinds() {
		for _, e := range k.edges() {
			n := e.n
			switch n.Class {
			case api.ClSub:
				n.Class = api.ClNormal
			case api.ClNormal:
				n.Class = api.ClSub
			default:
				continue
			}
			if b, ok := Pack(k.f, n); b != e.b || !ok {
				t.Errorf("Pack(%d, %v) = %x, %v; want %x", k.f, n, b, ok, e.b)
			}
		}
	}
}

// exps are exponents about the limits of the format, far out and at both ends of
// an int, where sums with them overflow.
func (k kind) exps() []int {
	l := []int{0, 1, -1, 127, -127, 128, -128}
	for _, limit := range []int{k.emax, 1 - k.emax, 1 - k.emax - (k.prec - 1)} {
		l = append(l, limit-2, limit-1, limit, limit+1, limit+2)
	}
	for _, far := range []int{1 << 15, 1 << 16, 1 << 20, 1 << 31, 1 << 32, 1 << 40, 1 << 62} {
		l = append(l, far, far+1, -far, -far-1)
	}
	for i := range 40 {
		l = append(l, math.MaxInt-i, math.MinInt+i)
	}
	for _, near := range []int{k.emax, k.prec, 127, 128} {
		for i := -2; i <= 2; i++ {
			l = append(l, math.MaxInt-near+i, math.MinInt+near+i, math.MinInt+2*near+i)
		}
	}
	return l
}

// P9.2: Exp and Sig of a zero and of an infinity don't count.
func TestPackZeroAndInfinity(t *testing.T) {
	for _, k := range kinds() {
		inf := ones(k.prec-1, k.width-1)
		for _, exp := range k.exps() {
			for _, sig := range []api.Bits{{}, low(1), power(126), power(127), {Hi: all64, Lo: all64}} {
				for c, want := range map[api.Class]api.Bits{api.ClZero: low(0), api.ClInf: inf} {
					n := api.Num{Class: c, Exp: exp, Sig: sig}
					if b, ok := Pack(k.f, n); b != want || !ok {
						t.Fatalf("Pack(%d, %v) = %x, %v; want %x", k.f, n, b, ok, want)
					}
					if b, ok := Pack(k.f, negative(n)); b != or(want, k.sign()) || !ok {
						t.Fatalf("Pack(%d, %v) = %x, %v; want %x", k.f, negative(n), b, ok, or(want, k.sign()))
					}
				}
			}
		}
	}
}

// P9.2: NaNs, and classes that there are none of, whatever else they hold.
func TestPackNoNumber(t *testing.T) {
	for _, k := range kinds() {
		for c := int(api.ClQuiet); c <= 255; c++ {
			for _, e := range k.edges() {
				n := e.n
				n.Class = api.Class(c)
				checkNoPack(t, k.f, n)
				checkNoPack(t, k.f, negative(n))
			}
		}
	}
}

// P9.2: bit 127 of Sig must be 1, also where the format has the magnitude.
func TestPackNotNormalized(t *testing.T) {
	for _, k := range kinds() {
		for _, exp := range k.exps() {
			for _, sig := range []api.Bits{{}, low(1), power(63), power(64), power(126), ones(125, 127), ones(0, 127)} {
				for _, c := range []api.Class{api.ClSub, api.ClNormal} {
					n := api.Num{Class: c, Exp: exp, Sig: sig}
					checkNoPack(t, k.f, n)
					checkNoPack(t, k.f, negative(n))
				}
			}
		}
	}
}

// P9.2: as many bits of Sig as a normal number holds, and one more.
func TestPackPrecision(t *testing.T) {
	for _, k := range kinds() {
		for _, exp := range []int{1 - k.emax, 0, k.emax} {
			last, beyond := power(128-k.prec), power(127-k.prec)
			n := api.Num{Class: api.ClNormal, Exp: exp, Sig: or(power(127), last)}
			want := bitsOf(new(big.Int).Lsh(big.NewInt(int64(exp+k.emax)), uint(k.prec-1)))
			if b, ok := Pack(k.f, n); b != or(want, low(1)) || !ok {
				t.Errorf("Pack(%d, %v) = %x, %v; want %x", k.f, n, b, ok, or(want, low(1)))
			}
			n.Sig = ones(128-k.prec, 128)
			if b, ok := Pack(k.f, n); b != or(want, ones(0, k.prec-1)) || !ok {
				t.Errorf("Pack(%d, %v) = %x, %v; want %x", k.f, n, b, ok, or(want, ones(0, k.prec-1)))
			}
			for _, sig := range []api.Bits{or(power(127), beyond), ones(127-k.prec, 128), or(power(127), low(1)), ones(0, 128)} {
				n.Sig = sig
				checkNoPack(t, k.f, n)
			}
		}
	}
}

// P9.2: a subnormal number holds the fewer bits, the less it is.
func TestPackSubnormalPrecision(t *testing.T) {
	for _, k := range kinds() {
		for held := 1; held < k.prec; held++ {
			n := api.Num{Class: api.ClSub, Exp: 1 - k.emax - (k.prec - held), Sig: ones(128-held, 128)}
			if b, ok := Pack(k.f, n); b != ones(0, held) || !ok {
				t.Errorf("Pack(%d, %v) = %x, %v; want %x", k.f, n, b, ok, ones(0, held))
			}
			n.Sig = ones(127-held, 128)
			checkNoPack(t, k.f, n)
			n.Sig = or(power(127), power(127-held))
			checkNoPack(t, k.f, n)
		}
	}
}

// P9.2: one above the greatest exponent and one below the least, and farther out.
func TestPackOutOfRange(t *testing.T) {
	for _, k := range kinds() {
		least := 1 - k.emax - (k.prec - 1)
		for _, exp := range k.exps() {
			n := api.Num{Class: api.ClNormal, Exp: exp, Sig: power(127)}
			if exp >= least && exp <= k.emax {
				if _, ok := Pack(k.f, n); !ok {
					t.Errorf("Pack(%d, %v) = false", k.f, n)
				}
				continue
			}
			for _, sig := range []api.Bits{power(127), ones(126, 128), ones(128-k.prec, 128), ones(0, 128)} {
				n.Sig = sig
				checkNoPack(t, k.f, n)
				n.Class = api.ClSub
				checkNoPack(t, k.f, negative(n))
			}
		}
	}
}

// P9.2: significands of every number of bits at all exponents about those of the
// subnormal numbers, and at the greatest, held against the bits that they need.
func TestPackEveryLength(t *testing.T) {
	for _, k := range kinds() {
		exps := []int{-1, 0, 1, k.emax - 1, k.emax, k.emax + 1, k.emax + 2}
		for exp := 1 - k.emax - k.prec - 2; exp <= 3-k.emax; exp++ {
			exps = append(exps, exp)
		}
		for _, exp := range exps {
			for last := range 128 {
				for _, sig := range []api.Bits{ones(last, 128), or(power(127), power(last))} {
					checkPack(t, k, last%2 == 0, exp, sig)
				}
			}
		}
	}
}

// P9.3: packing gives back what was unpacked, unless it is a NaN.
func TestThereAndBack(t *testing.T) {
	for _, k := range kinds() {
		for _, b := range k.encodings() {
			for _, above := range k.above() {
				thereAndBack(t, k, or(b, above))
			}
		}
	}
	b16 := kinds()[0]
	for n := range uint64(1 << 17) {
		thereAndBack(t, b16, low(n))
	}
}

func thereAndBack(t *testing.T, k kind, b api.Bits) {
	t.Helper()
	n := Unpack(k.f, b)
	if c := k.class(b); c == api.ClQuiet || c == api.ClSignal {
		checkNoPack(t, k.f, n)
		return
	}
	if got, ok := Pack(k.f, n); got != format.Cut(k.f, b) || !ok {
		t.Fatalf("Pack(%d, %v) = %x, %v; it was unpacked from %x", k.f, n, got, ok, b)
	}
}

// order compares numbers by Exp, then by Sig.
func order(a, b api.Num) int {
	return cmp.Or(cmp.Compare(a.Exp, b.Exp), cmp.Compare(a.Sig.Hi, b.Sig.Hi), cmp.Compare(a.Sig.Lo, b.Sig.Lo))
}

// P9.3: of two numbers of one sign, the greater magnitude has the greater Exp, or
// the same Exp and the greater Sig. Neighbors suffice: the encodings are sorted by
// their magnitudes.
func TestMagnitudesAreInOrder(t *testing.T) {
	for _, k := range kinds() {
		for _, neg := range []bool{false, true} {
			l := slices.DeleteFunc(k.encodings(), func(b api.Bits) bool {
				sign, _, _ := k.read(b)
				return sign != neg || !hasMagnitude(k.class(b))
			})
			slices.SortFunc(l, k.compare)
			for i, b := range l[1:] {
				magnitudesInOrder(t, k, l[i], b)
			}
			magnitudesInOrder(t, k, l[len(l)-1], l[0])
		}
	}
	b16 := kinds()[0]
	for n := uint64(2); n < 0x7c00; n++ { // from the second number to the last, each with the one below it
		magnitudesInOrder(t, b16, low(n), low(n-1))
		magnitudesInOrder(t, b16, low(0x8000|n), low(0x8000|(n-1)))
	}
}

// compare returns the order of the magnitudes of two encodings.
func (k kind) compare(a, b api.Bits) int {
	_, _, x := k.read(a)
	_, _, y := k.read(b)
	return x.compare(y)
}

func magnitudesInOrder(t *testing.T, k kind, a, b api.Bits) {
	t.Helper()
	if got, want := order(Unpack(k.f, a), Unpack(k.f, b)), k.compare(a, b); got != want {
		t.Fatalf("Unpack(%d, ..) of %x and %x: order %d; want %d", k.f, a, b, got, want)
	}
}
