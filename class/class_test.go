package class

import (
	"math"
	"slices"
	"testing"

	"hairsbreadth/api"
)

const all64 = math.MaxUint64

// known is an encoding without its sign bit, and its class.
type known struct {
	b     api.Bits
	class api.Class
}

// kind is a format: its width, its precision, and encodings whose class is known.
type kind struct {
	f           api.Format
	width, prec int
	edges       []known
}

// kinds have for each format the first and the last encoding of every class, and
// some in between.
func kinds() []kind {
	return []kind{
		{api.B16, 16, 11, []known{
			{low(0), api.ClZero},
			{low(0x0001), api.ClSub}, {low(0x0002), api.ClSub}, {low(0x0200), api.ClSub}, {low(0x03ff), api.ClSub},
			{low(0x0400), api.ClNormal}, {low(0x0401), api.ClNormal}, {low(0x3c00), api.ClNormal}, {low(0x7800), api.ClNormal}, {low(0x7bff), api.ClNormal},
			{low(0x7c00), api.ClInf},
			{low(0x7c01), api.ClSignal}, {low(0x7d00), api.ClSignal}, {low(0x7dff), api.ClSignal},
			{low(0x7e00), api.ClQuiet}, {low(0x7e01), api.ClQuiet}, {low(0x7fff), api.ClQuiet},
		}},
		{api.B32, 32, 24, []known{
			{low(0), api.ClZero},
			{low(0x00000001), api.ClSub}, {low(0x00400000), api.ClSub}, {low(0x007fffff), api.ClSub},
			{low(0x00800000), api.ClNormal}, {low(0x3f800000), api.ClNormal}, {low(0x40490fdb), api.ClNormal}, {low(0x7f7fffff), api.ClNormal},
			{low(0x7f800000), api.ClInf},
			{low(0x7f800001), api.ClSignal}, {low(0x7fa00000), api.ClSignal}, {low(0x7fbfffff), api.ClSignal},
			{low(0x7fc00000), api.ClQuiet}, {low(0x7fc00001), api.ClQuiet}, {low(0x7fffffff), api.ClQuiet},
		}},
		{api.B64, 64, 53, []known{
			{low(0), api.ClZero},
			{low(1), api.ClSub}, {low(0x0008000000000000), api.ClSub}, {low(0x000fffffffffffff), api.ClSub},
			{low(0x0010000000000000), api.ClNormal}, {low(0x3ff0000000000000), api.ClNormal}, {low(0x3fd3333333333334), api.ClNormal}, {low(0x7fefffffffffffff), api.ClNormal},
			{low(0x7ff0000000000000), api.ClInf},
			{low(0x7ff0000000000001), api.ClSignal}, {low(0x7ff4000000000000), api.ClSignal}, {low(0x7ff7ffffffffffff), api.ClSignal},
			{low(0x7ff8000000000000), api.ClQuiet}, {low(0x7ff8000000000001), api.ClQuiet}, {low(0x7fffffffffffffff), api.ClQuiet},
		}},
		{api.B128, 128, 113, []known{
			{low(0), api.ClZero},
			{low(1), api.ClSub}, {low(all64), api.ClSub}, {api.Bits{Hi: 1}, api.ClSub}, {api.Bits{Hi: 0x0000ffffffffffff, Lo: all64}, api.ClSub},
			{api.Bits{Hi: 0x0001000000000000}, api.ClNormal}, {api.Bits{Hi: 0x3fff000000000000}, api.ClNormal}, {api.Bits{Hi: 0x7ffeffffffffffff, Lo: all64}, api.ClNormal},
			{api.Bits{Hi: 0x7fff000000000000}, api.ClInf},
			{api.Bits{Hi: 0x7fff000000000000, Lo: 1}, api.ClSignal}, {api.Bits{Hi: 0x7fff000000000000, Lo: 1 << 63}, api.ClSignal}, {api.Bits{Hi: 0x7fff000000000001}, api.ClSignal}, {api.Bits{Hi: 0x7fff7fffffffffff, Lo: all64}, api.ClSignal},
			{api.Bits{Hi: 0x7fff800000000000}, api.ClQuiet}, {api.Bits{Hi: 0x7fff800000000000, Lo: 1}, api.ClQuiet}, {api.Bits{Hi: 0x7fffffffffffffff, Lo: all64}, api.ClQuiet},
		}},
	}
}

func low(n uint64) api.Bits {
	return api.Bits{Lo: n}
}

// power returns 2^i, and 0 for 128.
func power(i int) api.Bits {
	switch {
	case i < 64:
		return api.Bits{Lo: 1 << i}
	case i < 128:
		return api.Bits{Hi: 1 << (i - 64)}
	default:
		return api.Bits{}
	}
}

func or(a, b api.Bits) api.Bits {
	return api.Bits{Hi: a.Hi | b.Hi, Lo: a.Lo | b.Lo}
}

func xor(a, b api.Bits) api.Bits {
	return api.Bits{Hi: a.Hi ^ b.Hi, Lo: a.Lo ^ b.Lo}
}

func hasAny(a, mask api.Bits) bool {
	return a.Hi&mask.Hi != 0 || a.Lo&mask.Lo != 0
}

func hasAll(a, mask api.Bits) bool {
	return a.Hi&mask.Hi == mask.Hi && a.Lo&mask.Lo == mask.Lo
}

// span returns the number whose bits from to to - 1 are 1.
func span(from, to int) api.Bits {
	var b api.Bits
	for i := from; i < to; i++ {
		b = or(b, power(i))
	}
	return b
}

// sign returns the sign bit of a format.
func (k kind) sign() api.Bits {
	return power(k.width - 1)
}

// above are different bits above the width, none first.
func (k kind) above() []api.Bits {
	l := []api.Bits{{}, power(k.width), span(k.width, 128), power(127)}
	if k.width == 128 {
		l = l[:1]
	}
	return l
}

// want classifies b by the rows of the chapter's table, each asked on its own,
// and answers how many of them hold besides.
func (k kind) want(b api.Bits) (class api.Class, rows int) {
	field, fraction, top := span(k.prec-1, k.width-1), span(0, k.prec-1), power(k.prec-2)
	none, full := !hasAny(b, field), hasAll(b, field)
	for c, holds := range map[api.Class]bool{
		api.ClZero:   none && !hasAny(b, fraction),
		api.ClSub:    none && hasAny(b, fraction),
		api.ClInf:    full && !hasAny(b, fraction),
		api.ClQuiet:  full && hasAll(b, top),
		api.ClSignal: full && hasAny(b, fraction) && !hasAll(b, top),
		api.ClNormal: !none && !full,
	} {
		if holds {
			class, rows = c, rows+1
		}
	}
	return class, rows
}

// samples are the edges with single bits and runs of bits of them turned over,
// and mixtures.
func (k kind) samples() []api.Bits {
	l := []api.Bits{
		{Hi: 0x0123456789abcdef, Lo: 0xfedcba9876543210},
		{Hi: 0xfedcba9876543210, Lo: 0x0123456789abcdef},
		{Hi: 0x9e3779b97f4a7c15, Lo: 0x5bd1e995a3c59ac3},
		{Hi: all64, Lo: all64}, {Hi: all64}, {Lo: all64},
	}
	for _, e := range k.edges {
		for from := range k.width {
			for _, to := range []int{from, from + 1, from + 2, k.prec - 2, k.prec - 1, k.width - 1, k.width} {
				l = append(l, xor(e.b, span(from, to)))
			}
		}
	}
	return l
}

// check holds all four functions against the class and the sign.
func check(t *testing.T, f api.Format, b api.Bits, class api.Class, neg bool) {
	t.Helper()
	if c, n := Of(f, b); c != class || n != neg {
		t.Fatalf("Of(%d, %x) = %d, %v; want %d, %v", f, b, c, n, class, neg)
	}
	signaling := class == api.ClSignal
	if Signaling(f, b) != signaling {
		t.Fatalf("Signaling(%d, %x) = %v; class %d", f, b, !signaling, class)
	}
	nan := signaling || class == api.ClQuiet
	if NaN(f, b) != nan {
		t.Fatalf("NaN(%d, %x) = %v; class %d", f, b, !nan, class)
	}
	finite := class == api.ClZero || class == api.ClSub || class == api.ClNormal
	if Finite(f, b) != finite {
		t.Fatalf("Finite(%d, %x) = %v; class %d", f, b, !finite, class)
	}
}

// P8.1 and P8.2: the chapter's examples.
func TestExamples(t *testing.T) {
	for _, x := range []struct {
		f     api.Format
		b     uint64
		class api.Class
		neg   bool
	}{
		{api.B16, 0x8000, api.ClZero, true},
		{api.B16, 0x0001, api.ClSub, false},
		{api.B16, 0x7c00, api.ClInf, false},
		{api.B16, 0x7e00, api.ClQuiet, false},
		{api.B16, 0x7c01, api.ClSignal, false},
	} {
		check(t, x.f, low(x.b), x.class, x.neg)
	}
	if c, neg := Of(4, low(5)); c != api.ClZero || neg {
		t.Errorf("Of(4, 5) = %d, %v", c, neg)
	}
}

// P8.1 and P8.2: every class of every format, at its edges, with both signs, and
// with bits above the width.
func TestEdges(t *testing.T) {
	for _, k := range kinds() {
		seen := map[api.Class]int{}
		for _, e := range k.edges {
			seen[e.class]++
			for _, above := range k.above() {
				check(t, k.f, or(e.b, above), e.class, false)
				check(t, k.f, or(or(e.b, k.sign()), above), e.class, true)
			}
		}
		if len(seen) != 6 {
			t.Errorf("format %d: the edges are of %d classes", k.f, len(seen))
		}
	}
}

// P8.1 and P8.2: every encoding of 16 bits, held against the chapter's table.
func TestAllB16(t *testing.T) {
	k := kinds()[0]
	seen := map[api.Class]int{}
	for n := range uint64(1 << 16) {
		class, _ := k.want(low(n))
		seen[class]++
		check(t, k.f, low(n), class, n >= 0x8000)
	}
	for class, n := range map[api.Class]int{api.ClZero: 2, api.ClSub: 2046, api.ClNormal: 61440, api.ClInf: 2, api.ClQuiet: 1024, api.ClSignal: 1022} {
		if seen[class] != n {
			t.Errorf("class %d: %d encodings; want %d", class, seen[class], n)
		}
	}
}

// P8.1 and P8.2: encodings about the edges of every format, held against the
// chapter's table.
func TestSamples(t *testing.T) {
	for _, k := range kinds() {
		for _, b := range k.samples() {
			class, _ := k.want(b)
			check(t, k.f, b, class, hasAny(b, k.sign()))
		}
	}
}

// P8.1 and P8.2: NaNs, infinities and signs of the formats that Go has are those
// of Go.
func TestClassesAreThoseOfGo(t *testing.T) {
	for _, k := range kinds()[1:3] {
		for _, b := range k.samples() {
			x := math.Float64frombits(b.Lo)
			if k.f == api.B32 {
				x = float64(math.Float32frombits(uint32(b.Lo)))
			}
			class, neg := Of(k.f, b)
			if NaN(k.f, b) != math.IsNaN(x) || (class == api.ClInf) != math.IsInf(x, 0) || (class == api.ClZero) != (x == 0) {
				t.Fatalf("Of(%d, %x) = %d, NaN %v; in Go it is %v", k.f, b, class, NaN(k.f, b), x)
			}
			if !math.IsNaN(x) && neg != math.Signbit(x) {
				t.Fatalf("Of(%d, %x): negative %v; in Go it is %v", k.f, b, neg, x)
			}
		}
	}
}

// P8.1 and P8.2: a format that doesn't exist has no classes: nothing is a NaN,
// signaling or finite in it, not even 0.
func TestNoFormat(t *testing.T) {
	for f := 4; f <= 255; f++ {
		for _, k := range kinds() {
			for _, e := range k.edges {
				for _, b := range []api.Bits{e.b, or(e.b, k.sign()), or(e.b, span(k.width, 128))} {
					f := api.Format(f)
					if c, neg := Of(f, b); c != api.ClZero || neg {
						t.Fatalf("Of(%d, %x) = %d, %v", f, b, c, neg)
					}
					if NaN(f, b) || Signaling(f, b) || Finite(f, b) {
						t.Fatalf("format %d, %x: NaN %v, Signaling %v, Finite %v", f, b, NaN(f, b), Signaling(f, b), Finite(f, b))
					}
				}
			}
		}
	}
}

// P8.3: no element, one, and many, the one that counts at every place.
func TestAny(t *testing.T) {
	nan, one := low(0x7e00), low(0x3c00)
	for n := range 20 {
		l := slices.Repeat([]api.Bits{one}, n)
		if Any(api.B16, NaN, l...) {
			t.Errorf("%d elements that aren't NaNs: true", n)
		}
		for i := range l {
			l[i] = nan
			if !Any(api.B16, NaN, l...) {
				t.Errorf("%d elements, a NaN at %d: false", n, i)
			}
			l[i] = one
		}
		if got := Any(api.B16, NaN, slices.Repeat([]api.Bits{nan}, n)...); got != (n > 0) {
			t.Errorf("%d NaNs: %v", n, got)
		}
	}
	if Any(api.B16, NaN) || Any(api.B16, NaN, nil...) || Any(api.B16, NaN, []api.Bits{}...) {
		t.Error("no element: true")
	}
}

// P8.3: the functions of this package, where they differ.
func TestAnyOfEach(t *testing.T) {
	for _, x := range []struct {
		l                      []api.Bits
		nan, signaling, finite bool
	}{
		{[]api.Bits{low(0x7e00), low(0x7c00)}, true, false, false},
		{[]api.Bits{low(0x7c00), low(0xfc01)}, true, true, false},
		{[]api.Bits{low(0x7c00), low(0xfc00)}, false, false, false},
		{[]api.Bits{low(0x7c00), low(0xfc00), low(0x8000)}, false, false, true},
		{[]api.Bits{low(0xfe00), low(0x7dff), low(1)}, true, true, true},
	} {
		if n, s, f := Any(api.B16, NaN, x.l...), Any(api.B16, Signaling, x.l...), Any(api.B16, Finite, x.l...); n != x.nan || s != x.signaling || f != x.finite {
			t.Errorf("%x: NaN %v, Signaling %v, Finite %v; want %v, %v, %v", x.l, n, s, f, x.nan, x.signaling, x.finite)
		}
	}
}

// P8.3: without a function nothing is true, in no format.
func TestAnyOfNil(t *testing.T) {
	for f := range 256 {
		f := api.Format(f)
		if Any(f, nil) || Any(f, nil, low(0x7e00)) || Any(f, nil, low(0), low(1), api.Bits{Hi: all64, Lo: all64}) {
			t.Errorf("Any(%d, nil, ..) = true", f)
		}
	}
}

// P8.3: the function is given the format and the elements unchanged, with the
// bits above the width, in a format that doesn't exist too; its word holds.
func TestAnyPassesOn(t *testing.T) {
	l := []api.Bits{{}, low(0x1ffff), {Hi: all64, Lo: all64}, {Hi: 1 << 63, Lo: 5}}
	for f := range 256 {
		f := api.Format(f)
		for _, last := range l {
			is := func(g api.Format, b api.Bits) bool { return g == f && b == last }
			if !Any(f, is, l...) {
				t.Fatalf("format %d, element %x: not found", f, last)
			}
			if Any(f+1, is, l...) || Any(f, is, low(7), low(8)) {
				t.Fatalf("format %d, element %x: found where it isn't", f, last)
			}
		}
		no := func(api.Format, api.Bits) bool { return false }
		yes := func(api.Format, api.Bits) bool { return true }
		if Any(f, no, l...) || !Any(f, yes, l...) || !Any(f, yes, api.Bits{}) || Any(f, yes) {
			t.Fatalf("format %d: the result is not that of the function", f)
		}
	}
}

// P8.3: the same bits, in the formats in which they are a NaN, and in none.
func TestAnyWithItsFormat(t *testing.T) {
	l := []api.Bits{low(0x7e00), low(0x3c00)}
	for f := range 256 {
		f := api.Format(f)
		if got := Any(f, NaN, l...); got != (f == api.B16) {
			t.Errorf("Any(%d, NaN, %x) = %v", f, l, got)
		}
		if got := Any(f, Finite, l...); got != (f <= api.B128) {
			t.Errorf("Any(%d, Finite, %x) = %v", f, l, got)
		}
	}
}

// P8.3: the elements are left as they were.
func TestAnyLeavesTheElements(t *testing.T) {
	l := []api.Bits{low(0x3c00), low(0x1ffff), low(0x7c01)}
	was := slices.Clone(l)
	Any(api.B16, NaN, l...)
	if !slices.Equal(l, was) {
		t.Errorf("%x; they were %x", l, was)
	}
}

// P8.3 and R1: where the function panics it isn't true, and the others count.
func TestAnyOfFunctionThatPanics(t *testing.T) {
	is := func(_ api.Format, b api.Bits) bool {
		if b.Lo == 0 {
			panic("nought")
		}
		return b.Lo == 2
	}
	for _, x := range []struct {
		l    []api.Bits
		want bool
	}{
		{[]api.Bits{low(0)}, false},
		{[]api.Bits{low(0), low(1)}, false},
		{[]api.Bits{low(0), low(2)}, true},
		{[]api.Bits{low(2), low(0)}, true},
	} {
		if got := Any(api.B16, is, x.l...); got != x.want {
			t.Errorf("%x: %v", x.l, got)
		}
	}
}

// P8.4: one row of the chapter's table holds, and the class is the same with
// either sign.
func TestOneClassForBothSigns(t *testing.T) {
	for _, k := range kinds() {
		for _, b := range k.samples() {
			oneClassForBothSigns(t, k, b)
		}
	}
	b16 := kinds()[0]
	for n := range uint64(1 << 16) {
		oneClassForBothSigns(t, b16, low(n))
	}
}

func oneClassForBothSigns(t *testing.T, k kind, b api.Bits) {
	t.Helper()
	want, rows := k.want(b)
	if rows != 1 {
		t.Fatalf("format %d, %x: %d classes", k.f, b, rows)
	}
	c, neg := Of(k.f, b)
	other, opposite := Of(k.f, xor(b, k.sign()))
	if c != want || other != want || neg == opposite {
		t.Fatalf("format %d, %x: %d, %v; with the other sign %d, %v; want class %d", k.f, b, c, neg, other, opposite, want)
	}
}
