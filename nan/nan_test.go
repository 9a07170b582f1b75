package nan

import (
	"math"
	"slices"
	"testing"

	"hairsbreadth/api"
)

const all64 = math.MaxUint64

// kind is a format: its width, its precision, its default NaN, encodings that are
// no NaNs, and NaNs before and after they are quieted. Every sign bit is 0.
type kind struct {
	f           api.Format
	width, prec int
	standard    api.Bits
	others      []api.Bits
	nans        [][2]api.Bits
}

func kinds() []kind {
	return []kind{
		{api.B16, 16, 11, low(0x7e00),
			[]api.Bits{low(0), low(0x0001), low(0x03ff), low(0x0400), low(0x3c00), low(0x7bff), low(0x7c00)},
			[][2]api.Bits{
				{low(0x7c01), low(0x7e01)}, {low(0x7c02), low(0x7e02)}, {low(0x7d00), low(0x7f00)}, {low(0x7dff), low(0x7fff)},
				{low(0x7e00), low(0x7e00)}, {low(0x7e01), low(0x7e01)}, {low(0x7fff), low(0x7fff)},
			}},
		{api.B32, 32, 24, low(0x7fc00000),
			[]api.Bits{low(0), low(0x00000001), low(0x007fffff), low(0x00800000), low(0x3f800000), low(0x7f7fffff), low(0x7f800000)},
			[][2]api.Bits{
				{low(0x7f800001), low(0x7fc00001)}, {low(0x7fa00000), low(0x7fe00000)}, {low(0x7fbfffff), low(0x7fffffff)},
				{low(0x7fc00000), low(0x7fc00000)}, {low(0x7fc00001), low(0x7fc00001)}, {low(0x7fffffff), low(0x7fffffff)},
			}},
		{api.B64, 64, 53, low(0x7ff8000000000000),
			[]api.Bits{low(0), low(1), low(0x000fffffffffffff), low(0x0010000000000000), low(0x3ff0000000000000), low(0x7fefffffffffffff), low(0x7ff0000000000000)},
			[][2]api.Bits{
				{low(0x7ff0000000000001), low(0x7ff8000000000001)}, {low(0x7ff4000000000000), low(0x7ffc000000000000)}, {low(0x7ff7ffffffffffff), low(0x7fffffffffffffff)},
				{low(0x7ff8000000000000), low(0x7ff8000000000000)}, {low(0x7ff8000000000001), low(0x7ff8000000000001)}, {low(0x7fffffffffffffff), low(0x7fffffffffffffff)},
			}},
		{api.B128, 128, 113, high(0x7fff800000000000, 0),
			[]api.Bits{low(0), low(1), low(all64), high(0x0000ffffffffffff, all64), high(0x0001000000000000, 0), high(0x3fff000000000000, 0), high(0x7ffeffffffffffff, all64), high(0x7fff000000000000, 0)},
			[][2]api.Bits{
				{high(0x7fff000000000000, 1), high(0x7fff800000000000, 1)}, {high(0x7fff000000000000, 1<<63), high(0x7fff800000000000, 1<<63)},
				{high(0x7fff400000000000, 0), high(0x7fffc00000000000, 0)}, {high(0x7fff7fffffffffff, all64), high(0x7fffffffffffffff, all64)},
				{high(0x7fff800000000000, 0), high(0x7fff800000000000, 0)}, {high(0x7fff800000000000, 1), high(0x7fff800000000000, 1)}, {high(0x7fffffffffffffff, all64), high(0x7fffffffffffffff, all64)},
			}},
	}
}

func low(n uint64) api.Bits {
	return api.Bits{Lo: n}
}

func high(hi, lo uint64) api.Bits {
	return api.Bits{Hi: hi, Lo: lo}
}

func power(i int) api.Bits {
	if i < 64 {
		return low(1 << i)
	}
	return high(1<<(i-64), 0)
}

func or(a, b api.Bits) api.Bits {
	return high(a.Hi|b.Hi, a.Lo|b.Lo)
}

func xor(a, b api.Bits) api.Bits {
	return high(a.Hi^b.Hi, a.Lo^b.Lo)
}

func has(b, mask api.Bits) bool {
	return b.Hi&mask.Hi == mask.Hi && b.Lo&mask.Lo == mask.Lo
}

// span returns the number whose bits from to to - 1 are 1.
func span(from, to int) api.Bits {
	var b api.Bits
	for i := from; i < to; i++ {
		b = or(b, power(i))
	}
	return b
}

func (k kind) sign() api.Bits {
	return power(k.width - 1)
}

func (k kind) negative(b api.Bits) api.Bits {
	return or(b, k.sign())
}

// above are different bits above the width, none first.
func (k kind) above() []api.Bits {
	if k.width == 128 {
		return []api.Bits{{}}
	}
	return []api.Bits{{}, power(k.width), span(k.width, 128), power(127)}
}

// quiets returns whether b is a NaN, and it quieted, by the chapter's words alone.
func (k kind) quiets(b api.Bits) (bool, api.Bits) {
	above := span(k.width, 128)
	b = high(b.Hi&^above.Hi, b.Lo&^above.Lo)
	fraction := span(0, k.prec-1)
	isNaN := has(b, span(k.prec-1, k.width-1)) && (b.Hi&fraction.Hi != 0 || b.Lo&fraction.Lo != 0)
	if !isNaN {
		return false, b
	}
	return true, or(b, power(k.prec-2))
}

// want is Pick by the chapter's words alone.
func (k kind) want(invalid bool, l []api.Bits) (r api.Result, ok bool) {
	r.Bits, ok = k.standard, invalid
	found := false
	for _, b := range l {
		isNaN, quieted := k.quiets(b)
		if isNaN && !found {
			r.Bits, found, ok = quieted, true, true
		}
		invalid = invalid || isNaN && !has(b, power(k.prec-2))
	}
	if !ok {
		return api.Result{}, false
	}
	if invalid {
		r.Flags = api.Invalid
	}
	return r, true
}

func check(t *testing.T, k kind, invalid bool, l ...api.Bits) {
	t.Helper()
	want, wanted := k.want(invalid, l)
	if r, ok := Pick(k.f, invalid, l...); r != want || ok != wanted {
		t.Fatalf("Pick(%d, %v, %x) = %x, %v; want %x, %v", k.f, invalid, l, r, ok, want, wanted)
	}
}

// P10.1 and P10.2: the chapter's examples.
func TestExamples(t *testing.T) {
	if q, d := Quiet(api.B16, low(0x7c01)), Default(api.B16); q != low(0x7e01) || d != low(0x7e00) {
		t.Errorf("%x, %x", q, d)
	}
	for _, x := range []struct {
		invalid bool
		l       []api.Bits
		r       api.Result
		ok      bool
	}{
		{false, []api.Bits{low(0x3c00), low(0xfc01), low(0x7e05)}, api.Result{Bits: low(0xfe01), Flags: api.Invalid}, true},
		{true, []api.Bits{low(0), low(0x7c00)}, api.Result{Bits: low(0x7e00), Flags: api.Invalid}, true},
		{false, []api.Bits{low(0)}, api.Result{}, false},
	} {
		if r, ok := Pick(api.B16, x.invalid, x.l...); r != x.r || ok != x.ok {
			t.Errorf("Pick(B16, %v, %x) = %x, %v", x.invalid, x.l, r, ok)
		}
	}
}

// P10.1: NaNs at the edges of their fractions, quieted, with both signs and with
// bits above the width.
func TestQuietOfNaNs(t *testing.T) {
	for _, k := range kinds() {
		for _, x := range k.nans {
			for _, above := range k.above() {
				if q := Quiet(k.f, or(x[0], above)); q != x[1] {
					t.Errorf("Quiet(%d, %x) = %x; want %x", k.f, or(x[0], above), q, x[1])
				}
				if q := Quiet(k.f, or(k.negative(x[0]), above)); q != k.negative(x[1]) {
					t.Errorf("Quiet(%d, %x) = %x; want %x", k.f, or(k.negative(x[0]), above), q, k.negative(x[1]))
				}
			}
		}
	}
}

// P10.1: what is no NaN is left as it is, but for the bits above the width.
func TestQuietOfOthers(t *testing.T) {
	for _, k := range kinds() {
		for _, b := range k.others {
			for _, b := range []api.Bits{b, k.negative(b)} {
				for _, above := range k.above() {
					if q := Quiet(k.f, or(b, above)); q != b {
						t.Errorf("Quiet(%d, %x) = %x; want %x", k.f, or(b, above), q, b)
					}
				}
			}
		}
	}
}

// P10.1: the default NaN of each format.
func TestDefault(t *testing.T) {
	for _, k := range kinds() {
		if d := Default(k.f); d != k.standard {
			t.Errorf("Default(%d) = %x; want %x", k.f, d, k.standard)
		}
	}
}

// P10.1 and P10.2: a format that doesn't exist has no NaN, not even with invalid.
func TestNoFormat(t *testing.T) {
	for f := 4; f <= 255; f++ {
		f := api.Format(f)
		if d := Default(f); d != (api.Bits{}) {
			t.Fatalf("Default(%d) = %x", f, d)
		}
		for _, k := range kinds() {
			for _, b := range []api.Bits{k.others[0], k.others[1], k.standard, k.nans[0][0], high(all64, all64)} {
				if q := Quiet(f, b); q != (api.Bits{}) {
					t.Fatalf("Quiet(%d, %x) = %x", f, b, q)
				}
				for _, l := range [][]api.Bits{nil, {b}, {low(0), b}, {b, b, b}} {
					noPick(t, f, false, l)
					noPick(t, f, true, l)
				}
			}
		}
	}
}

func noPick(t *testing.T, f api.Format, invalid bool, l []api.Bits) {
	t.Helper()
	if r, ok := Pick(f, invalid, l...); ok || r != (api.Result{}) {
		t.Fatalf("Pick(%d, %v, %x) = %x, %v", f, invalid, l, r, ok)
	}
}

// P10.2: no operand: the default NaN if the operation is invalid, else nothing.
func TestPickOfNone(t *testing.T) {
	for _, k := range kinds() {
		for _, l := range [][]api.Bits{nil, {}} {
			noPick(t, k.f, false, l)
			if r, ok := Pick(k.f, true, l...); !ok || r != (api.Result{Bits: k.standard, Flags: api.Invalid}) {
				t.Errorf("Pick(%d, true) = %x, %v", k.f, r, ok)
			}
		}
	}
}

// P10.2: one operand of every class, with both signs and with bits above the width.
func TestPickOfOne(t *testing.T) {
	for _, k := range kinds() {
		for _, above := range k.above() {
			for _, b := range k.others {
				for _, b := range []api.Bits{or(b, above), or(k.negative(b), above)} {
					noPick(t, k.f, false, []api.Bits{b})
					if r, ok := Pick(k.f, true, b); !ok || r != (api.Result{Bits: k.standard, Flags: api.Invalid}) {
						t.Errorf("Pick(%d, true, %x) = %x, %v", k.f, b, r, ok)
					}
				}
			}
			for _, x := range k.nans {
				onlyNaN(t, k, or(x[0], above), x[0] != x[1], x[1])
				onlyNaN(t, k, or(k.negative(x[0]), above), x[0] != x[1], k.negative(x[1]))
			}
		}
	}
}

func onlyNaN(t *testing.T, k kind, b api.Bits, signaling bool, quieted api.Bits) {
	t.Helper()
	for _, invalid := range []bool{false, true} {
		want := api.Result{Bits: quieted}
		if invalid || signaling {
			want.Flags = api.Invalid
		}
		if r, ok := Pick(k.f, invalid, b); !ok || r != want {
			t.Errorf("Pick(%d, %v, %x) = %x, %v; want %x", k.f, invalid, b, r, ok, want)
		}
	}
}

// P10.2: quiet and signaling NaNs and others in every order of up to four, with
// both signs, each with invalid false and true.
func TestPickInEveryOrder(t *testing.T) {
	for _, k := range kinds() {
		quiet, signal := k.nans[len(k.nans)-2][0], k.nans[0][0]
		above := k.above()
		choices := []api.Bits{
			k.others[0], or(k.others[len(k.others)-1], above[len(above)-1]),
			quiet, or(k.negative(quiet), above[len(above)-1]),
			signal, or(k.negative(signal), above[len(above)-1]),
		}
		orders := [][]api.Bits{nil}
		for range 4 {
			var longer [][]api.Bits
			for _, l := range orders {
				check(t, k, false, l...)
				check(t, k, true, l...)
				for _, b := range choices {
					longer = append(longer, append(slices.Clone(l), b))
				}
			}
			orders = longer
		}
		for _, l := range orders {
			check(t, k, false, l...)
			check(t, k, true, l...)
		}
	}
}

// P10.2: many operands, the first NaN at every place, and a signaling one behind a
// quiet one at every place.
func TestPickAtEveryPlace(t *testing.T) {
	const n = 20
	for _, k := range kinds() {
		quiet, signal := k.nans[len(k.nans)-2][0], k.negative(k.nans[0][0])
		signalQuieted := k.negative(k.nans[0][1])
		for i := range n {
			l := slices.Repeat([]api.Bits{k.others[1]}, n)
			check(t, k, false, l...)
			l[i] = signal
			if r, ok := Pick(k.f, false, l...); !ok || r != (api.Result{Bits: signalQuieted, Flags: api.Invalid}) {
				t.Fatalf("format %d, a signaling NaN at %d: %x, %v", k.f, i, r, ok)
			}
			l[i] = quiet
			if r, ok := Pick(k.f, false, l...); !ok || r != (api.Result{Bits: quiet}) {
				t.Fatalf("format %d, a quiet NaN at %d: %x, %v", k.f, i, r, ok)
			}
			for j := i + 1; j < n; j++ {
				l[j] = signal
				if r, ok := Pick(k.f, false, l...); !ok || r != (api.Result{Bits: quiet, Flags: api.Invalid}) {
					t.Fatalf("format %d, a quiet NaN at %d, a signaling one at %d: %x, %v", k.f, i, j, r, ok)
				}
				l[j] = k.others[1]
			}
		}
	}
}

// P10.2: the operands are left as they were.
func TestPickLeavesTheOperands(t *testing.T) {
	l := []api.Bits{low(0x13c00), low(0x1fc01), high(all64, 0x7e05)}
	was := slices.Clone(l)
	Pick(api.B16, true, l...)
	if !slices.Equal(l, was) {
		t.Errorf("%x; they were %x", l, was)
	}
}

// P10.1, P10.2 and P10.3: every encoding of 16 bits.
func TestAllB16(t *testing.T) {
	k := kinds()[0]
	for n := range uint64(1 << 16) {
		properties(t, k, low(n))
	}
}

// P10.1, P10.2 and P10.3: the edges with every bit turned over and with every bit
// up to it turned over.
func TestSamples(t *testing.T) {
	for _, k := range kinds() {
		l := slices.Clone(k.others)
		for _, x := range k.nans {
			l = append(l, x[0])
		}
		for _, b := range l {
			for i := range 128 {
				properties(t, k, xor(b, power(i)))
				properties(t, k, xor(b, span(0, i+1)))
			}
		}
	}
}

// properties holds one encoding against the chapter's words and its properties.
func properties(t *testing.T, k kind, b api.Bits) {
	t.Helper()
	isNaN, want := k.quiets(b)
	q := Quiet(k.f, b)
	if q != want {
		t.Fatalf("Quiet(%d, %x) = %x; want %x", k.f, b, q, want)
	}
	if again := Quiet(k.f, q); again != q {
		t.Fatalf("Quiet(%d, %x) = %x; quieted again %x", k.f, b, q, again)
	}
	if kept := xor(span(0, k.width), power(k.prec-2)); isNaN && ((q.Hi^b.Hi)&kept.Hi != 0 || (q.Lo^b.Lo)&kept.Lo != 0) {
		t.Fatalf("Quiet(%d, %x) = %x: more bits than the most significant one of the fraction", k.f, b, q)
	}
	for _, l := range [][]api.Bits{{b}, {b, k.nans[0][0]}, {low(0), b}} {
		for _, invalid := range []bool{false, true} {
			check(t, k, invalid, l...)
			r, ok := Pick(k.f, invalid, l...)
			if isNaN, quieted := k.quiets(r.Bits); ok && !(isNaN && quieted == r.Bits) {
				t.Fatalf("Pick(%d, %v, %x) = %x: no quiet NaN", k.f, invalid, l, r)
			}
		}
	}
}
