package payload

import (
	"fmt"
	"math"
	"strconv"
	"strings"
	"testing"

	"hairsbreadth/api"
)

const all64 = math.MaxUint64

// kind is a format: its width, its precision, and encodings that are no NaNs.
// Every sign bit is 0.
type kind struct {
	f           api.Format
	width, prec int
	others      []api.Bits
}

func kinds() []kind {
	return []kind{
		{api.B16, 16, 11,
			[]api.Bits{low(0), low(0x0001), low(0x0200), low(0x03ff), low(0x0400), low(0x3c00), low(0x7bff), low(0x7c00)}},
		{api.B32, 32, 24,
			[]api.Bits{low(0), low(0x00000001), low(0x00400000), low(0x007fffff), low(0x00800000), low(0x3f800000), low(0x7f7fffff), low(0x7f800000)}},
		{api.B64, 64, 53,
			[]api.Bits{low(0), low(1), low(0x0008000000000000), low(0x000fffffffffffff), low(0x0010000000000000), low(0x3ff0000000000000), low(0x7fefffffffffffff), low(0x7ff0000000000000)}},
		{api.B128, 128, 113,
			[]api.Bits{low(0), low(1), low(all64), high(0x0000800000000000, 0), high(0x0000ffffffffffff, all64), high(0x0001000000000000, 0), high(0x3fff000000000000, 0), high(0x7ffeffffffffffff, all64), high(0x7fff000000000000, 0)}},
	}
}

func low(n uint64) api.Bits {
	return api.Bits{Lo: n}
}

func high(hi, lo uint64) api.Bits {
	return api.Bits{Hi: hi, Lo: lo}
}

func or(a, b api.Bits) api.Bits {
	return high(a.Hi|b.Hi, a.Lo|b.Lo)
}

// bits returns the number that the binary digits tell.
func bits(t *testing.T, digits string) api.Bits {
	t.Helper()
	digits = strings.Repeat("0", 128-len(digits)) + digits
	hi, err := strconv.ParseUint(digits[:64], 2, 64)
	if err != nil {
		t.Fatal(err)
	}
	lo, err := strconv.ParseUint(digits[64:], 2, 64)
	if err != nil {
		t.Fatal(err)
	}
	return high(hi, lo)
}

// above are different bits above the width, none first.
func (k kind) above(t *testing.T) []api.Bits {
	if k.width == 128 {
		return []api.Bits{{}}
	}
	zeros := strings.Repeat("0", k.width)
	room := 128 - k.width
	return []api.Bits{{}, bits(t, "1"+zeros), bits(t, strings.Repeat("1", room)+zeros), bits(t, "1"+zeros+strings.Repeat("0", room-1))}
}

// digits is a NaN as binary digits: its sign, the most significant bit of its
// fraction and its payload.
type digits struct {
	sign, quiet, payload string
}

func (k kind) encoding(t *testing.T, d digits) api.Bits {
	t.Helper()
	return bits(t, d.sign+strings.Repeat("1", k.width-k.prec)+d.quiet+d.payload)
}

// payloads are the edges: single bits, runs of bits from either end, which a
// narrower format discards or keeps alone, and the digits of no pattern.
func (k kind) payloads() []string {
	n := k.prec - 2
	l := []string{strings.Repeat("0", n), strings.Repeat("10", n)[:n], strings.Repeat("110", n)[:n], strings.Repeat("0100111", n)[:n]}
	for i := 1; i <= n; i++ {
		l = append(l, strings.Repeat("0", n-i)+strings.Repeat("1", i), strings.Repeat("1", i)+strings.Repeat("0", n-i),
			strings.Repeat("0", n-i)+"1"+strings.Repeat("0", i-1), strings.Repeat("1", n-i)+"0"+strings.Repeat("1", i-1))
	}
	return l
}

// nans are the NaNs of those payloads, quiet and signaling, of both signs.
func (k kind) nans() []digits {
	var l []digits
	for _, p := range k.payloads() {
		for _, sign := range []string{"0", "1"} {
			l = append(l, digits{sign, "1", p})
			if strings.Contains(p, "1") {
				l = append(l, digits{sign, "0", p})
			}
		}
	}
	return l
}

// moved is d in the format k by the chapter's words alone.
func (k kind) moved(t *testing.T, d digits) api.Result {
	t.Helper()
	padded := d.payload + strings.Repeat("0", 128)
	r := api.Result{Bits: k.encoding(t, digits{d.sign, "1", padded[:k.prec-2]})}
	if d.quiet == "0" {
		r.Flags = api.Invalid
	}
	return r
}

func check(t *testing.T, from, to api.Format, b api.Bits, want api.Result) {
	t.Helper()
	if r, ok := Move(from, to, b); !ok || r != want {
		t.Fatalf("Move(%d, %d, %x) = %x, %v; want %x", from, to, b, r, ok, want)
	}
}

func checkNone(t *testing.T, from, to api.Format, b api.Bits) {
	t.Helper()
	if r, ok := Move(from, to, b); ok || r != (api.Result{}) {
		t.Fatalf("Move(%d, %d, %x) = %x, %v", from, to, b, r, ok)
	}
}

// P11.1: the chapter's examples.
func TestExamples(t *testing.T) {
	check(t, api.B16, api.B32, low(0x7e01), api.Result{Bits: low(0x7fc02000)})
	check(t, api.B32, api.B16, low(0x7fc02000), api.Result{Bits: low(0x7e01)})
	check(t, api.B32, api.B16, low(0xff800001), api.Result{Bits: low(0xfe00), Flags: api.Invalid})
	checkNone(t, api.B16, api.B32, low(0x3c00))
}

// P11.1: the same NaNs written out in all four formats, so that each pair of
// formats is held against the numbers themselves.
func TestWrittenOut(t *testing.T) {
	for _, row := range [][4]api.Bits{
		{low(0x7e00), low(0x7fc00000), low(0x7ff8000000000000), high(0x7fff800000000000, 0)},
		{low(0xfe00), low(0xffc00000), low(0xfff8000000000000), high(0xffff800000000000, 0)},
		{low(0x7e01), low(0x7fc02000), low(0x7ff8040000000000), high(0x7fff804000000000, 0)},
		{low(0xfea5), low(0xffd4a000), low(0xfffa940000000000), high(0xffffa94000000000, 0)},
		{low(0x7fff), low(0x7fffe000), low(0x7ffffc0000000000), high(0x7fffffc000000000, 0)},
	} {
		for from := range row {
			for to := range row {
				check(t, api.Format(from), api.Format(to), row[from], api.Result{Bits: row[to]})
			}
		}
	}
}

// P11.1: the greatest and the least payload of each format, signaling, and its
// greatest one, quiet, in the four formats.
func TestEdges(t *testing.T) {
	none := [4]api.Bits{low(0xfe00), low(0xffc00000), low(0xfff8000000000000), high(0xffff800000000000, 0)}
	full := [4]api.Bits{low(0x7fff), low(0x7fffffff), low(0x7fffffffffffffff), high(0x7fffffffffffffff, all64)}
	ends := [4]api.Bits{low(0x7fff), low(0x7fffe000), low(0x7ffffc0000000000), high(0x7fffffc000000000, 0)}
	signaling := [4]api.Bits{low(0x7dff), low(0x7fbfffff), low(0x7ff7ffffffffffff), high(0x7fff7fffffffffff, all64)}
	least := [4]api.Bits{low(0xfc01), low(0xff800001), low(0xfff0000000000001), high(0xffff000000000000, 1)}
	for from := range full {
		for to := 0; to < from; to++ {
			check(t, api.Format(from), api.Format(to), full[from], api.Result{Bits: full[to]})
			check(t, api.Format(from), api.Format(to), signaling[from], api.Result{Bits: full[to], Flags: api.Invalid})
			check(t, api.Format(from), api.Format(to), least[from], api.Result{Bits: none[to], Flags: api.Invalid})
		}
		check(t, api.B16, api.Format(from), signaling[0], api.Result{Bits: ends[from], Flags: api.Invalid})
	}
	check(t, api.B16, api.B32, least[0], api.Result{Bits: low(0xffc02000), Flags: api.Invalid})
	check(t, api.B32, api.B64, least[1], api.Result{Bits: low(0xfff8000020000000), Flags: api.Invalid})
	check(t, api.B32, api.B64, full[1], api.Result{Bits: low(0x7fffffffe0000000)})
	check(t, api.B64, api.B128, least[2], api.Result{Bits: high(0xffff800000000000, 1<<60), Flags: api.Invalid})
	check(t, api.B64, api.B128, full[2], api.Result{Bits: high(0x7fffffffffffffff, 0xf000000000000000)})
}

// P11.1: NaNs of both signs, quiet and signaling, with payloads at the edges,
// between all pairs of formats, with and without bits above the width.
func TestPairs(t *testing.T) {
	for _, from := range kinds() {
		for _, d := range from.nans() {
			b := from.encoding(t, d)
			for _, to := range kinds() {
				want := to.moved(t, d)
				for _, above := range from.above(t) {
					check(t, from.f, to.f, or(b, above), want)
				}
			}
		}
	}
}

// P11.1: every NaN of 16 bits, in each format, and everything else of 16 bits.
func TestAll16(t *testing.T) {
	k := kinds()[0]
	for n := range uint64(1 << 16) {
		s := fmt.Sprintf("%016b", n)
		for _, to := range kinds() {
			if s[1:6] == "11111" && strings.Contains(s[6:], "1") {
				check(t, k.f, to.f, low(n), to.moved(t, digits{s[:1], s[6:7], s[7:]}))
			} else {
				checkNone(t, k.f, to.f, low(n))
			}
		}
	}
}

// P11.1: what is no NaN in the format from, though it may be one with the bits
// above the width, or in the format to.
func TestOthers(t *testing.T) {
	for _, from := range kinds() {
		sign := bits(t, "1"+strings.Repeat("0", from.width-1))
		for _, b := range from.others {
			for _, above := range from.above(t) {
				for _, to := range kinds() {
					checkNone(t, from.f, to.f, or(b, above))
					checkNone(t, from.f, to.f, or(or(b, sign), above))
				}
			}
		}
	}
	checkNone(t, api.B32, api.B16, low(0x7e01))
	checkNone(t, api.B64, api.B32, low(0x7fc00001))
	checkNone(t, api.B128, api.B64, low(0x7ff8000000000001))
}

// P11.1: a format that is none of the four, on either side and on both.
func TestNoFormat(t *testing.T) {
	for f := 4; f <= 255; f++ {
		f := api.Format(f)
		for _, k := range kinds() {
			for _, d := range []digits{{"0", "1", k.payloads()[0]}, {"1", "0", k.payloads()[1]}} {
				b := k.encoding(t, d)
				checkNone(t, f, k.f, b)
				checkNone(t, k.f, f, b)
				checkNone(t, f, f, b)
				checkNone(t, f, f^1, b)
			}
			checkNone(t, f, k.f, high(all64, all64))
			checkNone(t, k.f, f, high(all64, all64))
			checkNone(t, k.f, f, k.others[0])
		}
	}
}

// move returns the NaN b moved.
func move(t *testing.T, from, to kind, b api.Bits) api.Bits {
	t.Helper()
	r, ok := Move(from.f, to.f, b)
	if !ok {
		t.Fatalf("Move(%d, %d, %x): false", from.f, to.f, b)
	}
	return r.Bits
}

// P11.2: to a wider format and back is the NaN itself, quieted.
func TestThereAndBack(t *testing.T) {
	l := kinds()
	for i, narrow := range l {
		for _, wide := range l[i+1:] {
			for _, d := range narrow.nans() {
				b := move(t, narrow, wide, narrow.encoding(t, d))
				check(t, wide.f, narrow.f, b, api.Result{Bits: narrow.encoding(t, digits{d.sign, "1", d.payload})})
			}
		}
	}
}

// P11.2: by way of a wider format to a third one is as good as to it directly.
func TestByAWiderOne(t *testing.T) {
	l := kinds()
	for i, from := range l {
		for _, wide := range l[i+1:] {
			for _, to := range l {
				for _, d := range from.nans() {
					b := from.encoding(t, d)
					direct := move(t, from, to, b)
					check(t, wide.f, to.f, move(t, from, wide, b), api.Result{Bits: direct})
				}
			}
		}
	}
}
