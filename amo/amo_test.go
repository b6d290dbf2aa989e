package amo

import (
	"math"
	"math/big"
	"testing"

	"suzerain/api"
)

const (
	ones   = 1<<64 - 1
	top    = 1 << 63
	ones32 = 1<<32 - 1
	top32  = 1 << 31
	// neg32 is -2^31 as a number of 64 bits.
	neg32 = 1<<64 - 1<<31
)

// atomic is how the chapter says what stands in memory behind an op, and the ops of 32 and of 64 bits that do it.
type atomic struct {
	how          string
	word, double int
	signed       bool
}

var atomics = []atomic{
	{"old", api.OpLrw, api.OpLrd, false}, {"b", api.OpScw, api.OpScd, false}, {"b", api.OpSwapw, api.OpSwapd, false},
	{"sum", api.OpAddaw, api.OpAddad, false}, {"xor", api.OpXoraw, api.OpXorad, false},
	{"and", api.OpAndaw, api.OpAndad, false}, {"or", api.OpOraw, api.OpOrad, false},
	{"smaller", api.OpMinaw, api.OpMinad, true}, {"greater", api.OpMaxaw, api.OpMaxad, true},
	{"smaller", api.OpMinuaw, api.OpMinuad, false}, {"greater", api.OpMaxuaw, api.OpMaxuad, false},
}

// others are all ops that are not atomic, and numbers that no op has.
func others() []int {
	out := []int{
		-1, -2, -13, -14, -76, -97, 98, 99, 108, 128, 256 + api.OpSwapw, 1<<16 + api.OpSwapd, 1<<32 + api.OpSwapw, 1<<32 + api.OpSwapd,
		-1<<32 + api.OpAddaw, math.MinInt32, math.MaxInt32, math.MinInt, math.MinInt + api.OpSwapd, math.MaxInt,
	}
	for op := range api.OpLrw {
		out = append(out, op)
	}
	return out
}

// samples are the edges of 32 and of 64 bits, small numbers of both signs, and numbers with bits all over.
func samples() []uint64 {
	out := []uint64{0, 1, 2, 6, 3, ones, ones - 1, ones - 6}
	for _, n := range []uint{31, 32, 40, 63} {
		p := uint64(1) << n
		out = append(out, p-1, p, p+1, -p, -p-1)
	}
	x := uint64(0x9E3779B97F4A7C15)
	for range 8 {
		x ^= x << 13
		x ^= x >> 7
		x ^= x << 17
		out = append(out, x, x>>32)
	}
	return out
}

// read is x as a number of so many bits (32 or 64), signed or not.
func read(x uint64, width uint, signed bool) *big.Int {
	limit := new(big.Int).Lsh(big.NewInt(1), width)
	n := new(big.Int).Mod(new(big.Int).SetUint64(x), limit)
	if signed && n.Bit(int(width)-1) == 1 {
		n.Sub(n, limit)
	}
	return n
}

// become is what stands there, of whole numbers that know no bounds.
func (x atomic) become(old, b *big.Int) *big.Int {
	z := new(big.Int)
	switch x.how {
	case "b":
		return b
	case "sum":
		return z.Add(old, b)
	case "xor":
		return z.Xor(old, b)
	case "and":
		return z.And(old, b)
	case "or":
		return z.Or(old, b)
	case "smaller":
		if b.Cmp(old) < 0 {
			return b
		}
	case "greater":
		if b.Cmp(old) > 0 {
			return b
		}
	}
	return old
}

// want is New as the chapter has it, of so many bits.
func (x atomic) want(old, b uint64, width uint) uint64 {
	z := x.become(read(old, width, x.signed), read(b, width, x.signed))
	return new(big.Int).Mod(z, new(big.Int).Lsh(big.NewInt(1), width)).Uint64()
}

// row is one call of New.
type row struct {
	op           int
	old, b, want uint64
}

func checkNew(t *testing.T, rows []row) {
	t.Helper()
	for _, r := range rows {
		if got := New(r.op, r.old, r.b); got != r.want {
			t.Errorf("New(%d, %#x, %#x) = %#x, not %#x", r.op, r.old, r.b, got, r.want)
		}
	}
}

func TestAtomicsAreAll(t *testing.T) {
	for i, x := range atomics {
		if x.word != api.OpLrw+i || x.double != api.OpLrd+i {
			t.Errorf("row %d: %+v", i, x)
		}
	}
	if last := atomics[len(atomics)-1]; last.word != api.OpMaxuaw || last.double != api.OpMaxuad {
		t.Errorf("the last is %+v", last)
	}
}

// P8.1: 4 and 8 bytes, and 0 of whatever else.
func TestP81Size(t *testing.T) {
	for _, x := range atomics {
		if Size(x.word) != 4 || Size(x.double) != 8 {
			t.Errorf("%+v: %d and %d", x, Size(x.word), Size(x.double))
		}
	}
	for _, op := range others() {
		if n := Size(op); n != 0 {
			t.Errorf("Size(%d) = %d", op, n)
		}
	}
}

// P8.1: what was found, signed of 32 bits with bit 31 set and not set, and else as it is.
func TestP81Told(t *testing.T) {
	for _, r := range []struct{ old, signed uint64 }{
		{0, 0}, {1, 1}, {top32 - 1, top32 - 1}, {top32, neg32}, {top32 + 5, neg32 + 5}, {ones32, ones}, {1 << 30, 1 << 30},
		{1 << 32, 0}, {1<<32 + 7, 7}, {1<<32 + top32, neg32}, {top, 0}, {top + top32 - 1, top32 - 1}, {ones, ones}, {ones - top32, top32 - 1},
		{0x123456789ABCDEF0, 0xFFFFFFFF9ABCDEF0}, {0xFEDCBA9876543210, 0x76543210},
	} {
		for _, x := range atomics {
			if got := Told(x.word, r.old); got != r.signed {
				t.Errorf("Told(%d, %#x) = %#x, not %#x", x.word, r.old, got, r.signed)
			}
			if got := Told(x.double, r.old); got != r.old {
				t.Errorf("Told(%d, %#x) = %#x", x.double, r.old, got)
			}
		}
		for _, op := range others() {
			if got := Told(op, r.old); got != r.old {
				t.Errorf("Told(%d, %#x) = %#x", op, r.old, got)
			}
		}
	}
}

// P8.1: ordinary numbers.
func TestP81Ordinary(t *testing.T) {
	checkNew(t, []row{
		{api.OpLrd, 12, 10, 12}, {api.OpScd, 12, 10, 10}, {api.OpSwapd, 12, 10, 10}, {api.OpAddad, 12, 10, 22},
		{api.OpXorad, 12, 10, 6}, {api.OpAndad, 12, 10, 8}, {api.OpOrad, 12, 10, 14},
		{api.OpMinad, 12, 10, 10}, {api.OpMaxad, 12, 10, 12}, {api.OpMinuad, 12, 10, 10}, {api.OpMaxuad, 12, 10, 12},
		{api.OpLrw, 12, 10, 12}, {api.OpScw, 12, 10, 10}, {api.OpSwapw, 12, 10, 10}, {api.OpAddaw, 12, 10, 22},
		{api.OpXoraw, 12, 10, 6}, {api.OpAndaw, 12, 10, 8}, {api.OpOraw, 12, 10, 14},
		{api.OpMinaw, 12, 10, 10}, {api.OpMaxaw, 12, 10, 12}, {api.OpMinuaw, 12, 10, 10}, {api.OpMaxuaw, 12, 10, 12},
	})
}

// P8.1: each op, by the words of the chapter with numbers that know no bounds.
func TestP81Model(t *testing.T) {
	for _, x := range atomics {
		for _, old := range samples() {
			for _, b := range samples() {
				checkNew(t, []row{{x.double, old, b, x.want(old, b, 64)}, {x.word, old, b, x.want(old, b, 32)}})
			}
		}
	}
}

// P8.1: the smaller and the greater of 64 bits, signed and not.
func TestP81Order(t *testing.T) {
	for _, r := range []struct{ old, b, least, most, leastU, mostU uint64 }{
		{0, 0, 0, 0, 0, 0}, {0, 1, 0, 1, 0, 1}, {1, 0, 0, 1, 0, 1},
		{top, top, top, top, top, top}, {ones, ones, ones, ones, ones, ones}, {top - 1, top - 1, top - 1, top - 1, top - 1, top - 1},
		{top, 0, top, 0, 0, top}, {0, top, top, 0, 0, top}, {ones, 0, ones, 0, 0, ones}, {0, ones, ones, 0, 0, ones},
		{top - 1, 0, 0, top - 1, 0, top - 1}, {0, top - 1, 0, top - 1, 0, top - 1},
		{top, top - 1, top, top - 1, top - 1, top}, {top - 1, top, top, top - 1, top - 1, top},
		{ones, top - 1, ones, top - 1, top - 1, ones}, {top - 1, ones, ones, top - 1, top - 1, ones},
		{top, ones, top, ones, top, ones}, {ones, top, top, ones, top, ones},
		{top32, top32 - 1, top32 - 1, top32, top32 - 1, top32}, {ones32, 1, 1, ones32, 1, ones32}, {1 << 32, ones32, ones32, 1 << 32, ones32, 1 << 32},
	} {
		checkNew(t, []row{
			{api.OpMinad, r.old, r.b, r.least}, {api.OpMaxad, r.old, r.b, r.most},
			{api.OpMinuad, r.old, r.b, r.leastU}, {api.OpMaxuad, r.old, r.b, r.mostU},
		})
	}
}

// P8.1: the smaller and the greater of 32 bits, signed and not, whatever stands in the higher halves.
func TestP81Order32(t *testing.T) {
	for _, r := range []struct{ old, b, least, most, leastU, mostU uint64 }{
		{0, 0, 0, 0, 0, 0}, {0, 1, 0, 1, 0, 1}, {1, 0, 0, 1, 0, 1},
		{top32, top32, top32, top32, top32, top32}, {ones32, ones32, ones32, ones32, ones32, ones32},
		{top32, 0, top32, 0, 0, top32}, {0, top32, top32, 0, 0, top32}, {ones32, 0, ones32, 0, 0, ones32}, {0, ones32, ones32, 0, 0, ones32},
		{top32 - 1, 0, 0, top32 - 1, 0, top32 - 1}, {0, top32 - 1, 0, top32 - 1, 0, top32 - 1},
		{top32, top32 - 1, top32, top32 - 1, top32 - 1, top32}, {top32 - 1, top32, top32, top32 - 1, top32 - 1, top32},
		{ones32, top32 - 1, ones32, top32 - 1, top32 - 1, ones32}, {top32 - 1, ones32, ones32, top32 - 1, top32 - 1, ones32},
		{top32, ones32, top32, ones32, top32, ones32}, {ones32, top32, top32, ones32, top32, ones32},
	} {
		for _, above := range [][2]uint64{{0, 0}, {1 << 32, 0}, {0, 1 << 32}, {top, 0}, {0, top}, {ones32 << 32, 0}, {0, ones32 << 32}, {ones32 << 32, ones32 << 32}} {
			old, b := r.old+above[0], r.b+above[1]
			checkNew(t, []row{
				{api.OpMinaw, old, b, r.least}, {api.OpMaxaw, old, b, r.most},
				{api.OpMinuaw, old, b, r.leastU}, {api.OpMaxuaw, old, b, r.mostU},
			})
		}
	}
}

// P8.1: sums beyond 2^64 and beyond 2^32, and the bits at both ends.
func TestP81Round(t *testing.T) {
	checkNew(t, []row{
		{api.OpAddad, ones, 1, 0}, {api.OpAddad, ones, ones, ones - 1}, {api.OpAddad, top, top, 0}, {api.OpAddad, top - 1, 1, top}, {api.OpAddad, ones32, 1, 1 << 32},
		{api.OpAddaw, ones32, 1, 0}, {api.OpAddaw, ones32, ones32, ones32 - 1}, {api.OpAddaw, top32, top32, 0}, {api.OpAddaw, top32 - 1, 1, top32}, {api.OpAddaw, ones, ones, ones32 - 1},
		{api.OpXorad, ones, top, top - 1}, {api.OpOrad, top, 1, top + 1}, {api.OpAndad, ones, top, top}, {api.OpScd, 0, ones, ones}, {api.OpSwapd, ones, top, top},
		{api.OpXoraw, ones, top32, top32 - 1}, {api.OpOraw, top32, 1, top32 + 1}, {api.OpAndaw, ones, top32, top32}, {api.OpScw, 0, ones, ones32}, {api.OpSwapw, ones, top32, top32},
	})
}

// P8.1: of the kind 13 the higher halves change nothing, and the answer is below 2^32.
func TestP81LowerHalves(t *testing.T) {
	for _, x := range atomics {
		for _, old := range samples() {
			for _, b := range samples() {
				want := New(x.word, old&ones32, b&ones32)
				if want > ones32 {
					t.Errorf("New(%d, %#x, %#x) = %#x", x.word, old, b, want)
				}
				for _, above := range []uint64{1 << 32, top, ones32 << 32, 0x5A5A5A5A << 32} {
					checkNew(t, []row{{x.word, old ^ above, b, want}, {x.word, old, b ^ above, want}, {x.word, old ^ above, b ^ above, want}})
				}
			}
		}
	}
}

// P8.1: Lr leaves what was, and so does whatever is not atomic.
func TestP81Leaves(t *testing.T) {
	for _, old := range samples() {
		for _, b := range samples() {
			checkNew(t, []row{{api.OpLrd, old, b, old}, {api.OpLrw, old, b, old & ones32}})
			for _, op := range others() {
				checkNew(t, []row{{op, old, b, old}})
			}
		}
	}
}
