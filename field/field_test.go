package field

import (
	"math"
	"math/big"
	"testing"
)

// places are, by format, the bits of a word that the number has, from its bit 0 on, written out one by one; -1 is a bit that is 0.
var places = map[int][]int{
	1: {20, 21, 22, 23, 24, 25, 26, 27, 28, 29, 30, 31},
	2: {7, 8, 9, 10, 11, 25, 26, 27, 28, 29, 30, 31},
	3: {-1, 8, 9, 10, 11, 25, 26, 27, 28, 29, 30, 7, 31},
	4: {-1, -1, -1, -1, -1, -1, -1, -1, -1, -1, -1, -1, 12, 13, 14, 15, 16, 17, 18, 19, 20, 21, 22, 23, 24, 25, 26, 27, 28, 29, 30, 31},
	5: {-1, 21, 22, 23, 24, 25, 26, 27, 28, 29, 30, 20, 12, 13, 14, 15, 16, 17, 18, 19, 31},
}

// bounds are, by format, the least and the greatest number, and the step from each to the next.
var bounds = map[int]struct{ least, greatest, step int64 }{
	1: {-2048, 2047, 1},
	2: {-2048, 2047, 1},
	3: {-4096, 4094, 2},
	4: {-2147483648, 2147479552, 4096},
	5: {-1048576, 1048574, 2},
}

// masks are, by format, the bits of a word that belong to the number.
var masks = map[int]uint32{1: 0xFFF00000, 2: 0xFE000F80, 3: 0xFE000F80, 4: 0xFFFFF000, 5: 0xFFFFF000}

var noFormats = []int{0, 6, 7, -1, -5, 8, 255, 256 + 1, 1<<32 + 1, math.MaxInt, math.MinInt, math.MinInt + 1}

// mixed are words of all kinds, always the same ones.
func mixed(many int) []uint32 {
	words := []uint32{0, 1, math.MaxUint32, 0x80000000, 0x7FFFFFFF, 0xAAAAAAAA, 0x55555555, 0xFE20AE23, 0xFFF00093, 0x12345FFF}
	x := uint32(2463534242)
	for len(words) < many {
		x ^= x << 13
		x ^= x >> 17
		x ^= x << 5
		words = append(words, x)
	}
	return words
}

func bit(w uint32, k int) uint32 {
	if k < 0 || k > 31 {
		return 0
	}
	return w / uint32(math.Pow(2, float64(k))) % 2
}

// slowGet adds up the bits one by one, with numbers that have no end.
func slowGet(w uint32, low, many int) uint32 {
	sum := new(big.Int)
	for k := 0; k < many && low >= 0 && k < 32; k++ {
		if low > 31-k {
			break
		}
		sum.Add(sum, new(big.Int).Lsh(big.NewInt(int64(bit(w, low+k))), uint(k)))
	}
	return uint32(sum.Uint64())
}

// slowImm adds up the bits one by one, the last of them as one below 0.
func slowImm(w uint32, format int) int64 {
	var sum int64
	value := int64(1)
	for i, k := range places[format] {
		if i == len(places[format])-1 {
			value = -value
		}
		sum += value * int64(bit(w, k))
		value *= 2
	}
	return sum
}

func TestP31GetOrdinary(t *testing.T) {
	for _, x := range []struct {
		w         uint32
		low, many int
		want      uint32
	}{
		{0xFE20AE23, 0, 7, 0x23},
		{0xFE20AE23, 12, 3, 2},
		{0xFE20AE23, 25, 7, 0x7F},
		{0xFE20AE23, 7, 5, 28},
		{0x12345678, 4, 8, 0x67},
		{0x12345678, 16, 16, 0x1234},
		{0x12345678, 0, 1, 0},
		{0x12345678, 3, 1, 1},
	} {
		if got := Get(x.w, x.low, x.many); got != x.want {
			t.Errorf("Get(%x, %d, %d) = %x, not %x", x.w, x.low, x.many, got, x.want)
		}
	}
}

func TestP31GetEdges(t *testing.T) {
	const w, all = 0x92345679, math.MaxUint32
	for _, x := range []struct {
		w         uint32
		low, many int
		want      uint32
	}{
		{w, 0, 32, w}, {all, 0, 32, all}, {w, 0, 31, 0x12345679}, {w, 1, 31, w >> 1},
		{w, 31, 1, 1}, {w, 31, 2, 1}, {w, 28, 9, 9}, {w, 28, 4, 9}, {w, 0, 33, w}, {w, 0, 64, w}, {w, 0, 65, w}, {w, 16, 32, w >> 16},
		{w, 32, 1, 0}, {w, 33, 1, 0}, {w, 63, 1, 0}, {w, 64, 1, 0}, {w, 64, 64, 0}, {w, 1 << 32, 1, 0}, {w, 1 << 32, 1 << 32, 0},
		{all, -1, 3, 0}, {all, -1, 1, 0}, {all, -32, 64, 0}, {all, math.MinInt, 1, 0}, {all, math.MinInt, math.MaxInt, 0},
		{all, 0, 0, 0}, {all, 3, 0, 0}, {all, 3, -1, 0}, {all, 3, -29, 0}, {all, 0, math.MinInt, 0}, {all, 31, math.MinInt, 0}, {all, -1, 0, 0}, {all, -1, -1, 0}, {all, math.MinInt, math.MinInt, 0}, {all, math.MaxInt, math.MinInt, 0},
		{w, 0, math.MaxInt, w}, {w, 1, math.MaxInt, w >> 1}, {w, 4, math.MaxInt, w >> 4}, {w, 31, math.MaxInt, 1}, {w, 4, math.MaxInt - 3, w >> 4}, {w, 0, 1 << 32, w}, {w, 4, 1<<32 + 1, w >> 4},
		{all, math.MaxInt, 1, 0}, {all, math.MaxInt, 2, 0}, {all, math.MaxInt, math.MaxInt, 0}, {all, math.MaxInt - 1, 3, 0}, {all, 32, math.MaxInt, 0},
	} {
		if got := Get(x.w, x.low, x.many); got != x.want {
			t.Errorf("Get(%x, %d, %d) = %x, not %x", x.w, x.low, x.many, got, x.want)
		}
	}
}

func TestP31GetAgainstModel(t *testing.T) {
	for _, w := range mixed(20) {
		for low := -3; low < 70; low++ {
			for many := -3; many < 70; many++ {
				if got, want := Get(w, low, many), slowGet(w, low, many); got != want {
					t.Fatalf("Get(%x, %d, %d) = %x, not %x", w, low, many, got, want)
				}
			}
		}
	}
}

func TestP31Registers(t *testing.T) {
	for _, x := range []struct {
		w            uint32
		rd, rs1, rs2 int
	}{
		{0xFE20AE23, 28, 1, 2},
		{0, 0, 0, 0},
		{math.MaxUint32, 31, 31, 31},
		{0xF80, 31, 0, 0}, {0xF8000, 0, 31, 0}, {0x1F00000, 0, 0, 31},
		{math.MaxUint32 &^ 0xF80, 0, 31, 31}, {math.MaxUint32 &^ 0xF8000, 31, 0, 31}, {math.MaxUint32 &^ 0x1F00000, 31, 31, 0},
	} {
		if Rd(x.w) != x.rd || Rs1(x.w) != x.rs1 || Rs2(x.w) != x.rs2 {
			t.Errorf("registers of %x: %d, %d, %d", x.w, Rd(x.w), Rs1(x.w), Rs2(x.w))
		}
	}
	for _, w := range mixed(500) {
		if Rd(w) != int(slowGet(w, 7, 5)) || Rs1(w) != int(slowGet(w, 15, 5)) || Rs2(w) != int(slowGet(w, 20, 5)) {
			t.Errorf("registers of %x: %d, %d, %d", w, Rd(w), Rs1(w), Rs2(w))
		}
	}
}

func TestP32ImmOrdinary(t *testing.T) {
	for _, x := range []struct {
		w      uint32
		format int
		want   int64
	}{
		{0xFFF00093, 1, -1}, {0x80000013, 1, -2048}, {0x7FF00013, 1, 2047}, {0x00500113, 1, 5},
		{0xFE20AE23, 2, -4}, {0x7E000FA3, 2, 2047}, {0x80000023, 2, -2048},
		{0xFE000EE3, 3, -4}, {0x00000F63, 3, 30}, {0x7E000FE3, 3, 4094}, {0x80000063, 3, -4096},
		{0x800000B7, 4, -1 << 31}, {0x12345FFF, 4, 0x12345000}, {0x7FFFF0B7, 4, 0x7FFFF000}, {0xFFFFF0B7, 4, -4096},
		{0xFFDFF06F, 5, -4}, {0x0010006F, 5, 2048}, {0x000FF06F, 5, 0xFF000}, {0x7FFFF06F, 5, 1048574}, {0x8000006F, 5, -1048576},
	} {
		if got := Imm(x.w, x.format); got != x.want {
			t.Errorf("Imm(%x, %d) = %d, not %d", x.w, x.format, got, x.want)
		}
	}
}

// Each bit of a word stands alone: what it counts, or that it does not count at all.
func TestP32ImmBitByBit(t *testing.T) {
	for format, bits := range places {
		for k := range 32 {
			var want int64
			for i, place := range bits {
				if place == k {
					want = 1 << i
				}
			}
			if k == 31 {
				want = -want
			}
			if got := Imm(1<<k, format); got != want {
				t.Errorf("Imm of bit %d, %d = %d, not %d", k, format, got, want)
			}
		}
	}
}

// With bit 31 set beside it each other bit goes up from the least number.
func TestP32ImmSign(t *testing.T) {
	for format, b := range bounds {
		for k := range 31 {
			with, without := Imm(1<<31|1<<k, format), Imm(1<<k, format)
			if with >= 0 || without < 0 || with != b.least+without {
				t.Errorf("bit %d of format %d: %d with the sign, %d without", k, format, with, without)
			}
		}
		if got := Imm(math.MaxUint32, format); got != -b.step {
			t.Errorf("Imm of all bits, %d = %d", format, got)
		}
		if got := Imm(math.MaxInt32, format); got != b.greatest {
			t.Errorf("Imm of all bits but the sign, %d = %d", format, got)
		}
	}
}

func TestP32ImmAgainstModel(t *testing.T) {
	for format := range places {
		for _, w := range mixed(2000) {
			if got, want := Imm(w, format), slowImm(w, format); got != want {
				t.Fatalf("Imm(%x, %d) = %d, not %d", w, format, got, want)
			}
		}
	}
}

func TestP32ImmOfNoFormat(t *testing.T) {
	for _, format := range noFormats {
		for _, w := range mixed(30) {
			if got := Imm(w, format); got != 0 {
				t.Errorf("Imm(%x, %d) = %d", w, format, got)
			}
		}
	}
}

func checkLay(t *testing.T, imm int64, format int, want uint32, wantOk bool) {
	t.Helper()
	if got, ok := Lay(imm, format); got != want || ok != wantOk {
		t.Errorf("Lay(%d, %d) = %x, %v, not %x, %v", imm, format, got, ok, want, wantOk)
	}
}

func TestP33LayOrdinary(t *testing.T) {
	for _, x := range []struct {
		imm    int64
		format int
		want   uint32
	}{
		{0, 1, 0}, {0, 2, 0}, {0, 3, 0}, {0, 4, 0}, {0, 5, 0},
		{-1, 1, 0xFFF00000}, {5, 1, 0x00500000}, {2047, 1, 0x7FF00000}, {-2048, 1, 0x80000000},
		{-4, 2, 0xFE000E00}, {1, 2, 0x80}, {32, 2, 0x02000000}, {2047, 2, 0x7E000F80}, {-2048, 2, 0x80000000},
		{-2, 3, 0xFE000F80}, {-4, 3, 0xFE000E80}, {2048, 3, 0x80}, {4094, 3, 0x7E000F80}, {-4096, 3, 0x80000000},
		{4096, 4, 0x1000}, {-4096, 4, 0xFFFFF000}, {0x7FFFF000, 4, 0x7FFFF000}, {-1 << 31, 4, 0x80000000},
		{2048, 5, 0x00100000}, {-2, 5, 0xFFFFF000}, {1 << 12, 5, 0x1000}, {2, 5, 0x00200000}, {1048574, 5, 0x7FFFF000}, {-1048576, 5, 0x80000000},
	} {
		checkLay(t, x.imm, x.format, x.want, true)
	}
}

func TestP33LayBounds(t *testing.T) {
	for format, b := range bounds {
		checkLay(t, b.least, format, 0x80000000, true)
		checkLay(t, b.greatest, format, masks[format]&0x7FFFFFFF, true)
		checkLay(t, -b.step, format, masks[format], true)
		for _, beyond := range []int64{
			b.least - b.step, b.least - 1, b.greatest + 1, b.greatest + b.step, 2 * b.least, -b.least, -2 * b.least,
			math.MinInt64, math.MinInt64 + 1, math.MaxInt64, math.MaxInt64 - 1, math.MinInt64 + b.step, math.MaxInt64 - b.step + 1,
			1 << 31, -1<<31 - 1, -1<<31 - 4096, 1<<32 - 4096, 1 << 32, 1<<32 + 4096, -1 << 32, 1<<62 + b.step, 1<<32 + b.least, -1<<32 + b.greatest, math.MinInt64 + b.greatest,
		} {
			checkLay(t, beyond, format, 0, false)
		}
	}
}

// A number between the steps of a format has a bit where the format has a zero.
func TestP33LayBetweenSteps(t *testing.T) {
	for _, format := range []int{3, 5} {
		for _, odd := range []int64{1, -1, 3, -3, 5, 2047, -2047, bounds[format].least + 1, bounds[format].greatest - 1} {
			checkLay(t, odd, format, 0, false)
		}
	}
	for k := range 12 {
		for _, whole := range []int64{0, 4096, -4096, 0x12345000, -1 << 31, 0x7FFFF000} {
			checkLay(t, whole+1<<k, 4, 0, false)
		}
	}
	checkLay(t, 4095, 4, 0, false)
	checkLay(t, -1, 4, 0, false)
}

// All numbers of the formats of 12 and 13 bits, and some beyond; the word is put together here bit by bit.
func TestP33LayAgainstModel(t *testing.T) {
	for format, b := range bounds {
		from, to, by := 2*b.least, 2*b.greatest, int64(1)
		if format > 3 {
			by = 4093
		}
		if format == 4 {
			by = 4095*512 + 1
		}
		for imm := from; imm <= to; imm += by {
			var want uint32
			ok := imm >= b.least && imm <= b.greatest && imm%b.step == 0
			for i, k := range places[format] {
				if ok && k >= 0 && imm>>i&1 == 1 {
					want += 1 << k
				}
			}
			checkLay(t, imm, format, want, ok)
		}
	}
}

func TestP33LayOfNoFormat(t *testing.T) {
	for _, format := range noFormats {
		for _, imm := range []int64{0, 1, -1, 2, -2, 4096, -4096, math.MinInt64, math.MaxInt64} {
			checkLay(t, imm, format, 0, false)
		}
	}
}

func TestP34LaidIsTold(t *testing.T) {
	for format, b := range bounds {
		step := b.step
		if format == 4 {
			step *= 257
		}
		for imm := b.least; imm <= b.greatest; imm += step {
			w, ok := Lay(imm, format)
			if got := Imm(w, format); !ok || got != imm {
				t.Fatalf("%d of format %d, laid as %x, %v, is told as %d", imm, format, w, ok, got)
			}
			if got := Imm(w|^masks[format], format); got != imm {
				t.Fatalf("%d of format %d is told as %d, if the other bits are set", imm, format, got)
			}
		}
	}
}

func TestP34ToldIsLaid(t *testing.T) {
	words := mixed(3000)
	for k := range 32 {
		words = append(words, 1<<k, ^uint32(1<<k))
	}
	for format, mask := range masks {
		for _, w := range words {
			if got, ok := Lay(Imm(w, format), format); got != w&mask || !ok {
				t.Fatalf("Imm of %x, %d, laid, is %x, %v", w, format, got, ok)
			}
		}
	}
}
