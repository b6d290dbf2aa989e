package word

import (
	"math/big"
	"testing"
)

const (
	ones   = 1<<64 - 1
	top    = 1 << 63
	ones32 = 1<<32 - 1
	top32  = 1 << 31
)

var (
	bigOne = big.NewInt(1)
	two64  = new(big.Int).Lsh(bigOne, 64)
	two32  = new(big.Int).Lsh(bigOne, 32)
)

// samples are the edges of 8, 16, 32 and 64 bits, small numbers of both signs, and numbers with bits all over.
func samples() []uint64 {
	out := []uint64{0, 1, 2, 3, 5, 7, 9, 10, 100, ones, ones - 1, ones - 2, ones - 6, ones - 99}
	for _, n := range []uint{7, 8, 15, 16, 30, 31, 32, 33, 47, 48, 62, 63} {
		p := uint64(1) << n
		out = append(out, p-1, p, p+1, -p, -p-1, -p+1)
	}
	x := uint64(0x9E3779B97F4A7C15)
	for range 24 {
		x = x*6364136223846793005 + 1442695040888963407
		out = append(out, x, x>>32, x>>48)
	}
	return out
}

// reduce is x modulo 2^64.
func reduce(x *big.Int) uint64 {
	return new(big.Int).Mod(x, two64).Uint64()
}

// read is x as a number of so many bits (32 or 64), signed or not.
func read(x uint64, width uint, signed bool) *big.Int {
	limit := two64
	if width == 32 {
		limit = two32
	}
	n := new(big.Int).Mod(new(big.Int).SetUint64(x), limit)
	if signed && n.Bit(int(width)-1) == 1 {
		n.Sub(n, limit)
	}
	return n
}

// P1.1: ordinary numbers and the edges of bits.
func TestSextTable(t *testing.T) {
	for _, c := range []struct {
		x    uint64
		bits int
		want uint64
	}{
		{5, 8, 5},
		{0x7F, 8, 0x7F},
		{0x80, 8, ones - 127},
		{0x17F, 8, 0x7F},
		{0xFF80, 8, ones - 127},
		{0xFFF, 12, ones},
		{0x7FF, 12, 0x7FF},
		{top32, 32, ones - top32 + 1},
		{top32 - 1, 32, top32 - 1},
		{0, 1, 0},
		{1, 1, ones},
		{2, 1, 0},
		{ones, 1, ones},
		{1 << 62, 63, 3 << 62},
		{top, 63, 0},
		{top + 1, 63, 1},
		{top, 64, top},
		{ones, 65, ones},
		{0x80, 0, 0x80},
		{0x80, -1, 0x80},
		{0x80, -8, 0x80},
		{0x80, -1 << 63, 0x80},
		{0x80, 1<<63 - 1, 0x80},
		{0x80, 1<<32 + 8, 0x80},
	} {
		if got := Sext(c.x, c.bits); got != c.want {
			t.Errorf("Sext(%#x, %d) = %#x, not %#x", c.x, c.bits, got, c.want)
		}
	}
}

// P1.1: Sext by the words of the document, for every number of bits.
func TestSextModel(t *testing.T) {
	for _, x := range samples() {
		for n := -70; n <= 140; n++ {
			want := x
			if n >= 1 && n <= 63 {
				limit := new(big.Int).Lsh(bigOne, uint(n))
				low := new(big.Int).Mod(new(big.Int).SetUint64(x), limit)
				if low.Cmp(new(big.Int).Lsh(bigOne, uint(n-1))) >= 0 {
					low.Sub(low, limit)
				}
				want = reduce(low)
			}
			if got := Sext(x, n); got != want {
				t.Errorf("Sext(%#x, %d) = %#x, not %#x", x, n, got, want)
			}
		}
	}
}

// P1.1: high halves, with each choice of signs.
func TestHighTable(t *testing.T) {
	for _, c := range []struct {
		a, b             uint64
		signedA, signedB bool
		want             uint64
	}{
		{3, 5, false, false, 0},
		{3, 5, true, true, 0},
		{1 << 32, 1 << 32, false, false, 1},
		{1 << 40, 1 << 40, true, true, 1 << 16},
		{ones, ones, false, false, ones - 1},
		{ones, ones, true, true, 0},
		{ones, ones, true, false, ones},
		{ones, ones, false, true, ones},
		{ones, 1, true, false, ones},
		{ones, 1, false, true, 0},
		{1, ones, false, true, ones},
		{1, ones, true, false, 0},
		{ones, 0, true, true, 0},
		{top, top, true, true, 1 << 62},
		{top, top, false, false, 1 << 62},
		{top, top, true, false, 3 << 62},
		{top, top, false, true, 3 << 62},
		{top, 2, true, false, ones},
		{2, top, true, false, 1},
	} {
		if got := High(c.a, c.b, c.signedA, c.signedB); got != c.want {
			t.Errorf("High(%#x, %#x, %v, %v) = %#x, not %#x", c.a, c.b, c.signedA, c.signedB, got, c.want)
		}
	}
}

// P1.1: High by the words of the document.
func TestHighModel(t *testing.T) {
	for _, a := range samples() {
		for _, b := range samples() {
			for choice := range 4 {
				signedA, signedB := choice&1 != 0, choice&2 != 0
				product := new(big.Int).Mul(read(a, 64, signedA), read(b, 64, signedB))
				// Rsh rounds down, also below 0.
				want := reduce(product.Rsh(product, 64))
				if got := High(a, b, signedA, signedB); got != want {
					t.Errorf("High(%#x, %#x, %v, %v) = %#x, not %#x", a, b, signedA, signedB, got, want)
				}
			}
		}
	}
}

type division struct {
	a, b      uint64
	signed    bool
	quot, rem uint64
}

// P1.2: ordinary numbers, each choice of signs, b 0, and what overflows.
func TestDivTable(t *testing.T) {
	for _, c := range []division{
		{7, 2, false, 3, 1},
		{7, 2, true, 3, 1},
		{ones - 6, 2, true, ones - 2, ones},
		{7, ones - 1, true, ones - 2, 1},
		{ones - 6, ones - 1, true, 3, ones},
		{ones - 6, 2, false, top - 4, 1},
		{7, ones - 1, false, 0, 7},
		{6, 3, true, 2, 0},
		{0, 5, true, 0, 0},
		{7, 0, false, ones, 7},
		{7, 0, true, ones, 7},
		{0, 0, false, ones, 0},
		{0, 0, true, ones, 0},
		{ones - 6, 0, true, ones, ones - 6},
		{top, 0, true, ones, top},
		{top, ones, true, top, 0},
		{top, ones, false, 0, top},
		{top, 1, true, top, 0},
		{top + 1, ones, true, top - 1, 0},
		{ones, top, false, 1, top - 1},
		{ones, top, true, 0, ones},
	} {
		if got := Div(c.a, c.b, c.signed); got != c.quot {
			t.Errorf("Div(%#x, %#x, %v) = %#x, not %#x", c.a, c.b, c.signed, got, c.quot)
		}
		if got := Rem(c.a, c.b, c.signed); got != c.rem {
			t.Errorf("Rem(%#x, %#x, %v) = %#x, not %#x", c.a, c.b, c.signed, got, c.rem)
		}
	}
}

// P1.2: likewise of 32 bits; the bits above them have no say, and what comes is sign-extended.
func TestDiv32Table(t *testing.T) {
	const least = ones - top32 + 1
	for _, c := range []division{
		{7, 2, false, 3, 1},
		{7, 2, true, 3, 1},
		{ones - 6, 2, true, ones - 2, ones},
		{ones32 - 6, 2, true, ones - 2, ones},
		{7, ones32 - 1, true, ones - 2, 1},
		{ones32 - 6, 2, false, top32 - 4, 1},
		{1<<32 + 9, 2, false, 4, 1},
		{1<<32 + 9, 7<<32 + 2, true, 4, 1},
		{ones32 - 1, 1, false, ones - 1, 0},
		{ones32 - 1, ones32, false, 0, ones - 1},
		{top32, 0, false, ones, least},
		{top32, 0, true, ones, least},
		{5, 0, false, ones, 5},
		{5, 1 << 32, false, ones, 5},
		{5, 1 << 32, true, ones, 5},
		{3<<32 + 5, 0, true, ones, 5},
		{top32, ones, true, least, 0},
		{top32, ones32, true, least, 0},
		{least, ones, true, least, 0},
		{top32, ones32, false, 0, least},
		{top32, 1, true, least, 0},
	} {
		if got := Div32(c.a, c.b, c.signed); got != c.quot {
			t.Errorf("Div32(%#x, %#x, %v) = %#x, not %#x", c.a, c.b, c.signed, got, c.quot)
		}
		if got := Rem32(c.a, c.b, c.signed); got != c.rem {
			t.Errorf("Rem32(%#x, %#x, %v) = %#x, not %#x", c.a, c.b, c.signed, got, c.rem)
		}
	}
}

// divided is the quotient and the rest by the words of the document, ahead of 32 bits' sign extension.
func divided(a, b uint64, width uint, signed bool) (uint64, uint64) {
	n, d := read(a, width, signed), read(b, width, signed)
	if d.Sign() == 0 {
		return ones, reduce(n)
	}
	quot, rem := new(big.Int).QuoRem(n, d, new(big.Int))
	return reduce(quot), reduce(rem)
}

// P1.2: division by the words of the document.
func TestDivModel(t *testing.T) {
	for _, a := range samples() {
		for _, b := range samples() {
			for _, signed := range []bool{false, true} {
				quot, rem := divided(a, b, 64, signed)
				if got := Div(a, b, signed); got != quot {
					t.Errorf("Div(%#x, %#x, %v) = %#x, not %#x", a, b, signed, got, quot)
				}
				if got := Rem(a, b, signed); got != rem {
					t.Errorf("Rem(%#x, %#x, %v) = %#x, not %#x", a, b, signed, got, rem)
				}
				quot, rem = divided(a, b, 32, signed)
				quot, rem = reduce(read(quot, 32, true)), reduce(read(rem, 32, true))
				if got := Div32(a, b, signed); got != quot {
					t.Errorf("Div32(%#x, %#x, %v) = %#x, not %#x", a, b, signed, got, quot)
				}
				if got := Rem32(a, b, signed); got != rem {
					t.Errorf("Rem32(%#x, %#x, %v) = %#x, not %#x", a, b, signed, got, rem)
				}
			}
		}
	}
}

// P1.3: each kind, shifts of 64 and more and below 0, and kinds that are none.
func TestShiftTable(t *testing.T) {
	for _, c := range []struct {
		x        uint64
		by, kind int
		want     uint64
	}{
		{3, 1, 0, 6},
		{3, 0, 0, 3},
		{3, 63, 0, top},
		{3, 64, 0, 3},
		{3, 65, 0, 6},
		{1, -1, 0, top},
		{1, -64, 0, 1},
		{1, -63, 0, 2},
		{1, -1 << 63, 0, 1},
		{1, 1<<63 - 1, 0, top},
		{top, 63, 1, 1},
		{top, 64, 1, top},
		{7, 1, 1, 3},
		{ones, -1, 1, 1},
		{ones, 129, 1, top - 1},
		{top, 63, 2, ones},
		{top, 64, 2, top},
		{ones - 6, 1, 2, ones - 3},
		{7, 1, 2, 3},
		{top, -1, 2, ones},
		{top - 1, 62, 2, 1},
		{9, 1, 3, 9},
		{9, 1, 7, 9},
		{9, 1, -1, 9},
		{9, 65, -1 << 63, 9},
		{9, -1, 1<<63 - 1, 9},
		{9, 1, 1 << 32, 9},
	} {
		if got := Shift(c.x, c.by, c.kind); got != c.want {
			t.Errorf("Shift(%#x, %d, %d) = %#x, not %#x", c.x, c.by, c.kind, got, c.want)
		}
	}
}

// P1.3: Shift by the words of the document.
func TestShiftModel(t *testing.T) {
	for _, x := range samples() {
		for by := -200; by <= 200; by++ {
			n := uint((by%64 + 64) % 64)
			left := new(big.Int).Lsh(read(x, 64, false), n)
			right := new(big.Int).Rsh(read(x, 64, false), n)
			signed := new(big.Int).Rsh(read(x, 64, true), n)
			for kind, want := range map[int]uint64{-1: x, 0: reduce(left), 1: reduce(right), 2: reduce(signed), 3: x} {
				if got := Shift(x, by, kind); got != want {
					t.Errorf("Shift(%#x, %d, %d) = %#x, not %#x", x, by, kind, got, want)
				}
			}
		}
	}
}

// P1.4: what is divided is what comes of it times the other, and the rest, also where b is 0 and where it overflows.
func TestDividedIsWhole(t *testing.T) {
	for _, a := range samples() {
		for _, b := range samples() {
			for _, signed := range []bool{false, true} {
				if got := Div(a, b, signed)*b + Rem(a, b, signed); got != a {
					t.Errorf("of %#x by %#x, %v: %#x", a, b, signed, got)
				}
				got := Div32(a, b, signed)*b + Rem32(a, b, signed)
				if Sext(got, 32) != Sext(a, 32) {
					t.Errorf("of 32 bits, %#x by %#x, %v: %#x", a, b, signed, got)
				}
			}
		}
	}
}

// P1.4: the rest is less than what divides, and has the sign of what is divided.
func TestRestIsSmall(t *testing.T) {
	for _, a := range samples() {
		for _, b := range samples() {
			for _, signed := range []bool{false, true} {
				checkRest(t, Rem(a, b, signed), a, b, 64, signed)
				checkRest(t, Rem32(a, b, signed), a, b, 32, signed)
			}
		}
	}
}

func checkRest(t *testing.T, rem, a, b uint64, width uint, signed bool) {
	t.Helper()
	r, n, d := read(rem, width, signed), read(a, width, signed), read(b, width, signed)
	if d.Sign() != 0 && r.CmpAbs(d) >= 0 {
		t.Errorf("%d bits, %#x by %#x, %v: rest %v", width, a, b, signed, r)
	}
	if r.Sign() != 0 && r.Sign() != n.Sign() {
		t.Errorf("%d bits, %#x by %#x, %v: rest %v has another sign", width, a, b, signed, r)
	}
}
