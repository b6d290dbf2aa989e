package alu

import (
	"math"
	"math/big"
	"testing"

	"suzerain/api"
)

const (
	ones   = 1<<64 - 1
	top    = 1 << 63
	ones32 = 1<<32 - 1
	top32  = 1 << 31
	// neg32 is -2^31 as a number of 64 bits.
	neg32 = 1<<64 - 1<<31
)

var (
	bigOne = big.NewInt(1)
	two64  = new(big.Int).Lsh(bigOne, 64)
)

// worker is an op that becomes a number: how the chapter says what, which bits of the numbers count, and whether each is signed.
type worker struct {
	op               int
	how              string
	width            uint
	signedA, signedB bool
}

var workers = []worker{
	{api.OpAddi, "sum", 64, false, false}, {api.OpSlti, "less", 64, true, true}, {api.OpSltiu, "less", 64, false, false},
	{api.OpXori, "xor", 64, false, false}, {api.OpOri, "or", 64, false, false}, {api.OpAndi, "and", 64, false, false},
	{api.OpSlli, "left", 64, false, false}, {api.OpSrli, "right", 64, false, false}, {api.OpSrai, "right", 64, true, false},
	{api.OpAdd, "sum", 64, false, false}, {api.OpSub, "difference", 64, false, false}, {api.OpSll, "left", 64, false, false},
	{api.OpSlt, "less", 64, true, true}, {api.OpSltu, "less", 64, false, false}, {api.OpXor, "xor", 64, false, false},
	{api.OpSrl, "right", 64, false, false}, {api.OpSra, "right", 64, true, false},
	{api.OpOr, "or", 64, false, false}, {api.OpAnd, "and", 64, false, false},
	{api.OpAddiw, "sum", 32, false, false}, {api.OpSlliw, "left", 32, false, false},
	{api.OpSrliw, "right", 32, false, false}, {api.OpSraiw, "right", 32, true, false},
	{api.OpAddw, "sum", 32, false, false}, {api.OpSubw, "difference", 32, false, false},
	{api.OpSllw, "left", 32, false, false}, {api.OpSrlw, "right", 32, false, false}, {api.OpSraw, "right", 32, true, false},
	{api.OpMul, "product", 64, false, false}, {api.OpMulh, "high", 64, true, true},
	{api.OpMulhsu, "high", 64, true, false}, {api.OpMulhu, "high", 64, false, false},
	{api.OpDiv, "quotient", 64, true, true}, {api.OpDivu, "quotient", 64, false, false},
	{api.OpRem, "rest", 64, true, true}, {api.OpRemu, "rest", 64, false, false},
	{api.OpMulw, "product", 32, false, false},
	{api.OpDivw, "quotient", 32, true, true}, {api.OpDivuw, "quotient", 32, false, false},
	{api.OpRemw, "rest", 32, true, true}, {api.OpRemuw, "rest", 32, false, false},
}

// twins are the ops with i, and those without.
var twins = map[int]int{
	api.OpAddi: api.OpAdd, api.OpSlti: api.OpSlt, api.OpSltiu: api.OpSltu, api.OpXori: api.OpXor, api.OpOri: api.OpOr,
	api.OpAndi: api.OpAnd, api.OpSlli: api.OpSll, api.OpSrli: api.OpSrl, api.OpSrai: api.OpSra,
	api.OpAddiw: api.OpAddw, api.OpSlliw: api.OpSllw, api.OpSrliw: api.OpSrlw, api.OpSraiw: api.OpSraw,
}

// wild are numbers that no op has.
var wild = []int{
	-1, -2, -5, -31, -50, -97, 98, 99, 128, 256 + 31, 1<<16 + 31, 1<<32 + api.OpAdd, 1<<32 + api.OpBeq,
	-1<<32 + api.OpAdd, math.MinInt32, math.MaxInt32, math.MinInt, math.MinInt + api.OpAdd, math.MaxInt,
}

// samples are the edges of 5, 6, 32 and 64 bits, small numbers of both signs, and numbers with bits all over.
func samples() []uint64 {
	out := []uint64{0, 1, 2, 3, 7, 10, 35, ones, ones - 1, ones - 6}
	for _, n := range []uint{5, 6, 31, 32, 63} {
		p := uint64(1) << n
		out = append(out, p-1, p, p+1, -p, -p-1)
	}
	x := uint64(0x9E3779B97F4A7C15)
	for range 8 {
		x ^= x << 13
		x ^= x >> 7
		x ^= x << 17
		out = append(out, x, x>>32)
	}
	return out
}

// read is x as a number of so many bits (32 or 64), signed or not.
func read(x uint64, width uint, signed bool) *big.Int {
	limit := new(big.Int).Lsh(bigOne, width)
	n := new(big.Int).Mod(new(big.Int).SetUint64(x), limit)
	if signed && n.Bit(int(width)-1) == 1 {
		n.Sub(n, limit)
	}
	return n
}

// divided is the quotient, rounded to 0, and the rest. By 0 they are -1, which is all bits set, and what was divided.
func divided(a, b *big.Int) (*big.Int, *big.Int) {
	if b.Sign() == 0 {
		return big.NewInt(-1), a
	}
	return new(big.Int).QuoRem(a, b, new(big.Int))
}

// become is what an op makes of whole numbers that know no bounds; by is how far is shifted.
func (w worker) become(a, b *big.Int, by uint) *big.Int {
	z := new(big.Int)
	switch w.how {
	case "sum":
		return z.Add(a, b)
	case "difference":
		return z.Sub(a, b)
	case "product":
		return z.Mul(a, b)
	case "high":
		return z.Rsh(z.Mul(a, b), 64)
	case "xor":
		return z.Xor(a, b)
	case "or":
		return z.Or(a, b)
	case "and":
		return z.And(a, b)
	case "less":
		if a.Cmp(b) < 0 {
			return bigOne
		}
		return z
	case "left":
		return z.Lsh(a, by)
	case "right":
		return z.Rsh(a, by)
	}
	q, r := divided(a, b)
	if w.how == "quotient" {
		return q
	}
	return r
}

// want is what an op becomes, as the chapter has it. What is of 32 bits is told signed, even if it was done of numbers that are not.
func (w worker) want(a, b uint64) uint64 {
	z := w.become(read(a, w.width, w.signedA), read(b, w.width, w.signedB), uint(b%uint64(w.width)))
	z = new(big.Int).Mod(z, two64)
	if w.width == 32 {
		z.Mod(read(z.Uint64(), 32, true), two64)
	}
	return z.Uint64()
}

// row is one call of Do.
type row struct {
	op         int
	a, b, want uint64
}

func checkDo(t *testing.T, rows []row) {
	t.Helper()
	for _, r := range rows {
		if got := Do(r.op, r.a, r.b); got != r.want {
			t.Errorf("Do(%d, %#x, %#x) = %#x, not %#x", r.op, r.a, r.b, got, r.want)
		}
	}
}

func TestWorkersAreOfEachOp(t *testing.T) {
	for i, w := range workers {
		if w.op != api.OpAddi+i {
			t.Errorf("row %d: %+v", i, w)
		}
	}
	if last := workers[len(workers)-1].op; last != api.OpRemuw {
		t.Errorf("the last is %d", last)
	}
}

// P7.1: ordinary numbers, at which the ops that the chapter tells apart answer unlike.
func TestP71Ordinary(t *testing.T) {
	checkDo(t, []row{
		{api.OpAdd, 12, 10, 22}, {api.OpAddi, 12, 10, 22}, {api.OpSub, 12, 10, 2},
		{api.OpXor, 12, 10, 6}, {api.OpXori, 12, 10, 6}, {api.OpOr, 12, 10, 14}, {api.OpOri, 12, 10, 14},
		{api.OpAnd, 12, 10, 8}, {api.OpAndi, 12, 10, 8},
		{api.OpSlt, ones, 3, 1}, {api.OpSlti, ones, 3, 1}, {api.OpSltu, ones, 3, 0}, {api.OpSltiu, ones, 3, 0},
		{api.OpSll, top + 12, 2, 48}, {api.OpSlli, top + 12, 2, 48},
		{api.OpSrl, top + 12, 2, 1<<61 + 3}, {api.OpSrli, top + 12, 2, 1<<61 + 3},
		{api.OpSra, top + 12, 2, 7<<61 + 3}, {api.OpSrai, top + 12, 2, 7<<61 + 3},
		{api.OpAddw, 12, 10, 22}, {api.OpAddiw, 12, 10, 22}, {api.OpSubw, 12, 10, 2},
		{api.OpSllw, top32 + 12, 2, 48}, {api.OpSlliw, top32 + 12, 2, 48},
		{api.OpSrlw, top32 + 12, 2, 1<<29 + 3}, {api.OpSrliw, top32 + 12, 2, 1<<29 + 3},
		{api.OpSraw, top32 + 12, 2, 1<<64 - 1<<29 + 3}, {api.OpSraiw, top32 + 12, 2, 1<<64 - 1<<29 + 3},
		{api.OpMul, 12, 10, 120}, {api.OpMulw, 12, 10, 120},
		{api.OpDiv, 1<<64 - 17, 5, 1<<64 - 3}, {api.OpDivu, 17, 5, 3}, {api.OpRem, 1<<64 - 17, 5, 1<<64 - 2}, {api.OpRemu, 17, 5, 2},
		{api.OpDivw, 1<<64 - 17, 5, 1<<64 - 3}, {api.OpDivuw, 17, 5, 3}, {api.OpRemw, 1<<64 - 17, 5, 1<<64 - 2}, {api.OpRemuw, 17, 5, 2},
	})
}

// P7.1: each op, by the words of the chapter with numbers that know no bounds.
func TestP71Model(t *testing.T) {
	for _, w := range workers {
		for _, a := range samples() {
			for _, b := range samples() {
				if got, want := Do(w.op, a, b), w.want(a, b); got != want {
					t.Errorf("%s, op %d, of %#x and %#x: %#x, not %#x", w.how, w.op, a, b, got, want)
				}
			}
		}
	}
}

// P7.1: those with i are as those without, and no two others are alike.
func TestP71Apart(t *testing.T) {
	for with, without := range twins {
		for _, a := range samples() {
			for _, b := range samples() {
				if Do(with, a, b) != Do(without, a, b) {
					t.Errorf("%d is not as %d of %#x and %#x", with, without, a, b)
				}
			}
		}
	}
	for _, v := range workers {
		for _, w := range workers {
			if plain(v.op) != plain(w.op) && !apart(v.op, w.op) {
				t.Errorf("%d and %d are alike", v.op, w.op)
			}
		}
	}
	if apart(api.OpAddi, api.OpAdd) || !apart(api.OpAdd, api.OpAddw) {
		t.Error("apart does not tell")
	}
}

// plain is the op without i of one with it, and any other as it is.
func plain(op int) int {
	if without, ok := twins[op]; ok {
		return without
	}
	return op
}

// apart is whether two ops answer unlike of some numbers.
func apart(v, w int) bool {
	for _, a := range samples() {
		for _, b := range samples() {
			if Do(v, a, b) != Do(w, a, b) {
				return true
			}
		}
	}
	return false
}

// P7.1: 0 of ops of other kinds, and of what is no op.
func TestP71Others(t *testing.T) {
	others := append([]int{}, wild...)
	for op := 0; op <= api.OpMaxuad; op++ {
		if op < api.OpAddi || op > api.OpRemuw {
			others = append(others, op)
		}
	}
	for _, op := range others {
		checkDo(t, []row{{op, 0, 0, 0}, {op, 1, 0, 0}, {op, 12, 10, 0}, {op, 10, 12, 0}, {op, ones, 3, 0}, {op, top, ones, 0}, {op, ones, ones, 0}})
	}
}

// P7.1: sums, differences and products beyond 2^64, and below 0.
func TestP71Round(t *testing.T) {
	checkDo(t, []row{
		{api.OpAdd, ones, 1, 0}, {api.OpAdd, ones, ones, ones - 1}, {api.OpAdd, top, top, 0}, {api.OpAdd, top - 1, 1, top},
		{api.OpAddi, ones, 1, 0}, {api.OpAddi, 5, ones, 4}, {api.OpAddi, 0, ones, ones},
		{api.OpSub, 0, 1, ones}, {api.OpSub, 0, ones, 1}, {api.OpSub, 0, top, top}, {api.OpSub, top, 1, top - 1}, {api.OpSub, 5, 5, 0},
		{api.OpMul, ones, ones, 1}, {api.OpMul, ones, 2, ones - 1}, {api.OpMul, top, 2, 0}, {api.OpMul, top, 3, top}, {api.OpMul, 1 << 32, 1 << 32, 0},
		{api.OpXor, ones, top, top - 1}, {api.OpOr, top, top - 1, ones}, {api.OpAnd, ones, top, top}, {api.OpXor, top, top, 0},
	})
}

// P7.1: what is less, signed and not.
func TestP71Less(t *testing.T) {
	for _, r := range []struct{ a, b, signed, not uint64 }{
		{0, 0, 0, 0}, {0, 1, 1, 1}, {1, 0, 0, 0}, {top, top, 0, 0}, {ones, ones, 0, 0}, {top - 1, top - 1, 0, 0},
		{0, top, 0, 1}, {top, 0, 1, 0}, {0, ones, 0, 1}, {ones, 0, 1, 0}, {0, top - 1, 1, 1}, {top - 1, 0, 0, 0},
		{top, top - 1, 1, 0}, {top - 1, top, 0, 1}, {top, ones, 1, 1}, {ones, top, 0, 0}, {top - 1, ones, 0, 1}, {ones, top - 1, 1, 0},
		{ones - 1, ones, 1, 1}, {ones, ones - 1, 0, 0}, {top32, ones32, 1, 1}, {1 << 32, ones32, 0, 0}, {top32, top32 - 1, 0, 0},
	} {
		checkDo(t, []row{
			{api.OpSlt, r.a, r.b, r.signed}, {api.OpSlti, r.a, r.b, r.signed},
			{api.OpSltu, r.a, r.b, r.not}, {api.OpSltiu, r.a, r.b, r.not},
		})
	}
}

// P7.1: how far is shifted is modulo 64.
func TestP71Shifts(t *testing.T) {
	for _, r := range []struct{ a, b, left, right, signed uint64 }{
		{top + 5, 0, top + 5, top + 5, top + 5}, {5, 0, 5, 5, 5},
		{top + 5, 1, 10, 1<<62 + 2, 3<<62 + 2}, {5, 1, 10, 2, 2},
		{top + 5, 63, top, 1, ones}, {5, 63, top, 0, 0}, {top - 1, 63, top, 0, 0}, {ones, 63, top, 1, ones},
		{top + 5, 64, top + 5, top + 5, top + 5}, {5, 64, 5, 5, 5},
		{top + 5, 65, 10, 1<<62 + 2, 3<<62 + 2}, {5, 65, 10, 2, 2},
		{top + 5, ones, top, 1, ones}, {5, ones, top, 0, 0},
		{top + 5, top, top + 5, top + 5, top + 5}, {5, 1<<32 + 1, 10, 2, 2},
		{top32 + 5, 32, top + 5<<32, 0, 0}, {top32 + 5, 31, 1<<62 + 5<<31, 1, 1}, {ones32 << 32, 33, 0, ones32 >> 1, ones},
	} {
		checkDo(t, []row{
			{api.OpSll, r.a, r.b, r.left}, {api.OpSlli, r.a, r.b, r.left},
			{api.OpSrl, r.a, r.b, r.right}, {api.OpSrli, r.a, r.b, r.right},
			{api.OpSra, r.a, r.b, r.signed}, {api.OpSrai, r.a, r.b, r.signed},
		})
	}
}

// P7.1, P7.3: how far the lower half is shifted is modulo 32, and what stands above it does not come down.
func TestP71Shifts32(t *testing.T) {
	for _, r := range []struct{ a, b, left, right, signed uint64 }{
		{top32 + 5, 0, neg32 + 5, neg32 + 5, neg32 + 5}, {5, 0, 5, 5, 5},
		{top32 + 5, 1, 10, 1<<30 + 2, 1<<64 - 1<<30 + 2}, {5, 1, 10, 2, 2}, {1 << 30, 1, neg32, 1 << 29, 1 << 29},
		{top32 + 5, 31, neg32, 1, ones}, {5, 31, neg32, 0, 0}, {6, 31, 0, 0, 0},
		{top32 + 5, 32, neg32 + 5, neg32 + 5, neg32 + 5}, {5, 32, 5, 5, 5},
		{top32 + 5, 33, 10, 1<<30 + 2, 1<<64 - 1<<30 + 2}, {5, 33, 10, 2, 2},
		{top32 + 5, 63, neg32, 1, ones}, {5, 63, neg32, 0, 0},
		{top32 + 5, 64, neg32 + 5, neg32 + 5, neg32 + 5}, {5, 65, 10, 2, 2}, {5, ones, neg32, 0, 0}, {5, top, 5, 5, 5},
	} {
		for _, above := range []uint64{0, 1 << 32, top, ones32 << 32} {
			a := r.a + above
			checkDo(t, []row{
				{api.OpSllw, a, r.b, r.left}, {api.OpSlliw, a, r.b, r.left},
				{api.OpSrlw, a, r.b, r.right}, {api.OpSrliw, a, r.b, r.right},
				{api.OpSraw, a, r.b, r.signed}, {api.OpSraiw, a, r.b, r.signed},
			})
		}
	}
}

// P7.1: what is of 32 bits is told signed: answers whose bit 31 is set, and answers whose bit 31 is not.
func TestP71Signs32(t *testing.T) {
	checkDo(t, []row{
		{api.OpAddw, top32 - 1, 1, neg32}, {api.OpAddw, ones32, 1, 0}, {api.OpAddw, top32, top32, 0}, {api.OpAddw, top32, top32 - 1, ones},
		{api.OpAddiw, top32 - 1, 1, neg32}, {api.OpAddiw, 5, ones, 4}, {api.OpAddiw, 0, ones, ones},
		{api.OpSubw, 0, 1, ones}, {api.OpSubw, top32, 1, top32 - 1}, {api.OpSubw, 0, top32, neg32}, {api.OpSubw, neg32, 1, top32 - 1},
		{api.OpSllw, 1, 31, neg32}, {api.OpSllw, 1, 30, 1 << 30}, {api.OpSlliw, 1, 31, neg32}, {api.OpSlliw, 1, 30, 1 << 30},
		{api.OpSrlw, ones32, 0, ones}, {api.OpSrlw, ones32, 1, top32 - 1}, {api.OpSrliw, ones32, 0, ones}, {api.OpSrliw, ones32, 1, top32 - 1},
		{api.OpSraw, top32, 4, 1<<64 - 1<<27}, {api.OpSraw, top32 - 1, 4, 1<<27 - 1},
		{api.OpSraiw, top32, 4, 1<<64 - 1<<27}, {api.OpSraiw, top32 - 1, 4, 1<<27 - 1},
		{api.OpMulw, 1 << 16, 1 << 15, neg32}, {api.OpMulw, 1 << 16, 1 << 16, 0}, {api.OpMulw, ones, ones, 1}, {api.OpMulw, ones, 3, ones - 2},
		{api.OpDivw, ones, 1, ones}, {api.OpDivw, ones, ones, 1}, {api.OpDivuw, ones32, 1, ones}, {api.OpDivuw, ones32, 2, top32 - 1},
		{api.OpRemw, ones, 2, ones}, {api.OpRemw, 5, ones - 1, 1}, {api.OpRemuw, top32, ones32, neg32}, {api.OpRemuw, ones32, 2, 1},
	})
}

// P7.1: the high halves of products.
func TestP71High(t *testing.T) {
	for _, r := range []struct{ a, b, both, one, neither uint64 }{
		{0, 0, 0, 0, 0}, {0, ones, 0, 0, 0}, {ones, 0, 0, 0, 0}, {0, top, 0, 0, 0}, {top, 0, 0, 0, 0},
		{1, 1, 0, 0, 0}, {1, ones, ones, 0, 0}, {ones, 1, ones, ones, 0}, {1, top, ones, 0, 0}, {top, 1, ones, ones, 0},
		{top, top, 1 << 62, 3 << 62, 1 << 62}, {top, ones, 0, top, top - 1}, {ones, top, 0, ones, top - 1},
		{ones, ones, 0, ones, ones - 1}, {2, ones, ones, 1, 1}, {ones, 2, ones, ones, 1}, {top - 1, top - 1, 1<<62 - 1, 1<<62 - 1, 1<<62 - 1},
	} {
		checkDo(t, []row{{api.OpMulh, r.a, r.b, r.both}, {api.OpMulhsu, r.a, r.b, r.one}, {api.OpMulhu, r.a, r.b, r.neither}})
	}
}

// P7.1: what is divided by 0, and the least number by -1, of 64 bits.
func TestP71Divide(t *testing.T) {
	for _, r := range []struct{ a, b, div, divu, rem, remu uint64 }{
		{0, 0, ones, ones, 0, 0}, {7, 0, ones, ones, 7, 7}, {ones, 0, ones, ones, ones, ones}, {top, 0, ones, ones, top, top},
		{top, ones, top, 0, 0, top}, {top + 1, ones, top - 1, 0, 0, top + 1}, {top, 1, top, top, 0, 0}, {top, ones - 1, 1 << 62, 0, 0, top},
		{7, ones - 1, 1<<64 - 3, 0, 1, 7}, {ones - 6, 2, 1<<64 - 3, top - 4, ones, 1}, {ones - 6, ones - 1, 3, 0, ones, ones - 6},
		{0, ones, 0, 0, 0, 0}, {1, 2, 0, 0, 1, 1}, {ones32 << 32, 1 << 32, ones, ones32, 0, 0},
	} {
		checkDo(t, []row{{api.OpDiv, r.a, r.b, r.div}, {api.OpDivu, r.a, r.b, r.divu}, {api.OpRem, r.a, r.b, r.rem}, {api.OpRemu, r.a, r.b, r.remu}})
	}
}

// P7.1, P7.3: likewise of 32 bits; 0 is what is 0 by its lower half.
func TestP71Divide32(t *testing.T) {
	for _, r := range []struct{ a, b, div, divu, rem, remu uint64 }{
		{0, 0, ones, ones, 0, 0}, {7, 0, ones, ones, 7, 7}, {ones32, 0, ones, ones, ones, ones}, {top32, 0, ones, ones, neg32, neg32},
		{top32, ones32, neg32, 0, 0, neg32}, {top32 + 1, ones32, top32 - 1, 0, 0, neg32 + 1}, {top32, 1, neg32, neg32, 0, 0},
		{7, ones32 - 1, 1<<64 - 3, 0, 1, 7}, {ones32 - 6, 2, 1<<64 - 3, top32 - 4, ones, 1}, {ones32 - 6, ones32 - 1, 3, 0, ones, ones - 6},
	} {
		for _, above := range []uint64{0, 1 << 32, top, ones32 << 32} {
			a, b := r.a+above, r.b+above
			checkDo(t, []row{{api.OpDivw, a, b, r.div}, {api.OpDivuw, a, b, r.divu}, {api.OpRemw, a, b, r.rem}, {api.OpRemuw, a, b, r.remu}})
		}
	}
}

// P7.2: each branch of less, equal and greater numbers.
func TestP72Branches(t *testing.T) {
	for _, r := range []struct {
		a, b                            uint64
		equal, lessSigned, lessUnsigned bool
	}{
		{1, 2, false, true, true}, {2, 2, true, false, false}, {2, 1, false, false, false},
		{0, 0, true, false, false}, {ones, ones, true, false, false}, {top, top, true, false, false},
		{ones, 0, false, true, false}, {0, ones, false, false, true}, {top, top - 1, false, true, false}, {top - 1, top, false, false, true},
		{top, ones, false, true, true}, {ones, top, false, false, false}, {0, top, false, false, true}, {top, 0, false, true, false},
		{1, 1<<32 + 1, false, true, true}, {1<<32 + 1, 1, false, false, false}, {top32, top32 - 1, false, false, false}, {top + 1, 1, false, true, false},
	} {
		for op, want := range map[int]bool{
			api.OpBeq: r.equal, api.OpBne: !r.equal, api.OpBlt: r.lessSigned, api.OpBge: !r.lessSigned,
			api.OpBltu: r.lessUnsigned, api.OpBgeu: !r.lessUnsigned,
		} {
			if got := Taken(op, r.a, r.b); got != want {
				t.Errorf("Taken(%d, %#x, %#x) = %v", op, r.a, r.b, got)
			}
		}
	}
}

// P7.2: what is no branch is not taken.
func TestP72Others(t *testing.T) {
	others := append([]int{}, wild...)
	for op := 0; op <= api.OpMaxuad; op++ {
		if op < api.OpBeq || op > api.OpBgeu {
			others = append(others, op)
		}
	}
	for _, op := range others {
		for _, n := range [][2]uint64{{1, 2}, {2, 2}, {2, 1}, {ones, 1}, {1, ones}, {0, 0}} {
			if Taken(op, n[0], n[1]) {
				t.Errorf("%d is taken of %v", op, n)
			}
		}
	}
}

// P7.2: the second number is the instruction's own of the kinds 5 and 7 alone, whatever else it has.
func TestP72Second(t *testing.T) {
	ops := append([]int{}, wild...)
	for op := 0; op <= api.OpMaxuad; op++ {
		ops = append(ops, op)
	}
	for _, op := range ops {
		own := op >= api.OpAddi && op <= api.OpSrai || op >= api.OpAddiw && op <= api.OpSraiw
		for _, n := range []struct {
			imm  int64
			want uint64
		}{{0, 0}, {5, 5}, {-1, ones}, {-2048, 1<<64 - 2048}, {math.MinInt64, top}, {math.MaxInt64, top - 1}} {
			for _, b := range []uint64{0, 7, top, ones - 1} {
				want := b
				if own {
					want = n.want
				}
				for _, x := range []api.Insn{{Op: op, Imm: n.imm}, {Op: op, Rd: 3, Rs1: 4, Rs2: 5, Imm: n.imm, Len: 4}, {Op: op, Rd: -1, Rs1: 99, Rs2: math.MinInt, Imm: n.imm, Len: 2}} {
					if got := Second(x, b); got != want {
						t.Errorf("Second(%+v, %#x) = %#x, not %#x", x, b, got, want)
					}
				}
			}
		}
	}
}

// P7.3: the higher halves of both numbers change nothing of what is done of 32 bits, and what comes of it is a signed number of 32 bits.
func TestP73LowerHalves(t *testing.T) {
	for _, w := range workers {
		if w.width != 32 {
			continue
		}
		for _, a := range samples() {
			for _, b := range samples() {
				want := Do(w.op, a, b)
				if int64(want) != int64(int32(want)) {
					t.Errorf("op %d of %#x and %#x: %#x", w.op, a, b, want)
				}
				for _, above := range []uint64{1 << 32, top, ones32 << 32, 0x5A5A5A5A << 32} {
					checkDo(t, []row{{w.op, a ^ above, b, want}, {w.op, a, b ^ above, want}, {w.op, a ^ above, b ^ above, want}, {w.op, a & ones32, b & ones32, want}})
				}
			}
		}
	}
}
