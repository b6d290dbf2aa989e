package hart

import (
	"math/big"
	"testing"

	"suzerain/api"
)

// ends are numbers at both ends of all, of 64 and of 32 bits, signed and not.
var ends = []uint64{
	0, 1, 2, 3, 31, 32, 33, 63, 64, 0x7FFFFFFF, 0x80000000, 0x80000001, 0xFFFFFFFF, 1 << 32, 1<<32 + 5, 0x8000000080000000, 0x7FFFFFFF7FFFFFFF,
	top - 1, top, top + 1, ones - 1, ones, 1<<64 - 1<<31, 1<<64 - 1<<31 - 1, 0x123456789ABCDEF0,
}

// jumped is what a jump of some bytes leaves that goes to an address and tells rd where it would have gone on.
func (sc scene) jumped(n uint64, rd int, to uint64) behind {
	b := sc.done(n)
	if rd != 0 {
		b.h.X[rd] = b.h.Pc
	}
	b.h.Pc = to
	return b
}

// P15.3: Lui and Auipc.
func TestP153Upper(t *testing.T) {
	for _, row := range []struct {
		w          uint32
		rd         int
		lui, auipc uint64
	}{
		{0x12345 << 12, 5, 0x12345000, 0x92345100}, {0x7FFFF << 12, 5, 0x7FFFF000, 0xFFFFF100}, {0x80000 << 12, 5, 0xFFFFFFFF80000000, 0x100},
		{0xFFFFF << 12, 31, ones - 0xFFF, 0x7FFFF100}, {0, 1, 0, 0x80000100}, {1 << 12, 2, 0x1000, 0x80001100},
	} {
		sc := plain(t).word(row.w | uint32(row.rd)<<7 | 0x37)
		sc.check(t, sc.told(row.rd, row.lui))
		sc = sc.word(row.w | uint32(row.rd)<<7 | 0x17)
		sc.check(t, sc.told(row.rd, row.auipc))
	}
}

// P15.3: Jal and Jalr, with Rd that is Rs1, with a sum that is odd, round the end of all numbers, and of two bytes.
func TestP153Jumps(t *testing.T) {
	for _, imm := range []int64{0, 2, 4, -2, -4, 2046, -2048, 1<<20 - 2, -1 << 20} {
		for _, rd := range []int{0, 1, 5, 31} {
			sc := plain(t).op(t, api.Insn{Op: api.OpJal, Rd: rd, Imm: imm})
			sc.check(t, sc.jumped(4, rd, uint64(code+imm)))
		}
	}
	for _, row := range []struct {
		a   uint64
		imm int64
		to  uint64
	}{
		{0x1000, 0, 0x1000}, {0x1001, 0, 0x1000}, {0x1000, 1, 0x1000}, {0x1001, 1, 0x1002}, {0x1000, -1, 0xFFE}, {0x1001, -1, 0x1000}, {0x1003, 0x7FF, 0x1802},
		{0, -1, ones - 1}, {0, -2048, ones - 2047}, {ones, 0, ones - 1}, {ones, 1, 0}, {ones, 2, 0}, {ones - 1, 2, 0}, {top, -2, top - 2}, {top - 1, 1, top}, {0, 0, 0},
	} {
		for _, rs1 := range []int{5, 6, 31} {
			for _, rd := range []int{0, 1, 5, 6, 31} {
				sc := plain(t).reg(rs1, row.a).op(t, api.Insn{Op: api.OpJalr, Rd: rd, Rs1: rs1, Imm: row.imm})
				sc.check(t, sc.jumped(4, rd, row.to))
			}
		}
	}
	sc := plain(t).op(t, api.Insn{Op: api.OpJalr, Rd: 1, Imm: 0x123})
	sc.check(t, sc.jumped(4, 1, 0x122))
	// Of a half: of X 10, with X 1 told and without, and by a number.
	sc = plain(t).reg(10, 0x777).half(0x9502)
	sc.check(t, sc.jumped(2, 1, 0x776))
	sc = sc.half(0x8502)
	sc.check(t, sc.jumped(2, 0, 0x776))
	sc = plain(t).reg(1, 0x777).half(0x9082)
	sc.check(t, sc.jumped(2, 1, 0x776))
	sc = plain(t).half(0xBFFD)
	sc.check(t, sc.jumped(2, 0, code-2))
	sc = plain(t).half(0xA001)
	sc.check(t, sc.jumped(2, 0, code))
}

// taken is whether a branch is.
func taken(op int, a, b uint64) bool {
	switch op {
	case api.OpBeq:
		return a == b
	case api.OpBne:
		return a != b
	case api.OpBlt:
		return int64(a) < int64(b)
	case api.OpBge:
		return int64(a) >= int64(b)
	case api.OpBltu:
		return a < b
	}
	return a >= b
}

// P15.3: each branch, taken and not.
func TestP153Branches(t *testing.T) {
	for op := api.OpBeq; op <= api.OpBgeu; op++ {
		for i, a := range ends {
			for j, b := range ends {
				imm := []int64{8, -8, 4094, -4096, 0, 2}[(i+j)%6]
				sc := plain(t).reg(5, a).reg(6, b).op(t, api.Insn{Op: op, Rs1: 5, Rs2: 6, Imm: imm})
				want := sc.done(4)
				if taken(op, a, b) {
					want.h.Pc = uint64(code + imm)
				}
				h, out := Step(sc.h, with(sc.m, -1), sc.r, sc.id, sc.time)
				if h != want.h || out != done {
					t.Errorf("op %d of %x, %x: %d, %s", op, a, b, out, differ(h, want.h))
				}
			}
		}
	}
	// Told by hand, and of a half: Beq and Bne of X 8, by 6.
	for _, row := range []struct {
		op   int
		a, b uint64
		is   bool
	}{
		{api.OpBeq, 1, 1, true}, {api.OpBeq, 1, 2, false}, {api.OpBne, 1, 2, true}, {api.OpBne, 1, 1, false}, {api.OpBlt, ones, 0, true}, {api.OpBlt, 0, ones, false}, {api.OpBlt, 0, 0, false},
		{api.OpBge, 0, ones, true}, {api.OpBge, 0, 0, true}, {api.OpBge, top, 0, false}, {api.OpBltu, 0, ones, true}, {api.OpBltu, ones, 0, false}, {api.OpBgeu, ones, 0, true}, {api.OpBgeu, 0, 0, true}, {api.OpBgeu, 0, top, false},
	} {
		sc := plain(t).reg(5, row.a).reg(6, row.b).op(t, api.Insn{Op: row.op, Rs1: 5, Rs2: 6, Imm: -100})
		want := sc.done(4)
		if row.is {
			want.h.Pc = code - 100
		}
		sc.check(t, want)
	}
	for _, row := range []struct {
		h  uint16
		x  uint64
		to uint64
	}{{0xC019, 0, code + 6}, {0xC019, 1, code + 2}, {0xE019, 0, code + 2}, {0xE019, top, code + 6}} {
		sc := plain(t).reg(8, row.x).half(row.h)
		sc.check(t, sc.jumped(2, 0, row.to))
	}
}

// computed is what an op of the kinds 5 to 10 makes of two numbers, by numbers without bounds.
func computed(op int, a, b uint64) uint64 {
	wide, is := map[int]int{
		api.OpAddiw: api.OpAdd, api.OpAddw: api.OpAdd, api.OpSubw: api.OpSub, api.OpMulw: api.OpMul, api.OpSlliw: api.OpSll, api.OpSllw: api.OpSll,
		api.OpSrliw: api.OpSrl, api.OpSrlw: api.OpSrl, api.OpSraiw: api.OpSra, api.OpSraw: api.OpSra,
		api.OpDivw: api.OpDiv, api.OpDivuw: api.OpDivu, api.OpRemw: api.OpRem, api.OpRemuw: api.OpRemu,
	}[op]
	if is {
		return uint64(int64(int32(low(counted(wide, a, b, 32)))))
	}
	if same := map[int]int{api.OpAddi: api.OpAdd, api.OpSlti: api.OpSlt, api.OpSltiu: api.OpSltu, api.OpXori: api.OpXor, api.OpOri: api.OpOr, api.OpAndi: api.OpAnd, api.OpSlli: api.OpSll, api.OpSrli: api.OpSrl, api.OpSrai: api.OpSra}[op]; same != 0 {
		op = same
	}
	return low(counted(op, a, b, 64))
}

// low is a number modulo 2^64.
func low(x *big.Int) uint64 {
	return new(big.Int).And(x, new(big.Int).SetUint64(ones)).Uint64()
}

// read is a number of its lowest bits, signed or not.
func read(x uint64, bits uint, signed bool) *big.Int {
	x = x << (64 - bits) >> (64 - bits)
	n := new(big.Int).SetUint64(x)
	if signed && x>>(bits-1) != 0 {
		n.Sub(n, new(big.Int).Lsh(big.NewInt(1), bits))
	}
	return n
}

// counted is computed of an op that takes registers, and as many bits.
func counted(op int, a, b uint64, bits uint) *big.Int {
	s, sb, u, ub := read(a, bits, true), read(b, bits, true), read(a, bits, false), read(b, bits, false)
	out, by := new(big.Int), uint(b)%bits
	switch op {
	case api.OpAdd:
		return out.Add(s, sb)
	case api.OpSub:
		return out.Sub(s, sb)
	case api.OpSll:
		return out.Lsh(s, by)
	case api.OpSrl:
		return out.Rsh(u, by)
	case api.OpSra:
		return out.Rsh(s, by)
	case api.OpSlt:
		return big.NewInt(int64(max(0, sb.Cmp(s))))
	case api.OpSltu:
		return big.NewInt(int64(max(0, ub.Cmp(u))))
	case api.OpXor:
		return out.Xor(s, sb)
	case api.OpOr:
		return out.Or(s, sb)
	case api.OpAnd:
		return out.And(s, sb)
	case api.OpMul:
		return out.Mul(s, sb)
	case api.OpMulh:
		return out.Rsh(out.Mul(s, sb), 64)
	case api.OpMulhsu:
		return out.Rsh(out.Mul(s, ub), 64)
	case api.OpMulhu:
		return out.Rsh(out.Mul(u, ub), 64)
	}
	return divided(op, s, sb, u, ub)
}

// divided is counted of the divisions and the rests.
func divided(op int, s, sb, u, ub *big.Int) *big.Int {
	zero := ub.Sign() == 0
	switch {
	case zero && (op == api.OpDiv || op == api.OpDivu):
		return big.NewInt(-1)
	case zero:
		return s
	case op == api.OpDiv:
		return new(big.Int).Quo(s, sb)
	case op == api.OpRem:
		return new(big.Int).Rem(s, sb)
	case op == api.OpDivu:
		return new(big.Int).Quo(u, ub)
	}
	return new(big.Int).Rem(u, ub)
}

// checkComputed has one done, with Rd apart and with Rd one of those that are read.
func checkComputed(t *testing.T, in api.Insn, a, b uint64) {
	t.Helper()
	sc := plain(t)
	sc.h.X[5] = a
	if in.Rs2 != 0 {
		sc.h.X[in.Rs2] = b
	}
	want := computed(in.Op, a, b)
	for _, rd := range []int{5, 6, 7} {
		in.Rd = rd
		sc.m.Put(code, 4, uint64(lay(t, in)))
		h, out := Step(sc.h, with(sc.m, -1), sc.r, sc.id, sc.time)
		if after := sc.told(rd, want); h != after.h || out != done {
			t.Errorf("%+v of %x, %x is %x, %d, not %x", in, a, b, h.X[rd], out, want)
		}
	}
}

// P15.3: each op of two registers, of all pairs of ends, and with one register twice.
func TestP153Registers(t *testing.T) {
	for op := api.OpAdd; op <= api.OpRemuw; op++ {
		if op >= api.OpAddiw && op <= api.OpSraiw {
			continue
		}
		for _, a := range ends {
			for _, b := range ends {
				checkComputed(t, api.Insn{Op: op, Rs1: 5, Rs2: 6}, a, b)
			}
			checkComputed(t, api.Insn{Op: op, Rs1: 5, Rs2: 5}, a, a)
			checkComputed(t, api.Insn{Op: op, Rs1: 5}, a, 0)
		}
	}
}

// P15.3: each op of a register and a number.
func TestP153Numbers(t *testing.T) {
	for _, a := range ends {
		for _, imm := range []int64{0, 1, -1, 5, 2047, -2048, 1024, -1024} {
			for _, op := range []int{api.OpAddi, api.OpSlti, api.OpSltiu, api.OpXori, api.OpOri, api.OpAndi, api.OpAddiw} {
				checkComputed(t, api.Insn{Op: op, Rs1: 5, Imm: imm}, a, uint64(imm))
			}
		}
		for by := range int64(64) {
			for _, op := range []int{api.OpSlli, api.OpSrli, api.OpSrai} {
				checkComputed(t, api.Insn{Op: op, Rs1: 5, Imm: by}, a, uint64(by))
			}
			if by < 32 {
				for _, op := range []int{api.OpSlliw, api.OpSrliw, api.OpSraiw} {
					checkComputed(t, api.Insn{Op: op, Rs1: 5, Imm: by}, a, uint64(by))
				}
			}
		}
	}
}

// P15.3: told in numbers, by words, and by halves.
func TestP153ComputedRows(t *testing.T) {
	for _, row := range []struct {
		w       uint32
		a, b    uint64
		is, len uint64
	}{
		{0x00B50533, 3, 4, 7, 4}, {0x40B50533, 3, 4, ones, 4}, {0x00B52533, ones, 0, 1, 4}, {0x00B53533, ones, 0, 0, 4}, {0x02B50533, ones, ones, 1, 4},
		{0x02B51533, ones, ones, 0, 4}, {0x02B53533, ones, ones, ones - 1, 4}, {0x02B52533, ones, ones, ones, 4}, {0x02B54533, 7, 0, ones, 4}, {0x02B54533, top, ones, top, 4},
		{0x02B56533, 7, 0, 7, 4}, {0x02B56533, top, ones, 0, 4}, {0x02B5453B, 0x80000000, ones, 0xFFFFFFFF80000000, 4}, {0x00B5053B, 0x7FFFFFFF, 1, 0xFFFFFFFF80000000, 4},
		{0xFFF50513, 0, 9, ones, 4}, {0x43F55513, top, 9, ones, 4}, {0x03F55513, top, 9, 1, 4}, {0x41F5551B, 0x80000000, 9, ones, 4}, {0x01F5551B, 0x80000000, 9, 1, 4},
		{0x952E, 3, 4, 7, 2}, {0x8D0D, 3, 4, ones, 2}, {0x4501, 3, 4, 0, 2}, {0x557D, 3, 4, ones, 2}, {0x157D, 3, 4, 2, 2}, {0x957D, top, 4, ones, 2}, {0x857D, top, 4, 1<<64 - 1<<32, 2}, {0x852E, 3, 4, 4, 2},
	} {
		sc := plain(t).reg(10, row.a).reg(11, row.b)
		if row.len == 2 {
			sc = sc.half(uint16(row.w))
		} else {
			sc = sc.word(row.w)
		}
		want := sc.done(row.len)
		want.h.X[10] = row.is
		sc.check(t, want)
	}
}
