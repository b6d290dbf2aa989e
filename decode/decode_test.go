package decode

import (
	"math"
	"testing"

	"suzerain/api"
)

// row is an op as the chapter has it: the bits that must stand as in match are those of mask; the letters say what else it has:
// d Rd, 1 Rs1, 2 Rs2; I S B U J a number of that format; 6, 5 and c a number of bits 20 on, of 6, 5 and 12 bits.
type row struct {
	op          int
	match, mask uint32
	has         string
}

var rows = []row{
	{api.OpLui, 0x37, 0x7F, "dU"}, {api.OpAuipc, 0x17, 0x7F, "dU"},
	{api.OpJal, 0x6F, 0x7F, "dJ"}, {api.OpJalr, 0x67, 0x707F, "d1I"},
	{api.OpBeq, 0x0063, 0x707F, "12B"}, {api.OpBne, 0x1063, 0x707F, "12B"}, {api.OpBlt, 0x4063, 0x707F, "12B"},
	{api.OpBge, 0x5063, 0x707F, "12B"}, {api.OpBltu, 0x6063, 0x707F, "12B"}, {api.OpBgeu, 0x7063, 0x707F, "12B"},
	{api.OpLb, 0x0003, 0x707F, "d1I"}, {api.OpLh, 0x1003, 0x707F, "d1I"}, {api.OpLw, 0x2003, 0x707F, "d1I"}, {api.OpLd, 0x3003, 0x707F, "d1I"},
	{api.OpLbu, 0x4003, 0x707F, "d1I"}, {api.OpLhu, 0x5003, 0x707F, "d1I"}, {api.OpLwu, 0x6003, 0x707F, "d1I"},
	{api.OpSb, 0x0023, 0x707F, "12S"}, {api.OpSh, 0x1023, 0x707F, "12S"}, {api.OpSw, 0x2023, 0x707F, "12S"}, {api.OpSd, 0x3023, 0x707F, "12S"},
	{api.OpAddi, 0x0013, 0x707F, "d1I"}, {api.OpSlti, 0x2013, 0x707F, "d1I"}, {api.OpSltiu, 0x3013, 0x707F, "d1I"},
	{api.OpXori, 0x4013, 0x707F, "d1I"}, {api.OpOri, 0x6013, 0x707F, "d1I"}, {api.OpAndi, 0x7013, 0x707F, "d1I"},
	{api.OpSlli, 0x1013, 0xFC00707F, "d16"}, {api.OpSrli, 0x5013, 0xFC00707F, "d16"}, {api.OpSrai, 0x40005013, 0xFC00707F, "d16"},
	{api.OpAdd, 0x0033, 0xFE00707F, "d12"}, {api.OpSub, 0x40000033, 0xFE00707F, "d12"}, {api.OpSll, 0x1033, 0xFE00707F, "d12"},
	{api.OpSlt, 0x2033, 0xFE00707F, "d12"}, {api.OpSltu, 0x3033, 0xFE00707F, "d12"}, {api.OpXor, 0x4033, 0xFE00707F, "d12"},
	{api.OpSrl, 0x5033, 0xFE00707F, "d12"}, {api.OpSra, 0x40005033, 0xFE00707F, "d12"},
	{api.OpOr, 0x6033, 0xFE00707F, "d12"}, {api.OpAnd, 0x7033, 0xFE00707F, "d12"},
	{api.OpAddiw, 0x001B, 0x707F, "d1I"}, {api.OpSlliw, 0x101B, 0xFE00707F, "d15"},
	{api.OpSrliw, 0x501B, 0xFE00707F, "d15"}, {api.OpSraiw, 0x4000501B, 0xFE00707F, "d15"},
	{api.OpAddw, 0x003B, 0xFE00707F, "d12"}, {api.OpSubw, 0x4000003B, 0xFE00707F, "d12"}, {api.OpSllw, 0x103B, 0xFE00707F, "d12"},
	{api.OpSrlw, 0x503B, 0xFE00707F, "d12"}, {api.OpSraw, 0x4000503B, 0xFE00707F, "d12"},
	{api.OpMul, 0x02000033, 0xFE00707F, "d12"}, {api.OpMulh, 0x02001033, 0xFE00707F, "d12"},
	{api.OpMulhsu, 0x02002033, 0xFE00707F, "d12"}, {api.OpMulhu, 0x02003033, 0xFE00707F, "d12"},
	{api.OpDiv, 0x02004033, 0xFE00707F, "d12"}, {api.OpDivu, 0x02005033, 0xFE00707F, "d12"},
	{api.OpRem, 0x02006033, 0xFE00707F, "d12"}, {api.OpRemu, 0x02007033, 0xFE00707F, "d12"},
	{api.OpMulw, 0x0200003B, 0xFE00707F, "d12"}, {api.OpDivw, 0x0200403B, 0xFE00707F, "d12"}, {api.OpDivuw, 0x0200503B, 0xFE00707F, "d12"},
	{api.OpRemw, 0x0200603B, 0xFE00707F, "d12"}, {api.OpRemuw, 0x0200703B, 0xFE00707F, "d12"},
	{api.OpFence, 0x000F, 0x707F, ""}, {api.OpFencei, 0x100F, 0x707F, ""},
	{api.OpEcall, 0x00000073, 0xFFFFFFFF, ""}, {api.OpEbreak, 0x00100073, 0xFFFFFFFF, ""},
	{api.OpSret, 0x10200073, 0xFFFFFFFF, ""}, {api.OpWfi, 0x10500073, 0xFFFFFFFF, ""},
	{api.OpSfence, 0x12000073, 0xFE007FFF, "12"},
	{api.OpCsrrw, 0x1073, 0x707F, "d1c"}, {api.OpCsrrs, 0x2073, 0x707F, "d1c"}, {api.OpCsrrc, 0x3073, 0x707F, "d1c"},
	{api.OpCsrrwi, 0x5073, 0x707F, "d1c"}, {api.OpCsrrsi, 0x6073, 0x707F, "d1c"}, {api.OpCsrrci, 0x7073, 0x707F, "d1c"},
	{api.OpLrw, 0x1000202F, 0xF9F0707F, "d1"}, {api.OpScw, 0x1800202F, 0xF800707F, "d12"}, {api.OpSwapw, 0x0800202F, 0xF800707F, "d12"},
	{api.OpAddaw, 0x0000202F, 0xF800707F, "d12"}, {api.OpXoraw, 0x2000202F, 0xF800707F, "d12"}, {api.OpAndaw, 0x6000202F, 0xF800707F, "d12"},
	{api.OpOraw, 0x4000202F, 0xF800707F, "d12"}, {api.OpMinaw, 0x8000202F, 0xF800707F, "d12"}, {api.OpMaxaw, 0xA000202F, 0xF800707F, "d12"},
	{api.OpMinuaw, 0xC000202F, 0xF800707F, "d12"}, {api.OpMaxuaw, 0xE000202F, 0xF800707F, "d12"},
	{api.OpLrd, 0x1000302F, 0xF9F0707F, "d1"}, {api.OpScd, 0x1800302F, 0xF800707F, "d12"}, {api.OpSwapd, 0x0800302F, 0xF800707F, "d12"},
	{api.OpAddad, 0x0000302F, 0xF800707F, "d12"}, {api.OpXorad, 0x2000302F, 0xF800707F, "d12"}, {api.OpAndad, 0x6000302F, 0xF800707F, "d12"},
	{api.OpOrad, 0x4000302F, 0xF800707F, "d12"}, {api.OpMinad, 0x8000302F, 0xF800707F, "d12"}, {api.OpMaxad, 0xA000302F, 0xF800707F, "d12"},
	{api.OpMinuad, 0xC000302F, 0xF800707F, "d12"}, {api.OpMaxuad, 0xE000302F, 0xF800707F, "d12"},
}

var majors = []uint32{0x37, 0x17, 0x6F, 0x67, 0x63, 0x03, 0x23, 0x13, 0x1B, 0x33, 0x3B, 0x0F, 0x73, 0x2F}

var illegal = api.Insn{Len: 4}

// kinds are the lists of ops of each kind, written out by the chapter's first and last.
var kinds = []struct{ kind, first, last int }{
	{1, api.OpLui, api.OpJalr}, {2, api.OpBeq, api.OpBgeu}, {3, api.OpLb, api.OpLwu}, {4, api.OpSb, api.OpSd},
	{5, api.OpAddi, api.OpSrai}, {6, api.OpAdd, api.OpAnd}, {7, api.OpAddiw, api.OpSraiw}, {8, api.OpAddw, api.OpSraw},
	{9, api.OpMul, api.OpRemu}, {10, api.OpMulw, api.OpRemuw}, {11, api.OpFence, api.OpSfence}, {12, api.OpCsrrw, api.OpCsrrci},
	{13, api.OpLrw, api.OpMaxuaw}, {14, api.OpLrd, api.OpMaxuad},
}

// part reads bits of a word by division.
func part(w uint32, low, many int) int64 {
	return int64(w) / int64(math.Pow(2, float64(low))) % int64(math.Pow(2, float64(many)))
}

// signed is a number of some bits whose topmost stands for one below 0.
func signed(n int64, many int) int64 {
	if n >= int64(1)<<(many-1) {
		return n - int64(1)<<many
	}
	return n
}

// fill reads from a word what a row has.
func fill(r row, w uint32) api.Insn {
	x := api.Insn{Op: r.op, Len: 4}
	for _, c := range r.has {
		switch c {
		case 'd':
			x.Rd = int(part(w, 7, 5))
		case '1':
			x.Rs1 = int(part(w, 15, 5))
		case '2':
			x.Rs2 = int(part(w, 20, 5))
		case 'I':
			x.Imm = signed(part(w, 20, 12), 12)
		case 'S':
			x.Imm = signed(part(w, 25, 7)*32+part(w, 7, 5), 12)
		case 'B':
			x.Imm = signed(part(w, 31, 1)*4096+part(w, 7, 1)*2048+part(w, 25, 6)*32+part(w, 8, 4)*2, 13)
		case 'U':
			x.Imm = signed(part(w, 12, 20)*4096, 32)
		case 'J':
			x.Imm = signed(part(w, 31, 1)*1048576+part(w, 12, 8)*4096+part(w, 20, 1)*2048+part(w, 21, 10)*2, 21)
		case '6':
			x.Imm = part(w, 20, 6)
		case '5':
			x.Imm = part(w, 20, 5)
		case 'c':
			x.Imm = part(w, 20, 12)
		}
	}
	return x
}

// model is the instruction of a word by the rows, and how many rows it fits.
func model(w uint32) (api.Insn, int) {
	x, many := illegal, 0
	for _, r := range rows {
		if w&r.mask == r.match {
			x = fill(r, w)
			many++
		}
	}
	return x, many
}

func check(t *testing.T, w uint32) {
	t.Helper()
	want, many := model(w)
	if many > 1 {
		t.Fatalf("%08x fits %d rows", w, many)
	}
	if got := Word(w); got != want {
		t.Fatalf("%08x: %+v, not %+v", w, got, want)
	}
}

func checkIs(t *testing.T, w uint32, want api.Insn) {
	t.Helper()
	if got := Word(w); got != want {
		t.Errorf("%08x: %+v, not %+v", w, got, want)
	}
}

// mixed are words of all kinds, always the same ones.
func mixed(many int) []uint32 {
	words := []uint32{0, 1, 3, math.MaxUint32, 0x80000000, 0x7FFFFFFF, 0xAAAAAAAA, 0x55555555}
	x := uint32(2463534242)
	for len(words) < many {
		x ^= x << 13
		x ^= x >> 17
		x ^= x << 5
		words = append(words, x)
	}
	return words
}

func TestP41EachOpHasARow(t *testing.T) {
	for i, r := range rows {
		if r.op != i+1 || r.match&^r.mask != 0 {
			t.Errorf("row %d: %+v", i, r)
		}
	}
	if len(rows) != api.OpMaxuad {
		t.Errorf("%d rows", len(rows))
	}
}

func TestP41Known(t *testing.T) {
	for w, want := range map[uint32]api.Insn{
		0x00A50513: {Op: api.OpAddi, Rd: 10, Rs1: 10, Imm: 10},
		0xFE010113: {Op: api.OpAddi, Rd: 2, Rs1: 2, Imm: -32},
		0x800002B7: {Op: api.OpLui, Rd: 5, Imm: -1 << 31},
		0x7FFFF2B7: {Op: api.OpLui, Rd: 5, Imm: 0x7FFFF000},
		0xFFFFF317: {Op: api.OpAuipc, Rd: 6, Imm: -4096},
		0xFFDFF0EF: {Op: api.OpJal, Rd: 1, Imm: -4},
		0x0080006F: {Op: api.OpJal, Imm: 8},
		0x00008067: {Op: api.OpJalr, Rs1: 1},
		0xFFC500E7: {Op: api.OpJalr, Rd: 1, Rs1: 10, Imm: -4},
		0xFEB51CE3: {Op: api.OpBne, Rs1: 10, Rs2: 11, Imm: -8},
		0x00B50463: {Op: api.OpBeq, Rs1: 10, Rs2: 11, Imm: 8},
		0x00B57463: {Op: api.OpBgeu, Rs1: 10, Rs2: 11, Imm: 8},
		0xFEC42783: {Op: api.OpLw, Rd: 15, Rs1: 8, Imm: -20},
		0x01813083: {Op: api.OpLd, Rd: 1, Rs1: 2, Imm: 24},
		0x00054503: {Op: api.OpLbu, Rd: 10, Rs1: 10},
		0x00113C23: {Op: api.OpSd, Rs1: 2, Rs2: 1, Imm: 24},
		0xFEF42623: {Op: api.OpSw, Rs1: 8, Rs2: 15, Imm: -20},
		0x00153513: {Op: api.OpSltiu, Rd: 10, Rs1: 10, Imm: 1},
		0xFFF54513: {Op: api.OpXori, Rd: 10, Rs1: 10, Imm: -1},
		0x02051513: {Op: api.OpSlli, Rd: 10, Rs1: 10, Imm: 32},
		0x02055513: {Op: api.OpSrli, Rd: 10, Rs1: 10, Imm: 32},
		0x43F55513: {Op: api.OpSrai, Rd: 10, Rs1: 10, Imm: 63},
		0x0007851B: {Op: api.OpAddiw, Rd: 10, Rs1: 15},
		0xFFF7851B: {Op: api.OpAddiw, Rd: 10, Rs1: 15, Imm: -1},
		0x01F7951B: {Op: api.OpSlliw, Rd: 10, Rs1: 15, Imm: 31},
		0x41F7D51B: {Op: api.OpSraiw, Rd: 10, Rs1: 15, Imm: 31},
		0x40B50533: {Op: api.OpSub, Rd: 10, Rs1: 10, Rs2: 11},
		0x02F707B3: {Op: api.OpMul, Rd: 15, Rs1: 14, Rs2: 15},
		0x02B57533: {Op: api.OpRemu, Rd: 10, Rs1: 10, Rs2: 11},
		0x40F707BB: {Op: api.OpSubw, Rd: 15, Rs1: 14, Rs2: 15},
		0x02F747BB: {Op: api.OpDivw, Rd: 15, Rs1: 14, Rs2: 15},
		0x0FF0000F: {Op: api.OpFence},
		0x8330000F: {Op: api.OpFence},
		0x0000100F: {Op: api.OpFencei},
		0x00000073: {Op: api.OpEcall},
		0x00100073: {Op: api.OpEbreak},
		0x10200073: {Op: api.OpSret},
		0x10500073: {Op: api.OpWfi},
		0x12000073: {Op: api.OpSfence},
		0x12B50073: {Op: api.OpSfence, Rs1: 10, Rs2: 11},
		0x10579073: {Op: api.OpCsrrw, Rs1: 15, Imm: 0x105},
		0xC0102573: {Op: api.OpCsrrs, Rd: 10, Imm: 0xC01},
		0x100177F3: {Op: api.OpCsrrci, Rd: 15, Rs1: 2, Imm: 0x100},
		0x100527AF: {Op: api.OpLrw, Rd: 15, Rs1: 10},
		0x18E527AF: {Op: api.OpScw, Rd: 15, Rs1: 10, Rs2: 14},
		0x00E537AF: {Op: api.OpAddad, Rd: 15, Rs1: 10, Rs2: 14},
		0xE0E537AF: {Op: api.OpMaxuad, Rd: 15, Rs1: 10, Rs2: 14},
	} {
		want.Len = 4
		checkIs(t, w, want)
	}
}

// One word of each op, with registers 21, 10 and 19 and with other bits where its form has a number.
func TestP41EachOp(t *testing.T) {
	for _, r := range rows {
		for _, other := range []uint32{0xC8ACBA80 | 19<<20 | 10<<15 | 21<<7, 19<<20 | 10<<15 | 21<<7, math.MaxUint32, 0} {
			w := r.match | other&^r.mask
			if Word(w).Op != r.op {
				t.Errorf("%08x: op %d, not %d", w, Word(w).Op, r.op)
			}
			check(t, w)
		}
	}
}

// A field hangs on its own bits alone: each bit that an op leaves free is turned.
func TestP41EachFreeBit(t *testing.T) {
	for _, r := range rows {
		for k := range 32 {
			check(t, r.match|uint32(1)<<k)
			check(t, r.match^uint32(1)<<k)
			check(t, (r.match|^r.mask)^uint32(1)<<k)
		}
	}
}

func TestP41EachMajorF3F7(t *testing.T) {
	others := []uint32{0, 21 << 7, 10 << 15, 19 << 20, 19<<20 | 10<<15 | 21<<7, 31<<20 | 31<<15 | 31<<7}
	for _, major := range majors {
		for f3 := range uint32(8) {
			for f7 := range uint32(128) {
				for _, other := range others {
					check(t, f7<<25|f3<<12|major|other)
				}
			}
		}
	}
}

func TestP41NoSuchMajor(t *testing.T) {
	known := map[uint32]bool{}
	for _, major := range majors {
		known[major] = true
	}
	for major := range uint32(128) {
		if known[major] {
			continue
		}
		for f3 := range uint32(8) {
			for _, other := range []uint32{0, 0x00A50500, 0xFFFF8F80, 0x10200000, 0x40000000, 0x12000000, 0x02000000} {
				checkIs(t, other|f3<<12|major, illegal)
			}
		}
	}
}

func TestP41NoneIsBare(t *testing.T) {
	for _, w := range []uint32{
		0, math.MaxUint32,
		0x00A50512, 0x00A50511, 0x00A50510, 0x00000070, 0x00000071, 0x00000072, // not both of the lowest bits
		0x00009067, 0xFFF0F0E7, // 67 with another f3
		0x00B52463, 0x00B53463, // 63
		0x00057503,                         // 03
		0x00B54023, 0x00B57023, 0xFEB55FA3, // 23
		0x00B5250F, 0x00B5750F, // 0F
		0x0005251B, 0x0005351B, 0x0005451B, 0x0005651B, 0x0005751B, // 1B
		0x40B51533, 0x40B57533, 0x04B50533, 0x42B50533, 0x22B50533, 0xFEB50533, // 33
		0x00B5253B, 0x40B5153B, 0x02B5153B, 0x02B5253B, 0x02B5353B, 0x04B5053B, // 3B
		0x00B5452F, 0x00B5052F, 0x00B5152F, 0x00B5552F, 0x28B5252F, 0xF8B5352F, // 2F
		0x100540F3, 0xFFFFCFF3, // 73 with f3 4
		0x30200073, 0x00200073, 0x7B200073, 0x22000073, 0x16000073, 0x10400073, // what is another's than the supervisor's
	} {
		checkIs(t, w, illegal)
	}
}

func TestP41ShiftEdges(t *testing.T) {
	for _, far := range []uint32{0, 1, 31, 32, 33, 62, 63} {
		for op, w := range map[int]uint32{api.OpSlli: 0x00051593, api.OpSrli: 0x00055593, api.OpSrai: 0x40055593} {
			w |= far << 20
			checkIs(t, w, api.Insn{Op: op, Rd: 11, Rs1: 10, Imm: int64(far), Len: 4})
			for k := 26; k < 32; k++ {
				if k != 30 || op == api.OpSlli {
					checkIs(t, w^uint32(1)<<k, illegal)
				}
			}
		}
	}
	for _, far := range []uint32{0, 1, 15, 30, 31} {
		for op, w := range map[int]uint32{api.OpSlliw: 0x0005159B, api.OpSrliw: 0x0005559B, api.OpSraiw: 0x4005559B} {
			w |= far << 20
			checkIs(t, w, api.Insn{Op: op, Rd: 11, Rs1: 10, Imm: int64(far), Len: 4})
			for k := 25; k < 32; k++ {
				if k != 30 || op == api.OpSlliw {
					checkIs(t, w^uint32(1)<<k, illegal)
				}
			}
		}
	}
}

func TestP41WholeWords(t *testing.T) {
	whole := map[uint32]int{0x00000073: api.OpEcall, 0x00100073: api.OpEbreak, 0x10200073: api.OpSret, 0x10500073: api.OpWfi}
	for w, op := range whole {
		checkIs(t, w, api.Insn{Op: op, Len: 4})
		for k := range 32 {
			near := w ^ uint32(1)<<k
			if k >= 7 && (k < 12 || k >= 15) && whole[near] == 0 && near>>25 != 9 { // with f7 9 it is a Sfence
				checkIs(t, near, illegal)
			}
			check(t, near)
		}
	}
}

func TestP41Sfence(t *testing.T) {
	for rd := range uint32(32) {
		for _, w := range []uint32{0x12000073, 0x12B50073, 0x13FF8073, 0x12008073, 0x12100073} {
			want := illegal
			if rd == 0 {
				want = api.Insn{Op: api.OpSfence, Rs1: int(w >> 15 & 31), Rs2: int(w >> 20 & 31), Len: 4}
			}
			checkIs(t, w|rd<<7, want)
		}
	}
}

func TestP41Csrs(t *testing.T) {
	for f3, op := range map[uint32]int{1: api.OpCsrrw, 2: api.OpCsrrs, 3: api.OpCsrrc, 5: api.OpCsrrwi, 6: api.OpCsrrsi, 7: api.OpCsrrci} {
		for _, n := range []uint32{0, 1, 0x100, 0x120, 0x7FF, 0x800, 0xC00, 0xFFF} {
			for _, rs1 := range []uint32{0, 1, 16, 31} {
				w := n<<20 | rs1<<15 | f3<<12 | 30<<7 | 0x73
				checkIs(t, w, api.Insn{Op: op, Rd: 30, Rs1: int(rs1), Imm: int64(n), Len: 4})
			}
		}
	}
}

// Whatever the two bits say that are an order's, an atomic op is the same.
func TestP41Atomics(t *testing.T) {
	for by, op := range map[uint32]int{0: api.OpAddaw, 1: api.OpSwapw, 2: api.OpLrw, 3: api.OpScw, 4: api.OpXoraw, 8: api.OpOraw, 12: api.OpAndaw, 16: api.OpMinaw, 20: api.OpMaxaw, 24: api.OpMinuaw, 28: api.OpMaxuaw} {
		for order := range uint32(4) {
			for rs2 := range uint32(32) {
				w := by<<27 | order<<25 | rs2<<20 | 10<<15 | 2<<12 | 11<<7 | 0x2F
				small := api.Insn{Op: op, Rd: 11, Rs1: 10, Rs2: int(rs2), Len: 4}
				great := small
				great.Op += 11
				if op == api.OpLrw && rs2 != 0 {
					small, great = illegal, illegal
				}
				checkIs(t, w, small)
				checkIs(t, w|1<<12, great)
			}
		}
	}
}

func TestP42Kind(t *testing.T) {
	want := map[int]int{}
	for _, k := range kinds {
		for op := k.first; op <= k.last; op++ {
			want[op] = k.kind
		}
	}
	if len(want) != 97 {
		t.Fatalf("%d ops", len(want))
	}
	for op := -300; op < 300; op++ {
		if got := Kind(op); got != want[op] {
			t.Errorf("Kind(%d) is %d, not %d", op, got, want[op])
		}
	}
}

func TestP42NoOp(t *testing.T) {
	for _, op := range []int{
		api.OpIllegal, -1, 98, 99, 128, 255, 256, 256 + api.OpAddi, 1<<16 + 1, 1<<31 + 1, 1<<32 + 1, 1<<32 + 97,
		-97, math.MinInt32, math.MaxInt32, math.MinInt, math.MinInt + 1, math.MaxInt, math.MaxInt - 1,
	} {
		if got := Kind(op); got != 0 {
			t.Errorf("Kind(%d) is %d", op, got)
		}
	}
}

// Each word is one instruction or none, and no field is beyond its bits.
func TestP43Mixed(t *testing.T) {
	for i, w := range mixed(400000) {
		if i%2 == 1 {
			w = w&^127 | majors[i/2%len(majors)] // most words have no major that is known
		}
		check(t, w)
		x := Word(w)
		if x.Op < 0 || x.Op > 97 || x.Rd&^31 != 0 || x.Rs1&^31 != 0 || x.Rs2&^31 != 0 || x.Imm < math.MinInt32 || x.Imm > math.MaxInt32 || x.Len != 4 {
			t.Fatalf("%08x: %+v", w, x)
		}
		if x.Op == api.OpIllegal && x != illegal {
			t.Fatalf("%08x: %+v", w, x)
		}
		if Word(w) != x {
			t.Fatalf("%08x is told otherwise when asked again", w)
		}
	}
}
