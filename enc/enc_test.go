package enc

import (
	"math"
	"strconv"
	"strings"
	"testing"

	"suzerain/api"
	"suzerain/decode"
)

// row is an op as the chapters have it: its word with registers and a number of 0; the letters say what else it has:
// d Rd, 1 Rs1, 2 Rs2; I S B U J a number of that format; 6, 5 and c a number of bits 20 on, of 6, 5 and 12 bits.
type row struct {
	op    int
	match uint32
	has   string
}

var rows = []row{
	{api.OpLui, 0x37, "dU"}, {api.OpAuipc, 0x17, "dU"}, {api.OpJal, 0x6F, "dJ"}, {api.OpJalr, 0x67, "d1I"},
	{api.OpBeq, 0x63, "12B"}, {api.OpBne, 0x63 | 1<<12, "12B"}, {api.OpBlt, 0x63 | 4<<12, "12B"},
	{api.OpBge, 0x63 | 5<<12, "12B"}, {api.OpBltu, 0x63 | 6<<12, "12B"}, {api.OpBgeu, 0x63 | 7<<12, "12B"},
	{api.OpLb, 0x03, "d1I"}, {api.OpLh, 0x03 | 1<<12, "d1I"}, {api.OpLw, 0x03 | 2<<12, "d1I"}, {api.OpLd, 0x03 | 3<<12, "d1I"},
	{api.OpLbu, 0x03 | 4<<12, "d1I"}, {api.OpLhu, 0x03 | 5<<12, "d1I"}, {api.OpLwu, 0x03 | 6<<12, "d1I"},
	{api.OpSb, 0x23, "12S"}, {api.OpSh, 0x23 | 1<<12, "12S"}, {api.OpSw, 0x23 | 2<<12, "12S"}, {api.OpSd, 0x23 | 3<<12, "12S"},
	{api.OpAddi, 0x13, "d1I"}, {api.OpSlti, 0x13 | 2<<12, "d1I"}, {api.OpSltiu, 0x13 | 3<<12, "d1I"},
	{api.OpXori, 0x13 | 4<<12, "d1I"}, {api.OpOri, 0x13 | 6<<12, "d1I"}, {api.OpAndi, 0x13 | 7<<12, "d1I"},
	{api.OpSlli, 0x13 | 1<<12, "d16"}, {api.OpSrli, 0x13 | 5<<12, "d16"}, {api.OpSrai, 0x13 | 5<<12 | 16<<26, "d16"},
	{api.OpAdd, 0x33, "d12"}, {api.OpSub, 0x33 | 32<<25, "d12"}, {api.OpSll, 0x33 | 1<<12, "d12"},
	{api.OpSlt, 0x33 | 2<<12, "d12"}, {api.OpSltu, 0x33 | 3<<12, "d12"}, {api.OpXor, 0x33 | 4<<12, "d12"},
	{api.OpSrl, 0x33 | 5<<12, "d12"}, {api.OpSra, 0x33 | 5<<12 | 32<<25, "d12"},
	{api.OpOr, 0x33 | 6<<12, "d12"}, {api.OpAnd, 0x33 | 7<<12, "d12"},
	{api.OpAddiw, 0x1B, "d1I"}, {api.OpSlliw, 0x1B | 1<<12, "d15"},
	{api.OpSrliw, 0x1B | 5<<12, "d15"}, {api.OpSraiw, 0x1B | 5<<12 | 32<<25, "d15"},
	{api.OpAddw, 0x3B, "d12"}, {api.OpSubw, 0x3B | 32<<25, "d12"}, {api.OpSllw, 0x3B | 1<<12, "d12"},
	{api.OpSrlw, 0x3B | 5<<12, "d12"}, {api.OpSraw, 0x3B | 5<<12 | 32<<25, "d12"},
	{api.OpMul, 0x33 | 1<<25, "d12"}, {api.OpMulh, 0x33 | 1<<12 | 1<<25, "d12"},
	{api.OpMulhsu, 0x33 | 2<<12 | 1<<25, "d12"}, {api.OpMulhu, 0x33 | 3<<12 | 1<<25, "d12"},
	{api.OpDiv, 0x33 | 4<<12 | 1<<25, "d12"}, {api.OpDivu, 0x33 | 5<<12 | 1<<25, "d12"},
	{api.OpRem, 0x33 | 6<<12 | 1<<25, "d12"}, {api.OpRemu, 0x33 | 7<<12 | 1<<25, "d12"},
	{api.OpMulw, 0x3B | 1<<25, "d12"}, {api.OpDivw, 0x3B | 4<<12 | 1<<25, "d12"}, {api.OpDivuw, 0x3B | 5<<12 | 1<<25, "d12"},
	{api.OpRemw, 0x3B | 6<<12 | 1<<25, "d12"}, {api.OpRemuw, 0x3B | 7<<12 | 1<<25, "d12"},
	{api.OpFence, 0x0F, ""}, {api.OpFencei, 0x0F | 1<<12, ""},
	{api.OpEcall, 0x73, ""}, {api.OpEbreak, 0x100073, ""}, {api.OpSret, 0x10200073, ""}, {api.OpWfi, 0x10500073, ""},
	{api.OpSfence, 0x73 | 9<<25, "12"},
	{api.OpCsrrw, 0x73 | 1<<12, "d1c"}, {api.OpCsrrs, 0x73 | 2<<12, "d1c"}, {api.OpCsrrc, 0x73 | 3<<12, "d1c"},
	{api.OpCsrrwi, 0x73 | 5<<12, "d1c"}, {api.OpCsrrsi, 0x73 | 6<<12, "d1c"}, {api.OpCsrrci, 0x73 | 7<<12, "d1c"},
	{api.OpLrw, 0x2F | 2<<12 | 2<<27, "d1"}, {api.OpScw, 0x2F | 2<<12 | 3<<27, "d12"}, {api.OpSwapw, 0x2F | 2<<12 | 1<<27, "d12"},
	{api.OpAddaw, 0x2F | 2<<12, "d12"}, {api.OpXoraw, 0x2F | 2<<12 | 4<<27, "d12"}, {api.OpAndaw, 0x2F | 2<<12 | 12<<27, "d12"},
	{api.OpOraw, 0x2F | 2<<12 | 8<<27, "d12"}, {api.OpMinaw, 0x2F | 2<<12 | 16<<27, "d12"}, {api.OpMaxaw, 0x2F | 2<<12 | 20<<27, "d12"},
	{api.OpMinuaw, 0x2F | 2<<12 | 24<<27, "d12"}, {api.OpMaxuaw, 0x2F | 2<<12 | 28<<27, "d12"},
	{api.OpLrd, 0x2F | 3<<12 | 2<<27, "d1"}, {api.OpScd, 0x2F | 3<<12 | 3<<27, "d12"}, {api.OpSwapd, 0x2F | 3<<12 | 1<<27, "d12"},
	{api.OpAddad, 0x2F | 3<<12, "d12"}, {api.OpXorad, 0x2F | 3<<12 | 4<<27, "d12"}, {api.OpAndad, 0x2F | 3<<12 | 12<<27, "d12"},
	{api.OpOrad, 0x2F | 3<<12 | 8<<27, "d12"}, {api.OpMinad, 0x2F | 3<<12 | 16<<27, "d12"}, {api.OpMaxad, 0x2F | 3<<12 | 20<<27, "d12"},
	{api.OpMinuad, 0x2F | 3<<12 | 24<<27, "d12"}, {api.OpMaxuad, 0x2F | 3<<12 | 28<<27, "d12"},
}

// numberForm is what numbers there are of a form, and which bit of the word each of their bits is, from the lowest on that may be 1.
type numberForm struct {
	min, max, step int64
	at             []int
}

var numberForms = map[string]numberForm{
	"I": {-2048, 2047, 1, []int{20, 21, 22, 23, 24, 25, 26, 27, 28, 29, 30, 31}},
	"S": {-2048, 2047, 1, []int{7, 8, 9, 10, 11, 25, 26, 27, 28, 29, 30, 31}},
	"B": {-4096, 4094, 2, []int{8, 9, 10, 11, 25, 26, 27, 28, 29, 30, 7, 31}},
	"U": {-2147483648, 2147479552, 4096, []int{12, 13, 14, 15, 16, 17, 18, 19, 20, 21, 22, 23, 24, 25, 26, 27, 28, 29, 30, 31}},
	"J": {-1048576, 1048574, 2, []int{21, 22, 23, 24, 25, 26, 27, 28, 29, 30, 20, 12, 13, 14, 15, 16, 17, 18, 19, 31}},
	"6": {0, 63, 1, []int{20, 21, 22, 23, 24, 25}},
	"5": {0, 31, 1, []int{20, 21, 22, 23, 24}},
	"c": {0, 4095, 1, []int{20, 21, 22, 23, 24, 25, 26, 27, 28, 29, 30, 31}},
}

// wild are numbers that no part of a word is.
var wild = []int{
	-1, 32, 33, 64, -32, -31, 128, 1 << 12, 1 << 17, 1 << 25, 1 << 31, 1 << 32, 1<<32 + 1, -1 << 32,
	math.MinInt32, math.MaxInt32, math.MinInt, math.MinInt + 1, math.MaxInt, math.MaxInt - 1,
}

// number is the form of a row's number, and whether it has one.
func (r row) number() (numberForm, bool) {
	for letter, f := range numberForms {
		if strings.Contains(strings.TrimLeft(r.has, "d12"), letter) {
			return f, true
		}
	}
	return numberForm{}, false
}

// places are the registers of an instruction, and whether the row has them.
func (r row) places(x *api.Insn) map[*int]bool {
	registers := r.has
	if _, ok := r.number(); ok {
		registers = r.has[:len(r.has)-1]
	}
	return map[*int]bool{
		&x.Rd:  strings.Contains(registers, "d"),
		&x.Rs1: strings.Contains(registers, "1"),
		&x.Rs2: strings.Contains(registers, "2"),
	}
}

// insn is an instruction of a row with these parts, as far as it has them.
func (r row) insn(rd, rs1, rs2 int, imm int64) api.Insn {
	x := api.Insn{Op: r.op, Rd: rd, Rs1: rs1, Rs2: rs2, Imm: imm, Len: 4}
	for place, has := range r.places(&x) {
		if !has {
			*place = 0
		}
	}
	if _, ok := r.number(); !ok {
		x.Imm = 0
	}
	return x
}

// some is an instruction of a row none of whose parts is 0, and whose registers are unlike.
func (r row) some() api.Insn {
	f, _ := r.number()
	return r.insn(21, 10, 19, f.step*5)
}

// laid is the word of an instruction of a row, bit by bit; of parts that are in their bounds alone.
func (r row) laid(x api.Insn) uint32 {
	w := r.match + uint32(x.Rd)*(1<<7) + uint32(x.Rs1)*(1<<15) + uint32(x.Rs2)*(1<<20)
	if f, ok := r.number(); ok {
		n := x.Imm / f.step
		for _, k := range f.at {
			w += uint32(n&1) << k
			n >>= 1
		}
	}
	return w
}

func checkIs(t *testing.T, x api.Insn, want uint32) {
	t.Helper()
	if w, ok := Word(x); w != want || !ok {
		t.Errorf("%+v: %08x, %v, not %08x", x, w, ok, want)
	}
	got := decode.Word(want)
	if got.Op != x.Op || got.Rd != x.Rd || got.Rs1 != x.Rs1 || got.Rs2 != x.Rs2 || got.Imm != x.Imm || got.Len != x.Len {
		t.Errorf("%08x: %+v, not %+v", want, got, x)
	}
}

func checkNone(t *testing.T, x api.Insn) {
	t.Helper()
	if w, ok := Word(x); w != 0 || ok {
		t.Errorf("%+v: %08x, %v, and it is none", x, w, ok)
	}
}

func TestRowsAreOfEachOp(t *testing.T) {
	for i, r := range rows {
		if r.op != i+1 {
			t.Errorf("row %d: %+v", i, r)
		}
	}
	if len(rows) != 97 {
		t.Errorf("%d rows", len(rows))
	}
}

func TestP61Known(t *testing.T) {
	for w, x := range map[uint32]api.Insn{
		0x00A50513: {Op: api.OpAddi, Rd: 10, Rs1: 10, Imm: 10},
		0xFE010113: {Op: api.OpAddi, Rd: 2, Rs1: 2, Imm: -32},
		0x800002B7: {Op: api.OpLui, Rd: 5, Imm: -1 << 31},
		0x7FFFF2B7: {Op: api.OpLui, Rd: 5, Imm: 0x7FFFF000},
		0xFFFFF317: {Op: api.OpAuipc, Rd: 6, Imm: -4096},
		0xFFDFF0EF: {Op: api.OpJal, Rd: 1, Imm: -4},
		0x0080006F: {Op: api.OpJal, Imm: 8},
		0x00008067: {Op: api.OpJalr, Rs1: 1},
		0xFEB51CE3: {Op: api.OpBne, Rs1: 10, Rs2: 11, Imm: -8},
		0x00B57463: {Op: api.OpBgeu, Rs1: 10, Rs2: 11, Imm: 8},
		0xFEC42783: {Op: api.OpLw, Rd: 15, Rs1: 8, Imm: -20},
		0xFEF42623: {Op: api.OpSw, Rs1: 8, Rs2: 15, Imm: -20},
		0x43F55513: {Op: api.OpSrai, Rd: 10, Rs1: 10, Imm: 63},
		0x41F7D51B: {Op: api.OpSraiw, Rd: 10, Rs1: 15, Imm: 31},
		0x40B50533: {Op: api.OpSub, Rd: 10, Rs1: 10, Rs2: 11},
		0x02F747BB: {Op: api.OpDivw, Rd: 15, Rs1: 14, Rs2: 15},
		0x00000073: {Op: api.OpEcall},
		0x12B50073: {Op: api.OpSfence, Rs1: 10, Rs2: 11},
		0xC0102573: {Op: api.OpCsrrs, Rd: 10, Imm: 0xC01},
		0x100177F3: {Op: api.OpCsrrci, Rd: 15, Rs1: 2, Imm: 0x100},
		0x100527AF: {Op: api.OpLrw, Rd: 15, Rs1: 10},
		0x18E527AF: {Op: api.OpScw, Rd: 15, Rs1: 10, Rs2: 14},
		0xE0E537AF: {Op: api.OpMaxuad, Rd: 15, Rs1: 10, Rs2: 14},
	} {
		x.Len = 4
		checkIs(t, x, w)
	}
}

func TestP61EachOp(t *testing.T) {
	for _, r := range rows {
		x := r.some()
		for place, has := range r.places(&x) {
			if has == (*place == 0) {
				t.Fatalf("%+v: %+v", r, x)
			}
		}
		checkIs(t, x, r.laid(x))
		checkIs(t, api.Insn{Op: r.op, Len: 4}, r.match)
	}
}

func TestP61EachRegister(t *testing.T) {
	for _, r := range rows {
		for n := range 32 {
			for _, x := range []api.Insn{r.insn(n, 0, 0, 0), r.insn(0, n, 0, 0), r.insn(0, 0, n, 0), r.insn(n, 31-n, n^21, 0)} {
				checkIs(t, x, r.laid(x))
			}
		}
	}
}

func TestP61RegistersBeyond(t *testing.T) {
	for _, r := range rows {
		for _, n := range wild {
			for _, from := range []api.Insn{{Op: r.op, Len: 4}, r.some()} {
				x := from
				for place := range r.places(&x) {
					was := *place
					*place = n
					checkNone(t, x)
					*place = was
				}
			}
		}
	}
}

func TestP61RegistersThatAreNotHad(t *testing.T) {
	for _, r := range rows {
		for n := 1; n < 32; n++ {
			for _, from := range []api.Insn{{Op: r.op, Len: 4}, r.some()} {
				x := from
				for place, has := range r.places(&x) {
					if has {
						continue
					}
					*place = n
					checkNone(t, x)
					*place = 0
				}
			}
		}
	}
}

func TestP61Numbers(t *testing.T) {
	for _, r := range rows {
		f, ok := r.number()
		if !ok {
			continue
		}
		numbers := []int64{0, f.min, f.min + f.step, f.max, f.max - f.step, f.step, f.step * 21, f.step * 11}
		for by := f.step; by <= f.max; by *= 2 {
			numbers = append(numbers, by, by-f.step, f.max-by, f.min+by)
		}
		for _, n := range numbers {
			for _, x := range []api.Insn{r.insn(0, 0, 0, n), r.insn(31, 31, 31, n), r.insn(21, 10, 19, n)} {
				checkIs(t, x, r.laid(x))
			}
		}
	}
}

func TestP61NumbersBeyond(t *testing.T) {
	for _, r := range rows {
		f, ok := r.number()
		if !ok {
			continue
		}
		numbers := []int64{
			f.min - 1, f.min - f.step, f.max + 1, f.max + f.step, 2 * f.max, f.min*2 - 2, math.MinInt64, math.MinInt64 + 1, math.MaxInt64, math.MaxInt64 - 1,
			math.MinInt64 + f.step, math.MaxInt64 - f.step, math.MaxInt64 - f.step + 1,
		}
		for k := 12; k < 63; k++ {
			if by := int64(1) << k; by > f.max-f.min {
				numbers = append(numbers, by, -by, f.step+by, f.step-by, f.max+by, f.min-by)
			}
		}
		if f.min == 0 {
			numbers = append(numbers, -f.max, -f.max-1)
		}
		for _, n := range numbers {
			checkNone(t, r.insn(0, 0, 0, n))
			checkNone(t, r.insn(21, 10, 19, n))
		}
	}
}

func TestP61NumbersBetweenSteps(t *testing.T) {
	for _, r := range rows {
		f, ok := r.number()
		if !ok || f.step == 1 {
			continue
		}
		for _, n := range []int64{f.min, -f.step, 0, f.step, f.max - f.step} {
			for by := int64(1); by < f.step; by *= 2 {
				checkNone(t, r.insn(21, 10, 19, n+by))
				checkNone(t, r.insn(21, 10, 19, n+f.step-by))
			}
		}
	}
}

func TestP61NumbersThatAreNotHad(t *testing.T) {
	for _, r := range rows {
		if _, ok := r.number(); ok {
			continue
		}
		for _, from := range []api.Insn{{Op: r.op, Len: 4}, r.some()} {
			for k := range 63 {
				x := from
				x.Imm = int64(1) << k
				checkNone(t, x)
				x.Imm = -x.Imm
				checkNone(t, x)
			}
			for _, n := range []int64{3, 0x102, 0x105, math.MinInt64, math.MaxInt64} {
				x := from
				x.Imm = n
				checkNone(t, x)
			}
		}
	}
}

func TestP61Shifts(t *testing.T) {
	for op, w := range map[int]uint32{api.OpSlli: 0x00051593, api.OpSrli: 0x00055593, api.OpSrai: 0x40055593} {
		for far := range 64 {
			checkIs(t, api.Insn{Op: op, Rd: 11, Rs1: 10, Imm: int64(far), Len: 4}, w+uint32(far)<<20)
		}
		for _, far := range []int64{-1, -64, 64, 65, 127, 1024, 1024 + 63, -1024, 4096} {
			checkNone(t, api.Insn{Op: op, Rd: 11, Rs1: 10, Imm: far, Len: 4})
		}
	}
	for op, w := range map[int]uint32{api.OpSlliw: 0x0005159B, api.OpSrliw: 0x0005559B, api.OpSraiw: 0x4005559B} {
		for far := range 32 {
			checkIs(t, api.Insn{Op: op, Rd: 11, Rs1: 10, Imm: int64(far), Len: 4}, w+uint32(far)<<20)
		}
		for _, far := range []int64{-1, -32, 32, 33, 63, 64, 1024, 1024 + 31, -1024, 4096} {
			checkNone(t, api.Insn{Op: op, Rd: 11, Rs1: 10, Imm: far, Len: 4})
		}
	}
}

func TestP61Csrs(t *testing.T) {
	for op, w := range map[int]uint32{api.OpCsrrw: 0x1073, api.OpCsrrs: 0x2073, api.OpCsrrc: 0x3073, api.OpCsrrwi: 0x5073, api.OpCsrrsi: 0x6073, api.OpCsrrci: 0x7073} {
		for n := range 4096 {
			checkIs(t, api.Insn{Op: op, Rd: 3, Rs1: 17, Imm: int64(n), Len: 4}, w+3<<7+17<<15+uint32(n)<<20)
		}
		for _, n := range []int64{-1, -2048, 4096, 4097, 8191, 1 << 32, 1<<44 + 1, math.MinInt64, math.MaxInt64} {
			checkNone(t, api.Insn{Op: op, Rd: 3, Rs1: 17, Imm: n, Len: 4})
		}
	}
}

func TestP61Len(t *testing.T) {
	for _, n := range append([]int{0, 1, 2, 3, 5, 6, 8, -4, -2, 1<<32 + 4, 1<<32 + 2}, wild...) {
		checkNone(t, api.Insn{Len: n})
		for _, r := range rows {
			x := r.some()
			x.Len = n
			checkNone(t, x)
			checkNone(t, api.Insn{Op: r.op, Len: n})
		}
	}
}

func TestP61Illegal(t *testing.T) {
	checkIs(t, api.Insn{Len: 4}, 0)
	checkNone(t, api.Insn{})
	for _, n := range append([]int{1, 2, 4, 10, 31}, wild...) {
		checkNone(t, api.Insn{Rd: n, Len: 4})
		checkNone(t, api.Insn{Rs1: n, Len: 4})
		checkNone(t, api.Insn{Rs2: n, Len: 4})
		checkNone(t, api.Insn{Imm: int64(n), Len: 4})
	}
}

func TestP61NoOp(t *testing.T) {
	for _, op := range noOps() {
		checkNone(t, api.Insn{Op: op, Len: 4})
		checkNone(t, api.Insn{Op: op})
		checkNone(t, api.Insn{Op: op, Rd: 1, Rs1: 2, Rs2: 3, Imm: 4, Len: 4})
	}
}

// noOps are numbers of no op, those that are one modulo a power of 2 among them.
func noOps() []int {
	ops := []int{-1, -2, -97, -98, 98, 99, 109, 127, 128, 255, 256, 256 + api.OpAddi, 1 << 16, 1<<31 + 1}
	for _, op := range wild {
		if op < 0 || op > 128 {
			ops = append(ops, op)
		}
	}
	return append(ops, 1<<32+97, -1<<32+22)
}

// Whatever stands in the bits that say nothing, the least word has none of them.
func TestP61Least(t *testing.T) {
	for _, w := range []uint32{0x0000000F, 0x0FF0000F, 0x8330000F, 0xFFFF8F8F, 0x0000008F, 0x0000800F, 0x0010000F} {
		if got, ok := Word(decode.Word(w)); got != 0x0000000F || !ok {
			t.Errorf("%08x: %08x, %v", w, got, ok)
		}
		if got, ok := Word(decode.Word(w | 1<<12)); got != 0x0000100F || !ok {
			t.Errorf("%08x: %08x, %v", w|1<<12, got, ok)
		}
	}
	for op := api.OpLrw; op <= api.OpMaxuad; op++ {
		x := rows[op-1].some()
		least := rows[op-1].laid(x)
		if least&(3<<25) != 0 {
			t.Fatalf("%08x", least)
		}
		for order := range uint32(4) {
			if got, ok := Word(decode.Word(least | order<<25)); got != least || !ok {
				t.Errorf("%08x: %08x, %v", least|order<<25, got, ok)
			}
		}
	}
	for _, w := range []uint32{0, 1, 0xFFFFFFFF, 0x00000070, 0x00B5252F | 5<<27, 0x30200073, 0x00B52463} {
		if got, ok := Word(decode.Word(w)); got != 0 || !ok {
			t.Errorf("%08x: %08x, %v", w, got, ok)
		}
	}
}

const namesOfWords = "illegal lui auipc jal jalr beq bne blt bge bltu bgeu lb lh lw ld lbu lhu lwu sb sh sw sd addi slti sltiu xori ori andi slli srli srai add sub sll slt sltu xor srl sra or and addiw slliw srliw sraiw addw subw sllw srlw sraw mul mulh mulhsu mulhu div divu rem remu mulw divw divuw remw remuw fence fencei ecall ebreak sret wfi sfence csrrw csrrs csrrc csrrwi csrrsi csrrci"

const namesOfAtomics = "lr. sc. amoswap. amoadd. amoxor. amoand. amoor. amomin. amomax. amominu. amomaxu."

// allNames are the names of the ops in order.
func allNames() []string {
	names := strings.Fields(namesOfWords)
	for _, end := range []string{"w", "d"} {
		for _, name := range strings.Fields(namesOfAtomics) {
			names = append(names, name+end)
		}
	}
	return names
}

func TestP62Name(t *testing.T) {
	names := allNames()
	if len(names) != 98 {
		t.Fatalf("%d names", len(names))
	}
	for op, want := range names {
		if got := Name(op); got != want {
			t.Errorf("Name(%d) is %q, not %q", op, got, want)
		}
	}
	for op, want := range map[int]string{
		api.OpIllegal: "illegal", api.OpJalr: "jalr", api.OpAnd: "and", api.OpSfence: "sfence", api.OpCsrrci: "csrrci",
		api.OpLrw: "lr.w", api.OpScw: "sc.w", api.OpSwapw: "amoswap.w", api.OpMaxuaw: "amomaxu.w",
		api.OpLrd: "lr.d", api.OpScd: "sc.d", api.OpAddad: "amoadd.d", api.OpMaxuad: "amomaxu.d",
	} {
		if got := Name(op); got != want {
			t.Errorf("Name(%d) is %q, not %q", op, got, want)
		}
	}
}

func TestP62NoOp(t *testing.T) {
	for _, op := range noOps() {
		if got := Name(op); got != "" {
			t.Errorf("Name(%d) is %q", op, got)
		}
	}
}

func checkText(t *testing.T, x api.Insn, want string) {
	t.Helper()
	if got := Text(x); got != want {
		t.Errorf("%+v: %q, not %q", x, got, want)
	}
}

func TestP63Known(t *testing.T) {
	for want, x := range map[string]api.Insn{
		"illegal":                {Op: api.OpIllegal},
		"lui x5 -2147483648":     {Op: api.OpLui, Rd: 5, Imm: -1 << 31},
		"auipc x6 4096":          {Op: api.OpAuipc, Rd: 6, Imm: 4096},
		"jal x0 -4":              {Op: api.OpJal, Imm: -4},
		"jalr x1 x10 -4":         {Op: api.OpJalr, Rd: 1, Rs1: 10, Imm: -4},
		"bne x10 x11 -8":         {Op: api.OpBne, Rs1: 10, Rs2: 11, Imm: -8},
		"lw x15 x8 -20":          {Op: api.OpLw, Rd: 15, Rs1: 8, Imm: -20},
		"sd x2 x1 24":            {Op: api.OpSd, Rs1: 2, Rs2: 1, Imm: 24},
		"addi x10 x10 10":        {Op: api.OpAddi, Rd: 10, Rs1: 10, Imm: 10},
		"slli x1 x2 63":          {Op: api.OpSlli, Rd: 1, Rs1: 2, Imm: 63},
		"sub x3 x1 x2":           {Op: api.OpSub, Rd: 3, Rs1: 1, Rs2: 2},
		"addiw x31 x30 -1":       {Op: api.OpAddiw, Rd: 31, Rs1: 30, Imm: -1},
		"subw x3 x1 x2":          {Op: api.OpSubw, Rd: 3, Rs1: 1, Rs2: 2},
		"mulhsu x3 x1 x2":        {Op: api.OpMulhsu, Rd: 3, Rs1: 1, Rs2: 2},
		"remuw x3 x1 x2":         {Op: api.OpRemuw, Rd: 3, Rs1: 1, Rs2: 2},
		"fence":                  {Op: api.OpFence},
		"ecall":                  {Op: api.OpEcall},
		"sfence":                 {Op: api.OpSfence, Rs1: 10, Rs2: 11},
		"csrrs x10 x0 3073":      {Op: api.OpCsrrs, Rd: 10, Imm: 0xC01},
		"csrrwi x0 x31 4095":     {Op: api.OpCsrrwi, Rs1: 31, Imm: 4095},
		"lr.w x3 x1 x0":          {Op: api.OpLrw, Rd: 3, Rs1: 1},
		"sc.w x3 x1 x2":          {Op: api.OpScw, Rd: 3, Rs1: 1, Rs2: 2},
		"amomaxu.d x3 x1 x2":     {Op: api.OpMaxuad, Rd: 3, Rs1: 1, Rs2: 2},
		"":                       {Op: 98, Rd: 3, Rs1: 1, Rs2: 2, Imm: 5},
		"jalr x-1 x32 1":         {Op: api.OpJalr, Rd: -1, Rs1: 32, Imm: 1},
		"and x-3 x100 x-2":       {Op: api.OpAnd, Rd: -3, Rs1: 100, Rs2: -2},
		"beq x40 x-7 3":          {Op: api.OpBeq, Rs1: 40, Rs2: -7, Imm: 3},
		"ori x0 x0 " + leastText: {Op: api.OpOri, Imm: math.MinInt64},
		"jal x0 " + greatestText: {Op: api.OpJal, Imm: math.MaxInt64},
		"sb x0 x0 " + leastText:  {Op: api.OpSb, Imm: math.MinInt64},
		"lb x" + leastText + " x" + greatestText + " 0": {Op: api.OpLb, Rd: math.MinInt, Rs1: math.MaxInt},
	} {
		for _, x.Len = range []int{0, 2, 4} {
			checkText(t, x, want)
		}
	}
}

const (
	leastText    = "-9223372036854775808"
	greatestText = "9223372036854775807"
)

// A text has the parts that its kind has, whatever stands in the others.
func TestP63EachOp(t *testing.T) {
	shapes := map[int]string{
		1: "d1n", 3: "d1n", 5: "d1n", 7: "d1n", 12: "d1n", 2: "12n", 4: "12n",
		6: "d12", 8: "d12", 9: "d12", 10: "d12", 13: "d12", 14: "d12",
	}
	for op, name := range allNames() {
		x := api.Insn{Op: op, Rd: 7, Rs1: 15, Rs2: 23, Imm: -77, Len: 4}
		want := name
		for _, c := range shapes[decode.Kind(op)] {
			switch c {
			case 'd':
				want += " x7"
			case '1':
				if op != api.OpLui && op != api.OpAuipc && op != api.OpJal {
					want += " x15"
				}
			case '2':
				want += " x23"
			case 'n':
				want += " -77"
			}
		}
		checkText(t, x, want)
	}
}

func TestP63NoOp(t *testing.T) {
	for _, op := range noOps() {
		checkText(t, api.Insn{Op: op, Rd: 1, Rs1: 2, Rs2: 3, Imm: 4, Len: 4}, "")
		checkText(t, api.Insn{Op: op}, "")
	}
}

func TestP63Registers(t *testing.T) {
	for n := range 32 {
		s := " x" + strconv.Itoa(n)
		checkText(t, api.Insn{Op: api.OpAdd, Rd: n, Rs1: n, Rs2: n, Len: 4}, "add"+s+s+s)
	}
}

// mixed are words of all kinds, always the same ones.
func mixed(many int) []uint32 {
	words := []uint32{0, 1, 3, math.MaxUint32, 0x80000000, 0x7FFFFFFF, 0xAAAAAAAA, 0x55555555}
	x := uint32(2463534242)
	for len(words) < many {
		x ^= x << 13
		x ^= x >> 17
		x ^= x << 5
		words = append(words, x)
	}
	return words
}

// checkAgain is of a word: its instruction's word is no greater, and the same instruction.
func checkAgain(t *testing.T, w uint32) {
	t.Helper()
	x := decode.Word(w)
	v, ok := Word(x)
	if !ok || v > w || decode.Word(v) != x {
		t.Fatalf("%08x: %08x, %v", w, v, ok)
	}
	if x.Op == api.OpIllegal {
		if v != 0 {
			t.Fatalf("%08x: %08x", w, v)
		}
		return
	}
	if want := rows[x.Op-1].laid(x); v != want {
		t.Fatalf("%08x: %08x, not %08x", w, v, want)
	}
	// Of all ops but fences and atomic ones each bit matters.
	if kind := decode.Kind(x.Op); kind < 11 || kind == 12 {
		if v != w {
			t.Fatalf("%08x: %08x", w, v)
		}
	}
	if again, ok := Word(decode.Word(v)); again != v || !ok {
		t.Fatalf("%08x: %08x, and then %08x", w, v, again)
	}
}

func TestP64Mixed(t *testing.T) {
	for i, w := range mixed(200000) {
		if i%4 != 0 {
			w = w&^127 | rows[i%len(rows)].match&127 // most words have no major that is known
		}
		checkAgain(t, w)
	}
}

func TestP64EachOp(t *testing.T) {
	for _, r := range rows {
		for i, other := range mixed(300) {
			checkAgain(t, r.match|other&^0xFE00707F)
			checkAgain(t, r.match|other&0xFFF00000)
			checkAgain(t, r.match^1<<(i%32))
		}
	}
}
