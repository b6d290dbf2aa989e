package comp

import (
	"testing"

	"suzerain/api"
	"suzerain/decode"
	"suzerain/field"
)

// row is a form seen from its half: the letters are its bits, from 15 down: 0 and 1 must stand so; n is of the number; r and s are
// registers of five bits, R and S of three. In at stands for each n, from the left, which bit of the number it is.
type row struct {
	q, f         int
	bits         string
	op           int
	rd, rs1, rs2 string
	at           []int
	sign         bool
	never        string // n: none of the number 0; r: none of register 0
}

// The first row that fits holds.
var rows = []row{
	{0, 0, "000nnnnnnnnSSS00", api.OpAddi, "S", "2", "", []int{5, 4, 9, 8, 7, 6, 2, 3}, false, "n"},
	{0, 2, "010nnnRRRnnSSS00", api.OpLw, "S", "R", "", []int{5, 4, 3, 2, 6}, false, ""},
	{0, 3, "011nnnRRRnnSSS00", api.OpLd, "S", "R", "", []int{5, 4, 3, 7, 6}, false, ""},
	{0, 6, "110nnnRRRnnSSS00", api.OpSw, "", "R", "S", []int{5, 4, 3, 2, 6}, false, ""},
	{0, 7, "111nnnRRRnnSSS00", api.OpSd, "", "R", "S", []int{5, 4, 3, 7, 6}, false, ""},
	{1, 0, "000nrrrrrnnnnn01", api.OpAddi, "r", "r", "", []int{5, 4, 3, 2, 1, 0}, true, ""},
	{1, 1, "001nrrrrrnnnnn01", api.OpAddiw, "r", "r", "", []int{5, 4, 3, 2, 1, 0}, true, "r"},
	{1, 2, "010nrrrrrnnnnn01", api.OpAddi, "r", "", "", []int{5, 4, 3, 2, 1, 0}, true, ""},
	{1, 3, "011n00010nnnnn01", api.OpAddi, "2", "2", "", []int{9, 4, 6, 8, 7, 5}, true, "n"},
	{1, 3, "011nrrrrrnnnnn01", api.OpLui, "r", "", "", []int{17, 16, 15, 14, 13, 12}, true, "n"},
	{1, 4, "100n00RRRnnnnn01", api.OpSrli, "R", "R", "", []int{5, 4, 3, 2, 1, 0}, false, ""},
	{1, 4, "100n01RRRnnnnn01", api.OpSrai, "R", "R", "", []int{5, 4, 3, 2, 1, 0}, false, ""},
	{1, 4, "100n10RRRnnnnn01", api.OpAndi, "R", "R", "", []int{5, 4, 3, 2, 1, 0}, true, ""},
	{1, 4, "100011RRR00SSS01", api.OpSub, "R", "R", "S", nil, false, ""},
	{1, 4, "100011RRR01SSS01", api.OpXor, "R", "R", "S", nil, false, ""},
	{1, 4, "100011RRR10SSS01", api.OpOr, "R", "R", "S", nil, false, ""},
	{1, 4, "100011RRR11SSS01", api.OpAnd, "R", "R", "S", nil, false, ""},
	{1, 4, "100111RRR00SSS01", api.OpSubw, "R", "R", "S", nil, false, ""},
	{1, 4, "100111RRR01SSS01", api.OpAddw, "R", "R", "S", nil, false, ""},
	{1, 5, "101nnnnnnnnnnn01", api.OpJal, "", "", "", []int{11, 4, 9, 8, 10, 6, 7, 3, 2, 1, 5}, true, ""},
	{1, 6, "110nnnRRRnnnnn01", api.OpBeq, "", "R", "", []int{8, 4, 3, 7, 6, 2, 1, 5}, true, ""},
	{1, 7, "111nnnRRRnnnnn01", api.OpBne, "", "R", "", []int{8, 4, 3, 7, 6, 2, 1, 5}, true, ""},
	{2, 0, "000nrrrrrnnnnn10", api.OpSlli, "r", "r", "", []int{5, 4, 3, 2, 1, 0}, false, ""},
	{2, 2, "010nrrrrrnnnnn10", api.OpLw, "r", "2", "", []int{5, 4, 3, 2, 7, 6}, false, "r"},
	{2, 3, "011nrrrrrnnnnn10", api.OpLd, "r", "2", "", []int{5, 4, 3, 8, 7, 6}, false, "r"},
	{2, 4, "1001000000000010", api.OpEbreak, "", "", "", nil, false, ""},
	{2, 4, "1000rrrrr0000010", api.OpJalr, "", "r", "", nil, false, "r"},
	{2, 4, "1001rrrrr0000010", api.OpJalr, "1", "r", "", nil, false, "r"},
	{2, 4, "1000rrrrrsssss10", api.OpAdd, "r", "", "s", nil, false, ""},
	{2, 4, "1001rrrrrsssss10", api.OpAdd, "r", "r", "s", nil, false, ""},
	{2, 6, "110nnnnnnsssss10", api.OpSw, "", "2", "s", []int{5, 4, 3, 2, 7, 6}, false, ""},
	{2, 7, "111nnnnnnsssss10", api.OpSd, "", "2", "s", []int{5, 4, 3, 8, 7, 6}, false, ""},
}

var illegal = api.Insn{Len: 2}

// fits is whether a half has the bits that must stand.
func (r row) fits(h uint16) bool {
	for i, c := range r.bits {
		if bit := h >> (15 - i) & 1; c == '0' && bit == 1 || c == '1' && bit == 0 {
			return false
		}
	}
	return true
}

// letter is the number that the bits of one letter are.
func (r row) letter(h uint16, want rune) int {
	n := 0
	for i, c := range r.bits {
		if c == want {
			n = n*2 + int(h>>(15-i)&1)
		}
	}
	return n
}

func (r row) register(h uint16, name string) int {
	switch name {
	case "r", "s":
		return r.letter(h, rune(name[0]))
	case "R", "S":
		return 8 + r.letter(h, rune(name[0]))
	case "1", "2":
		return int(name[0] - '0')
	}
	return 0
}

func (r row) number(h uint16) int64 {
	n, next, top := int64(0), 0, 0
	for _, k := range r.at {
		top = max(top, k)
	}
	for i, c := range r.bits {
		if c != 'n' {
			continue
		}
		k := r.at[next]
		next++
		value := int64(h>>(15-i)&1) * (1 << k)
		if r.sign && k == top {
			value = -value
		}
		n += value
	}
	return n
}

// model is the instruction of a half by the rows.
func model(h uint16) api.Insn {
	for _, r := range rows {
		if !r.fits(h) {
			continue
		}
		n := r.number(h)
		if r.never == "n" && n == 0 || r.never == "r" && r.letter(h, 'r') == 0 {
			return illegal
		}
		return api.Insn{Op: r.op, Rd: r.register(h, r.rd), Rs1: r.register(h, r.rs1), Rs2: r.register(h, r.rs2), Imm: n, Len: 2}
	}
	return illegal
}

// make is the half of a row with r and s as they are given (three bits of them where the row has three), and with these bits of n.
func (r row) make(rr, ss int, n uint16) uint16 {
	h, left := uint16(0), map[rune]int{}
	for i := 15; i >= 0; i-- {
		k, c := 15-i, rune(r.bits[i])
		bit := 0
		switch c {
		case '1':
			bit = 1
		case 'r', 'R':
			bit = rr >> left['r'] & 1
			left['r']++
		case 's', 'S':
			bit = ss >> left['s'] & 1
			left['s']++
		case 'n':
			bit = int(n >> left['n'] & 1)
			left['n']++
		}
		h |= uint16(bit) << k
	}
	return h
}

func checkIs(t *testing.T, h uint16, want api.Insn) {
	t.Helper()
	if got := Half(h); got != want {
		t.Errorf("%04x: %+v, not %+v", h, got, want)
	}
}

func checkNone(t *testing.T, h uint16) {
	t.Helper()
	checkIs(t, h, illegal)
}

func TestP52Known(t *testing.T) {
	for h, want := range map[uint16]api.Insn{
		0x1000: {Op: api.OpAddi, Rd: 8, Rs1: 2, Imm: 32},
		0x0808: {Op: api.OpAddi, Rd: 10, Rs1: 2, Imm: 16},
		0x439C: {Op: api.OpLw, Rd: 15, Rs1: 15},
		0x43D8: {Op: api.OpLw, Rd: 14, Rs1: 15, Imm: 4},
		0x6398: {Op: api.OpLd, Rd: 14, Rs1: 15},
		0x6508: {Op: api.OpLd, Rd: 10, Rs1: 10, Imm: 8},
		0xC398: {Op: api.OpSw, Rs1: 15, Rs2: 14},
		0xE398: {Op: api.OpSd, Rs1: 15, Rs2: 14},
		0xE50C: {Op: api.OpSd, Rs1: 10, Rs2: 11, Imm: 8},
		0x0001: {Op: api.OpAddi},
		0x1101: {Op: api.OpAddi, Rd: 2, Rs1: 2, Imm: -32},
		0x2785: {Op: api.OpAddiw, Rd: 15, Rs1: 15, Imm: 1},
		0x2501: {Op: api.OpAddiw, Rd: 10, Rs1: 10},
		0x4501: {Op: api.OpAddi, Rd: 10},
		0x577D: {Op: api.OpAddi, Rd: 14, Imm: -1},
		0x6105: {Op: api.OpAddi, Rd: 2, Rs1: 2, Imm: 32},
		0x7139: {Op: api.OpAddi, Rd: 2, Rs1: 2, Imm: -64},
		0x67C1: {Op: api.OpLui, Rd: 15, Imm: 0x10000},
		0x77FD: {Op: api.OpLui, Rd: 15, Imm: -4096},
		0x9381: {Op: api.OpSrli, Rd: 15, Rs1: 15, Imm: 32},
		0x8B85: {Op: api.OpAndi, Rd: 15, Rs1: 15, Imm: 1},
		0x8F99: {Op: api.OpSub, Rd: 15, Rs1: 15, Rs2: 14},
		0x8FB9: {Op: api.OpXor, Rd: 15, Rs1: 15, Rs2: 14},
		0x8FD9: {Op: api.OpOr, Rd: 15, Rs1: 15, Rs2: 14},
		0x8FF9: {Op: api.OpAnd, Rd: 15, Rs1: 15, Rs2: 14},
		0x9F99: {Op: api.OpSubw, Rd: 15, Rs1: 15, Rs2: 14},
		0x9FB9: {Op: api.OpAddw, Rd: 15, Rs1: 15, Rs2: 14},
		0xA001: {Op: api.OpJal},
		0xBFC5: {Op: api.OpJal, Imm: -16},
		0xC119: {Op: api.OpBeq, Rs1: 10, Imm: 6},
		0xFFED: {Op: api.OpBne, Rs1: 15, Imm: -6},
		0x1782: {Op: api.OpSlli, Rd: 15, Rs1: 15, Imm: 32},
		0x4722: {Op: api.OpLw, Rd: 14, Rs1: 2, Imm: 8},
		0x60E2: {Op: api.OpLd, Rd: 1, Rs1: 2, Imm: 24},
		0x6442: {Op: api.OpLd, Rd: 8, Rs1: 2, Imm: 16},
		0x8082: {Op: api.OpJalr, Rs1: 1},
		0x8782: {Op: api.OpJalr, Rs1: 15},
		0x9782: {Op: api.OpJalr, Rd: 1, Rs1: 15},
		0x853E: {Op: api.OpAdd, Rd: 10, Rs2: 15},
		0x97BA: {Op: api.OpAdd, Rd: 15, Rs1: 15, Rs2: 14},
		0x9002: {Op: api.OpEbreak},
		0xC43E: {Op: api.OpSw, Rs1: 2, Rs2: 15, Imm: 8},
		0xEC06: {Op: api.OpSd, Rs1: 2, Rs2: 1, Imm: 24},
	} {
		want.Len = 2
		checkIs(t, h, want)
	}
}

func TestP52EveryHalf(t *testing.T) {
	wrong := 0
	for h := range 1 << 16 {
		want := model(uint16(h))
		if got := Half(uint16(h)); got != want {
			t.Errorf("%04x: %+v, not %+v", h, got, want)
			if wrong++; wrong > 20 {
				t.Fatal("and so on")
			}
		}
	}
}

// One half of each form, with registers and a number that are not 0.
func TestP52EachForm(t *testing.T) {
	for _, r := range rows {
		h := r.make(13, 22, 0x2B)
		if int(h&3) != r.q || int(h>>13) != r.f {
			t.Fatalf("%s: a half of %d, %d", r.bits, h&3, h>>13)
		}
		want := api.Insn{Op: r.op, Len: 2}
		of := map[string]int{"r": 13, "R": 13, "s": 22, "S": 14, "1": 1, "2": 2}
		want.Rd, want.Rs1, want.Rs2 = of[r.rd], of[r.rs1], of[r.rs2]
		want.Imm = r.number(h)
		if r.at != nil && want.Imm == 0 {
			t.Fatalf("%s: %04x has no number", r.bits, h)
		}
		checkIs(t, h, want)
	}
}

// order is a number of the chapter: the bits of the half, the one of its highest bit first.
type order struct {
	half uint16 // its other bits
	bits []int
	sign bool
	by   int64
}

func orders() map[string]order {
	smallBits := []int{12, 6, 5, 4, 3, 2}
	return map[string]order{
		"0, 0":           {0xC, []int{10, 9, 8, 7, 12, 11, 5, 6, 0, 0}, false, 1},
		"0, 2":           {0x4284, []int{5, 12, 11, 10, 6, 0, 0}, false, 1},
		"0, 3":           {0x6284, []int{6, 5, 12, 11, 10, 0, 0, 0}, false, 1},
		"0, 6":           {0xC284, []int{5, 12, 11, 10, 6, 0, 0}, false, 1},
		"0, 7":           {0xE284, []int{6, 5, 12, 11, 10, 0, 0, 0}, false, 1},
		"1, 0":           {0x0681, smallBits, true, 1},
		"1, 1":           {0x2681, smallBits, true, 1},
		"1, 2":           {0x4681, smallBits, true, 1},
		"1, 3 of 2":      {0x6101, []int{12, 4, 3, 5, 2, 6, 0, 0, 0, 0}, true, 1},
		"1, 3 of others": {0x6681, smallBits, true, 4096},
		"1, 4, 0":        {0x8281, smallBits, false, 1},
		"1, 4, 1":        {0x8681, smallBits, false, 1},
		"1, 4, 2":        {0x8A81, smallBits, true, 1},
		"1, 5":           {0xA001, []int{12, 8, 10, 9, 6, 7, 2, 11, 5, 4, 3, 0}, true, 1},
		"1, 6":           {0xC281, []int{12, 6, 5, 2, 11, 10, 4, 3, 0}, true, 1},
		"1, 7":           {0xE281, []int{12, 6, 5, 2, 11, 10, 4, 3, 0}, true, 1},
		"2, 0":           {0x0682, smallBits, false, 1},
		"2, 2":           {0x4682, []int{3, 2, 12, 6, 5, 4, 0, 0}, false, 1},
		"2, 3":           {0x6682, []int{4, 3, 2, 12, 6, 5, 0, 0, 0}, false, 1},
		"2, 6":           {0xC036, []int{8, 7, 12, 11, 10, 9, 0, 0}, false, 1},
		"2, 7":           {0xE036, []int{9, 8, 7, 12, 11, 10, 0, 0, 0}, false, 1},
	}
}

// Each bit of each number alone says what it counts, and nothing else of the instruction changes with it.
func TestP52EachBitOfNumbers(t *testing.T) {
	for name, o := range orders() {
		var first *api.Insn
		for i, k := range o.bits {
			if k == 0 {
				continue
			}
			h := o.half | 1<<k
			want := o.by << (len(o.bits) - 1 - i)
			if i == 0 && o.sign {
				want = -want
			}
			got := Half(h)
			if got.Op == api.OpIllegal || got.Imm != want || got.Len != 2 {
				t.Errorf("%s: bit %d alone: %+v, not %d", name, k, got, want)
			}
			got.Imm = 0
			if first == nil {
				first = &got
			}
			if got != *first {
				t.Errorf("%s: bit %d alone: %+v, not %+v", name, k, got, *first)
			}
		}
	}
}

// The least and the greatest number of each form.
func TestP52Extremes(t *testing.T) {
	for name, o := range orders() {
		all, sum, top := uint16(0), int64(0), int64(0)
		for i, k := range o.bits {
			if k == 0 {
				continue
			}
			all |= 1 << k
			value := o.by << (len(o.bits) - 1 - i)
			if i == 0 && o.sign {
				top = value
				continue
			}
			sum += value
		}
		h := o.half | all
		if o.sign {
			h &^= 1 << 12
		}
		if got := Half(h); got.Imm != sum {
			t.Errorf("%s: the greatest is %d, not %d", name, got.Imm, sum)
		}
		if o.sign {
			if got := Half(o.half | 1<<12); got.Imm != -top {
				t.Errorf("%s: the least is %d, not %d", name, got.Imm, -top)
			}
			if got := Half(o.half | all); got.Imm != sum-top {
				t.Errorf("%s: that of all bits is %d, not %d", name, got.Imm, sum-top)
			}
		}
	}
}

func TestP52NamedExtremes(t *testing.T) {
	for h, want := range map[uint16]api.Insn{
		0x1501: {Op: api.OpAddi, Rd: 10, Rs1: 10, Imm: -32},
		0x057D: {Op: api.OpAddi, Rd: 10, Rs1: 10, Imm: 31},
		0x3501: {Op: api.OpAddiw, Rd: 10, Rs1: 10, Imm: -32},
		0x257D: {Op: api.OpAddiw, Rd: 10, Rs1: 10, Imm: 31},
		0x5501: {Op: api.OpAddi, Rd: 10, Imm: -32},
		0x457D: {Op: api.OpAddi, Rd: 10, Imm: 31},
		0x7501: {Op: api.OpLui, Rd: 10, Imm: -131072},
		0x657D: {Op: api.OpLui, Rd: 10, Imm: 126976},
		0x7101: {Op: api.OpAddi, Rd: 2, Rs1: 2, Imm: -512},
		0x617D: {Op: api.OpAddi, Rd: 2, Rs1: 2, Imm: 496},
		0x9901: {Op: api.OpAndi, Rd: 10, Rs1: 10, Imm: -32},
		0x897D: {Op: api.OpAndi, Rd: 10, Rs1: 10, Imm: 31},
		0xB001: {Op: api.OpJal, Imm: -2048},
		0xAFFD: {Op: api.OpJal, Imm: 2046},
		0xD101: {Op: api.OpBeq, Rs1: 10, Imm: -256},
		0xCD7D: {Op: api.OpBeq, Rs1: 10, Imm: 254},
		0xF101: {Op: api.OpBne, Rs1: 10, Imm: -256},
		0xED7D: {Op: api.OpBne, Rs1: 10, Imm: 254},
		0x1FFC: {Op: api.OpAddi, Rd: 15, Rs1: 2, Imm: 1020},
		0x5FFC: {Op: api.OpLw, Rd: 15, Rs1: 15, Imm: 124},
		0x7FFC: {Op: api.OpLd, Rd: 15, Rs1: 15, Imm: 248},
		0x5FFE: {Op: api.OpLw, Rd: 31, Rs1: 2, Imm: 252},
		0x7FFE: {Op: api.OpLd, Rd: 31, Rs1: 2, Imm: 504},
		0xDFFE: {Op: api.OpSw, Rs1: 2, Rs2: 31, Imm: 252},
		0xFFFE: {Op: api.OpSd, Rs1: 2, Rs2: 31, Imm: 504},
	} {
		want.Len = 2
		checkIs(t, h, want)
	}
}

func TestP52Shifts(t *testing.T) {
	for by, bits := range map[int64]uint16{0: 0, 31: 0x7C, 32: 0x1000, 63: 0x107C} {
		checkIs(t, 0x8501|bits, api.Insn{Op: api.OpSrai, Rd: 10, Rs1: 10, Imm: by, Len: 2})
		checkIs(t, 0x8101|bits, api.Insn{Op: api.OpSrli, Rd: 10, Rs1: 10, Imm: by, Len: 2})
		checkIs(t, 0x0902|bits, api.Insn{Op: api.OpSlli, Rd: 18, Rs1: 18, Imm: by, Len: 2})
		checkIs(t, 0x0002|bits, api.Insn{Op: api.OpSlli, Imm: by, Len: 2})
	}
}

// The registers of three bits are 8 to 15.
func TestP52ShortRegisters(t *testing.T) {
	for _, r := range rows {
		for _, rr := range []int{0, 7} {
			for _, ss := range []int{0, 7} {
				h := r.make(rr, ss, 0x15)
				x := Half(h)
				for name, got := range map[string]int{r.rd: x.Rd, r.rs1: x.Rs1, r.rs2: x.Rs2} {
					if name == "R" && got != 8+rr || name == "S" && got != 8+ss {
						t.Errorf("%s: %04x: register %d", r.bits, h, got)
					}
				}
			}
		}
	}
	checkIs(t, 0x4004, api.Insn{Op: api.OpLw, Rd: 9, Rs1: 8, Len: 2})
	checkIs(t, 0x4380, api.Insn{Op: api.OpLw, Rd: 8, Rs1: 15, Len: 2})
	checkIs(t, 0x401C, api.Insn{Op: api.OpLw, Rd: 15, Rs1: 8, Len: 2})
}

// Whatever else stands in them, halves of a q and f that no row has are none.
func TestP52NoSuchForm(t *testing.T) {
	known := map[[2]int]bool{}
	for _, r := range rows {
		known[[2]int{r.q, r.f}] = true
	}
	many := 0
	for q := range 4 {
		for f := range 8 {
			if known[[2]int{q, f}] {
				continue
			}
			many++
			for middle := range uint16(1 << 11) {
				checkNone(t, uint16(f)<<13|middle<<2|uint16(q))
			}
		}
	}
	if many != 3+2+8 {
		t.Errorf("%d such", many)
	}
}

func TestP52NumberZeroIsNone(t *testing.T) {
	for s := range uint16(8) {
		checkNone(t, s<<2)
	}
	for r := range uint16(32) {
		checkNone(t, 0x6001|r<<7)
	}
	// A number that is not 0 is one for each register, 0 too.
	checkIs(t, 0x6005, api.Insn{Op: api.OpLui, Imm: 4096, Len: 2})
	checkIs(t, 0x6109, api.Insn{Op: api.OpAddi, Rd: 2, Rs1: 2, Imm: 128, Len: 2})
	checkIs(t, 0x6089, api.Insn{Op: api.OpLui, Rd: 1, Imm: 8192, Len: 2})
	checkIs(t, 0x6189, api.Insn{Op: api.OpLui, Rd: 3, Imm: 8192, Len: 2})
}

func TestP52RegisterZeroIsNone(t *testing.T) {
	for n := range uint16(64) {
		number := n&31<<2 | n>>5<<12
		checkNone(t, 0x2001|number)
		checkNone(t, 0x4002|number)
		checkNone(t, 0x6002|number)
	}
	// That it is none there, does not make it none elsewhere.
	checkIs(t, 0x0005, api.Insn{Op: api.OpAddi, Imm: 1, Len: 2})
	checkIs(t, 0x4005, api.Insn{Op: api.OpAddi, Imm: 1, Len: 2})
	checkIs(t, 0x0006, api.Insn{Op: api.OpSlli, Imm: 1, Len: 2})
	checkIs(t, 0xC002, api.Insn{Op: api.OpSw, Rs1: 2, Len: 2})
	checkIs(t, 0xE002, api.Insn{Op: api.OpSd, Rs1: 2, Len: 2})
}

func TestP52Pairs(t *testing.T) {
	for bit, ops := range [][]int{{api.OpSub, api.OpXor, api.OpOr, api.OpAnd}, {api.OpSubw, api.OpAddw, 0, 0}} {
		for by, op := range ops {
			h := 0x8C01 | uint16(bit)<<12 | uint16(by)<<5 | 3<<7 | 6<<2
			if op == 0 {
				checkNone(t, h)
				continue
			}
			checkIs(t, h, api.Insn{Op: op, Rd: 11, Rs1: 11, Rs2: 14, Len: 2})
		}
	}
}

func TestP52Moves(t *testing.T) {
	checkNone(t, 0x8002)
	checkIs(t, 0x9002, api.Insn{Op: api.OpEbreak, Len: 2})
	for r := range 32 {
		if r != 0 {
			checkIs(t, 0x8002|uint16(r)<<7, api.Insn{Op: api.OpJalr, Rs1: r, Len: 2})
			checkIs(t, 0x9002|uint16(r)<<7, api.Insn{Op: api.OpJalr, Rd: 1, Rs1: r, Len: 2})
		}
		for s := 1; s < 32; s++ {
			h := uint16(r)<<7 | uint16(s)<<2
			checkIs(t, 0x8002|h, api.Insn{Op: api.OpAdd, Rd: r, Rs2: s, Len: 2})
			checkIs(t, 0x9002|h, api.Insn{Op: api.OpAdd, Rd: r, Rs1: r, Rs2: s, Len: 2})
		}
	}
}

func TestP52Ends(t *testing.T) {
	checkNone(t, 0)
	checkNone(t, 0xFFFF)
}

// mixed are numbers of all kinds, always the same ones.
func mixed(many int) []uint32 {
	words := []uint32{0, 1, 2, 3, 0xFFFFFFFF, 0xFFFFFFFE, 0xFFFF0000, 0x0000FFFF, 0x80000000, 0x7FFFFFFF, 0x00010000}
	x := uint32(2463534242)
	for len(words) < many {
		x ^= x << 13
		x ^= x >> 17
		x ^= x << 5
		words = append(words, x)
	}
	return words
}

func TestP51Words(t *testing.T) {
	words := []uint32{0x00A50513, 0xFFF00093, 0x00000073, 0x00100073, 0x12B50073, 0xFEB51CE3, 0x00113C23, 0x100527AF, 0x00000003, 0xFFFFFFFF}
	for _, w := range append(words, mixed(100000)...) {
		w |= 3
		got := Any(w)
		if got != decode.Word(w) || got.Len != 4 {
			t.Fatalf("%08x: %+v, not %+v", w, got, decode.Word(w))
		}
	}
	if got, want := Any(0x00A50513), (api.Insn{Op: api.OpAddi, Rd: 10, Rs1: 10, Imm: 10, Len: 4}); got != want {
		t.Errorf("%+v", got)
	}
	if got, want := Any(0xFFFFFFFF), (api.Insn{Len: 4}); got != want {
		t.Errorf("%+v", got)
	}
}

// The higher half is no part of a half's instruction.
func TestP51Halves(t *testing.T) {
	higher := append(mixed(20), 0x00A50000, 0x00010000, 0x80000000)
	for h := range uint32(1 << 16) {
		if h&3 == 3 {
			continue
		}
		want := model(uint16(h))
		for _, up := range higher {
			if got := Any(up&0xFFFF0000 | h); got != want {
				t.Fatalf("%04x below %04x: %+v, not %+v", h, up>>16, got, want)
			}
		}
	}
}

// encoded is how a whole word of an op is written: its fixed bits, and its format (of field; 0 of none, 6 of a shift).
type encoded struct {
	fixed  uint32
	format int
}

var wholes = map[int]encoded{
	api.OpLui: {0x37, 4}, api.OpJal: {0x6F, 5}, api.OpJalr: {0x67, 1},
	api.OpBeq: {0x63, 3}, api.OpBne: {0x1063, 3},
	api.OpLw: {0x2003, 1}, api.OpLd: {0x3003, 1}, api.OpSw: {0x2023, 2}, api.OpSd: {0x3023, 2},
	api.OpAddi: {0x13, 1}, api.OpAndi: {0x7013, 1}, api.OpAddiw: {0x1B, 1},
	api.OpSlli: {0x1013, 6}, api.OpSrli: {0x5013, 6}, api.OpSrai: {0x40005013, 6},
	api.OpAdd: {0x33, 0}, api.OpSub: {0x40000033, 0}, api.OpXor: {0x4033, 0}, api.OpOr: {0x6033, 0}, api.OpAnd: {0x7033, 0},
	api.OpAddw: {0x3B, 0}, api.OpSubw: {0x4000003B, 0}, api.OpEbreak: {0x100073, 0},
}

// word is a whole word of an instruction.
func word(t *testing.T, x api.Insn) uint32 {
	t.Helper()
	as, ok := wholes[x.Op]
	if !ok {
		t.Fatalf("%+v: no such op", x)
	}
	w := as.fixed | uint32(x.Rd)<<7 | uint32(x.Rs1)<<15 | uint32(x.Rs2)<<20
	if as.format == 6 {
		return w | uint32(x.Imm)<<20
	}
	laid, ok := field.Lay(x.Imm, as.format)
	if as.format != 0 && !ok {
		t.Fatalf("%+v: no such number", x)
	}
	return w | laid
}

func TestP53EachHalfIsAWord(t *testing.T) {
	many := 0
	for h := range 1 << 16 {
		x := Half(uint16(h))
		if x.Len != 2 {
			t.Fatalf("%04x: Len %d", h, x.Len)
		}
		if x.Op == api.OpIllegal {
			if x != illegal {
				t.Fatalf("%04x: %+v", h, x)
			}
			continue
		}
		many++
		w := word(t, x)
		want := decode.Word(w)
		want.Len = 2
		if x != want {
			t.Fatalf("%04x: %+v, and %08x: %+v", h, x, w, want)
		}
	}
	if many == 0 {
		t.Error("no half is an instruction")
	}
}

func TestR6Again(t *testing.T) {
	for h := range 1 << 16 {
		first := Half(uint16(h))
		if first != Half(uint16(h)) || Any(uint32(h)) != Any(uint32(h)) {
			t.Fatalf("%04x: not the same again", h)
		}
	}
}
