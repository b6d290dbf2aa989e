package csr

import (
	"math"
	"testing"

	"suzerain/api"
)

// doer is an op: which of w, s and c it is, and whether it has an i.
type doer struct {
	op     int
	letter byte
	number bool
}

var doers = []doer{
	{api.OpCsrrw, 'w', false}, {api.OpCsrrs, 's', false}, {api.OpCsrrc, 'c', false},
	{api.OpCsrrwi, 'w', true}, {api.OpCsrrsi, 's', true}, {api.OpCsrrci, 'c', true},
}

// otherOps are all ops of other kinds, and numbers that no op has.
func otherOps() []int {
	out := []int{-1, -70, -75, 98, 99, 128, 256 + 70, 1<<32 + 70, -1<<32 + 75, math.MinInt, math.MinInt + 70, math.MaxInt}
	for op := range 98 {
		if op < 70 || op > 75 {
			out = append(out, op)
		}
	}
	return out
}

// call is one call of Do.
type call struct {
	r    row
	priv int
	time uint64
	x    api.Insn
	rs1  uint64
}

func checkDo(t *testing.T, y call, want row, told uint64, ok bool) {
	t.Helper()
	d, n, may := Do(y.r.csrs(), y.priv, y.time, y.x, y.rs1)
	if rowOf(d) != want || n != told || may != ok {
		t.Errorf("Do of %#x: %#x, %#x, %t, not %#x, %#x, %t", y, rowOf(d), n, may, want, told, ok)
	}
}

// becomes is what is written, bit by bit.
func (d doer) becomes(told, y uint64) uint64 {
	var out uint64
	for i := range 64 {
		old, bit := told>>i&1, y>>i&1
		switch {
		case d.letter == 'w' && bit == 1, d.letter == 's' && old+bit > 0, d.letter == 'c' && old > bit:
			out |= 1 << i
		}
	}
	return out
}

// P9.3: each of w, s and c, with bits that tell them apart, by register and by number.
func TestP93Letters(t *testing.T) {
	for _, x := range []struct {
		op   int
		want uint64
	}{
		{api.OpCsrrw, 0xFF00FF00FF00FF0A}, {api.OpCsrrs, 0xFFF0FFF0FFF0FFFE}, {api.OpCsrrc, 0x00F000F000F000F4},
		{api.OpCsrrwi, 10}, {api.OpCsrrsi, 0xF0F0F0F0F0F0F0FE}, {api.OpCsrrci, 0xF0F0F0F0F0F0F0F4},
	} {
		r := kept(true)
		r[atScratch] = 0xF0F0F0F0F0F0F0FC
		want := r
		want[atScratch] = x.want
		checkDo(t, call{r, api.Super, 9, api.Insn{Op: x.op, Rd: 4, Rs1: 10, Rs2: 3, Imm: 0x140, Len: 4}, 0xFF00FF00FF00FF0A}, want, r[atScratch], true)
	}
}

// P9.3: each op of each register that is written, of each row, against the chapter bit by bit; of an Rs1 of 0 s and c write nothing, and so leave even what is not legal.
func TestP93Written(t *testing.T) {
	for _, r := range rows() {
		for _, k := range written {
			for _, d := range doers {
				for _, rs1 := range samples() {
					y := rs1
					if d.number {
						y = 21
					}
					told := r[k.field]
					x := api.Insn{Op: d.op, Rs1: 21, Imm: int64(k.number)}
					checkDo(t, call{r, api.Super, 9, x, rs1}, r.writes(k.field, d.becomes(told, y)), told, true)
					x.Rs1 = 0
					want := r
					if d.letter == 'w' {
						if d.number {
							y = 0
						}
						want = r.writes(k.field, y)
					}
					checkDo(t, call{r, api.Super, 9, x, rs1}, want, told, true)
				}
			}
		}
	}
}

// P9.3: y of those with i is the number that Rs1 is, each of the 32, and what stands in the register does not count; of the others Rs1 does not count, but for 0.
func TestP93Numbers(t *testing.T) {
	for _, d := range doers {
		for rs1 := range 32 {
			for _, value := range []uint64{0, 1, 0x123456789ABCDEF0, ones} {
				r := kept(true)
				y := value
				if d.number {
					y = uint64(rs1)
				}
				want := r
				if d.letter == 'w' || rs1 != 0 {
					want[atScratch] = d.becomes(r[atScratch], y)
				}
				checkDo(t, call{r, api.Super, 0, api.Insn{Op: d.op, Rs1: rs1, Imm: 0x140}, value}, want, r[atScratch], true)
			}
		}
	}
}

// P9.3: an Rs1 that no word has is a number too, modulo 2^64.
func TestP93NumbersBeyond(t *testing.T) {
	for _, x := range []struct {
		rs1 int
		y   uint64
	}{{-1, ones}, {32, 32}, {1 << 32, 1 << 32}, {math.MinInt, top}, {math.MaxInt, top - 1}} {
		r := kept(true)
		want := r
		want[atTval] = x.y
		checkDo(t, call{r, api.Super, 0, api.Insn{Op: api.OpCsrrwi, Rs1: x.rs1, Imm: 0x143}, 5}, want, r[atTval], true)
		want[atTval] = r[atTval] | x.y
		checkDo(t, call{r, api.Super, 0, api.Insn{Op: api.OpCsrrsi, Rs1: x.rs1, Imm: 0x143}, 5}, want, r[atTval], true)
		want[atTval] = r[atTval] &^ x.y
		checkDo(t, call{r, api.Super, 0, api.Insn{Op: api.OpCsrrci, Rs1: x.rs1, Imm: 0x143}, 5}, want, r[atTval], true)
	}
}

// P9.3: the counters are told to who may read them, by the ops that write nothing, and refused else.
func TestP93Counters(t *testing.T) {
	const time = 0x1234567890
	for _, counteren := range counterens() {
		r := kept(true)
		r[atCounteren] = counteren
		for i, k := range counted {
			told := uint64(time)
			if k.field != noField {
				told = r[k.field]
			}
			for _, d := range doers {
				for _, rs1 := range []int{0, 1, 31, -1} {
					for _, value := range []uint64{0, 6, ones} {
						for _, priv := range []int{api.User, api.Super} {
							ok := d.letter != 'w' && rs1 == 0 && (priv == api.Super || counteren>>i&1 == 1)
							want := told
							if !ok {
								want = 0
							}
							checkDo(t, call{r, priv, time, api.Insn{Op: d.op, Rs1: rs1, Imm: int64(k.number)}, value}, r, want, ok)
						}
					}
				}
			}
		}
	}
}

// P9.3: a user, and a privilege that is none, is refused what a supervisor may.
func TestP93OthersRefused(t *testing.T) {
	for _, r := range rows() {
		for _, priv := range append([]int{api.User}, strangePrivs...) {
			for _, d := range doers {
				for _, rs1 := range []int{0, 7} {
					for _, k := range written {
						checkDo(t, call{r, priv, 9, api.Insn{Op: d.op, Rs1: rs1, Imm: int64(k.number)}, 3}, r, 0, false)
					}
				}
			}
		}
		for _, priv := range strangePrivs {
			for _, k := range counted {
				checkDo(t, call{r, priv, 9, api.Insn{Op: api.OpCsrrs, Imm: int64(k.number)}, 3}, r, 0, false)
			}
		}
	}
}

// P9.3: numbers that are none are refused, and so are ops of other kinds.
func TestP93NoneRefused(t *testing.T) {
	for _, r := range rows() {
		for _, priv := range []int{api.User, api.Super} {
			for _, rs1 := range []int{0, 7} {
				for _, d := range doers {
					for _, number := range strange {
						checkDo(t, call{r, priv, 9, api.Insn{Op: d.op, Rs1: rs1, Imm: int64(number)}, 3}, r, 0, false)
					}
				}
				for _, op := range otherOps() {
					for _, k := range append(written[:len(written):len(written)], counted...) {
						checkDo(t, call{r, priv, 9, api.Insn{Op: op, Rs1: rs1, Imm: int64(k.number)}, 3}, r, 0, false)
					}
				}
			}
		}
	}
}

// P9.3: what is told is what was ahead of the write, and Satp that is refused is told and stays.
func TestP93Told(t *testing.T) {
	r := kept(true)
	told := r[atSatp]
	checkDo(t, call{r, api.Super, 0, api.Insn{Op: api.OpCsrrw, Rs1: 5, Imm: 0x180}, 9 << 60}, r, told, true)
	checkDo(t, call{r, api.Super, 0, api.Insn{Op: api.OpCsrrs, Rs1: 5, Imm: 0x180}, 1 << 60}, r, told, true)
	want := r
	want[atSatp] = 0
	checkDo(t, call{r, api.Super, 0, api.Insn{Op: api.OpCsrrw, Imm: 0x180}, 0}, want, told, true)
	// Rd counts for nothing here: 0 tells and writes as any other.
	for rd := range 32 {
		checkDo(t, call{r, api.Super, 0, api.Insn{Op: api.OpCsrrw, Rd: rd, Imm: 0x180}, 0}, want, told, true)
	}
}

// P9.4: a legal row stays one behind whatever is done, one instruction behind another, and no other field is changed.
func TestP94DoStaysLegal(t *testing.T) {
	for _, c := range []api.Csrs{Fresh(), kept(true).csrs(), Legal(filled(ones).csrs())} {
		for _, value := range samples() {
			for _, k := range written {
				for _, d := range doers {
					was := rowOf(c)
					next, _, ok := Do(c, api.Super, 0, api.Insn{Op: d.op, Rs1: int(value % 32), Imm: int64(k.number)}, value)
					if !ok || Legal(next) != next {
						t.Fatalf("%+v of %#x with %#x: %#x, %t", d, k.number, value, rowOf(next), ok)
					}
					was[k.field] = rowOf(next)[k.field]
					if rowOf(next) != was {
						t.Fatalf("%+v of %#x changed others: %#x", d, k.number, rowOf(next))
					}
					c = next
				}
			}
		}
	}
}
