package hart

import (
	"testing"

	"suzerain/api"
)

// access is a load or a store: how many bytes it has, and whether they are signed.
type access struct {
	op, n  int
	signed bool
}

var (
	loading = []access{{api.OpLb, 1, true}, {api.OpLh, 2, true}, {api.OpLw, 4, true}, {api.OpLd, 8, true}, {api.OpLbu, 1, false}, {api.OpLhu, 2, false}, {api.OpLwu, 4, false}}
	storing = []access{{api.OpSb, 1, false}, {api.OpSh, 2, false}, {api.OpSw, 4, false}, {api.OpSd, 8, false}}
)

// is is what a load of some bytes tells.
func (q access) is(b []byte) uint64 {
	var x uint64
	for i := range q.n {
		x += uint64(b[i]) << (8 * i)
	}
	if q.signed && b[q.n-1] >= 128 && q.n < 8 {
		x -= 1 << (8 * q.n)
	}
	return x
}

// data is where the numbers of a scene without a table stand.
const data = base + 0x1800

// P15.3: each load, told in numbers.
func TestP153LoadNumbers(t *testing.T) {
	for _, row := range []struct {
		op, imm int
		is      uint64
	}{
		{api.OpLb, 0, 1<<64 - 128}, {api.OpLbu, 0, 128}, {api.OpLb, 1, 0x7F}, {api.OpLbu, 1, 0x7F}, {api.OpLb, 2, ones}, {api.OpLbu, 2, 255},
		{api.OpLh, 0, 0x7F80}, {api.OpLhu, 0, 0x7F80}, {api.OpLh, 2, 0xFFFFFFFFFFFF80FF}, {api.OpLhu, 2, 0x80FF}, {api.OpLh, 1, 0xFFFFFFFFFFFFFF7F}, {api.OpLhu, 1, 0xFF7F},
		{api.OpLw, 0, 0xFFFFFFFF80FF7F80}, {api.OpLwu, 0, 0x80FF7F80}, {api.OpLw, 4, 0x04030201}, {api.OpLwu, 4, 0x04030201}, {api.OpLw, 1, 0x0180FF7F}, {api.OpLw, 3, 0x03020180},
		{api.OpLd, 0, 0x0403020180FF7F80}, {api.OpLd, -8, 0x8877665544332211}, {api.OpLd, -1, 0x03020180FF7F8088}, {api.OpLd, -7, 0x8088776655443322},
	} {
		sc := plain(t).bytes(data-8, 0x11, 0x22, 0x33, 0x44, 0x55, 0x66, 0x77, 0x88, 0x80, 0x7F, 0xFF, 0x80, 1, 2, 3, 4).reg(5, data)
		for _, rd := range []int{1, 5, 31} {
			sc := sc.op(t, api.Insn{Op: row.op, Rd: rd, Rs1: 5, Imm: int64(row.imm)})
			sc.check(t, sc.told(rd, row.is))
			sc.as(user).check(t, sc.as(user).told(rd, row.is))
		}
	}
}

// P15.3: each store, told by its bytes.
func TestP153StoreNumbers(t *testing.T) {
	b := []byte{0x88, 0x77, 0x66, 0x55, 0x44, 0x33, 0x22, 0x11}
	for _, q := range storing {
		for _, imm := range []int64{0, 1, 2, 3, 4, 5, 6, 7, -1, -3, -1024, 0x7E0} {
			sc := plain(t).reg(5, data).reg(6, 0x1122334455667788).op(t, api.Insn{Op: q.op, Rs1: 5, Rs2: 6, Imm: imm})
			want := sc.done(4)
			want.puts = []put{{uint64(data + imm), b[:q.n]}}
			sc.check(t, want)
			sc = sc.as(user)
			want.h.Priv = user
			sc.check(t, want)
		}
		// Of one register, and of X of 0.
		sc := plain(t).reg(5, data).op(t, api.Insn{Op: q.op, Rs1: 5, Rs2: 5})
		want := sc.done(4)
		want.puts = []put{{data, le(data, q.n)}}
		sc.check(t, want)
		sc = sc.op(t, api.Insn{Op: q.op, Rs1: 5})
		want.puts = []put{{data, le(0, q.n)}}
		sc.check(t, want)
	}
}

// P15.3: each load and store at each place about the end of a page, without a table, and at both ends of memory.
func TestP153AccessPlain(t *testing.T) {
	for _, from := range []uint64{base, base + 0x1000, base + 0x2000} {
		for off := range uint64(20) {
			va := from + off - 10
			sc := plain(t).reg(5, va+8).reg(6, 0x8182838485868788)
			for _, q := range loading {
				sc := sc.op(t, api.Insn{Op: q.op, Rd: 7, Rs1: 5, Imm: -8})
				sc.check(t, sc.loaded(q, va, 5, va))
			}
			for _, q := range storing {
				sc := sc.op(t, api.Insn{Op: q.op, Rs1: 5, Rs2: 6, Imm: -8})
				sc.check(t, sc.stored(q, va, 7, va))
			}
		}
	}
}

// fails is the first of some bytes that is not in memory, of which all are asked together where va is a multiple of n.
func (sc scene) fails(q access, va, at uint64) (uint64, bool) {
	end := base + uint64(sc.m.Pages())*4096
	for i := range uint64(q.n) {
		if at+i < base || at+i >= end {
			if va%uint64(q.n) == 0 {
				return va, true
			}
			return va + i, true
		}
	}
	return 0, false
}

// loaded is what a load of X 7 leaves whose bytes stand at one place, one behind another, and stored what a store of X 6 does; or their fault, where they are not in memory.
func (sc scene) loaded(q access, va, cause, at uint64) behind {
	if val, ok := sc.fails(q, va, at); ok {
		return sc.trap(cause, val)
	}
	return sc.told(7, q.is(image(sc.m)[at-base:]))
}

func (sc scene) stored(q access, va, cause, at uint64) behind {
	if val, ok := sc.fails(q, va, at); ok {
		return sc.trap(cause, val)
	}
	want := sc.done(4)
	want.puts = []put{{at, le(sc.h.X[6], q.n)}}
	for i, b := range want.res {
		for k := range uint64(q.n) {
			if i != sc.id && b.is && (at+k)/8 == b.at/8 {
				want.res[i] = block{}
			}
		}
	}
	return want
}

// P15.3: with a table, where a page is elsewhere, may be read or written or not, and is not there.
func TestP153AccessPaged(t *testing.T) {
	for _, row := range []struct {
		page, flags, bits uint64
		priv              int
		load, store       uint64
	}{
		{first + 6, system, 0, super, 0, 0}, {first + 6, system, 0, user, 13, 15}, {first + 6, open, 0, user, 0, 0}, {first + 6, open, 0, super, 13, 15},
		{first + 6, open, sum, super, 0, 0}, {first + 6, open &^ (w | d), sum, super, 0, 15}, {first + 6, system &^ w, 0, super, 0, 15}, {first + 6, system &^ d, 0, super, 0, 15},
		{first + 6, system &^ a, 0, super, 13, 15}, {first + 6, v | x | a, 0, super, 13, 15}, {first + 6, v | x | a, mxr, super, 0, 15}, {first + 6, v | x | u | a, mxr, user, 0, 15},
		{first + 6, v | x | u | a, mxr, super, 13, 15}, {first + 6, v | x | u | a, mxr | sum, super, 0, 15}, {first + 6, 0, sum | mxr, super, 13, 15}, {first + 6, v, 0, super, 13, 15},
		{beyond, system, 0, super, 5, 7}, {beyond, open, 0, user, 5, 7}, {0, system, 0, super, 5, 7}, {beyond, open, 0, super, 13, 15},
	} {
		for _, off := range []uint64{0, 8, 0x123, 0xFF8} {
			sc := paged(t, row.priv).entry(5, row.page, row.flags).status(row.bits).reg(5, 0x5000+off).reg(6, 0x8182838485868788)
			at := row.page<<12 + off
			for _, q := range loading {
				sc := sc.op(t, api.Insn{Op: q.op, Rd: 7, Rs1: 5})
				want := sc.trap(row.load, 0x5000+off)
				if row.load == 0 {
					want = sc.loaded(q, 0x5000+off, 0, at)
				}
				sc.check(t, want)
			}
			for _, q := range storing {
				sc := sc.op(t, api.Insn{Op: q.op, Rs1: 5, Rs2: 6})
				want := sc.trap(row.store, 0x5000+off)
				if row.store == 0 {
					want = sc.stored(q, 0x5000+off, 0, at)
				}
				sc.check(t, want)
			}
		}
	}
	for _, va := range []uint64{1 << 38, top, 1<<38 + 0x5000, 1<<64 - 1<<38 - 8} {
		sc := paged(t, super).reg(5, va)
		for _, q := range loading {
			sc := sc.op(t, api.Insn{Op: q.op, Rd: 7, Rs1: 5})
			sc.check(t, sc.trap(13, va))
		}
		for _, q := range storing {
			sc := sc.op(t, api.Insn{Op: q.op, Rs1: 5, Rs2: 6})
			sc.check(t, sc.trap(15, va))
		}
	}
}

// P15.3: over the end of a page whose neighbour is elsewhere in memory: virtual 5 and 6 are the pages 6 and 5.
func TestP153AccessOver(t *testing.T) {
	for _, n := range []int{2, 4, 8} {
		for split := 1; split < n; split++ {
			va := uint64(0x6000 - split)
			sc := paged(t, super).reg(5, va).reg(6, 0x8182838485868788)
			b := append(append([]byte{}, image(sc.m)[0x7000-split:0x7000]...), image(sc.m)[0x5000:0x5000+n-split]...)
			for _, q := range loading {
				if q.n == n {
					sc := sc.op(t, api.Insn{Op: q.op, Rd: 7, Rs1: 5})
					sc.check(t, sc.told(7, q.is(b)))
					sc = sc.entry(6, first+5, v|x|a)
					sc.check(t, sc.trap(13, 0x6000))
					sc = sc.entry(6, beyond, system)
					sc.check(t, sc.trap(5, 0x6000))
					sc = sc.entry(5, beyond, system)
					sc.check(t, sc.trap(5, va))
				}
			}
			x := le(0x8182838485868788, n)
			for _, q := range storing {
				if q.n == n {
					sc := sc.op(t, api.Insn{Op: q.op, Rs1: 5, Rs2: 6})
					want := sc.done(4)
					want.puts = []put{{base + 0x7000 - uint64(split), x[:split]}, {base + 0x5000, x[split:]}}
					sc.check(t, want)
					sc = sc.entry(6, first+5, system&^w)
					sc.check(t, sc.trap(15, 0x6000))
					sc = sc.entry(6, beyond, system)
					sc.check(t, sc.trap(7, 0x6000))
					sc = sc.entry(5, beyond, system)
					sc.check(t, sc.trap(7, va))
				}
			}
		}
	}
}

// P15.3: an address goes round the end of all.
func TestP153AccessRound(t *testing.T) {
	sc := plain(t).reg(5, 5).op(t, api.Insn{Op: api.OpLd, Rd: 7, Rs1: 5, Imm: -8})
	sc.check(t, sc.trap(5, ones-2))
	sc = plain(t).reg(5, ones).op(t, api.Insn{Op: api.OpSw, Rs1: 5, Rs2: 6, Imm: 9})
	sc.check(t, sc.trap(7, 8))
	sc = plain(t).reg(5, base-0x800).reg(6, 9).op(t, api.Insn{Op: api.OpSb, Rs1: 5, Rs2: 6, Imm: 0x7FF})
	sc.check(t, sc.trap(7, base-1))
	sc = paged(t, super).entry(511, first+6, system).entry(0, first+5, system).reg(5, 4).reg(6, 0x8182838485868788)
	q := sc.op(t, api.Insn{Op: api.OpSd, Rs1: 5, Rs2: 6, Imm: -7})
	want := q.done(4)
	want.puts = []put{{base + 0x6FFD, []byte{0x88, 0x87, 0x86}}, {base + 0x5000, []byte{0x85, 0x84, 0x83, 0x82, 0x81}}}
	q.check(t, want)
	q = sc.op(t, api.Insn{Op: api.OpLw, Rd: 7, Rs1: 5, Imm: -5}).bytes(base+0x6FFF, 1).bytes(base+0x5000, 2, 3, 0x84)
	q.check(t, q.told(7, 0xFFFFFFFF84030201))
}

// P15.3: a store ends what other harts have reserved where one of its bytes is, and nothing else; a load ends nothing, nor does a store that faults.
func TestP153StoreEnds(t *testing.T) {
	start := base + uint64(0x1000)
	for id := range 8 {
		for off := range uint64(64) {
			for _, q := range storing {
				sc := plain(t).reg(5, start+off).reg(6, 1).op(t, api.Insn{Op: q.op, Rs1: 5, Rs2: 6})
				sc.id = id
				want := sc.stored(q, start+off, 7, start+off)
				for i := range 8 {
					gone := want.res[i] == block{}
					lower, upper := uint64(i)*8, uint64(i)*8+8
					if gone != (i != id && off < upper && off+uint64(q.n) > lower) {
						t.Fatal("the test itself is off")
					}
				}
				r := sc.r.Clone()
				h, out := Step(sc.h, with(sc.m.Clone(), -1), r, id, 0)
				if h != want.h || out != done || blocks(r) != want.res {
					t.Errorf("%d bytes at %x by %d: %+v reserved, not %+v; %s", q.n, off, id, blocks(r), want.res, differ(h, want.h))
				}
			}
		}
		for _, q := range loading {
			sc := plain(t).reg(5, start+4).op(t, api.Insn{Op: q.op, Rd: 7, Rs1: 5})
			sc.id = id
			sc.check(t, sc.loaded(q, start+4, 5, start+4))
		}
	}
	sc := plain(t).reg(5, base+0x2000-4).op(t, api.Insn{Op: api.OpSd, Rs1: 5})
	sc.r.Set(3, base+0x2000-8)
	sc.check(t, sc.trap(7, base+0x2000))
}

// P15.3: what a store ends is where its bytes really are, in both pages.
func TestP153StoreEndsReal(t *testing.T) {
	sc := paged(t, super).reg(5, 0x5FFC).reg(6, 1).op(t, api.Insn{Op: api.OpSd, Rs1: 5, Rs2: 6})
	for i, at := range []uint64{0x5FF8, 0x6000, base + 0x6FF8, base + 0x7000, base + 0x5000, base + 0x5FF8, base + 0x6000, base + 0x5008} {
		sc.r.Set(i, at)
	}
	want := sc.done(4)
	want.puts = []put{{base + 0x6FFC, []byte{1, 0, 0, 0}}, {base + 0x5000, []byte{0, 0, 0, 0}}}
	want.res[4] = block{}
	// The hart's own stays.
	want.res[sc.id] = block{base + 0x6FF8, true}
	sc.check(t, want)
	sc.id = 4
	want.res[4], want.res[2] = block{base + 0x5000, true}, block{}
	sc.check(t, want)
	sc.id = 0
	want.res[4] = block{}
	sc.check(t, want)
}
