package hart

import (
	"testing"

	"suzerain/api"
)

// The atomic ops, as far as they are from Lr.
const (
	amoLr = iota
	amoSc
	amoSwap
	amoAdda
	amoXora
	amoAnda
	amoOra
	amoMina
	amoMaxa
	amoMinua
	amoMaxua
)

// atomics are the ops of so many bytes, from Lr on.
var atomics = map[int]int{4: api.OpLrw, 8: api.OpLrd}

// sign is what a number of n bytes is with its sign.
func sign(x uint64, n int) int64 {
	if n == 4 {
		return int64(int32(x))
	}
	return int64(x)
}

// left is what one of the ops behind Sc leaves, of n bytes, that found old.
func left(which, n int, old, b uint64) uint64 {
	oldIsLess := sign(old, n) < sign(b, n)
	if which >= amoMinua {
		mask := uint64(ones) >> (64 - 8*n)
		oldIsLess = old&mask < b&mask
	}
	switch which {
	case amoSwap:
		return b
	case amoAdda:
		return old + b
	case amoXora:
		return old ^ b
	case amoAnda:
		return old & b
	case amoOra:
		return old | b
	}
	if oldIsLess == (which == amoMina || which == amoMinua) {
		return old
	}
	return b
}

// insn is an atomic one: of X 5 and X 6 to X 7.
func insn(which, n int) api.Insn {
	in := api.Insn{Op: atomics[n] + which, Rd: 7, Rs1: 5, Rs2: 6}
	if which == amoLr {
		in.Rs2 = 0
	}
	return in
}

// P15.3: each op behind Sc, of 4 and 8 bytes, of all pairs of ends: what it tells and leaves, and what it ends.
func TestP153Exchange(t *testing.T) {
	for n := range atomics {
		for which := amoSwap; which <= amoMaxua; which++ {
			at := uint64(base + 0x1018)
			for i, old := range ends {
				for j, b := range ends {
					at ^= uint64(n) & 4
					sc := plain(t).reg(5, at).reg(6, b).op(t, insn(which, n)).bytes(at, le(old, n)...)
					if (i+j)%4 == 0 {
						sc = sc.as(user)
					}
					want := sc.told(7, uint64(sign(old, n)))
					memory := image(sc.m)
					copy(memory[at-base:], le(left(which, n, old, b), n))
					want.res[3] = block{}
					r := sc.r.Clone()
					h, out := Step(sc.h, with(sc.m, -1), r, sc.id, sc.time)
					if h != want.h || out != done || blocks(r) != want.res || string(image(sc.m)) != string(memory) {
						t.Errorf("the op %d of %d bytes, of %x, %x: %d, %sc", which, n, old, b, out, differ(h, want.h))
					}
				}
			}
		}
	}
}

// P15.3: told in numbers.
func TestP153ExchangeNumbers(t *testing.T) {
	for _, row := range []struct {
		w                 uint32
		old, b, told, new uint64
	}{
		{0x0862A3AF, 0x1122334455667788, 0xAABBCCDDEEFF0011, 0x55667788, 0x11223344EEFF0011}, {0x0062A3AF, 0x11223344FFFFFFFF, 1, ones, 0x1122334400000000},
		{0x2062A3AF, 0xF0, 0xFF, 0xF0, 0x0F}, {0x6062A3AF, 0xF0F0F0F0F0, 0xFF, 0xFFFFFFFFF0F0F0F0, 0xF0000000F0}, {0x4062A3AF, 0x80000000, 1, 0xFFFFFFFF80000000, 0x80000001},
		{0x8062A3AF, 0x80000000, 1, 0xFFFFFFFF80000000, 0x80000000}, {0xA062A3AF, 0x80000000, 1, 0xFFFFFFFF80000000, 1}, {0xC062A3AF, 0x80000000, 1, 0xFFFFFFFF80000000, 1}, {0xE062A3AF, 0x80000000, 1, 0xFFFFFFFF80000000, 0x80000000},
		{0x0862B3AF, 3, ones, 3, ones}, {0x0062B3AF, ones, 1, ones, 0}, {0x2062B3AF, ones, 1, ones, ones - 1}, {0x6062B3AF, ones, 0x10, ones, 0x10}, {0x4062B3AF, 1, top, 1, top + 1},
		{0x8062B3AF, 1, ones, 1, ones}, {0xA062B3AF, 1, ones, 1, 1}, {0xC062B3AF, 1, ones, 1, 1}, {0xE062B3AF, 1, ones, 1, ones},
		// With what bits 25 and 26 say.
		{0x0062B3AF | 3<<25, 5, 6, 5, 11},
	} {
		sc := plain(t).reg(5, data).reg(6, row.b).word(row.w).bytes(data, le(row.old, 8)...)
		want := sc.told(7, row.told)
		want.puts = []put{{data, le(row.new, 8)}}
		sc.check(t, want)
	}
}

// P15.3: a register that is told is the one of the address, or of the number, and is read ahead.
func TestP153ExchangeSame(t *testing.T) {
	for n := range atomics {
		for which := amoSwap; which <= amoMaxua; which++ {
			for _, rd := range []int{0, 5, 6} {
				in := insn(which, n)
				in.Rd = rd
				sc := plain(t).reg(5, data).reg(6, 0x8081828384858687).bytes(data, le(0x9192939495969798, 8)...).op(t, in)
				want := sc.done(4)
				if rd != 0 {
					want.h.X[rd] = uint64(sign(0x9192939495969798, n))
				}
				want.puts = []put{{data, le(left(which, n, 0x9192939495969798, 0x8081828384858687), n)}}
				sc.check(t, want)
			}
			in := insn(which, n)
			in.Rs2 = 5
			sc := plain(t).reg(5, data).bytes(data, le(7, 8)...).op(t, in)
			want := sc.told(7, 7)
			want.puts = []put{{data, le(left(which, n, 7, data), n)}}
			sc.check(t, want)
		}
	}
}

// P15.3: Lr tells what stands there, and reserves its block in the stead of the one that the hart has; no other is touched.
func TestP153Reserve(t *testing.T) {
	for n := range atomics {
		for off := uint64(0); off < 32; off += uint64(n) {
			for id := range 8 {
				for _, old := range []uint64{0, 0x7FFFFFFF, 0x80000000, 0x1234567880000001, ones} {
					sc := plain(t).reg(5, data+off).op(t, insn(amoLr, n)).bytes(data+off, le(old, n)...)
					sc.id = id
					want := sc.told(7, uint64(sign(old, n)))
					want.res[id] = block{data + off&^7, true}
					r := sc.r.Clone()
					h, out := Step(sc.h, with(sc.m, -1), r, id, sc.time)
					if h != want.h || out != done || blocks(r) != want.res {
						t.Errorf("%d bytes at %x by %d: %d, %+v, %sc", n, off, id, out, blocks(r), differ(h, want.h))
					}
				}
			}
		}
		sc := plain(t).reg(5, data).op(t, insn(amoLr, n))
		sc.r.Set(4, data)
		old, _ := sc.m.Get(data, n)
		want := sc.told(7, uint64(sign(old, n)))
		want.res[2] = block{data, true}
		sc.check(t, want)
		sc = sc.as(user)
		want.h.Priv = user
		sc.check(t, want)
	}
}

// P15.3: Sc that stands stores, and ends others' reservations; one that does not tells 1, and stores nothing; the hart has no reservation behind either.
func TestP153Conditional(t *testing.T) {
	for n := range atomics {
		for off := uint64(0); off < 32; off += uint64(n) {
			for held := uint64(0); held < 32; held += 4 {
				sc := plain(t).reg(5, data+off).reg(6, 0x8182838485868788).op(t, insn(amoSc, n))
				sc.r.Set(sc.id, data+held)
				sc.r.Set(0, data+off)
				sc.r.Set(7, data+held)
				sc.r.Set(3, data+(off+8)%32)
				want := sc.told(7, 1)
				want.res[sc.id] = block{}
				if off/8 == held/8 {
					want.h.X[7] = 0
					want.puts = []put{{data + off, le(0x8182838485868788, n)}}
					want.res[0], want.res[7] = block{}, block{}
				}
				sc.check(t, want)
				sc = sc.as(user)
				want.h.Priv = user
				sc.check(t, want)
			}
		}
		// Without any, and where another hart alone has one.
		sc := plain(t).reg(5, data).op(t, insn(amoSc, n))
		sc.r.Take(sc.id, 0)
		sc.r.Set(1, data)
		want := sc.told(7, 1)
		sc.check(t, want)
		// Rd that is the number, the address, or X of 0.
		for _, rd := range []int{0, 5, 6} {
			in := insn(amoSc, n)
			in.Rd = rd
			sc := plain(t).reg(5, data).reg(6, 0x8182838485868788).op(t, in)
			sc.r.Set(sc.id, data)
			want := sc.told(rd, 0)
			want.res[sc.id] = block{}
			want.puts = []put{{data, le(0x8182838485868788, n)}}
			sc.check(t, want)
			sc.r.Set(sc.id, data+8)
			want = sc.told(rd, min(1, uint64(rd)))
			want.res[sc.id] = block{}
			sc.check(t, want)
		}
	}
}

// P15.3: Lr and Sc with what is between them: one'sc own store leaves the reservation, another'sc ends it, and so does a Sc.
func TestP153Between(t *testing.T) {
	for n := range atomics {
		for _, row := range []struct {
			between api.Insn
			by      int
			is      uint64
		}{
			{api.Insn{Op: api.OpAddi}, 2, 0}, {api.Insn{Op: api.OpSb, Rs1: 5, Rs2: 6}, 2, 0}, {api.Insn{Op: api.OpSb, Rs1: 5, Rs2: 6}, 3, 1}, {api.Insn{Op: api.OpSb, Rs1: 5, Rs2: 6, Imm: 7}, 3, 1},
			{api.Insn{Op: api.OpSb, Rs1: 5, Rs2: 6, Imm: 8}, 3, 0}, {api.Insn{Op: api.OpSd, Rs1: 5, Rs2: 6, Imm: -7}, 3, 1}, {api.Insn{Op: api.OpSd, Rs1: 5, Rs2: 6, Imm: -8}, 3, 0}, {api.Insn{Op: api.OpLd, Rd: 7, Rs1: 5}, 3, 0},
			{insn(amoAdda, 4), 3, 1}, {insn(amoAdda, 8), 3, 1}, {insn(amoAdda, 8), 2, 0}, {insn(amoLr, 4), 3, 0}, {insn(amoSc, 4), 2, 1}, {insn(amoSc, 4), 3, 0}, {api.Insn{Op: api.OpIllegal}, 3, 0}, {api.Insn{Op: api.OpEcall}, 2, 0},
		} {
			sc := plain(t).reg(5, data).reg(6, 1)
			at := with(sc.m, -1)
			play := func(in api.Insn, id int) api.Hart {
				w := uint32(ones & 0xFFFFFFFF)
				if in.Op != api.OpIllegal {
					w = lay(t, in)
				}
				sc.m.Put(code, 4, uint64(w))
				h, _ := Step(sc.h, at, sc.r, id, 0)
				return h
			}
			play(insn(amoLr, n), 2)
			play(row.between, row.by)
			if h := play(insn(amoSc, n), 2); h.X[7] != row.is {
				t.Errorf("%+v by %d: Sc of %d bytes tells %d", row.between, row.by, n, h.X[7])
			}
		}
	}
}

// P15.3: of an address that is no multiple, whatever stands there, and whoever may: nothing is done, and what is reserved stays.
func TestP153Misaligned(t *testing.T) {
	for n := range atomics {
		for which := amoLr; which <= amoMaxua; which++ {
			cause := uint64(6)
			if which == amoLr {
				cause = 4
			}
			for off := range uint64(16) {
				if off%uint64(n) == 0 {
					continue
				}
				for _, sc := range []scene{plain(t).reg(5, data+off), plain(t).reg(5, off), plain(t).reg(5, ones-15+off), paged(t, super).reg(5, 0x7000+off), paged(t, user).reg(5, 1<<38+off)} {
					sc = sc.op(t, insn(which, n))
					sc.r.Set(sc.id, data)
					sc.check(t, sc.trap(cause, sc.h.X[5]))
				}
			}
			if n == 4 {
				sc := plain(t).reg(5, data+4).op(t, insn(which, n))
				if h, _ := Step(sc.h, with(sc.m, -1), sc.r, 0, 0); h.C.Instret != 51 {
					t.Errorf("the op %d at a multiple of 4: %+v", which, h.C)
				}
			}
		}
	}
}

// P15.3: the faults of an address: Lr'sc are a load'sc, the others' a store'sc, also of those that would not store.
func TestP153AtomicFaults(t *testing.T) {
	for n := range atomics {
		for which := amoLr; which <= amoMaxua; which++ {
			check := func(sc scene, load, store uint64) {
				t.Helper()
				sc = sc.op(t, insn(which, n))
				sc.r.Set(sc.id, base+0x6000)
				cause := store
				if which == amoLr {
					cause = load
				}
				want := sc.trap(cause, sc.h.X[5])
				if cause == 0 {
					want = sc.atomically(which, n, base+0x6008)
				}
				sc.check(t, want)
			}
			for _, at := range []uint64{0, 8, base - 8, base + 0x2000, ones - 7, base + 1<<32} {
				check(plain(t).reg(5, at), 5, 7)
				check(plain(t).as(user).reg(5, at), 5, 7)
			}
			for _, row := range []struct {
				page, flags, bits uint64
				priv              int
				load, store       uint64
			}{
				{first + 6, system, 0, super, 0, 0}, {first + 6, open, 0, user, 0, 0}, {first + 6, open, sum, super, 0, 0}, {first + 6, open, 0, super, 13, 15}, {first + 6, system, 0, user, 13, 15},
				{first + 6, system &^ w, 0, super, 0, 15}, {first + 6, system &^ d, 0, super, 0, 15}, {first + 6, system &^ a, 0, super, 13, 15}, {first + 6, v | x | a, 0, super, 13, 15}, {first + 6, v | x | a, mxr, super, 0, 15},
				{first + 6, 0, 0, super, 13, 15}, {beyond, system, 0, super, 5, 7}, {beyond, system, 0, user, 13, 15},
			} {
				check(paged(t, row.priv).entry(5, row.page, row.flags).status(row.bits).reg(5, 0x5008), row.load, row.store)
			}
			check(paged(t, super).reg(5, 1<<38), 13, 15)
			check(paged(t, super).reg(5, 0x7000), 13, 15)
		}
	}
}

// atomically is what an atomic op leaves that works at a real address, where nobody but the hart has reserved anything.
func (sc scene) atomically(which, n int, at uint64) behind {
	old, _ := sc.m.Get(at, n)
	want := sc.told(7, uint64(sign(old, n)))
	switch {
	case which == amoLr:
		want.res[sc.id] = block{at &^ 7, true}
	case which == amoSc:
		want.h.X[7] = 1
		if want.res[sc.id].at == at&^7 {
			want.h.X[7] = 0
			want.puts = []put{{at, le(sc.h.X[6], n)}}
		}
		want.res[sc.id] = block{}
	default:
		want.puts = []put{{at, le(left(which, n, old, sc.h.X[6]), n)}}
	}
	return want
}

// P15.3: what is reserved, and ended, is where the address really is.
func TestP153AtomicReal(t *testing.T) {
	for n := range atomics {
		sc := paged(t, super).reg(5, 0x5008).reg(6, 9).op(t, insn(amoLr, n))
		sc.check(t, sc.atomically(amoLr, n, base+0x6008))
		for i, at := range []uint64{base + 0x6008, 0x5008, base + 0x5008, base + 0x6010, base + 0x6000} {
			sc.r.Set(i+3, at)
		}
		for which := amoSc; which <= amoMaxua; which++ {
			sc := sc.op(t, insn(which, n))
			sc.r.Set(sc.id, base+0x6008)
			want := sc.atomically(which, n, base+0x6008)
			want.res[3] = block{}
			sc.check(t, want)
		}
	}
}
