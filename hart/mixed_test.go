package hart

import (
	"bytes"
	"testing"

	"suzerain/amo"
	"suzerain/api"
	"suzerain/decode"
	"suzerain/enc"
	"suzerain/space"
)

// keeper is one of the spaces that go on together, each with memory and what is reserved of its own.
type keeper struct {
	most int
	s    space.Space
	r    *amo.Res
}

// mixture goes on by words with bits all over, of a twin and of spaces that keep more leaves and less.
type mixture struct {
	t       *testing.T
	d       dice
	tw      twin
	keepers []keeper
	// known is what was in the tables last.
	known []byte
	// ops counts what was done, by its op, and faults those that there were, by their cause.
	ops    [98]int
	faults [16]int
}

// pick is one of some numbers.
func (x *mixture) pick(of ...uint64) uint64 {
	return of[x.d.next()%uint64(len(of))]
}

// newMixture has tables by which pages are here and there, of all flags, and one large leaf that the tables themselves are in.
func newMixture(t *testing.T, seed dice) *mixture {
	x := &mixture{t: t, d: seed}
	sc := paged(t, super)
	for i := range uint64(512) {
		flags := x.pick(system, open, system, open, system|g, open|g, open&^w, system&^d, v|x0|a, v|x0|u|a, 0, x.d.next()%256)
		sc.m.Put(base+0x3000+i*8, 8, x.pick(first, first+4, first+5, first+6, first+7, first+4, first+5, beyond)<<10|flags)
	}
	for i := range uint64(512) {
		if i%8 == 1 {
			sc.m.Put(base+0x2000+i*8, 8, first<<10|x.pick(system, open, open|g, open&^d))
		}
	}
	x.tw = twin{h: sc.h, m: sc.m}
	for _, most := range mosts {
		x.keepers = append(x.keepers, keeper{most, with(sc.m.Clone(), most), amo.Fresh()})
	}
	return x
}

// x0 is the flag X, where a mixture is x.
const x0 = 8

// address is one that is in memory, by the tables or without them, or near the end of a page, or anywhere.
func (x *mixture) address() uint64 {
	off := x.pick(0, 8, 0xFF8, 0xFFC, 0xFFE, 0xFFF, x.d.next()%4096, x.d.next()%512*8)
	at := x.pick(base, base, x.d.next()%512*4096, 0x200000, base+0x8000) + x.pick(0, 4, 5, 6, 7)*0x1000 + off
	return x.pick(at, at, at, at, at, at-1<<38, ends[x.d.next()%uint64(len(ends))])
}

// settle lets the hart mostly be where it can go on: else traps that lead nowhere, and waiting, would be most of what is done.
func (x *mixture) settle() {
	h := &x.tw.h
	if x.d.next()%8 == 0 {
		return
	}
	h.Wait = false
	for range 16 {
		if _, fault := x.tw.real(api.Fetch, h.Pc, 2); !fault.Is {
			return
		}
		h.Pc = x.address() &^ 1
	}
	h.C.Satp = x.pick(0, satp)
}

// stir lets the hart be another one that is legal.
func (x *mixture) stir() {
	h := &x.tw.h
	c := &h.C
	switch x.d.next() % 14 {
	case 0, 12:
		h.Priv = int(x.d.next() % 2)
	case 1:
		c.Satp = x.pick(0, satp, satp, satp, satp+1<<44, 8<<60+0xFFFF<<44+first+1, 8<<60+beyond, 8<<60+first+4)
	case 2:
		c.Status = x.d.next()
	case 3:
		c.Ip, c.Ie = x.d.next(), x.d.next()&x.d.next()
	case 4:
		c.Ip, c.Ie, h.Wait = x.d.next()&x.d.next(), x.pick(0, 2, 0x20, 0x22), x.d.next()%2 == 0
	case 5, 6, 7:
		h.Pc = x.address()
	case 8:
		c.Tvec = x.address()
	case 9:
		h.X[x.d.next()%32] = x.d.next()
	case 13:
		h.X[5] = base + x.pick(0, 0x4000, 0x5000) + x.d.next()%512*8
	default:
		h.X[5+x.d.next()%4] = x.address()
	}
	*h = Legal(*h)
	x.tw.id, x.tw.time = int(x.pick(0, 1, 1, 1, 2, x.d.next()%8)), x.d.next()
}

// word is one that is any, or any instruction, or any half.
func (x *mixture) word() uint32 {
	switch n := x.d.next(); n % 8 {
	case 0:
		return uint32(x.d.next())
	case 1, 2:
		return uint32(x.d.next())&^3 + uint32(n>>8%3)
	}
	if last := x.tw.in; (last.Op == api.OpLrw || last.Op == api.OpLrd) && x.d.next()%2 == 0 {
		// Else hardly any Sc would find what its hart has reserved.
		return lay(x.t, api.Insn{Op: last.Op + 1, Rd: 9, Rs1: last.Rs1, Rs2: 6})
	}
	for {
		reg := func() int { return int(x.pick(0, 5, 6, 7, 8, 5, 6, x.d.next()%32)) }
		in := api.Insn{Op: int(x.pick(x.d.next()%98, x.d.next()%98, x.d.next()%98, x.d.next()%98, 76+x.d.next()%22, api.OpLrw, api.OpLrd, api.OpEcall)), Len: 4}
		switch decode.Kind(in.Op) {
		case 12:
			in.Rd, in.Rs1, in.Imm = reg(), reg(), int64(x.pick(0x100, 0x104, 0x105, 0x106, 0x140, 0x141, 0x142, 0x143, 0x144, 0x180, 0xC00, 0xC01, 0xC02, x.d.next()%4096))
		case 11:
			if in.Op == api.OpSfence {
				in.Rs1, in.Rs2 = reg(), reg()
			}
		case 2, 4:
			in.Rs1, in.Rs2, in.Imm = reg(), reg(), int64(x.d.next()%32)*2-32
		case 1:
			in.Rd, in.Imm = reg(), int64(x.d.next()%64)*4096
			if in.Op == api.OpJalr {
				in.Rs1, in.Imm = reg(), int64(x.d.next()%64)-32
			}
		case 3, 5, 7:
			in.Rd, in.Rs1, in.Imm = reg(), reg(), int64(x.d.next()%64)-x.shift(in.Op)
		default:
			in.Rd, in.Rs1, in.Rs2 = reg(), reg(), reg()
			if in.Op == api.OpLrw || in.Op == api.OpLrd {
				in.Rs2 = 0
			}
		}
		if w, ok := enc.Word(in); ok {
			return w
		}
	}
}

// shift is how far below 0 a number may be: that of a shift not at all.
func (x *mixture) shift(op int) int64 {
	if op >= api.OpSlli && op <= api.OpSrai || op >= api.OpSlliw && op <= api.OpSraiw {
		return 0
	}
	return 32
}

// lay lets a word stand where the hart is, as far as that is anywhere.
func (x *mixture) lay() {
	w := x.word()
	for i := range uint64(2) {
		if at, fault := x.tw.real(api.Fetch, x.tw.h.Pc+2*i, 2); !fault.Is {
			half := uint64(w >> (16 * i) & 0xFFFF)
			x.tw.m.Put(at, 2, half)
			for _, k := range x.keepers {
				k.s.M.Put(at, 2, half)
			}
		}
	}
}

// tables is what the pages hold in which the tables are.
func (x *mixture) tables() []byte {
	b, _ := x.tw.m.Bytes(base+0x1000, 0x3000)
	return b
}

// fresh lets all leaves go that may be others than what the tables say.
func (x *mixture) fresh() {
	root, was := x.tw.h.C.Satp, x.known
	x.known = x.tables()
	if root>>60 == 0 || root&(1<<44-1) == first+1 {
		if bytes.Equal(was, x.known) {
			return
		}
	}
	for _, k := range x.keepers {
		if k.s.T != nil {
			k.s.T.Flush(true, 0, true, 0)
		}
	}
}

// together has a step done by all of them, and holds them against each other.
func (x *mixture) together() {
	x.t.Helper()
	h := x.tw.h
	out := x.tw.step()
	for _, k := range x.keepers {
		got, gotOut := Step(h, k.s, k.r, x.tw.id, x.tw.time)
		if got != x.tw.h || gotOut != out {
			x.t.Fatalf("keeping %d, %+v at %x by %d is %d, not %d, %s", k.most, x.tw.in, h.Pc, x.tw.id, gotOut, out, differ(got, x.tw.h))
		}
		if blocks(k.r) != x.tw.held {
			x.t.Fatalf("keeping %d, %+v at %x by %d leaves %+v reserved, not %+v", k.most, x.tw.in, h.Pc, x.tw.id, blocks(k.r), x.tw.held)
		}
	}
	if now := x.tw.h; Legal(now) != now {
		x.t.Fatalf("%+v at %x leaves one that is not legal: %s", x.tw.in, h.Pc, differ(now, Legal(now)))
	}
	switch cause := x.tw.h.C.Cause; {
	case x.tw.h.C.Instret != h.C.Instret:
		x.ops[x.tw.in.Op]++
	case out == done && cause < 16:
		x.faults[cause]++
	}
}

// memories holds those of all of them against each other.
func (x *mixture) memories() {
	x.t.Helper()
	want := image(x.tw.m)
	for _, k := range x.keepers {
		if !bytes.Equal(image(k.s.M), want) {
			x.t.Fatalf("keeping %d leaves another memory", k.most)
		}
	}
}

// P15.4: whatever the words, a legal hart stays one, and is what the twin is, whether leaves are kept or not, as long as they are as the tables say.
func TestP154Mixed(t *testing.T) {
	var ops [98]int
	var faults [16]int
	stands, hits := 0, 0
	for seed := range dice(60) {
		x := newMixture(t, 0x9E3779B97F4A7C15*(seed+1))
		for i := range 1024 {
			if x.d.next()%2 == 0 {
				x.stir()
			}
			x.settle()
			x.lay()
			x.fresh()
			most := x.keepers[len(x.keepers)-1].s.T
			c, walks := x.tw.h.C, most.Misses()
			x.together()
			if c.Satp>>60 == 8 && c.Instret != x.tw.h.C.Instret && walks == most.Misses() {
				hits++
			}
			x.fresh()
			if i%16 == 15 {
				x.memories()
			}
		}
		stands += x.tw.stands
		for i, n := range x.ops {
			ops[i] += n
		}
		for i, n := range x.faults {
			faults[i] += n
		}
	}
	for op := 1; op < 98; op++ {
		if ops[op] == 0 && op != api.OpEbreak {
			t.Errorf("the op %d was never done", op)
		}
	}
	for _, cause := range []int{1, 2, 3, 4, 5, 6, 7, 8, 12, 13, 15} {
		if faults[cause] == 0 {
			t.Errorf("there was no fault %d", cause)
		}
	}
	if stands < 10 || hits < 1000 {
		t.Errorf("%d Sc stood, and %d steps went by leaves that were kept alone", stands, hits)
	}
}

// P15.4: likewise of words that nobody laid, with the privileges, tables and traps that they make themselves.
func TestP154Free(t *testing.T) {
	for seed := range dice(60) {
		x := newMixture(t, 0xD1342543DE82EF95*(seed+1))
		x.keepers = x.keepers[:1]
		for at := uint64(base); at < base+0x8000; at += 4 {
			if at < base+0x1000 || at >= base+0x4000 {
				w := uint64(x.word())
				x.tw.m.Put(at, 4, w)
				x.keepers[0].s.M.Put(at, 4, w)
			}
		}
		for range 30 {
			h := &x.tw.h
			h.Pc, h.Priv, h.Wait, h.C.Satp, h.C.Tvec = base+x.d.next()%0x4000*2, int(x.d.next()%2), false, x.pick(0, satp), base+x.d.next()%0x4000
			*h = Legal(*h)
			for range 20 {
				x.together()
			}
		}
		x.memories()
	}
}
