package hart

import (
	"testing"

	"suzerain/api"
)

// interrupts is the scene with some bits of Ip and of Ie.
func (sc scene) interrupts(ip, ie uint64) scene {
	sc.h.C.Ip, sc.h.C.Ie = ip, ie
	return sc
}

// waiting is the scene whose hart waits.
func (sc scene) waiting() scene {
	sc.h.Wait = true
	return sc
}

// none are bits of Ip and Ie of which none wakes.
var none = [][2]uint64{{0, 0}, {0x22, 0}, {0, 0x222}, {2, 0x20}, {0x20, 2}, {2, 0x220}, {0x20, 0x202}, {0x222, 0x200}, {0x200, 0x222}}

// some are bits of Ip and Ie, and the interrupt that goes ahead.
var some = []struct{ ip, ie, cause uint64 }{
	{2, 2, 1}, {2, 0x222, 1}, {0x22, 2, 1}, {0x22, 0x22, 1}, {0x20, 0x20, 5}, {0x20, 0x22, 5}, {0x22, 0x20, 5}, {0x22, 0x220, 5},
}

// P15.2: who waits, and has no interrupt that is there and enabled, is as it was, wherever it is.
func TestP152Waits(t *testing.T) {
	for _, pair := range none {
		for _, priv := range []int{user, super} {
			for _, bits := range []uint64{0, sie, sie | spie | spp} {
				for _, sc := range []scene{plain(t).op(t, addi), plain(t).pc(0), paged(t, super).op(t, addi), paged(t, super).pc(ones - 1)} {
					sc = sc.as(priv).status(bits).interrupts(pair[0], pair[1]).waiting()
					sc.check(t, behind{h: sc.h, out: waited, res: blocks(sc.r)})
					s := with(sc.m, 8)
					Step(sc.h, s, sc.r, sc.id, sc.time)
					if s.T.Misses() != 0 {
						t.Error("who waits fetched")
					}
				}
			}
		}
	}
}

// P15.2: who waits wakes by an interrupt that is there and enabled, and goes on if it does not take it.
func TestP152Wakes(t *testing.T) {
	for _, row := range some {
		sc := plain(t).op(t, addi).interrupts(row.ip, row.ie).waiting().reg(10, 5)
		sc.check(t, sc.told(10, 15))
		sc = plain(t).half(0).interrupts(row.ip, row.ie).waiting()
		sc.check(t, sc.trap(2, 0))
		sc = plain(t).op(t, api.Insn{Op: api.OpWfi}).interrupts(row.ip, row.ie).waiting()
		want := sc.done(4)
		want.h.Wait = true
		sc.check(t, want)
		for _, sc := range []scene{plain(t).status(sie), plain(t).as(user), plain(t).as(user).status(sie)} {
			sc = sc.op(t, addi).interrupts(row.ip, row.ie).waiting()
			sc.check(t, sc.trap(top+row.cause, 0))
		}
	}
}

// P15.2: an interrupt is taken by a user, and by a supervisor with Sie, ahead of the fetch; else the instruction is done.
func TestP152Interrupts(t *testing.T) {
	for _, row := range some {
		for _, bits := range []uint64{0, sie, spie, spp, sie | spie, sie | spp, sie | spie | spp | sum | mxr} {
			for _, tvec := range []uint64{handler, handler + 1, 0, 1, ones - 3, ones - 2} {
				for _, priv := range []int{user, super} {
					sc := plain(t).as(priv).op(t, addi).status(bits).interrupts(row.ip, row.ie).reg(10, 1)
					sc.h.C.Tvec = tvec
					if priv == super && bits&sie == 0 {
						sc.check(t, sc.told(10, 11))
						continue
					}
					sc.check(t, sc.trap(top+row.cause, 0))
					sc.pc(0).check(t, sc.pc(0).trap(top+row.cause, 0))
				}
			}
		}
	}
	for _, pair := range none {
		for _, priv := range []int{user, super} {
			sc := plain(t).as(priv).op(t, addi).status(sie).interrupts(pair[0], pair[1]).reg(10, 1)
			sc.check(t, sc.told(10, 11))
		}
	}
}

// P15.2: told in numbers.
func TestP152InterruptNumbers(t *testing.T) {
	sc := plain(t).op(t, addi).as(user)
	sc.h.Pc = 0x123456
	sc.h.C = api.Csrs{Status: 0x2000C0002, Ie: 0x22, Tvec: 0x101, Counteren: 3, Scratch: 4, Epc: 6, Cause: 7, Tval: 8, Ip: 0x20, Satp: 9, Cycle: 10, Instret: 11}
	s := with(sc.m, -1)
	h, out := Step(sc.h, s, sc.r, sc.id, sc.time)
	want := sc.h
	want.Pc, want.Priv = 0x114, 1
	want.C = api.Csrs{Status: 0x2000C0020, Ie: 0x22, Tvec: 0x101, Counteren: 3, Scratch: 4, Epc: 0x123456, Cause: 1<<63 + 5, Tval: 0, Ip: 0x20, Satp: 9, Cycle: 11, Instret: 11}
	if h != want || out != 0 {
		t.Errorf("%+v, %d, not %+v", h, out, want)
	}
}

// P15.2: who takes an interrupt fetches nothing.
func TestP152InterruptAhead(t *testing.T) {
	for _, priv := range []int{user, super} {
		sc := paged(t, priv).op(t, addi).status(sie).interrupts(2, 2)
		sc.check(t, sc.trap(top+1, 0))
		s := with(sc.m, 8)
		h, out := Step(sc.h, s, sc.r, sc.id, sc.time)
		if s.T.Misses() != 0 || h.X != sc.h.X || out != done {
			t.Errorf("%d walks, %+v, %d", s.T.Misses(), h, out)
		}
	}
}

// P15.2: without a table, a fetch faults where no memory is, at its first two bytes and behind them.
func TestP152FetchPlain(t *testing.T) {
	for _, pc := range []uint64{0, 2, base - 2, base - 4, base + 0x2000, base + 0x2002, base + 1<<32, ones - 1, top} {
		for _, priv := range []int{user, super} {
			sc := plain(t).as(priv).pc(pc)
			sc.check(t, sc.trap(1, pc))
		}
	}
	end := uint64(base + 0x2000)
	sc := plain(t).bytes(end-2, 0x13, 0x05).pc(end - 2)
	sc.check(t, sc.trap(1, end))
	sc = plain(t).bytes(end-2, 0x05, 0x05).pc(end-2).reg(10, 7)
	want := sc.done(2)
	want.h.X[10] = 8
	sc.check(t, want)
	sc = plain(t).bytes(end-4, 0x13, 0x05, 0x15, 0x00).pc(end-4).reg(10, 7)
	sc.check(t, sc.told(10, 8))
}

// P15.2: with one, it faults where a page may not be, and where memory is not.
func TestP152FetchPaged(t *testing.T) {
	for _, row := range []struct {
		page, flags, cause uint64
		priv               int
		bits               uint64
	}{
		{first, system, 0, super, 0}, {first, system, 0, super, sum | mxr}, {first, system, 12, user, 0}, {first, system &^ x, 12, super, mxr},
		{first, system &^ a, 12, super, 0}, {first, 0, 12, super, 0}, {first, v, 12, super, 0}, {first, v | x | a, 0, super, 0},
		{first, open, 0, user, 0}, {first, open, 12, super, 0}, {first, open, 12, super, sum | mxr}, {first, open &^ x, 12, user, mxr},
		{beyond, system, 1, super, 0}, {0, system, 1, super, 0}, {beyond, open, 1, user, 0}, {beyond, open, 12, super, 0},
	} {
		sc := paged(t, row.priv).op(t, addi).entry(4, row.page, row.flags).status(row.bits).reg(10, 1)
		if row.cause == 0 {
			sc.check(t, sc.told(10, 11))
			continue
		}
		sc.check(t, sc.trap(row.cause, vcode))
	}
	for _, pc := range []uint64{0x7000, 0x7FFE, 1 << 38, 1<<63 + vcode, ones - 1, 1<<39 + vcode} {
		sc := paged(t, super).pc(pc)
		sc.check(t, sc.trap(12, pc))
	}
	sc := paged(t, super).op(t, addi)
	sc.h.C.Satp = 8<<60 + beyond
	sc.check(t, sc.trap(1, vcode))
}

// P15.2: an instruction that lies in two pages, wherever these are, faults at the second's address, but is where the first is.
func TestP152FetchOver(t *testing.T) {
	for _, row := range []struct{ page, flags, cause uint64 }{
		{first + 5, system, 0}, {first + 7, system, 0}, {first + 6, system, 0}, {first + 5, 0, 12}, {first + 5, open, 12}, {first + 5, system &^ x, 12}, {beyond, system, 1},
	} {
		sc := paged(t, super).entry(6, row.page, row.flags).pc(0x5FFE).reg(10, 1)
		for page := range uint64(4) {
			sc = sc.bytes(base+0x4000+page*0x1000, 0x15, 0x00)
		}
		sc = sc.bytes(base+0x6FFE, 0x13, 0x05)
		want := sc.told(10, 2)
		if row.cause != 0 {
			want = sc.trap(row.cause, 0x6000)
		}
		sc.check(t, want)
		// A half does not reach there.
		sc = sc.bytes(base+0x6FFE, 0x05, 0x05)
		want = sc.done(2)
		want.h.X[10] = 2
		sc.check(t, want)
	}
}

// P15.2: at the end of all addresses the pc goes round.
func TestP152Round(t *testing.T) {
	end := paged(t, super).entry(511, first+5, system).entry(0, first+6, system).reg(10, 1)
	sc := end.bytes(base+0x5FFE, 0x05, 0x05).pc(ones - 1)
	want := sc.done(2)
	want.h.X[10], want.h.Pc = 2, 0
	sc.check(t, want)
	sc = end.bytes(base+0x5FFC, 0x13, 0x05, 0x15, 0x00).pc(ones - 3)
	want = sc.told(10, 2)
	want.h.Pc = 0
	sc.check(t, want)
	sc = end.bytes(base+0x5FFE, 0x13, 0x05).bytes(base+0x6000, 0x15, 0x00).pc(ones - 1)
	want = sc.told(10, 2)
	want.h.Pc = 2
	sc.check(t, want)
	sc = sc.entry(0, first, 0)
	sc.check(t, sc.trap(12, 0))
	// A jump from there knows where it would have gone on, and how far it goes.
	sc = end.bytes(base+0x5FFC, le(0x010000EF, 4)...).pc(ones - 3)
	want = sc.told(1, 0)
	want.h.Pc = 12
	sc.check(t, want)
}

// P15.2: Cycle and Instret of what is done, of what faults, and of an interrupt, also where they go round.
func TestP152Counts(t *testing.T) {
	for _, n := range []uint64{0, 1, 1<<32 - 1, ones - 1, ones} {
		sc := plain(t).reg(10, 1)
		sc.h.C.Cycle, sc.h.C.Instret = n, n
		for _, row := range []struct {
			sc      scene
			instret uint64
			out     int
		}{
			{sc.op(t, addi), n + 1, done}, {sc.half(0x0505), n + 1, done}, {sc.op(t, api.Insn{Op: api.OpEcall}), n + 1, call},
			{sc.op(t, api.Insn{Op: api.OpSret}), n + 1, done}, {sc.op(t, api.Insn{Op: api.OpWfi}), n + 1, done}, {sc.word(0x0000006F), n + 1, done},
			{sc.half(0), n, done}, {sc.word(ones & 0xFFFFFFFF), n, done}, {sc.op(t, api.Insn{Op: api.OpEbreak}), n, done}, {sc.pc(0), n, done},
			{sc.as(user).op(t, api.Insn{Op: api.OpEcall}), n, done}, {sc.op(t, api.Insn{Op: api.OpLd, Rd: 1}), n, done}, {sc.op(t, addi).status(sie).interrupts(2, 2), n, done},
		} {
			h, out := Step(row.sc.h, with(row.sc.m, -1), row.sc.r, 0, 0)
			if h.C.Cycle != n+1 || h.C.Instret != row.instret || out != row.out {
				t.Errorf("of %d: Cycle %d, Instret %d not %d, %d not %d", n, h.C.Cycle, h.C.Instret, row.instret, out, row.out)
			}
		}
	}
}

// P15.2: what is none is told by as many of its bits as it has, and what stands behind a half is not.
func TestP152Illegal(t *testing.T) {
	for _, priv := range []int{user, super} {
		for _, h := range []uint16{0, 0x8000, 0x2000, 0x9C41, 0x4002, 0x8002, 0xFFE0 - 0x4000, 0x2001, 0x6101} {
			sc := plain(t).as(priv).bytes(code+2, 0xFF, 0xFF).half(h)
			sc.check(t, sc.trap(2, uint64(h)))
		}
		for _, w := range []uint32{0xFFFFFFFF, 0x80000003 | 0x7000, 0x00000007, 0x00000027, 0x0000707F, 0x30200073, 0x00200073, 0x12000FF3, 0x00004073, 0x0000105B, 0x1010202F, 0x3000202F, 0x1000102F, 0x8000003B, 0x00003003 | 0x4000} {
			sc := plain(t).as(priv).word(w)
			sc.check(t, sc.trap(2, uint64(w)))
		}
	}
}

// P15.2, P15.3: None is Illegal, each half that there is none of.
func TestP153None(t *testing.T) {
	sc := plain(t)
	count := 0
	for h := range uint32(1 << 16) {
		q, f := h%4, h>>13
		isNone := q == 0 && (f == 1 || f == 4 || f == 5) || q == 2 && (f == 1 || f == 5) || h == 0
		if !isNone {
			continue
		}
		count++
		m := with(sc.m, -1)
		m.M.Put(code, 2, uint64(h))
		got, out := Step(sc.h, m, sc.r, 0, 0)
		if want := sc.trap(2, uint64(h)).h; got != want || out != done {
			t.Fatalf("the half %x: %+v, %d", h, got, out)
		}
	}
	if count != 5<<11+1 {
		t.Error(count)
	}
}

// P15.2: X of 0 stays 0, whatever writes to it, and what else is done is.
func TestP152Zero(t *testing.T) {
	data := uint64(base + 0x1800)
	for op := api.OpLui; op <= api.OpMaxuad; op++ {
		switch {
		case op >= api.OpBeq && op <= api.OpBgeu, op >= api.OpSb && op <= api.OpSd, op >= api.OpFence && op <= api.OpSfence:
			continue
		}
		in := api.Insn{Op: op, Rd: 0, Rs1: 5, Rs2: 6}
		switch {
		case op == api.OpLui, op == api.OpAuipc, op == api.OpJal:
			in.Rs1, in.Rs2, in.Imm = 0, 0, 4096
		case op >= api.OpCsrrw && op <= api.OpCsrrci:
			in.Rs2, in.Imm = 0, api.CsrScratch
		case op < api.OpAdd, op >= api.OpAddiw && op <= api.OpSraiw:
			in.Rs2, in.Imm = 0, 8
		case op == api.OpLrw, op == api.OpLrd:
			in.Rs2 = 0
		}
		sc := plain(t).reg(5, data).reg(6, 3).op(t, in)
		h, out := Step(sc.h, with(sc.m, -1), sc.r, sc.id, sc.time)
		if h.X != sc.h.X || out != done || h.C.Instret != 51 {
			t.Errorf("op %d: %+v, %d", op, h, out)
		}
	}
	// What is read as X of 0 is 0.
	sc := plain(t).op(t, api.Insn{Op: api.OpAddi, Rd: 3, Imm: -1})
	sc.check(t, sc.told(3, ones))
}
