package hart

import (
	"testing"

	"suzerain/api"
)

// register is one that is read and written: its number, where it is, and what of a write of x it holds then.
type register struct {
	number int64
	at     func(c *api.Csrs) *uint64
	held   func(was, x uint64) uint64
}

// registers are those of the supervisor.
func registers() []register {
	only := func(bits uint64) func(was, x uint64) uint64 {
		return func(_, x uint64) uint64 { return x & bits }
	}
	return []register{
		{0x100, func(c *api.Csrs) *uint64 { return &c.Status }, func(_, x uint64) uint64 { return x&0xC0122 + uxl }},
		{0x104, func(c *api.Csrs) *uint64 { return &c.Ie }, only(0x222)},
		{0x105, func(c *api.Csrs) *uint64 { return &c.Tvec }, only(ones - 2)},
		{0x106, func(c *api.Csrs) *uint64 { return &c.Counteren }, only(7)},
		{0x140, func(c *api.Csrs) *uint64 { return &c.Scratch }, only(ones)},
		{0x141, func(c *api.Csrs) *uint64 { return &c.Epc }, only(ones - 1)},
		{0x142, func(c *api.Csrs) *uint64 { return &c.Cause }, only(ones)},
		{0x143, func(c *api.Csrs) *uint64 { return &c.Tval }, only(ones)},
		{0x144, func(c *api.Csrs) *uint64 { return &c.Ip }, func(was, x uint64) uint64 { return was&^2 + x&2 }},
		{0x180, func(c *api.Csrs) *uint64 { return &c.Satp }, func(was, x uint64) uint64 {
			if x>>60 == 0 || x>>60 == 8 {
				return x
			}
			return was
		}},
	}
}

// controlled is a scene whose registers of the supervisor are all something.
func controlled(t *testing.T, priv int) scene {
	t.Helper()
	sc := plain(t).as(priv)
	sc.h.C = api.Csrs{Status: uxl | spp | mxr, Ie: 0x200, Tvec: handler, Counteren: 5, Scratch: 0x1234, Epc: 0x8000, Cause: 13, Tval: 0x777, Ip: 0x20, Satp: 0x123, Cycle: 100, Instret: 50}
	return sc
}

// P15.3: the supervisor's registers by each op, of a number or a register, of X of 0 or another, and with Rd that is Rs1.
func TestP153Control(t *testing.T) {
	xs := []uint64{0, 1, 2, 0x1F, 0x20, 0x222, ones, 0x5555555555555555, 0xAAAAAAAAAAAAAAAA, 8<<60 + 5, 9 << 60, 1 << 60}
	for _, reg := range registers() {
		for op := api.OpCsrrw; op <= api.OpCsrrci; op++ {
			for i, x := range xs {
				for _, rs1 := range []int{0, 5, 31} {
					rd := []int{0, 5, 6}[i%3]
					sc := controlled(t, super).op(t, api.Insn{Op: op, Rd: rd, Rs1: rs1, Imm: reg.number})
					y := uint64(rs1)
					if op <= api.OpCsrrc {
						y = 0
						if rs1 != 0 {
							sc, y = sc.reg(rs1, x), x
						}
					}
					was := *reg.at(&sc.h.C)
					want := sc.done(4)
					if rd != 0 {
						want.h.X[rd] = was
					}
					written := map[int]uint64{0: y, 1: was | y, 2: was &^ y}[(op-api.OpCsrrw)%3]
					if rs1 != 0 || (op-api.OpCsrrw)%3 == 0 {
						*reg.at(&want.h.C) = reg.held(was, written)
					}
					h, out := Step(sc.h, with(sc.m, -1), sc.r, sc.id, sc.time)
					if h != want.h || out != done {
						t.Errorf("op %d of %x by %x, %d: %d, %s", op, reg.number, x, rs1, out, differ(h, want.h))
					}
				}
			}
		}
	}
}

// P15.3: what may not be is Illegal, and changes nothing but what a trap does.
func TestP153ControlIllegal(t *testing.T) {
	check := func(priv int, in api.Insn) {
		t.Helper()
		sc := controlled(t, priv).op(t, in)
		sc.check(t, sc.trap(2, uint64(lay(t, in))))
	}
	for op := api.OpCsrrw; op <= api.OpCsrrci; op++ {
		for _, rs1 := range []int{0, 5} {
			for _, number := range []int64{0, 1, 0x101, 0x107, 0x10A, 0x145, 0x181, 0x300, 0x301, 0x305, 0x341, 0x7A0, 0xB00, 0xBFF, 0xC03, 0xC1F, 0xC80, 0xF11, 0xF14, 0xFFF} {
				check(super, api.Insn{Op: op, Rd: 6, Rs1: rs1, Imm: number})
				check(user, api.Insn{Op: op, Rd: 6, Rs1: rs1, Imm: number})
			}
			for _, reg := range registers() {
				check(user, api.Insn{Op: op, Rd: 6, Rs1: rs1, Imm: reg.number})
			}
			for number := int64(0xC00); number <= 0xC02; number++ {
				if rs1 != 0 || (op-api.OpCsrrw)%3 == 0 {
					check(super, api.Insn{Op: op, Rd: 6, Rs1: rs1, Imm: number})
					check(user, api.Insn{Op: op, Rd: 6, Rs1: rs1, Imm: number})
				}
			}
		}
	}
	// A register that is 0 is written all the same.
	sc := controlled(t, super).reg(5, 0).op(t, api.Insn{Op: api.OpCsrrs, Rd: 6, Rs1: 5, Imm: 0xC00})
	w, _ := sc.m.Get(code, 4)
	sc.check(t, sc.trap(2, w))
}

// P15.3: the counters, by who may read them: Cycle is one more already, Instret not, and time is what it is told to be.
func TestP153Counters(t *testing.T) {
	for _, priv := range []int{user, super} {
		for counteren := range uint64(8) {
			for i := range 3 {
				for _, op := range []int{api.OpCsrrs, api.OpCsrrc, api.OpCsrrsi, api.OpCsrrci} {
					for _, n := range []uint64{0, 7, 1<<32 - 1, ones} {
						sc := controlled(t, priv).op(t, api.Insn{Op: op, Rd: 6, Imm: 0xC00 + int64(i)})
						sc.h.C.Counteren, sc.h.C.Cycle, sc.h.C.Instret, sc.time = counteren, n, n+3, n+5
						want := sc.told(6, []uint64{n + 1, n + 5, n + 3}[i])
						if priv == user && counteren>>i&1 == 0 {
							w, _ := sc.m.Get(code, 4)
							want = sc.trap(2, w)
						}
						sc.check(t, want)
					}
				}
			}
		}
	}
}

// P15.3: what is written holds from the next step on: a table, and an interrupt that is let.
func TestP153ControlNext(t *testing.T) {
	sc := paged(t, super).reg(5, satp).bytes(code, 0x73, 0x90, 0x02, 0x18).bytes(code+4, 0x13, 0x05, 0xA5, 0)
	sc.h.C.Satp, sc.h.Pc = 0, code
	h, _ := Step(sc.h, with(sc.m, -1), sc.r, 0, 0)
	want := sc.done(4).h
	want.C.Satp = satp
	if h != want {
		t.Fatal(differ(h, want))
	}
	if h, _ = Step(h, with(sc.m, -1), sc.r, 0, 0); h.C.Cause != 12 || h.C.Tval != code+4 {
		t.Errorf("%+v", h)
	}
	for _, row := range []struct {
		w                     uint32
		ip, ie, status, cause uint64
	}{
		{0x10016073, 2, 2, 0, top + 1}, {0x1042A073, 0x20, 0, sie, top + 5}, {0x14416073, 0, 2, sie, top + 1},
	} {
		sc := plain(t).status(row.status).interrupts(row.ip, row.ie).reg(5, 0x20).word(row.w)
		h, _ := Step(sc.h, with(sc.m, -1), sc.r, 0, 0)
		if h.Pc != code+4 || h.C.Instret != 51 {
			t.Errorf("%x: %+v", row.w, h)
		}
		if h, _ = Step(h, with(sc.m, -1), sc.r, 0, 0); h.C.Cause != row.cause || h.C.Epc != code+4 || h.C.Cycle != 102 || h.C.Instret != 51 {
			t.Errorf("%x: %+v", row.w, h)
		}
	}
}
