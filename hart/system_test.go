package hart

import (
	"testing"

	"suzerain/api"
	"suzerain/space"
)

// P15.3: Fence and Fencei, with whatever bits, do nothing, of each privilege.
func TestP153Fences(t *testing.T) {
	for _, priv := range []int{user, super} {
		for _, w := range []uint32{0x0000000F, 0x0FF0000F, 0x8330000F, 0xFFFF8F8F, 0x0000100F, 0xFFFF9F8F} {
			sc := paged(t, priv).word(w)
			sc.check(t, sc.done(4))
			s := with(sc.m, 8)
			Step(sc.h, s, sc.r, sc.id, sc.time)
			if s.T.Len() != 1 {
				t.Errorf("%x left %d leaves", w, s.T.Len())
			}
		}
	}
}

// P15.3: a call is the supervisor's by a user, and the firmware's by a supervisor, behind whom the instruction is.
func TestP153Ecall(t *testing.T) {
	for _, bits := range []uint64{0, sie, spp | spie} {
		sc := plain(t).status(bits).word(0x00000073)
		want := sc.done(4)
		want.out = call
		sc.check(t, want)
		sc = sc.as(user)
		sc.check(t, sc.trap(8, 0))
	}
	for _, priv := range []int{user, super} {
		sc := paged(t, priv).word(0x00000073)
		want := sc.trap(8, 0)
		if priv == super {
			want = sc.done(4)
			want.out = call
		}
		sc.check(t, want)
	}
}

// P15.3: a break tells where it is, of four bytes and of two.
func TestP153Ebreak(t *testing.T) {
	for _, priv := range []int{user, super} {
		sc := plain(t).as(priv).word(0x00100073)
		sc.check(t, sc.trap(3, code))
		sc = plain(t).as(priv).half(0x9002)
		sc.check(t, sc.trap(3, code))
		sc = paged(t, priv).half(0x9002)
		sc.check(t, sc.trap(3, vcode))
	}
}

// P15.3: Sret goes where Epc says, as who Spp says.
func TestP153Sret(t *testing.T) {
	for _, row := range []struct {
		was, is uint64
		priv    int
	}{
		{0, spie, user}, {sie, spie, user}, {spie, spie | sie, user}, {sie | spie, sie | spie, user}, {spp, spie, super}, {spp | sie, spie, super}, {spp | spie, sie | spie, super},
		{spp | sie | spie | sum | mxr, sie | spie | sum | mxr, super}, {sum, sum | spie, user}, {mxr | spie, mxr | spie | sie, user},
	} {
		for _, epc := range []uint64{0, 2, 0x12345678, ones - 1} {
			sc := plain(t).status(row.was).word(0x10200073)
			sc.h.C.Epc = epc
			want := sc.done(4)
			want.h.Pc, want.h.Priv, want.h.C.Status = epc, row.priv, uxl|row.is
			sc.check(t, want)
			sc = sc.as(user)
			sc.check(t, sc.trap(2, 0x10200073))
		}
	}
}

// P15.3: who was interrupted comes back by Sret to where it was.
func TestP153There(t *testing.T) {
	for _, priv := range []int{user, super} {
		sc := plain(t).as(priv).status(sie).interrupts(2, 2).op(t, addi).bytes(handler, 0x73, 0, 0x20, 0x10)
		s := with(sc.m, -1)
		h, _ := Step(sc.h, s, sc.r, 0, 0)
		if h.Priv != super || h.Pc != handler {
			t.Fatalf("%+v", h)
		}
		h.C.Ip = 0
		h, _ = Step(h, s, sc.r, 0, 0)
		want := sc.h
		want.C.Ip, want.C.Status, want.C.Epc, want.C.Cause, want.C.Tval = 0, uxl|sie|spie, code, top+1, 0
		want.C.Cycle, want.C.Instret = 102, 51
		if h != want {
			t.Error(differ(h, want))
		}
		h, _ = Step(h, s, sc.r, 0, 0)
		if h.Pc != code+4 || h.X[10] != sc.h.X[10]+10 {
			t.Errorf("%+v", h)
		}
	}
}

// P15.3: a supervisor waits behind Wfi, a user may not.
func TestP153Wfi(t *testing.T) {
	for _, bits := range []uint64{0, sie, spp | spie} {
		sc := plain(t).status(bits).word(0x10500073)
		want := sc.done(4)
		want.h.Wait = true
		sc.check(t, want)
		sc = sc.as(user)
		sc.check(t, sc.trap(2, 0x10500073))
	}
	// It waits, whatever is picked, until an interrupt wakes it.
	sc := plain(t).word(0x10500073).bytes(code+4, 0x13, 0x05, 0xA5, 0)
	s := with(sc.m, -1)
	h, _ := Step(sc.h, s, sc.r, 0, 0)
	for range 3 {
		was := h
		var out int
		if h, out = Step(h, s, sc.r, 0, 0); h != was || out != waited {
			t.Errorf("%d, %s", out, differ(h, was))
		}
	}
	h.C.Ip, h.C.Ie = 2, 2
	want := h
	want.Wait, want.Pc, want.X[10] = false, code+8, h.X[10]+10
	want.C.Cycle, want.C.Instret = 102, 52
	if h, out := Step(h, s, sc.r, 0, 0); h != want || out != done {
		t.Errorf("%d, %s", out, differ(h, want))
	}
}

// kept is where a leaf is put: for an address, of an asid, of a level, and whether it is Global.
type kept struct {
	va, asid uint64
	level    int
	global   bool
}

// leaves are those that each Sfence is tried with.
var leaves = [7]kept{{0x20000, 3, 0, false}, {0x20000, 4, 0, false}, {0x30000, 3, 0, false}, {0x30000, 0, 1, false}, {0x20000, 5, 0, true}, {0x40000, 6, 0, true}, {0x50000, 0xFFFF, 0, false}}

// keeping is a space in which they are put, each with an entry of its own.
func keeping(sc scene) space.Space {
	s := with(sc.m, 8)
	for i, k := range leaves {
		s.T.Put(k.va, k.asid, api.Leaf{Pte: uint64(i) + 1, Level: k.level, Global: k.global})
	}
	return s
}

// stay tells of each of them whether it is still there.
func stay(s space.Space) string {
	b := []byte(".......")
	for i, k := range leaves {
		if l, ok := s.T.Find(k.va, k.asid); ok && l.Pte == uint64(i)+1 {
			b[i] = 'y'
		}
	}
	return string(b)
}

// P15.3: Sfence flushes what its registers say, and which of them are X of 0; an asid is modulo 2^16. A user may not.
func TestP153Sfence(t *testing.T) {
	for _, row := range []struct {
		rs1, rs2 int
		a, b     uint64
		stay     string
	}{
		{0, 0, 0, 0, "......."}, {5, 0, 0x20000, 0, "..y..yy"}, {5, 0, 0x20FFF, 0, "..y..yy"}, {5, 0, 0x21000, 0, "yyy.yyy"}, {5, 0, 0, 0, "yyy.yyy"}, {5, 0, 0x200000, 0, "yyyyyyy"},
		{0, 6, 0, 3, ".y.yyyy"}, {0, 6, 0, 0x10003, ".y.yyyy"}, {0, 6, 0, 1<<64 - 1<<16 + 3, ".y.yyyy"}, {0, 6, 0, 5, "yyyyyyy"}, {0, 6, 0, 0, "yyy.yyy"}, {0, 6, 0, ones, "yyyyyy."},
		{5, 6, 0x20123, 3, ".yyyyyy"}, {5, 6, 0x20123, 0xABCD0003, ".yyyyyy"}, {5, 6, 0x20123, 5, "yyyyyyy"}, {5, 6, 0x3F000, 0, "yyy.yyy"}, {5, 6, 0x30000, 3, "yy.yyyy"}, {5, 6, 0x90000, 3, "yyyyyyy"},
		{5, 5, 0x30003, 0x30003, "yy.yyyy"}, {6, 5, 0x20004, 0x20004, "y.yyyyy"}, {5, 6, 0, 0, "yyy.yyy"},
	} {
		sc := plain(t)
		sc.h.X[row.rs2], sc.h.X[row.rs1], sc.h.X[0] = row.b, row.a, 0
		sc = sc.op(t, api.Insn{Op: api.OpSfence, Rs1: row.rs1, Rs2: row.rs2})
		sc.check(t, sc.done(4))
		s := keeping(sc)
		if stay(s) != "yyyyyyy" {
			t.Fatal("the test itself is off")
		}
		h, out := Step(sc.h, s, sc.r, sc.id, sc.time)
		if h != sc.done(4).h || out != done || stay(s) != row.stay {
			t.Errorf("%+v: %s, %d, %s", row, stay(s), out, differ(h, sc.done(4).h))
		}
		sc = sc.as(user)
		w, _ := sc.m.Get(code, 4)
		sc.check(t, sc.trap(2, w))
		s = keeping(sc)
		if Step(sc.h, s, sc.r, sc.id, sc.time); stay(s) != "yyyyyyy" {
			t.Errorf("%+v of a user: %s", row, stay(s))
		}
	}
}

// P15.3: what is kept shows until a fence by the hart's own asid, or address, or of all.
func TestP153SfenceShows(t *testing.T) {
	for _, row := range []struct {
		w     uint32
		fresh bool
	}{{0x12000073, true}, {0x12028073, true}, {0x12600073, true}, {0x12628073, true}, {0x12030073, false}, {0x12500073, false}, {0x12530073, false}, {0x0000100F, false}} {
		sc := paged(t, super).reg(5, 0x5008).reg(6, 0x10003).bytes(code, 0x83, 0xB3, 0x02, 0x00)
		sc = sc.bytes(code+4, le(uint64(row.w), 4)...).bytes(code+8, 0x83, 0xB3, 0x02, 0x00)
		s := with(sc.m, 8)
		six, _ := s.M.Get(base+0x6008, 8)
		five, _ := s.M.Get(base+0x5008, 8)
		h, _ := Step(sc.h, s, sc.r, 0, 0)
		if h.X[7] != six {
			t.Fatalf("%x, not %x", h.X[7], six)
		}
		s.M.Put(base+0x3000+5*8, 8, (first+5)<<10|system)
		h, _ = Step(h, s, sc.r, 0, 0)
		h, _ = Step(h, s, sc.r, 0, 0)
		want := six
		if row.fresh {
			want = five
		}
		if h.X[7] != want || h.Pc != vcode+12 {
			t.Errorf("behind %x: %x, not %x", row.w, h.X[7], want)
		}
	}
}
