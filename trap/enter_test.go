package trap

import (
	"math"
	"testing"

	"suzerain/api"
)

// P14.1: ordinary traps, with all that is told of them, and the example.
func TestP141EnterOrdinary(t *testing.T) {
	const uxl = 2 << 32
	for i, x := range []struct {
		e    entry
		want api.Csrs
		pc   uint64
	}{
		{
			entry{api.Csrs{Status: uxl, Tvec: 0x101}, api.User, 0x80000010, true, api.IntTimer, 0},
			api.Csrs{Status: uxl, Tvec: 0x101, Epc: 0x80000010, Cause: 0x8000000000000005}, 0x114,
		},
		{
			entry{api.Csrs{Status: uxl | 2, Tvec: 0x101}, api.User, 0x80000010, false, api.CauseCallU, 0},
			api.Csrs{Status: uxl | 0x20, Tvec: 0x101, Epc: 0x80000010, Cause: 8}, 0x100,
		},
		{
			entry{api.Csrs{Status: uxl | 0x22, Tvec: 0x80000400}, api.Super, 0x80000123, true, api.IntSoft, 0},
			api.Csrs{Status: uxl | 0x120, Tvec: 0x80000400, Epc: 0x80000122, Cause: 0x8000000000000001}, 0x80000400,
		},
		{
			entry{api.Csrs{Status: uxl | 0x20, Tvec: 0x80000400, Ie: 0x222, Ip: 0x22, Satp: 8<<60 + 7}, api.Super, 0x4000, false, api.CauseLoadPage, 0xDEAD},
			api.Csrs{Status: uxl | 0x100, Tvec: 0x80000400, Ie: 0x222, Ip: 0x22, Satp: 8<<60 + 7, Epc: 0x4000, Cause: 13, Tval: 0xDEAD}, 0x80000400,
		},
		{
			entry{api.Csrs{Status: 0x102, Tvec: 0x201, Epc: 1, Cause: 2, Tval: 3, Scratch: 4, Counteren: 5, Cycle: 6, Instret: 7}, api.User, 9, true, api.IntSoft, 10},
			api.Csrs{Status: 0x20, Tvec: 0x201, Epc: 8, Cause: top + 1, Tval: 10, Scratch: 4, Counteren: 5, Cycle: 6, Instret: 7}, 0x204,
		},
		{entry{}, api.Csrs{}, 0},
	} {
		if c, pc := x.e.enter(); c != x.want || pc != x.pc {
			t.Errorf("%d: %#x, %#x, not %#x, %#x", i, c, pc, x.want, x.pc)
		}
		x.e.check(t)
	}
}

// P14.1: Epc is a pc but for its lowest bit, from one end of all numbers to the other.
func TestP141EnterPc(t *testing.T) {
	for _, x := range []struct{ pc, epc uint64 }{
		{0, 0}, {1, 0}, {2, 2}, {3, 2}, {4, 4}, {5, 4}, {6, 6}, {7, 6}, {0x77, 0x76}, {0x80000000, 0x80000000}, {0x80000001, 0x80000000}, {0x80000FFF, 0x80000FFE},
		{1<<32 - 1, 1<<32 - 2}, {1 << 32, 1 << 32}, {top - 1, top - 2}, {top, top}, {top + 1, top}, {ones, ones - 1}, {ones - 1, ones - 1}, {ones - 2, ones - 3},
	} {
		for _, c := range rows() {
			for _, interrupt := range []bool{false, true} {
				e := entry{c: c, priv: api.Super, pc: x.pc, interrupt: interrupt, cause: 1, val: 5}
				if d, _ := e.enter(); d.Epc != x.epc {
					t.Errorf("Epc of %#x: %#x", x.pc, d.Epc)
				}
				e.check(t)
			}
		}
	}
}

// P14.1: Cause of an exception, and of an interrupt, whatever the number, and whatever stood there.
func TestP141EnterCause(t *testing.T) {
	for _, x := range []struct {
		cause                int
		exception, interrupt uint64
	}{
		{0, 0, 0x8000000000000000}, {1, 1, 0x8000000000000001}, {2, 2, 0x8000000000000002}, {5, 5, 0x8000000000000005}, {15, 15, 0x800000000000000F},
		{1 << 32, 0x100000000, 0x8000000100000000}, {1 << 62, 0x4000000000000000, 0xC000000000000000}, {math.MaxInt, 0x7FFFFFFFFFFFFFFF, 0xFFFFFFFFFFFFFFFF},
		{-1, 0xFFFFFFFFFFFFFFFF, 0x7FFFFFFFFFFFFFFF}, {-2, 0xFFFFFFFFFFFFFFFE, 0x7FFFFFFFFFFFFFFE}, {-5, 0xFFFFFFFFFFFFFFFB, 0x7FFFFFFFFFFFFFFB},
		{math.MinInt, 0x8000000000000000, 0}, {math.MinInt + 1, 0x8000000000000001, 1}, {math.MinInt + 5, 0x8000000000000005, 5},
	} {
		for _, was := range []uint64{0, 1, top, top + 5, ones} {
			for interrupt, want := range map[bool]uint64{false: x.exception, true: x.interrupt} {
				d, _ := Enter(api.Csrs{Cause: was}, api.User, 0, interrupt, x.cause, 0)
				if d != (api.Csrs{Cause: want}) {
					t.Errorf("Cause of %d, %t, over %#x: %#x, not %#x", x.cause, interrupt, was, d.Cause, want)
				}
			}
		}
	}
}

// P14.1: the eight ways for Sie, Spie and Spp, from each privilege.
func TestP141EnterStatusRows(t *testing.T) {
	for _, x := range []struct{ was, user, super uint64 }{
		{0, 0, 0x100}, {0x2, 0x20, 0x120}, {0x20, 0, 0x100}, {0x22, 0x20, 0x120},
		{0x100, 0, 0x100}, {0x102, 0x20, 0x120}, {0x120, 0, 0x100}, {0x122, 0x20, 0x120},
		{ones, ones - 0x102, ones - 2}, {ones - 2, ones - 0x122, ones - 0x22}, {ones - 0x20, ones - 0x102, ones - 2}, {ones - 0x22, ones - 0x122, ones - 0x22},
		{0x2000C0122, 0x2000C0020, 0x2000C0120}, {0x2000C0020, 0x2000C0000, 0x2000C0100}, {0x6FFD, 0x6EDD, 0x6FDD},
	} {
		for _, interrupt := range []bool{false, true} {
			for _, priv := range privs() {
				want := x.user
				if priv == api.Super {
					want = x.super
				}
				if d, _ := Enter(api.Csrs{Status: x.was}, priv, 0, interrupt, 0, 0); d.Status != want {
					t.Errorf("Status %#x from %d: %#x, not %#x", x.was, priv, d.Status, want)
				}
			}
		}
	}
}

// P14.1: Status bit by bit, with its other bits in many ways.
func TestP141EnterStatus(t *testing.T) {
	for _, status := range statuses() {
		for _, priv := range privs() {
			for _, interrupt := range []bool{false, true} {
				entry{c: api.Csrs{Status: status}, priv: priv, interrupt: interrupt, cause: 5}.check(t)
				c := filled(ones)
				c.Status = status
				entry{c: c, priv: priv, pc: 0x1001, interrupt: interrupt, cause: 1, val: 3}.check(t)
			}
		}
	}
}

// P14.1: where it goes on, by the four ways for the lowest bits of Tvec, and round behind the end of all numbers.
func TestP141EnterTvec(t *testing.T) {
	for _, x := range []struct {
		tvec                 uint64
		cause                int
		exception, interrupt uint64
	}{
		{0x100, 5, 0x100, 0x100}, {0x101, 5, 0x100, 0x114}, {0x102, 5, 0x100, 0x100}, {0x103, 5, 0x100, 0x114},
		{0x100, 1, 0x100, 0x100}, {0x101, 1, 0x100, 0x104}, {0x102, 1, 0x100, 0x100}, {0x103, 1, 0x100, 0x104},
		{0x101, 0, 0x100, 0x100}, {0x103, 0, 0x100, 0x100}, {0, 5, 0, 0}, {1, 5, 0, 20}, {2, 5, 0, 0}, {3, 5, 0, 20}, {0x104, 1, 0x104, 0x104}, {0x105, 1, 0x104, 0x108},
		{ones, 0, ones - 3, ones - 3}, {ones, 1, ones - 3, 0}, {ones, 5, ones - 3, 16}, {ones - 1, 5, ones - 3, ones - 3}, {ones - 2, 5, ones - 3, 16}, {ones - 3, 5, ones - 3, ones - 3},
		{ones - 6, 1, ones - 7, ones - 3}, {ones - 18, 5, ones - 19, 0}, {ones - 22, 5, ones - 23, ones - 3},
		{0x101, 1 << 61, 0x100, top + 0x100}, {0x101, 1 << 62, 0x100, 0x100}, {0x101, 1<<62 + 1, 0x100, 0x104}, {0x101, 1<<62 - 1, 0x100, 0xFC}, {0x101, math.MaxInt, 0x100, 0xFC},
		{0x101, -1, 0x100, 0xFC}, {0x101, -64, 0x100, 0}, {0x101, -65, 0x100, ones - 3}, {1, -1, 0, ones - 3}, {0x101, math.MinInt, 0x100, 0x100}, {0x101, math.MinInt + 5, 0x100, 0x114},
		{top + 1, 1 << 61, top, 0}, {top + 3, 1<<61 - 1, top, ones - 3}, {top, 1 << 61, top, top},
	} {
		for interrupt, want := range map[bool]uint64{false: x.exception, true: x.interrupt} {
			for _, c := range rows() {
				c.Tvec = x.tvec
				e := entry{c: c, priv: api.Super, pc: 0x1000, interrupt: interrupt, cause: x.cause}
				if _, pc := e.enter(); pc != want {
					t.Errorf("the pc of Tvec %#x, %d, %t: %#x, not %#x", x.tvec, x.cause, interrupt, pc, want)
				}
				e.check(t)
			}
		}
	}
}

// P14.1: each bit of Tvec, of each cause.
func TestP141EnterTvecBits(t *testing.T) {
	for i := range 64 {
		for _, tvec := range []uint64{1 << i, ^uint64(1 << i), 1<<i | 1, 1<<i - 1} {
			for _, cause := range causes() {
				for _, interrupt := range []bool{false, true} {
					entry{c: api.Csrs{Tvec: tvec, Tval: 1}, interrupt: interrupt, cause: cause}.check(t)
				}
			}
		}
	}
}

// P14.1: Tval is the value, whole, whatever stood there.
func TestP141EnterTval(t *testing.T) {
	values := []uint64{0, 1, 2, 3, 5, 0x80000001, 1 << 32, top, ones - 1, ones}
	for _, was := range values {
		for _, val := range values {
			for _, interrupt := range []bool{false, true} {
				d, _ := Enter(api.Csrs{Tval: was}, api.User, 0, interrupt, 0, val)
				if d.Tval != val {
					t.Errorf("Tval of %#x over %#x: %#x", val, was, d.Tval)
				}
			}
		}
	}
}

// P14.1: what is not told of stays, each register on its own, whichever of its bits are set.
func TestP141EnterStays(t *testing.T) {
	names := []string{"Ie", "Tvec", "Counteren", "Scratch", "Ip", "Satp", "Cycle", "Instret"}
	stay := func(c *api.Csrs) []*uint64 {
		return []*uint64{&c.Ie, &c.Tvec, &c.Counteren, &c.Scratch, &c.Ip, &c.Satp, &c.Cycle, &c.Instret}
	}
	for i, name := range names {
		for bit := range 64 {
			for _, x := range []uint64{1 << bit, ^uint64(1 << bit), 1<<bit - 1} {
				for _, c := range rows() {
					*stay(&c)[i] = x
					d, _ := Enter(c, bit%2, 0x2001, bit%3 == 0, bit%16, 7)
					if *stay(&d)[i] != x {
						t.Errorf("%s: %#x was %#x", name, *stay(&d)[i], x)
					}
				}
			}
		}
	}
}

// P14.1: each row with each cause and privilege, and rows with bits all over.
func TestP141EnterAll(t *testing.T) {
	for _, c := range rows() {
		for _, cause := range causes() {
			for _, priv := range privs() {
				for _, interrupt := range []bool{false, true} {
					entry{c, priv, 0x80000FFF, interrupt, cause, ones - 1}.check(t)
				}
			}
		}
	}
	d := dice(88172645463325252)
	for i := range 2000 {
		entry{d.row(), i % 3, d.next(), i%4 < 2, int(d.next()), d.next()}.check(t)
	}
}
