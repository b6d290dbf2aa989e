package trap

import (
	"testing"

	"suzerain/api"
)

// behind is the row behind a trap and the way back: as it was, but for Spie, Spp, and what tells the trap.
func (e entry) behind() api.Csrs {
	d, _ := e.want()
	d.Status = e.c.Status&^(1<<sppAt) | 1<<spieAt
	return d
}

// checkThere has a trap taken, and come back from, be where it was, as it was.
func (e entry) checkThere(t *testing.T) {
	t.Helper()
	in, _ := e.enter()
	d, pc, priv := Back(in)
	who := api.User
	if e.priv == api.Super {
		who = api.Super
	}
	if d != e.behind() || pc != e.pc-e.pc%2 || priv != who {
		t.Errorf("%+v and back: %#x, %#x, %d, not %#x", e, d, pc, priv, e.behind())
	}
}

// P14.3: who enters and comes back is where it was, as it was.
func TestP143There(t *testing.T) {
	for _, c := range rows() {
		for _, pc := range []uint64{0, 1, 2, 0x80000002, 0x80000003, top, ones - 1, ones} {
			for _, priv := range privs() {
				for _, interrupt := range []bool{false, true} {
					entry{c, priv, pc, interrupt, 5, 9}.checkThere(t)
				}
			}
		}
	}
	for _, status := range statuses() {
		for _, priv := range privs() {
			entry{api.Csrs{Status: status}, priv, 0x2000, false, 2, 0}.checkThere(t)
		}
	}
}

// P14.3: told in numbers.
func TestP143ThereRows(t *testing.T) {
	for _, x := range []struct {
		was, want uint64
		priv      int
	}{
		{0x200000002, 0x200000022, api.User}, {0x200000000, 0x200000020, api.User}, {0x200000022, 0x200000022, api.User}, {0x200000120, 0x200000020, api.User},
		{0x200000002, 0x200000022, api.Super}, {0x200000000, 0x200000020, api.Super}, {0x200000122, 0x200000022, api.Super}, {0x200000120, 0x200000020, api.Super},
	} {
		c := api.Csrs{Status: x.was, Ie: 0x22, Tvec: 0x400, Scratch: 3, Ip: 0x20, Satp: 8 << 60, Cycle: 11, Instret: 10}
		in, to := Enter(c, x.priv, 0x80000004, true, api.IntTimer, 0)
		d, pc, priv := Back(in)
		c.Status, c.Epc, c.Cause = x.want, 0x80000004, top+5
		if to != 0x400 || d != c || pc != 0x80000004 || priv != x.priv {
			t.Errorf("%#x: %#x, %#x, %#x, %d", x.was, to, d, pc, priv)
		}
	}
}

// P14.3: who entered takes no interrupt, though all are there and wanted, but wakes by one; who is back takes it if it took it before.
func TestP143TakesNone(t *testing.T) {
	for _, status := range statuses() {
		for _, priv := range []int{api.User, api.Super} {
			for _, p := range pairs() {
				c := p.of(status)
				in, _ := Enter(c, priv, 0x1000, p.ip%3 == 0, 5, 0)
				if cause, ok := Pending(in, api.Super); cause != 0 || ok {
					t.Errorf("%#x takes %d", in, cause)
				}
				if Wakes(in) != (p.cause != 0) {
					t.Errorf("Wakes(%#x) = %t", in, Wakes(in))
				}
				d, _, who := Back(in)
				cause, ok := Pending(c, priv)
				if got, gotOk := Pending(d, who); got != cause || gotOk != ok {
					t.Errorf("%#x is back and takes %d, %t, not %d, %t", d, got, gotOk, cause, ok)
				}
			}
		}
	}
}

// P14.3: a handler that keeps Epc and Status over a trap within it comes back to where the first trap was.
func TestP143Within(t *testing.T) {
	for _, status := range statuses() {
		for _, first := range []int{api.User, api.Super} {
			for _, interrupt := range []bool{false, true} {
				c := filled(0x5555555555555555)
				c.Status = status
				outer := entry{c, first, 0x80000010, interrupt, 8, 1}
				handler, pc := outer.enter()
				inner := entry{handler, api.Super, pc + 20, !interrupt, 5, 2}
				in, _ := inner.enter()
				if in.Status>>spieAt&1 != 0 || in.Status>>sppAt&1 != 1 {
					t.Errorf("%#x within: Status %#x", status, in.Status)
				}
				d, again, priv := Back(in)
				if d != inner.behind() || again != pc+20 || priv != api.Super || d.Status>>sieAt&1 != 0 {
					t.Errorf("%#x, behind the inner: %#x, %#x, %d", status, d, again, priv)
				}
				d.Status, d.Epc = handler.Status, handler.Epc
				want := outer.behind()
				want.Cause, want.Tval = in.Cause, in.Tval
				if d, pc, priv := Back(d); d != want || pc != 0x80000010 || priv != first {
					t.Errorf("%#x, behind both: %#x, %#x, %d, not %#x", status, d, pc, priv, want)
				}
			}
		}
	}
}

// P14.3: a handler that keeps nothing loses where the first trap was, and comes back twice to the inner one, as a user at last.
func TestP143WithinLost(t *testing.T) {
	c := api.Csrs{Status: 0x200000002, Tvec: 0x101}
	c, pc := Enter(c, api.User, 0x80000010, false, api.CauseCallU, 0)
	if pc != 0x100 || c.Status != 0x200000020 {
		t.Fatalf("%#x, %#x", pc, c)
	}
	c, pc = Enter(c, api.Super, 0x108, true, api.IntTimer, 7)
	if want := (api.Csrs{Status: 0x200000100, Tvec: 0x101, Epc: 0x108, Cause: top + 5, Tval: 7}); pc != 0x114 || c != want {
		t.Fatalf("%#x, %#x", pc, c)
	}
	c, pc, priv := Back(c)
	if pc != 0x108 || priv != api.Super || c.Status != 0x200000020 {
		t.Fatalf("%#x, %d, %#x", pc, priv, c)
	}
	c, pc, priv = Back(c)
	if pc != 0x108 || priv != api.User || c.Status != 0x200000022 {
		t.Fatalf("%#x, %d, %#x", pc, priv, c)
	}
}

// All calls, one behind another, as the chapter says them.
func TestMixed(t *testing.T) {
	d := dice(0xD1342543DE82EF95)
	for range 100 {
		c, priv := d.row(), int(d.next()%2)
		for range 40 {
			checkPending(t, c, priv)
			checkWakes(t, c)
			e := entry{c, priv, d.next(), false, int(d.next() % 16), d.next()}
			checkBack(t, c)
			e.check(t)
			switch cause, ok := Pending(c, priv); {
			case ok:
				e.interrupt, e.cause = true, cause
				e.check(t)
				c, _ = e.enter()
				priv = api.Super
			case d.next()%3 == 0:
				c, _ = e.enter()
				priv = api.Super
			default:
				c, _, priv = Back(c)
			}
			c.Ip, c.Ie = d.next(), d.next()&d.next()
		}
	}
}
