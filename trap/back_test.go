package trap

import (
	"testing"

	"suzerain/api"
)

// P14.1: the eight ways for Sie, Spie and Spp.
func TestP141BackStatusRows(t *testing.T) {
	for _, x := range []struct {
		was, want uint64
		priv      int
	}{
		{0, 0x20, api.User}, {0x2, 0x20, api.User}, {0x20, 0x22, api.User}, {0x22, 0x22, api.User},
		{0x100, 0x20, api.Super}, {0x102, 0x20, api.Super}, {0x120, 0x22, api.Super}, {0x122, 0x22, api.Super},
		{ones, ones - 0x100, api.Super}, {ones - 0x20, ones - 0x102, api.Super}, {ones - 0x100, ones - 0x100, api.User}, {ones - 0x120, ones - 0x102, api.User},
		{ones - 0x22, ones - 0x102, api.Super}, {ones - 2, ones - 0x100, api.Super}, {0x2000C0120, 0x2000C0022, api.Super}, {0x2000C0000, 0x2000C0020, api.User},
		{0x400, 0x420, api.User}, {0x1800, 0x1820, api.User}, {0x80, 0xA0, api.User}, {0x280, 0x2A0, api.User},
	} {
		for _, epc := range []uint64{0, 1, 2, 0x80000002, top, ones, ones - 1} {
			d, pc, priv := Back(api.Csrs{Status: x.was, Epc: epc})
			if d != (api.Csrs{Status: x.want, Epc: epc}) || pc != epc || priv != x.priv {
				t.Errorf("Back of %#x, %#x = %#x, %#x, %d, not %#x, %d", x.was, epc, d, pc, priv, x.want, x.priv)
			}
		}
	}
}

// P14.1: Status bit by bit, with its other bits in many ways.
func TestP141BackStatus(t *testing.T) {
	for _, status := range statuses() {
		checkBack(t, api.Csrs{Status: status, Epc: 0x1234})
		c := filled(ones)
		c.Status = status
		checkBack(t, c)
	}
}

// P14.1: all but Status stays, each register on its own, whichever of its bits are set.
func TestP141BackStays(t *testing.T) {
	for i := range places(&api.Csrs{}) {
		for bit := range 64 {
			for _, x := range []uint64{1 << bit, ^uint64(1 << bit), 1<<bit - 1} {
				for _, c := range rows() {
					*places(&c)[i] = x
					checkBack(t, c)
					if d, _, _ := Back(c); i > 0 && *places(&d)[i] != x {
						t.Errorf("field %d: %#x was %#x", i, *places(&d)[i], x)
					}
				}
			}
		}
	}
}

// P14.1: rows with bits all over.
func TestP141BackAll(t *testing.T) {
	d := dice(362436069)
	for range 2000 {
		checkBack(t, d.row())
	}
}
