package trap

import (
	"testing"

	"suzerain/api"
)

// pair is Ip and Ie, and which interrupt they have in common that is one; 0 if there is none.
type pair struct {
	ip, ie uint64
	cause  int
}

// pairs are both interrupts and each, wanted and not, and with other bits beside them.
func pairs() []pair {
	return []pair{
		{0, 0, 0}, {0x2, 0x2, 1}, {0x20, 0x20, 5}, {0x22, 0x22, 1}, {ones, ones, 1}, {ones - 2, ones, 5}, {ones, ones - 2, 5}, {ones - 0x20, ones, 1}, {ones, ones - 0x20, 1},
		{0x22, 0x2, 1}, {0x22, 0x20, 5}, {0x2, 0x22, 1}, {0x20, 0x22, 5}, {0x2, 0x20, 0}, {0x20, 0x2, 0}, {0x2, 0, 0}, {0x20, 0, 0}, {0x22, 0, 0}, {0, 0x2, 0}, {0, 0x20, 0}, {0, 0x22, 0},
		{ones, 0, 0}, {0, ones, 0}, {ones - 0x22, ones, 0}, {ones, ones - 0x22, 0}, {ones - 0x22, ones - 0x22, 0}, {ones - 2, ones - 0x20, 0}, {ones - 0x20, ones - 2, 0},
		{0x200, 0x200, 0}, {0x1, 0x1, 0}, {0x4, 0x4, 0}, {0x10, 0x10, 0}, {0x40, 0x40, 0}, {0x8, 0x8, 0}, {0x80, 0x80, 0}, {0x888, 0x888, 0}, {top, top, 0}, {1 << 33, 1 << 33, 0}, {1 << 37, 1 << 37, 0},
		{0x202, 0x222, 1}, {0x220, 0x222, 5}, {0x200, 0x222, 0}, {0x222, 0x200, 0}, {0x222, 0x202, 1}, {0x222, 0x220, 5}, {0x220, 0x202, 0},
	}
}

// of is a row that has them.
func (p pair) of(status uint64) api.Csrs {
	return api.Csrs{Status: status, Ip: p.ip, Ie: p.ie}
}

// withSie and withoutSie are Status with that bit and without, the other bits being none, all, or some.
var (
	withSie    = []uint64{0x2, 0x22, 0x122, 0x102, 0x200000002, 0x2000C0122, ones}
	withoutSie = []uint64{0, 0x20, 0x120, 0x100, 0x200000000, 0x2000C0120, ones - 2}
)

func checkTaken(t *testing.T, c api.Csrs, priv, cause int) {
	t.Helper()
	if got, ok := Pending(c, priv); got != cause || ok != (cause != 0) {
		t.Errorf("Pending(%#x, %d) = %d, %t, not %d", c, priv, got, ok, cause)
	}
	checkPending(t, c, priv)
}

// P14.2: of a user whatever Sie is, of a supervisor with Sie alone, of no other.
func TestP142Pending(t *testing.T) {
	for _, p := range pairs() {
		for _, status := range withSie {
			checkTaken(t, p.of(status), api.User, p.cause)
			checkTaken(t, p.of(status), api.Super, p.cause)
		}
		for _, status := range withoutSie {
			checkTaken(t, p.of(status), api.User, p.cause)
			checkTaken(t, p.of(status), api.Super, 0)
		}
		for _, status := range append(withSie[:len(withSie):len(withSie)], withoutSie...) {
			for _, priv := range strangePrivs {
				checkTaken(t, p.of(status), priv, 0)
			}
		}
	}
}

// P14.2: whether they have one in common, whatever Status is, and all else.
func TestP142Wakes(t *testing.T) {
	for _, p := range pairs() {
		for _, c := range rows() {
			for _, status := range append(withSie[:len(withSie):len(withSie)], withoutSie...) {
				c.Status, c.Ip, c.Ie = status, p.ip, p.ie
				if got := Wakes(c); got != (p.cause != 0) {
					t.Errorf("Wakes(%#x) = %t", c, got)
				}
				checkWakes(t, c)
			}
		}
	}
}

// P14.2: each two bits alone, and each two left out.
func TestP142Bits(t *testing.T) {
	for i := range 64 {
		for j := range 64 {
			for _, p := range []pair{{ip: 1 << i, ie: 1 << j}, {ip: ^uint64(1 << i), ie: ^uint64(1 << j)}, {ip: 1 << i, ie: ^uint64(1 << j)}, {ip: ^uint64(1 << i), ie: 1 << j}} {
				for _, status := range []uint64{0, 2, ones - 2, ones} {
					checkWakes(t, p.of(status))
					checkPending(t, p.of(status), api.User)
					checkPending(t, p.of(status), api.Super)
					checkPending(t, p.of(status), 2)
				}
			}
		}
	}
}

// P14.2: all ways for the bits of Ip and Ie up to the one behind the timer's.
func TestP142Low(t *testing.T) {
	for ip := range uint64(1 << 7) {
		for ie := range uint64(1 << 7) {
			p := pair{ip: ip, ie: ie}
			checkWakes(t, p.of(0))
			checkPending(t, p.of(0), api.User)
			checkPending(t, p.of(2), api.Super)
			checkPending(t, p.of(ones-2), api.Super)
		}
	}
}

// P14.2: no register but Ip, Ie and Status has a say.
func TestP142Others(t *testing.T) {
	for _, c := range rows() {
		for _, priv := range privs() {
			checkPending(t, c, priv)
		}
		checkWakes(t, c)
	}
	d := dice(521288629)
	for i := range 4000 {
		c := d.row()
		checkPending(t, c, i%3)
		checkWakes(t, c)
	}
}
