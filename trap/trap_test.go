package trap

import (
	"math"
	"testing"

	"suzerain/api"
)

const (
	ones = 1<<64 - 1
	top  = 1 << 63
)

// The bits of Status that a trap moves, by their numbers.
const (
	sieAt  = 1
	spieAt = 5
	sppAt  = 8
	moved  = 1<<sieAt | 1<<spieAt | 1<<sppAt
)

// strangePrivs are privileges that are none.
var strangePrivs = []int{-1, 2, 3, 4, 256, 257, 1 << 32, 1<<32 + 1, math.MinInt, math.MinInt + 1, math.MaxInt}

// privs are those that there are, and those.
func privs() []int {
	return append([]int{0, 1}, strangePrivs...)
}

// causes are those that there are, and some that are none: great ones, and below 0.
func causes() []int {
	return []int{
		0, 1, 2, 3, 4, 5, 6, 7, 8, 9, 12, 13, 15, 16, 63, 64, 1 << 31, 1 << 32, 1<<60 - 1, 1 << 61, 1<<62 - 1, 1 << 62, 1<<62 + 1, math.MaxInt,
		-1, -2, -5, -64, -1 << 32, -1 << 62, math.MinInt + 1, math.MinInt,
	}
}

// places are where the fields of a row stand, in its order.
func places(c *api.Csrs) []*uint64 {
	return []*uint64{
		&c.Status, &c.Ie, &c.Tvec, &c.Counteren, &c.Scratch, &c.Epc, &c.Cause, &c.Tval, &c.Ip, &c.Satp, &c.Cycle, &c.Instret,
	}
}

// filled is a row of which each field is x.
func filled(x uint64) api.Csrs {
	var c api.Csrs
	for _, place := range places(&c) {
		*place = x
	}
	return c
}

// dice are numbers with bits all over, the same each time.
type dice uint64

func (d *dice) next() uint64 {
	x := *d
	x ^= x << 13
	x ^= x >> 7
	x ^= x << 17
	*d = x
	return uint64(x)
}

func (d *dice) row() api.Csrs {
	var c api.Csrs
	for _, place := range places(&c) {
		*place = d.next()
	}
	return c
}

// rows are those that the calls are tried with: of none, of all bits, each of whose fields is another, and each with one field that is set alone, or alone is not.
func rows() []api.Csrs {
	d := dice(0x9E3779B97F4A7C15)
	out := []api.Csrs{{}, {Status: 2 << 32}, filled(ones), filled(0x5555555555555555), filled(0xAAAAAAAAAAAAAAAA), d.row(), d.row(), d.row()}
	for i := range places(&api.Csrs{}) {
		alone, left := api.Csrs{}, filled(ones)
		*places(&alone)[i], *places(&left)[i] = ones, 0
		out = append(out, alone, left)
	}
	return out
}

// statuses are all ways for the moved bits, each with none, all, and each one of the others.
func statuses() []uint64 {
	others := []uint64{0, ones &^ moved, 2 << 32, 2<<32 | 1<<18 | 1<<19, 0x5555555555555555 &^ moved}
	for i := range 64 {
		others = append(others, 1<<i&^moved, ^uint64(1<<i)&^moved)
	}
	var out []uint64
	for _, other := range others {
		for way := range uint64(8) {
			out = append(out, other|way&1<<sieAt|way>>1&1<<spieAt|way>>2<<sppAt)
		}
	}
	return out
}

// bitwise is the number of which each bit is what it is told to be.
func bitwise(is func(i int) uint64) uint64 {
	var x uint64
	for i := range 64 {
		x += is(i) << i
	}
	return x
}

// entry is what an Enter is asked.
type entry struct {
	c         api.Csrs
	priv      int
	pc        uint64
	interrupt bool
	cause     int
	val       uint64
}

// status is Status behind it, as the chapter says it.
func (e entry) status() uint64 {
	return bitwise(func(i int) uint64 {
		switch {
		case i == spieAt:
			return e.c.Status >> sieAt & 1
		case i == sieAt, i == sppAt && e.priv != 1:
			return 0
		case i == sppAt:
			return 1
		}
		return e.c.Status >> i & 1
	})
}

// want is what the chapter has it answer.
func (e entry) want() (api.Csrs, uint64) {
	d := e.c
	d.Epc, d.Cause, d.Tval, d.Status = e.pc-e.pc%2, uint64(e.cause), e.val, e.status()
	to := e.c.Tvec - e.c.Tvec%4
	if e.interrupt {
		d.Cause ^= top
		for range 4 * (e.c.Tvec % 2) {
			to += uint64(e.cause)
		}
	}
	return d, to
}

func (e entry) enter() (api.Csrs, uint64) {
	return Enter(e.c, e.priv, e.pc, e.interrupt, e.cause, e.val)
}

// check has it answer that, twice.
func (e entry) check(t *testing.T) {
	t.Helper()
	want, to := e.want()
	for range 2 {
		if d, pc := e.enter(); d != want || pc != to {
			t.Errorf("Enter of %+v = %#x, %#x, not %#x, %#x", e, d, pc, want, to)
		}
	}
}

// returned is what the chapter has Back answer.
func returned(c api.Csrs) (api.Csrs, uint64, int) {
	d := c
	d.Status = bitwise(func(i int) uint64 {
		switch i {
		case sieAt:
			return c.Status >> spieAt & 1
		case spieAt:
			return 1
		case sppAt:
			return 0
		}
		return c.Status >> i & 1
	})
	return d, c.Epc, int(c.Status >> sppAt & 1)
}

func checkBack(t *testing.T, c api.Csrs) {
	t.Helper()
	want, to, who := returned(c)
	for range 2 {
		if d, pc, priv := Back(c); d != want || pc != to || priv != who {
			t.Errorf("Back of %#x = %#x, %#x, %d, not %#x, %#x, %d", c, d, pc, priv, want, to, who)
		}
	}
}

// there is what the chapter has Wakes answer, and Pending of who lets it.
func there(c api.Csrs) (int, bool) {
	for _, i := range []int{1, 5} {
		if c.Ip>>i%2 == 1 && c.Ie>>i%2 == 1 {
			return i, true
		}
	}
	return 0, false
}

func checkPending(t *testing.T, c api.Csrs, priv int) {
	t.Helper()
	cause, ok := there(c)
	if priv != 0 && (priv != 1 || c.Status>>sieAt%2 == 0) {
		cause, ok = 0, false
	}
	for range 2 {
		if got, gotOk := Pending(c, priv); got != cause || gotOk != ok {
			t.Errorf("Pending(%#x, %d) = %d, %t, not %d, %t", c, priv, got, gotOk, cause, ok)
		}
	}
}

func checkWakes(t *testing.T, c api.Csrs) {
	t.Helper()
	_, want := there(c)
	for range 2 {
		if got := Wakes(c); got != want {
			t.Errorf("Wakes(%#x) = %t", c, got)
		}
	}
}

func TestNumbersAreThoseOfApi(t *testing.T) {
	if api.Sie != 1<<sieAt || api.Spie != 1<<spieAt || api.Spp != 1<<sppAt {
		t.Error("the bits of Status")
	}
	if api.User != 0 || api.Super != 1 || api.IntSoft != 1 || api.IntTimer != 5 {
		t.Error("the privileges, and the interrupts")
	}
}
