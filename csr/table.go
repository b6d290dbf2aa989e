package csr

import "suzerain/api"

// Interrupts, as bits of Ie and Ip.
const (
	softBit     = 1 << 1
	timerBit    = 1 << 5
	externalBit = 1 << 9
)

// statusBits are those of Status that are written.
const statusBits = api.Sie | api.Spie | api.Spp | api.Sum | api.Mxr

// How Satp's highest four bits say whether there are tables.
const (
	modeFrom = 60
	modeBare = 0
	modeSv39 = 8
)

// register is one that is read and written: its place in a row, and what it holds behind a write of x, of what it held.
type register struct {
	place func(c *api.Csrs) *uint64
	held  func(was, x uint64) uint64
}

// registers are those, by their numbers.
func registers() map[int]register {
	return map[int]register{
		api.CsrStatus:    {func(c *api.Csrs) *uint64 { return &c.Status }, heldStatus},
		api.CsrIe:        {func(c *api.Csrs) *uint64 { return &c.Ie }, only(softBit | timerBit | externalBit)},
		api.CsrTvec:      {func(c *api.Csrs) *uint64 { return &c.Tvec }, butFor(1 << 1)},
		api.CsrCounteren: {func(c *api.Csrs) *uint64 { return &c.Counteren }, only(1<<0 | 1<<1 | 1<<2)},
		api.CsrScratch:   {func(c *api.Csrs) *uint64 { return &c.Scratch }, all},
		api.CsrEpc:       {func(c *api.Csrs) *uint64 { return &c.Epc }, butFor(1 << 0)},
		api.CsrCause:     {func(c *api.Csrs) *uint64 { return &c.Cause }, all},
		api.CsrTval:      {func(c *api.Csrs) *uint64 { return &c.Tval }, all},
		api.CsrIp:        {func(c *api.Csrs) *uint64 { return &c.Ip }, heldIp},
		api.CsrSatp:      {func(c *api.Csrs) *uint64 { return &c.Satp }, heldSatp},
	}
}

// counter is one that is read alone, and the bit of Counteren that lets a user read it.
type counter struct {
	told func(c api.Csrs, time uint64) uint64
	user uint64
}

// counters are those, by their numbers.
func counters() map[int]counter {
	return map[int]counter{
		api.CsrCycle:   {func(c api.Csrs, _ uint64) uint64 { return c.Cycle }, 1 << 0},
		api.CsrTime:    {func(_ api.Csrs, time uint64) uint64 { return time }, 1 << 1},
		api.CsrInstret: {func(c api.Csrs, _ uint64) uint64 { return c.Instret }, 1 << 2},
	}
}

// only is of a register that has no other bits.
func only(bits uint64) func(was, x uint64) uint64 {
	return func(_, x uint64) uint64 { return x & bits }
}

// butFor is of a register that has all bits but these.
func butFor(bits uint64) func(was, x uint64) uint64 {
	return only(^bits)
}

// all is of a register that has all bits.
func all(_, x uint64) uint64 {
	return x
}

func heldStatus(_, x uint64) uint64 {
	return x&statusBits | api.Uxl
}

func heldIp(was, x uint64) uint64 {
	return x&softBit | was&^softBit
}

func heldSatp(was, x uint64) uint64 {
	switch x >> modeFrom {
	case modeBare, modeSv39:
		return x
	}
	return was
}
