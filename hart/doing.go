package hart

import (
	"suzerain/amo"
	"suzerain/api"
	"suzerain/comp"
	"suzerain/decode"
	"suzerain/space"
)

// The kinds of decode's Kind, from that of OpIllegal on.
const (
	kindNone = iota
	kindJump
	kindBranch
	kindLoad
	kindStore
	kindNumber
	kindRegister
	kindNumber32
	kindRegister32
	kindProduct
	kindProduct32
	kindSystem
	kindCsr
	kindAtomic32
	kindAtomic64
)

// halfLen is how many bytes an instruction of a half has.
const halfLen = 2

// doing is an instruction on its way, with a hart of its own to work on.
type doing struct {
	api.Hart
	api.Insn
	space.Space
	res  *amo.Res
	id   int
	time uint64
	// word is what was fetched, next the pc that it goes on with, out what the step was.
	word uint32
	next uint64
	out  int
}

// work is what an instruction does; a fault, if there is one, ends it.
type work func() api.Fault

// do fetches the instruction and does it.
func (d *doing) do() api.Fault {
	w, fault := d.Fetch(d.C, d.Priv, d.Pc)
	if fault.Is {
		return fault
	}
	d.word, d.Insn = w, comp.Any(w)
	d.next = d.Pc + uint64(d.Len)
	if fault = d.act()(); fault.Is {
		return fault
	}
	d.Pc = d.next
	d.C.Instret++
	return api.Fault{}
}

// act is the work of the instruction. Going by the kind first keeps the tables small, as they are made anew each time.
func (d *doing) act() work {
	switch decode.Kind(d.Op) {
	case kindJump:
		return d.jumps()[d.Op]
	case kindBranch:
		return d.branch
	case kindLoad:
		return d.load
	case kindStore:
		return d.store
	case kindNumber, kindRegister, kindNumber32, kindRegister32, kindProduct, kindProduct32:
		return d.compute
	case kindSystem:
		return d.systems()[d.Op]
	case kindCsr:
		return d.control
	case kindAtomic32, kindAtomic64:
		return d.atomic
	}
	return d.illegal
}

// a and b are the registers that are read.
func (d *doing) a() uint64 { return d.X[d.Rs1] }

func (d *doing) b() uint64 { return d.X[d.Rs2] }

// plus is a number with the instruction's own.
func (d *doing) plus(x uint64) uint64 { return x + uint64(d.Imm) }

// tell writes the register that is written. It is no fault, so that a work may end by it.
func (d *doing) tell(x uint64) api.Fault {
	if d.Rd != 0 {
		d.X[d.Rd] = x
	}
	return api.Fault{}
}

// illegal is the work of what is none, and of what may not be done.
func (d *doing) illegal() api.Fault {
	val := uint64(d.word)
	if d.Len == halfLen {
		val %= 1 << 16
	}
	return api.Fault{Is: true, Cause: api.CauseIllegal, Val: val}
}
