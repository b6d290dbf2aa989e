package hart

import (
	"suzerain/api"
	"suzerain/csr"
	"suzerain/trap"
)

// asids is how many there are.
const asids = 1 << 16

// systems are the works of the kind that has no numbers to work with.
func (d *doing) systems() map[int]work {
	return map[int]work{
		api.OpFence: d.nothing, api.OpFencei: d.nothing,
		api.OpEcall: d.ecall, api.OpEbreak: d.ebreak,
		api.OpSret: d.guarded(d.sret), api.OpWfi: d.guarded(d.wfi), api.OpSfence: d.guarded(d.sfence),
	}
}

// guarded is a work that is a supervisor's alone.
func (d *doing) guarded(w work) work {
	if d.Priv != api.Super {
		return d.illegal
	}
	return w
}

// nothing is the work of fences: harts that are picked one at a time see what was stored anyway.
func (d *doing) nothing() api.Fault { return api.Fault{} }

func (d *doing) ecall() api.Fault {
	if d.Priv != api.Super {
		return api.Fault{Is: true, Cause: api.CauseCallU}
	}
	d.out = api.OutCall
	return api.Fault{}
}

func (d *doing) ebreak() api.Fault {
	return api.Fault{Is: true, Cause: api.CauseBreak, Val: d.Pc}
}

func (d *doing) sret() api.Fault {
	d.C, d.next, d.Priv = trap.Back(d.C)
	return api.Fault{}
}

func (d *doing) wfi() api.Fault {
	d.Wait = true
	return api.Fault{}
}

func (d *doing) sfence() api.Fault {
	if d.T != nil {
		d.T.Flush(d.Rs1 == 0, d.a(), d.Rs2 == 0, d.b()%asids)
	}
	return api.Fault{}
}

// control reads and writes the supervisor's registers.
func (d *doing) control() api.Fault {
	c, told, ok := csr.Do(d.C, d.Priv, d.time, d.Insn, d.a())
	if !ok {
		return d.illegal()
	}
	d.C = c
	return d.tell(told)
}
