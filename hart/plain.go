package hart

import (
	"suzerain/alu"
	"suzerain/api"
	"suzerain/word"
)

// byteBits are those of a byte.
const byteBits = 8

// jumps are the works of the kind that sets a register by the pc, or by a number alone.
func (d *doing) jumps() map[int]work {
	return map[int]work{api.OpLui: d.lui, api.OpAuipc: d.auipc, api.OpJal: d.jal, api.OpJalr: d.jalr}
}

func (d *doing) lui() api.Fault { return d.tell(uint64(d.Imm)) }

func (d *doing) auipc() api.Fault { return d.tell(d.plus(d.Pc)) }

func (d *doing) jal() api.Fault { return d.link(d.plus(d.Pc)) }

func (d *doing) jalr() api.Fault { return d.link(d.plus(d.a()) &^ 1) }

// link goes on elsewhere, and tells where it would have gone on.
func (d *doing) link(to uint64) api.Fault {
	back := d.next
	d.next = to
	return d.tell(back)
}

func (d *doing) branch() api.Fault {
	if alu.Taken(d.Op, d.a(), d.b()) {
		d.next = d.plus(d.Pc)
	}
	return api.Fault{}
}

func (d *doing) compute() api.Fault {
	return d.tell(alu.Do(d.Op, d.a(), alu.Second(d.Insn, d.b())))
}

// width is how many bytes a load has, and whether they are signed.
type width struct {
	n      int
	signed bool
}

func loads() map[int]width {
	return map[int]width{
		api.OpLb: {1, true}, api.OpLh: {2, true}, api.OpLw: {4, true}, api.OpLd: {8, true},
		api.OpLbu: {1, false}, api.OpLhu: {2, false}, api.OpLwu: {4, false},
	}
}

// stores are how many bytes each has.
func stores() map[int]int {
	return map[int]int{api.OpSb: 1, api.OpSh: 2, api.OpSw: 4, api.OpSd: 8}
}

func (d *doing) load() api.Fault {
	of := loads()[d.Op]
	x, fault := d.Load(d.C, d.Priv, d.plus(d.a()), of.n)
	if fault.Is {
		return fault
	}
	if of.signed {
		x = word.Sext(x, byteBits*of.n)
	}
	return d.tell(x)
}

func (d *doing) store() api.Fault {
	all, fault := d.Store(d.C, d.Priv, d.plus(d.a()), stores()[d.Op], d.b())
	// The bytes of one store may lie in two pages that are far from each other.
	for _, at := range all {
		d.res.Stored(d.id, at, 1)
	}
	return fault
}
