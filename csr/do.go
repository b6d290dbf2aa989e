package csr

import "suzerain/api"

// instruction is how one writes: what, of what was told and y; whether it does so of an Rs1 of 0 too; and whether y is the number that Rs1 is.
type instruction struct {
	written func(told, y uint64) uint64
	always  bool
	number  bool
}

// instructions are those, by their ops.
func instructions() map[int]instruction {
	swap := func(_, y uint64) uint64 { return y }
	set := func(told, y uint64) uint64 { return told | y }
	drop := func(told, y uint64) uint64 { return told &^ y }
	return map[int]instruction{
		api.OpCsrrw:  {written: swap, always: true},
		api.OpCsrrs:  {written: set},
		api.OpCsrrc:  {written: drop},
		api.OpCsrrwi: {written: swap, always: true, number: true},
		api.OpCsrrsi: {written: set, number: true},
		api.OpCsrrci: {written: drop, number: true},
	}
}

// Do is an instruction: the row behind it, what it tells, and whether it may be.
func Do(c api.Csrs, priv int, time uint64, x api.Insn, rs1 uint64) (d api.Csrs, told uint64, ok bool) {
	in, ok := instructions()[x.Op]
	number := int(x.Imm)
	writes := in.always || x.Rs1 != 0
	if !ok || !May(c, number, priv, writes) {
		return c, 0, false
	}
	told = Read(c, number, time)
	if !writes {
		return c, told, true
	}
	y := rs1
	if in.number {
		y = uint64(x.Rs1)
	}
	return Write(c, number, in.written(told, y)), told, true
}
