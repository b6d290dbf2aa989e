package decode

import (
	"suzerain/api"
	"suzerain/field"
)

// form reads the registers and the number that an instruction has from its word, and leaves the rest 0.
type form func(w uint32) api.Insn

// number reads the number alone.
type number func(w uint32) int64

// imm reads a number by one of field's formats.
func imm(format int) number {
	return func(w uint32) int64 { return field.Imm(w, format) }
}

// bits reads some bits as they stand, with no sign.
func bits(low, many int) number {
	return func(w uint32) int64 { return int64(field.Get(w, low, many)) }
}

// none is the number of a form that has none.
func none(w uint32) int64 { return 0 }

// target is the form that has a register to write.
func target(n number) form {
	return func(w uint32) api.Insn {
		return api.Insn{Rd: field.Rd(w), Imm: n(w)}
	}
}

// source is the form that has a register to write and one to read.
func source(n number) form {
	return func(w uint32) api.Insn {
		return api.Insn{Rd: field.Rd(w), Rs1: field.Rs1(w), Imm: n(w)}
	}
}

// pair is the form that has two registers to read.
func pair(n number) form {
	return func(w uint32) api.Insn {
		return api.Insn{Rs1: field.Rs1(w), Rs2: field.Rs2(w), Imm: n(w)}
	}
}

// three is the form that has all three registers, and no number.
func three(w uint32) api.Insn {
	return api.Insn{Rd: field.Rd(w), Rs1: field.Rs1(w), Rs2: field.Rs2(w)}
}

// bare is the form that has nothing beside its op.
func bare(w uint32) api.Insn { return api.Insn{} }
