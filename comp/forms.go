package comp

import "suzerain/api"

// stack is the register that some halves mean without naming it.
const stack = 2

func none(uint16) api.Insn { return api.Insn{} }

// Those of q 0.

func addStackTo(h uint16) api.Insn {
	n := number(h, 10, 9, 8, 7, 12, 11, 5, 6, 0, 0)
	if n == 0 {
		return none(h)
	}
	return api.Insn{Op: api.OpAddi, Rd: shortS(h), Rs1: stack, Imm: n}
}

func loadWord(h uint16) api.Insn {
	return api.Insn{Op: api.OpLw, Rd: shortS(h), Rs1: shortR(h), Imm: wordAt(h)}
}

func loadDouble(h uint16) api.Insn {
	return api.Insn{Op: api.OpLd, Rd: shortS(h), Rs1: shortR(h), Imm: doubleAt(h)}
}

func storeWord(h uint16) api.Insn {
	return api.Insn{Op: api.OpSw, Rs1: shortR(h), Rs2: shortS(h), Imm: wordAt(h)}
}

func storeDouble(h uint16) api.Insn {
	return api.Insn{Op: api.OpSd, Rs1: shortR(h), Rs2: shortS(h), Imm: doubleAt(h)}
}

// Those of q 1.

func addSmall(h uint16) api.Insn {
	return api.Insn{Op: api.OpAddi, Rd: regR(h), Rs1: regR(h), Imm: small(h)}
}

func addSmall32(h uint16) api.Insn {
	if regR(h) == 0 {
		return none(h)
	}
	return api.Insn{Op: api.OpAddiw, Rd: regR(h), Rs1: regR(h), Imm: small(h)}
}

func setSmall(h uint16) api.Insn {
	return api.Insn{Op: api.OpAddi, Rd: regR(h), Imm: small(h)}
}

func addStackOrLui(h uint16) api.Insn {
	x := api.Insn{Op: api.OpLui, Rd: regR(h), Imm: small(h) * 4096}
	if regR(h) == stack {
		x = api.Insn{Op: api.OpAddi, Rd: stack, Rs1: stack, Imm: signed(h, 12, 4, 3, 5, 2, 6, 0, 0, 0, 0)}
	}
	if x.Imm == 0 {
		return none(h)
	}
	return x
}

func arithmetic(h uint16) api.Insn {
	x := api.Insn{Rd: shortR(h), Rs1: shortR(h)}
	switch get(h, 10, 2) {
	case 0:
		x.Op, x.Imm = api.OpSrli, shift(h)
	case 1:
		x.Op, x.Imm = api.OpSrai, shift(h)
	case 2:
		x.Op, x.Imm = api.OpAndi, small(h)
	default:
		x.Op, x.Rs2 = pairOp(h), shortS(h)
	}
	return x
}

// pairOp is the op of two short registers: those of 64 bits first, then those of 32, of which there are but two.
func pairOp(h uint16) int {
	ops := [2][4]int{
		{api.OpSub, api.OpXor, api.OpOr, api.OpAnd},
		{api.OpSubw, api.OpAddw, api.OpIllegal, api.OpIllegal},
	}
	return ops[get(h, 12, 1)][get(h, 5, 2)]
}

func jump(h uint16) api.Insn {
	return api.Insn{Op: api.OpJal, Imm: signed(h, 12, 8, 10, 9, 6, 7, 2, 11, 5, 4, 3, 0)}
}

func branchZero(h uint16) api.Insn {
	return api.Insn{Op: api.OpBeq, Rs1: shortR(h), Imm: branchBy(h)}
}

func branchOther(h uint16) api.Insn {
	return api.Insn{Op: api.OpBne, Rs1: shortR(h), Imm: branchBy(h)}
}

// Those of q 2.

func shiftLeft(h uint16) api.Insn {
	return api.Insn{Op: api.OpSlli, Rd: regR(h), Rs1: regR(h), Imm: shift(h)}
}

func loadWordStack(h uint16) api.Insn {
	if regR(h) == 0 {
		return none(h)
	}
	return api.Insn{Op: api.OpLw, Rd: regR(h), Rs1: stack, Imm: number(h, 3, 2, 12, 6, 5, 4, 0, 0)}
}

func loadDoubleStack(h uint16) api.Insn {
	if regR(h) == 0 {
		return none(h)
	}
	return api.Insn{Op: api.OpLd, Rd: regR(h), Rs1: stack, Imm: number(h, 4, 3, 2, 12, 6, 5, 0, 0, 0)}
}

// registers are moves, sums, jumps and the break: bit 12 tells a sum from a move, and a jump that keeps where it came from from one that does not.
func registers(h uint16) api.Insn {
	r, s, bit := regR(h), regS(h), get(h, 12, 1)
	switch {
	case s != 0:
		return api.Insn{Op: api.OpAdd, Rd: r, Rs1: r * bit, Rs2: s}
	case r != 0:
		return api.Insn{Op: api.OpJalr, Rd: bit, Rs1: r}
	case bit == 1:
		return api.Insn{Op: api.OpEbreak}
	}
	return none(h)
}

func storeWordStack(h uint16) api.Insn {
	return api.Insn{Op: api.OpSw, Rs1: stack, Rs2: regS(h), Imm: number(h, 8, 7, 12, 11, 10, 9, 0, 0)}
}

func storeDoubleStack(h uint16) api.Insn {
	return api.Insn{Op: api.OpSd, Rs1: stack, Rs2: regS(h), Imm: number(h, 9, 8, 7, 12, 11, 10, 0, 0, 0)}
}
