package enc

import (
	"strconv"
	"strings"

	"suzerain/api"
	"suzerain/decode"
)

// names holds those of the ops ahead of the atomic ones, from OpIllegal on.
var names = [api.OpLrw]string{
	"illegal", "lui", "auipc", "jal", "jalr",
	"beq", "bne", "blt", "bge", "bltu", "bgeu",
	"lb", "lh", "lw", "ld", "lbu", "lhu", "lwu",
	"sb", "sh", "sw", "sd",
	"addi", "slti", "sltiu", "xori", "ori", "andi", "slli", "srli", "srai",
	"add", "sub", "sll", "slt", "sltu", "xor", "srl", "sra", "or", "and",
	"addiw", "slliw", "srliw", "sraiw",
	"addw", "subw", "sllw", "srlw", "sraw",
	"mul", "mulh", "mulhsu", "mulhu", "div", "divu", "rem", "remu",
	"mulw", "divw", "divuw", "remw", "remuw",
	"fence", "fencei", "ecall", "ebreak", "sret", "wfi", "sfence",
	"csrrw", "csrrs", "csrrc", "csrrwi", "csrrsi", "csrrci",
}

// atomicNames holds those of the atomic ops, which are the same of w and of d but for what is behind.
var atomicNames = [api.OpLrd - api.OpLrw]string{
	"lr.", "sc.", "amoswap.", "amoadd.", "amoxor.", "amoand.", "amoor.",
	"amomin.", "amomax.", "amominu.", "amomaxu.",
}

// Name is the name of an op; none of what is no op.
func Name(op int) string {
	switch {
	case op < api.OpIllegal || op > api.OpMaxuad:
		return ""
	case op < api.OpLrw:
		return names[op]
	case op < api.OpLrd:
		return atomicNames[op-api.OpLrw] + "w"
	}
	return atomicNames[op-api.OpLrd] + "d"
}

// Text is the name of what an instruction does, and what it does it with. It is not asked whether a word is that instruction.
func Text(x api.Insn) string {
	parts := []string{Name(x.Op)}
	parts = append(parts, operands(x)...)
	return strings.Join(parts, " ")
}

// operands are the texts behind the name.
func operands(x api.Insn) []string {
	rd, rs1, rs2 := register(x.Rd), register(x.Rs1), register(x.Rs2)
	imm := strconv.FormatInt(x.Imm, 10)
	switch decode.Kind(x.Op) {
	case kindJump, kindLoad, kindNumber, kindNumber32, kindCsr:
		if x.Op == api.OpLui || x.Op == api.OpAuipc || x.Op == api.OpJal {
			return []string{rd, imm}
		}
		return []string{rd, rs1, imm}
	case kindBranch, kindStore:
		return []string{rs1, rs2, imm}
	case kindRegister, kindRegister32, kindProduct, kindProduct32, kindAtomic32, kindAtomic64:
		return []string{rd, rs1, rs2}
	}
	return nil
}

func register(r int) string { return "x" + strconv.Itoa(r) }
