package enc

import (
	"suzerain/api"
	"suzerain/decode"
)

// least is the word of an op whose registers and number are 0; 0 of OpIllegal, and of what is no op.
func least(op int) uint32 {
	switch decode.Kind(op) {
	case kindJump:
		return jumps()[op]
	case kindBranch:
		return branches()[op]
	case kindLoad:
		return loads()[op]
	case kindStore:
		return stores()[op]
	case kindNumber:
		return numbers()[op]
	case kindRegister:
		return registers()[op]
	case kindNumber32:
		return numbers32()[op]
	case kindRegister32:
		return registers32()[op]
	case kindProduct:
		return products()[op]
	case kindProduct32:
		return products32()[op]
	case kindSystem:
		return systems()[op]
	case kindCsr:
		return csrs()[op]
	case kindAtomic32:
		return atomics()[op]
	case kindAtomic64:
		// Those of 64 bits stand in the order of those of 32, and have f3 3, not 2.
		return atomics()[op-(api.OpLrd-api.OpLrw)] | 1<<12
	}
	return 0
}

// The tables of least words, a kind each.

func jumps() map[int]uint32 {
	return map[int]uint32{api.OpLui: 0x37, api.OpAuipc: 0x17, api.OpJal: 0x6F, api.OpJalr: 0x67}
}

func branches() map[int]uint32 {
	return map[int]uint32{
		api.OpBeq: 0x0063, api.OpBne: 0x1063, api.OpBlt: 0x4063,
		api.OpBge: 0x5063, api.OpBltu: 0x6063, api.OpBgeu: 0x7063,
	}
}

func loads() map[int]uint32 {
	return map[int]uint32{
		api.OpLb: 0x0003, api.OpLh: 0x1003, api.OpLw: 0x2003, api.OpLd: 0x3003,
		api.OpLbu: 0x4003, api.OpLhu: 0x5003, api.OpLwu: 0x6003,
	}
}

func stores() map[int]uint32 {
	return map[int]uint32{api.OpSb: 0x0023, api.OpSh: 0x1023, api.OpSw: 0x2023, api.OpSd: 0x3023}
}

func numbers() map[int]uint32 {
	return map[int]uint32{
		api.OpAddi: 0x0013, api.OpSlti: 0x2013, api.OpSltiu: 0x3013,
		api.OpXori: 0x4013, api.OpOri: 0x6013, api.OpAndi: 0x7013,
		api.OpSlli: 0x1013, api.OpSrli: 0x5013, api.OpSrai: 0x40005013,
	}
}

func registers() map[int]uint32 {
	return map[int]uint32{
		api.OpAdd: 0x0033, api.OpSub: 0x40000033, api.OpSll: 0x1033, api.OpSlt: 0x2033, api.OpSltu: 0x3033,
		api.OpXor: 0x4033, api.OpSrl: 0x5033, api.OpSra: 0x40005033, api.OpOr: 0x6033, api.OpAnd: 0x7033,
	}
}

func numbers32() map[int]uint32 {
	return map[int]uint32{
		api.OpAddiw: 0x001B, api.OpSlliw: 0x101B, api.OpSrliw: 0x501B, api.OpSraiw: 0x4000501B,
	}
}

func registers32() map[int]uint32 {
	return map[int]uint32{
		api.OpAddw: 0x003B, api.OpSubw: 0x4000003B, api.OpSllw: 0x103B,
		api.OpSrlw: 0x503B, api.OpSraw: 0x4000503B,
	}
}

func products() map[int]uint32 {
	return map[int]uint32{
		api.OpMul: 0x02000033, api.OpMulh: 0x02001033, api.OpMulhsu: 0x02002033, api.OpMulhu: 0x02003033,
		api.OpDiv: 0x02004033, api.OpDivu: 0x02005033, api.OpRem: 0x02006033, api.OpRemu: 0x02007033,
	}
}

func products32() map[int]uint32 {
	return map[int]uint32{
		api.OpMulw: 0x0200003B, api.OpDivw: 0x0200403B, api.OpDivuw: 0x0200503B,
		api.OpRemw: 0x0200603B, api.OpRemuw: 0x0200703B,
	}
}

func systems() map[int]uint32 {
	return map[int]uint32{
		api.OpFence: 0x000F, api.OpFencei: 0x100F, api.OpEcall: 0x00000073, api.OpEbreak: 0x00100073,
		api.OpSret: 0x10200073, api.OpWfi: 0x10500073, api.OpSfence: 0x12000073,
	}
}

func csrs() map[int]uint32 {
	return map[int]uint32{
		api.OpCsrrw: 0x1073, api.OpCsrrs: 0x2073, api.OpCsrrc: 0x3073,
		api.OpCsrrwi: 0x5073, api.OpCsrrsi: 0x6073, api.OpCsrrci: 0x7073,
	}
}

// atomics are those of 32 bits.
func atomics() map[int]uint32 {
	return map[int]uint32{
		api.OpLrw: 0x1000202F, api.OpScw: 0x1800202F, api.OpSwapw: 0x0800202F, api.OpAddaw: 0x0000202F,
		api.OpXoraw: 0x2000202F, api.OpAndaw: 0x6000202F, api.OpOraw: 0x4000202F, api.OpMinaw: 0x8000202F,
		api.OpMaxaw: 0xA000202F, api.OpMinuaw: 0xC000202F, api.OpMaxuaw: 0xE000202F,
	}
}
