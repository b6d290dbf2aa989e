package decode

import "suzerain/api"

// The tables of ops: what they have no row for is OpIllegal, which is 0. They are by f3, but where it is said.

func indirect() map[uint32]int {
	return map[uint32]int{0: api.OpJalr}
}

func branches() map[uint32]int {
	return map[uint32]int{
		0: api.OpBeq, 1: api.OpBne, 4: api.OpBlt, 5: api.OpBge, 6: api.OpBltu, 7: api.OpBgeu,
	}
}

func loads() map[uint32]int {
	return map[uint32]int{
		0: api.OpLb, 1: api.OpLh, 2: api.OpLw, 3: api.OpLd, 4: api.OpLbu, 5: api.OpLhu, 6: api.OpLwu,
	}
}

func stores() map[uint32]int {
	return map[uint32]int{0: api.OpSb, 1: api.OpSh, 2: api.OpSw, 3: api.OpSd}
}

func plain() map[uint32]int {
	return map[uint32]int{
		0: api.OpAddi, 2: api.OpSlti, 3: api.OpSltiu, 4: api.OpXori, 6: api.OpOri, 7: api.OpAndi,
	}
}

// shifts go by the six topmost bits first: how far has six, not five.
func shifts(top uint32) map[uint32]int {
	switch top {
	case 0:
		return map[uint32]int{1: api.OpSlli, 5: api.OpSrli}
	case 16:
		return map[uint32]int{5: api.OpSrai}
	}
	return nil
}

func shifts32(f7 uint32) map[uint32]int {
	switch f7 {
	case 0:
		return map[uint32]int{1: api.OpSlliw, 5: api.OpSrliw}
	case 32:
		return map[uint32]int{5: api.OpSraiw}
	}
	return nil
}

func registers(f7 uint32) map[uint32]int {
	switch f7 {
	case 0:
		return map[uint32]int{
			0: api.OpAdd, 1: api.OpSll, 2: api.OpSlt, 3: api.OpSltu,
			4: api.OpXor, 5: api.OpSrl, 6: api.OpOr, 7: api.OpAnd,
		}
	case 32:
		return map[uint32]int{0: api.OpSub, 5: api.OpSra}
	case 1:
		return map[uint32]int{
			0: api.OpMul, 1: api.OpMulh, 2: api.OpMulhsu, 3: api.OpMulhu,
			4: api.OpDiv, 5: api.OpDivu, 6: api.OpRem, 7: api.OpRemu,
		}
	}
	return nil
}

func registers32(f7 uint32) map[uint32]int {
	switch f7 {
	case 0:
		return map[uint32]int{0: api.OpAddw, 1: api.OpSllw, 5: api.OpSrlw}
	case 32:
		return map[uint32]int{0: api.OpSubw, 5: api.OpSraw}
	case 1:
		return map[uint32]int{
			0: api.OpMulw, 4: api.OpDivw, 5: api.OpDivuw, 6: api.OpRemw, 7: api.OpRemuw,
		}
	}
	return nil
}

func fences() map[uint32]int {
	return map[uint32]int{0: api.OpFence, 1: api.OpFencei}
}

// wholes are by all of the word.
func wholes() map[uint32]int {
	return map[uint32]int{
		0x00000073: api.OpEcall, 0x00100073: api.OpEbreak, 0x10200073: api.OpSret, 0x10500073: api.OpWfi,
	}
}

func csrs() map[uint32]int {
	return map[uint32]int{
		1: api.OpCsrrw, 2: api.OpCsrrs, 3: api.OpCsrrc, 5: api.OpCsrrwi, 6: api.OpCsrrsi, 7: api.OpCsrrci,
	}
}

// atomics are by the five topmost bits, and are those of 32 bits.
func atomics() map[uint32]int {
	return map[uint32]int{
		2: api.OpLrw, 3: api.OpScw, 1: api.OpSwapw, 0: api.OpAddaw, 4: api.OpXoraw, 12: api.OpAndaw,
		8: api.OpOraw, 16: api.OpMinaw, 20: api.OpMaxaw, 24: api.OpMinuaw, 28: api.OpMaxuaw,
	}
}
