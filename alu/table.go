package alu

import (
	"suzerain/api"
	"suzerain/decode"
	"suzerain/word"
)

// works is the table of an op's kind; nil of a kind that has none. Going by the kind first keeps a table small, as it is made anew each time.
func works(op int) map[int]work {
	switch decode.Kind(op) {
	case kindNumber:
		return numbers()
	case kindRegister:
		return registers()
	case kindNumber32:
		return numbers32()
	case kindRegister32:
		return registers32()
	case kindProduct:
		return products()
	case kindProduct32:
		return products32()
	}
	return nil
}

func numbers() map[int]work {
	return map[int]work{
		api.OpAddi: sum, api.OpXori: xor, api.OpOri: or, api.OpAndi: and,
		api.OpSlti: flag(lessSigned), api.OpSltiu: flag(less),
		api.OpSlli: shift(shiftLeft), api.OpSrli: shift(shiftRight), api.OpSrai: shift(shiftRightSigned),
	}
}

func registers() map[int]work {
	return map[int]work{
		api.OpAdd: sum, api.OpSub: difference, api.OpXor: xor, api.OpOr: or, api.OpAnd: and,
		api.OpSlt: flag(lessSigned), api.OpSltu: flag(less),
		api.OpSll: shift(shiftLeft), api.OpSrl: shift(shiftRight), api.OpSra: shift(shiftRightSigned),
	}
}

func numbers32() map[int]work {
	return map[int]work{
		api.OpAddiw: lower(sum),
		api.OpSlliw: shift32(low, shiftLeft),
		api.OpSrliw: shift32(low, shiftRight),
		api.OpSraiw: shift32(lowSigned, shiftRightSigned),
	}
}

func registers32() map[int]work {
	return map[int]work{
		api.OpAddw: lower(sum), api.OpSubw: lower(difference),
		api.OpSllw: shift32(low, shiftLeft),
		api.OpSrlw: shift32(low, shiftRight),
		api.OpSraw: shift32(lowSigned, shiftRightSigned),
	}
}

func products() map[int]work {
	return map[int]work{
		api.OpMul:  product,
		api.OpMulh: high(true, true), api.OpMulhsu: high(true, false), api.OpMulhu: high(false, false),
		api.OpDiv: divide(word.Div, true), api.OpDivu: divide(word.Div, false),
		api.OpRem: divide(word.Rem, true), api.OpRemu: divide(word.Rem, false),
	}
}

func products32() map[int]work {
	return map[int]work{
		api.OpMulw: lower(product),
		api.OpDivw: divide(word.Div32, true), api.OpDivuw: divide(word.Div32, false),
		api.OpRemw: divide(word.Rem32, true), api.OpRemuw: divide(word.Rem32, false),
	}
}

func branches() map[int]test {
	return map[int]test{
		api.OpBeq: same, api.OpBne: not(same),
		api.OpBlt: lessSigned, api.OpBge: not(lessSigned),
		api.OpBltu: less, api.OpBgeu: not(less),
	}
}
