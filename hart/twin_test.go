package hart

import (
	"suzerain/api"
	"suzerain/comp"
	"suzerain/csr"
	"suzerain/ram"
	"suzerain/walk"
)

// twin is a hart, memory and what is reserved, that goes on as the chapter says it, instruction by instruction, and keeps no leaves.
type twin struct {
	h    api.Hart
	m    *ram.Ram
	held [8]block
	id   int
	time uint64
	// w is what was fetched, and in what it is.
	w  uint32
	in api.Insn
	// stands counts the Sc that stood.
	stands int
}

// real is where some bytes really are, or the fault of asking.
func (tw *twin) real(kind int, va uint64, n int) (uint64, api.Fault) {
	at, fault := walk.To(tw.m, tw.h.C, tw.h.Priv, kind, va)
	if end := base + uint64(tw.m.Pages())*4096; !fault.Is && (at < base || at > end-uint64(n)) {
		fault = api.Fault{Is: true, Cause: []int{1, 5, 7}[kind], Val: va}
	}
	return at, fault
}

func (tw *twin) trap(cause, val uint64) {
	c := &tw.h.C
	c.Epc, c.Cause, c.Tval = tw.h.Pc, cause, val
	on, who := c.Status>>1&1, uint64(tw.h.Priv)
	c.Status = c.Status&^(sie|spie|spp) + on<<5 + who<<8
	tw.h.Pc, tw.h.Priv = c.Tvec&^3, super
	if cause >= top && c.Tvec&1 == 1 {
		tw.h.Pc += 4 * (cause - top)
	}
}

// step is one, and what it was.
func (tw *twin) step() int {
	h := &tw.h
	ready := h.C.Ip & h.C.Ie & 0x22
	if h.Wait && ready == 0 {
		return waited
	}
	h.Wait = false
	h.C.Cycle++
	if ready != 0 && (h.Priv == user || h.C.Status&sie != 0) {
		cause := uint64(top + 5)
		if ready&2 != 0 {
			cause = top + 1
		}
		tw.trap(cause, 0)
		return done
	}
	before := *h
	out, fault := done, tw.fetch()
	if !fault.Is {
		out, fault = tw.do()
	}
	if fault.Is {
		*h = before
		tw.trap(uint64(fault.Cause), fault.Val)
		return done
	}
	h.C.Instret++
	h.X[0] = 0
	return out
}

func (tw *twin) fetch() api.Fault {
	tw.w = 0
	for i := range uint64(2) {
		at, fault := tw.real(api.Fetch, tw.h.Pc+2*i, 2)
		if fault.Is {
			return fault
		}
		x, _ := tw.m.Get(at, 2)
		tw.w += uint32(x) << (16 * i)
		if x%4 != 3 && i == 0 {
			break
		}
	}
	tw.in = comp.Any(tw.w)
	return api.Fault{}
}

// do does what was fetched, and lets the pc be where that says.
func (tw *twin) do() (int, api.Fault) {
	h, in := &tw.h, tw.in
	a, b, imm, pc := h.X[in.Rs1], h.X[in.Rs2], uint64(in.Imm), h.Pc
	next := pc + uint64(in.Len)
	h.Pc = next
	switch op := in.Op; {
	case op == api.OpIllegal:
		return 0, tw.illegal()
	case op == api.OpLui:
		h.X[in.Rd] = imm
	case op == api.OpAuipc:
		h.X[in.Rd] = pc + imm
	case op == api.OpJal:
		h.X[in.Rd], h.Pc = next, pc+imm
	case op == api.OpJalr:
		h.X[in.Rd], h.Pc = next, (a+imm)/2*2
	case op <= api.OpBgeu:
		if taken(op, a, b) {
			h.Pc = pc + imm
		}
	case op <= api.OpLwu:
		return 0, tw.load(loading[op-api.OpLb], a+imm)
	case op <= api.OpSd:
		return 0, tw.store(storing[op-api.OpSb].n, a+imm, b)
	case op <= api.OpSrai, op >= api.OpAddiw && op <= api.OpSraiw:
		h.X[in.Rd] = computed(op, a, imm)
	case op <= api.OpRemuw:
		h.X[in.Rd] = computed(op, a, b)
	case op <= api.OpSfence:
		return tw.system(pc)
	case op <= api.OpCsrrci:
		c, told, ok := csr.Do(h.C, h.Priv, tw.time, in, a)
		if !ok {
			return 0, tw.illegal()
		}
		h.C, h.X[in.Rd] = c, told
	default:
		n := 4 + (op-api.OpLrw)/11*4
		return 0, tw.atomic((op-api.OpLrw)%11, n, a, b)
	}
	return 0, api.Fault{}
}

func (tw *twin) illegal() api.Fault {
	return api.Fault{Is: true, Cause: 2, Val: uint64(tw.w)}
}

// places are where some bytes really are, one by one, and asked together where va is a multiple of n.
func (tw *twin) places(kind, n int, va uint64) ([]uint64, api.Fault) {
	var all []uint64
	for i := range uint64(n) {
		many := 1
		if va%uint64(n) == 0 {
			many = n - int(i)
		}
		at, fault := tw.real(kind, va+i, many)
		if fault.Is {
			return nil, fault
		}
		all = append(all, at)
	}
	return all, api.Fault{}
}

func (tw *twin) load(q access, va uint64) api.Fault {
	all, fault := tw.places(api.Load, q.n, va)
	if fault.Is {
		return fault
	}
	var b []byte
	for _, at := range all {
		x, _ := tw.m.Get(at, 1)
		b = append(b, byte(x))
	}
	tw.h.X[tw.in.Rd] = q.is(b)
	return fault
}

func (tw *twin) store(n int, va, x uint64) api.Fault {
	all, fault := tw.places(api.Store, n, va)
	for i, at := range all {
		tw.put(at, byte(x>>(8*i)))
	}
	return fault
}

// put stores a byte, and ends what others have reserved there.
func (tw *twin) put(at uint64, b byte) {
	tw.m.Load(at, []byte{b})
	for i := range tw.held {
		if i != tw.id && tw.held[i].is && tw.held[i].at/8 == at/8 {
			tw.held[i] = block{}
		}
	}
}

// system is do of Fence to Sfence.
func (tw *twin) system(pc uint64) (int, api.Fault) {
	h := &tw.h
	switch op := tw.in.Op; {
	case op == api.OpFence || op == api.OpFencei:
	case op == api.OpEbreak:
		return 0, api.Fault{Is: true, Cause: 3, Val: pc}
	case op == api.OpEcall && h.Priv == user:
		return 0, api.Fault{Is: true, Cause: 8}
	case op == api.OpEcall:
		return call, api.Fault{}
	case h.Priv == user:
		return 0, tw.illegal()
	case op == api.OpWfi:
		h.Wait = true
	case op == api.OpSret:
		on, who := h.C.Status>>5&1, h.C.Status>>8&1
		h.Pc, h.Priv = h.C.Epc, int(who)
		h.C.Status = h.C.Status&^(sie|spp) | on<<1 | spie
	}
	return 0, api.Fault{}
}

func (tw *twin) atomic(which, n int, a, b uint64) api.Fault {
	kind, cause := api.Store, 6
	if which == amoLr {
		kind, cause = api.Load, 4
	}
	if a%uint64(n) != 0 {
		return api.Fault{Is: true, Cause: cause, Val: a}
	}
	at, fault := tw.real(kind, a, n)
	if fault.Is {
		return fault
	}
	old, _ := tw.m.Get(at, n)
	told, stands := uint64(sign(old, n)), true
	switch which {
	case amoLr:
		tw.held[tw.id] = block{at / 8 * 8, true}
		stands = false
	case amoSc:
		stands = tw.held[tw.id] == block{at / 8 * 8, true}
		tw.held[tw.id] = block{}
		told = 1
		if stands {
			told = 0
			tw.stands++
		}
	default:
		b = left(which, n, old, b)
	}
	for i := range uint64(n) {
		if stands {
			tw.put(at+i, byte(b>>(8*i)))
		}
	}
	tw.h.X[tw.in.Rd] = told
	return fault
}
