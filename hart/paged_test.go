package hart

import (
	"testing"

	"suzerain/api"
)

const (
	// first is the page at Base, in which the code stands; the tables are in the three behind it.
	first = 0x80000
	// beyond is the page behind the last.
	beyond = first + 8
	// vcode is where the code of a scene with a table stands, for the hart.
	vcode = 0x4100

	// The flags of an entry, by their letters.
	v, r, w, x, u, g, a, d = 1, 2, 4, 8, 16, 32, 64, 128
	// open lets a user do whatever there is, and system a supervisor.
	open   = v | r | w | x | u | a | d
	system = v | r | w | x | a | d
)

// satp is by which the tables of a scene hold.
const satp = 8<<60 + 3<<44 + first + 1

// paged is a scene with a table, by which the lowest nine bits of a virtual page's number alone tell where it is: 4 is the code's, 5 and 6 are the pages 6 and 5 of memory, and no other is anywhere.
func paged(t *testing.T, priv int) scene {
	t.Helper()
	sc := plain(t)
	sc.m = memory(t, 8)
	sc.h.Pc, sc.h.Priv, sc.h.C.Satp = vcode, priv, satp
	sc.h.C.Tvec = 0x4400
	for i := range uint64(512) {
		sc.m.Put(base+0x1000+i*8, 8, (first+2)<<10|v)
		sc.m.Put(base+0x2000+i*8, 8, (first+3)<<10|v)
		sc.m.Put(base+0x3000+i*8, 8, 0)
	}
	flags := uint64(system)
	if priv == user {
		flags = open
	}
	for i, page := range map[uint64]uint64{4: first, 5: first + 6, 6: first + 5} {
		sc.m.Put(base+0x3000+i*8, 8, page<<10|flags)
	}
	return sc
}

// entry is the scene, of a memory of its own, in which a virtual page has an entry.
func (sc scene) entry(i, page, flags uint64) scene {
	sc.m = sc.m.Clone()
	sc.m.Put(base+0x3000+i%512*8, 8, page<<10|flags)
	return sc
}

// status is the scene with some more bits of Status.
func (sc scene) status(bits uint64) scene {
	sc.h.C.Status |= bits
	return sc
}

// pc is the scene whose hart is elsewhere.
func (sc scene) pc(at uint64) scene {
	sc.h.Pc = at
	return sc
}

// addi is an instruction that lets X of 10 be 10 more.
var addi = api.Insn{Op: api.OpAddi, Rd: 10, Rs1: 10, Imm: 10}
