package hart

import (
	"bytes"
	"strconv"
	"strings"
	"testing"

	"suzerain/amo"
	"suzerain/api"
	"suzerain/enc"
	"suzerain/ram"
	"suzerain/space"
	"suzerain/tlb"
)

const (
	ones = 1<<64 - 1
	top  = 1 << 63

	base = 0x80000000
	// code is where the instruction of a scene stands, and handler where its traps go.
	code    = base + 0x100
	handler = base + 0x400

	user, super        = 0, 1
	done, call, waited = 0, 1, 2

	sie, spie, spp, sum, mxr, uxl = 0x2, 0x20, 0x100, 0x40000, 0x80000, 0x200000000
)

// mosts are how many leaves are kept; -1 stands for nothing that keeps them.
var mosts = []int{-1, 0, 1, 8}

// dice are numbers with bits all over, the same each time.
type dice uint64

func (d *dice) next() uint64 {
	x := *d
	x ^= x << 13
	x ^= x >> 7
	x ^= x << 17
	*d = x
	return uint64(x)
}

// memory has bytes all over.
func memory(t *testing.T, pages int) *ram.Ram {
	t.Helper()
	m, errno := ram.New(pages)
	if errno != api.OK {
		t.Fatal(errno)
	}
	d := dice(0x9E3779B97F4A7C15)
	for at := uint64(base); m.Put(at, 8, d.next()); at += 8 {
	}
	return m
}

// image is all of memory.
func image(m *ram.Ram) []byte {
	b, _ := m.Bytes(base, m.Pages()*4096)
	return b
}

// with is a space that keeps so many leaves.
func with(m *ram.Ram, most int) space.Space {
	if most < 0 {
		return space.Space{M: m}
	}
	return space.Space{M: m, T: tlb.New(most)}
}

// lay is the word of an instruction.
func lay(t *testing.T, x api.Insn) uint32 {
	t.Helper()
	x.Len = 4
	w, ok := enc.Word(x)
	if !ok {
		t.Fatalf("%+v is no word", x)
	}
	return w
}

// block is a hart's reservation.
type block struct {
	at uint64
	is bool
}

func blocks(r *amo.Res) [8]block {
	var all [8]block
	for i := range all {
		all[i].at, all[i].is = r.Has(i)
	}
	return all
}

// put is what stands in memory behind a step, byte by byte, and did not ahead of it.
type put struct {
	at uint64
	b  []byte
}

// scene is what a step is asked of.
type scene struct {
	h    api.Hart
	m    *ram.Ram
	r    *amo.Res
	id   int
	time uint64
}

// plain is a scene without a table, in which each register is another, and each hart has reserved something. The hart's own id is 2.
func plain(t *testing.T) scene {
	t.Helper()
	sc := scene{m: memory(t, 2), r: amo.Fresh(), id: 2, time: 99}
	for i := range 8 {
		sc.r.Set(i, base+0x1000+uint64(i)*8)
	}
	sc.h = api.Hart{Pc: code, Priv: super, C: api.Csrs{Status: uxl, Tvec: handler, Counteren: 7, Scratch: 7, Epc: 0x222, Cause: 11, Tval: 12, Cycle: 100, Instret: 50}}
	for i := range sc.h.X {
		sc.h.X[i] = uint64(i) * 0x0101010101010101
	}
	return sc
}

// as is the scene by one of a privilege.
func (sc scene) as(priv int) scene {
	sc.h.Priv = priv
	return sc
}

// reg is the scene in which a register holds a number.
func (sc scene) reg(i int, x uint64) scene {
	sc.h.X[i] = x
	return sc
}

// word is the scene, of a memory of its own, in which a whole word stands at its code; half one in which a half does.
func (sc scene) word(w uint32) scene {
	sc.m = sc.m.Clone()
	sc.m.Put(code, 4, uint64(w))
	return sc
}

func (sc scene) half(h uint16) scene {
	sc.m = sc.m.Clone()
	sc.m.Put(code, 2, uint64(h))
	return sc
}

// op is the scene with an instruction.
func (sc scene) op(t *testing.T, x api.Insn) scene {
	t.Helper()
	return sc.word(lay(t, x))
}

// bytes is the scene, of a memory of its own, in which some bytes stand.
func (sc scene) bytes(at uint64, b ...byte) scene {
	sc.m = sc.m.Clone()
	sc.m.Load(at, b)
	return sc
}

// behind is what a step leaves.
type behind struct {
	h    api.Hart
	out  int
	puts []put
	res  [8]block
}

// done is what an instruction of some bytes leaves that does nothing else.
func (sc scene) done(n uint64) behind {
	b := behind{h: sc.h, res: blocks(sc.r)}
	b.h.Wait = false
	b.h.Pc += n
	b.h.C.Cycle++
	b.h.C.Instret++
	return b
}

// told is what an instruction of four bytes leaves that tells a register something.
func (sc scene) told(rd int, x uint64) behind {
	b := sc.done(4)
	b.h.X[rd] = x
	return b
}

// trap is what one of an exception leaves, or of an interrupt, whose cause has the highest bit.
func (sc scene) trap(cause, val uint64) behind {
	b := behind{h: sc.h, res: blocks(sc.r)}
	b.h.Wait = false
	b.h.Priv = super
	b.h.Pc = sc.h.C.Tvec / 4 * 4
	if cause >= top && sc.h.C.Tvec%2 == 1 {
		b.h.Pc += 4 * (cause - top)
	}
	c := &b.h.C
	c.Cycle++
	c.Epc, c.Cause, c.Tval = sc.h.Pc, cause, val
	c.Status &^= sie | spie | spp
	if sc.h.C.Status&sie != 0 {
		c.Status |= spie
	}
	if sc.h.Priv == super {
		c.Status |= spp
	}
	return b
}

// check has the step done in spaces that keep more leaves and less, and holds all that it leaves against what is wanted.
func (sc scene) check(t *testing.T, want behind) {
	t.Helper()
	memory := image(sc.m)
	for _, p := range want.puts {
		copy(memory[p.at-base:], p.b)
	}
	for _, most := range mosts {
		m, r := sc.m.Clone(), sc.r.Clone()
		h, out := Step(sc.h, with(m, most), r, sc.id, sc.time)
		if h != want.h || out != want.out {
			t.Errorf("keeping %d, the step at %x is %d, not %d, %s", most, sc.h.Pc, out, want.out, differ(h, want.h))
		}
		if !bytes.Equal(image(m), memory) {
			t.Errorf("keeping %d, the step at %x leaves another memory", most, sc.h.Pc)
		}
		if got := blocks(r); got != want.res {
			t.Errorf("keeping %d, the step at %x leaves %+v reserved, not %+v", most, sc.h.Pc, got, want.res)
		}
	}
}

// numbers are all that a hart has, in an order of their own.
func numbers(h api.Hart) []uint64 {
	c := h.C
	wait := uint64(0)
	if h.Wait {
		wait = 1
	}
	return append(h.X[:], h.Pc, uint64(h.Priv), wait, c.Status, c.Ie, c.Tvec, c.Counteren, c.Scratch, c.Epc, c.Cause, c.Tval, c.Ip, c.Satp, c.Cycle, c.Instret)
}

// differ tells what of a hart is not as it is wanted.
func differ(got, want api.Hart) string {
	names := strings.Fields("Pc Priv Wait Status Ie Tvec Counteren Scratch Epc Cause Tval Ip Satp Cycle Instret")
	out, all := "", numbers(want)
	for i, n := range numbers(got) {
		if n == all[i] {
			continue
		}
		name := "X of " + strconv.Itoa(i)
		if i >= 32 {
			name = names[i-32]
		}
		out += name + " is " + strconv.FormatUint(n, 16) + ", not " + strconv.FormatUint(all[i], 16) + "; "
	}
	return out
}

// le are the lowest n bytes of a number, the lowest first.
func le(x uint64, n int) []byte {
	var b []byte
	for i := range n {
		b = append(b, byte(x>>(8*i)))
	}
	return b
}
