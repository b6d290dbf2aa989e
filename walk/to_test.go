package walk

import (
	"bytes"
	"testing"

	"suzerain/api"
	"suzerain/ram"
)

func TestP113To(t *testing.T) {
	for level := range 3 {
		// Of memory, of its page at Base, and of what is not in it.
		for _, n := range []uint64{0, 1, 2, 3, 5, 0x1000, 0x3FFFF, 0x2AAAA, 0x15555} {
			page := n * (unit(level) / 4096)
			leaf := entry(page, open)
			for _, base := range within {
				m := way(t, base, level, leaf)
				for bit := range 40 {
					at := uint64(1) << bit
					if at >= unit(level) {
						break
					}
					for _, va := range []uint64{base ^ at, base &^ (unit(level) - 1), base | (unit(level) - 1), base&^(unit(level)-1) + at - 1} {
						want := page*4096 + va%unit(level)
						if to, f := To(m, satp(first), api.User, api.Load, va); to != want || f != (api.Fault{}) {
							t.Fatalf("level %d, page %x: To of %x is %x, not %x, %v", level, page, va, to, want, f)
						}
					}
				}
			}
		}
	}
}

// TestP113NotThere asks leaves whose page is not in memory: nobody asks whether it is.
func TestP113NotThere(t *testing.T) {
	for _, row := range []struct {
		level    int
		page, to uint64
	}{
		{0, 0, 0xABC}, {0, first - 1, 0x7FFFFABC}, {0, first, 0x80000ABC}, {0, first + 3, 0x80003ABC}, {0, 1<<44 - 1, 1<<56 - 4096 + 0xABC},
		{0, 1 << 43, 1<<55 + 0xABC}, {0, 1 << 40, 1<<52 + 0xABC}, {1, 0, 0x167ABC}, {1, first, 0x80167ABC}, {1, 1<<44 - 512, 1<<56 - 1<<21 + 0x167ABC},
		{2, 0, 0x34567ABC}, {2, first, 0xB4567ABC}, {2, 1<<44 - 1<<18, 1<<56 - 1<<30 + 0x34567ABC},
	} {
		leaf := entry(row.page, open)
		for kind := range 3 {
			want := told{leaf: api.Leaf{Pte: leaf, Level: row.level}, to: row.to}
			ask{way(t, someVa, row.level, leaf), satp(first), api.User, kind, someVa}.check(t, want)
		}
	}
}

func TestP113NotPaged(t *testing.T) {
	m := way(t, 0, 0, entry(5, open))
	for _, va := range samples() {
		for _, c := range []api.Csrs{{}, satp(1<<60 + first), {Satp: first}, full(7<<60 + first)} {
			ask{m, c, api.User, api.Store, va}.check(t, told{to: va})
		}
	}
}

// TestP113Faults asks that each fault comes with 0, and with no leaf.
func TestP113Faults(t *testing.T) {
	const far = canonicals + 5
	for _, kind := range append([]int{0, 1, 2}, strangeKinds...) {
		for i, row := range []struct {
			m     *ram.Ram
			c     api.Csrs
			va    uint64
			fault api.Fault
		}{
			{way(t, far, 0, entry(5, open)), satp(first), far, pageFault(kind, far)},
			{way(t, someVa, 0, entry(5, open|g)), satp(first + 3), someVa, noAddress(kind, someVa)},
			{way(t, someVa, 1, entry(5, v|g)), satp(first), someVa, noAddress(kind, someVa)},
			{way(t, someVa, 1, entry(513, open|g)), satp(first), someVa, pageFault(kind, someVa)},
			{way(t, someVa, 0, entry(5, g)), satp(first), someVa, pageFault(kind, someVa)},
			{way(t, someVa, 0, entry(5, v|g)), satp(first), someVa, pageFault(kind, someVa)},
			{way(t, someVa, 0, entry(5, open|g-a)), satp(first), someVa, pageFault(kind, someVa)},
			{way(t, someVa, 2, entry(5, v|g|u)), satp(first), someVa, pageFault(kind, someVa)},
		} {
			if to, f := To(row.m, row.c, api.User, kind, row.va); to != 0 || f != row.fault {
				t.Errorf("row %d, kind %d: To is %x, %v", i, kind, to, f)
			}
			if leaf, f := Walk(row.m, row.c, api.User, kind, row.va); leaf != (api.Leaf{}) || f != row.fault {
				t.Errorf("row %d, kind %d: Walk is %v, %v", i, kind, leaf, f)
			}
		}
	}
}

// chance is a row of mixed numbers, the same each time.
type chance uint64

func (n *chance) below(most uint64) uint64 {
	*n = chance(mixed(uint64(*n)))
	return uint64(*n) >> 7 % most
}

// entry is one by which a walk may go on, in most cases.
func (n *chance) entry(pages uint64) uint64 {
	flags := []uint64{v, v, v | g, v | 3<<8, v | r | a, v | x | a | g, v | r | w | a | d, open, open | g, v | r | x | u | a, v | w, open &^ a, n.below(1 << 10)}
	page := first + n.below(pages)
	switch n.below(8) {
	case 0:
		page = n.below(16) << 18
	case 1:
		page = n.below(16) << 9
	case 2:
		page = n.below(1 << 44)
	}
	e := entry(page, flags[n.below(uint64(len(flags)))])
	if n.below(32) == 0 {
		e |= 1 << (54 + n.below(10))
	}
	return e
}

// number is the entry that stands in the bytes of memory; false, if it is not there.
func number(memory []byte, page, index uint64) (uint64, bool) {
	if page < first || page >= first+uint64(len(memory)/4096) {
		return 0, false
	}
	var e uint64
	for i := range 8 {
		e += uint64(memory[(page-first)*4096+8*index:][i]) << (8 * i)
	}
	return e, true
}

// walked is what the chapter answers, of bytes, level by level; and how many entries it went by.
func (q ask) walked(memory []byte) (told, int) {
	if q.va < 1<<64-canonicals && q.va >= canonicals {
		return refused(pageFault(q.kind, q.va)), 0
	}
	page, global := q.c.Satp%(1<<44), false
	for level := 2; ; level-- {
		e, there := number(memory, page, part(q.va, level))
		if !there {
			return refused(noAddress(q.kind, q.va)), 3 - level
		}
		o := modelOf(e, level)
		if !o.table || level == 0 {
			return o.end(q, global), 3 - level
		}
		global = global || isBit(e, 5)
		page = e >> 10 % (1 << 44)
	}
}

// TestP114Mixed asks walks of memory that is full of entries against a model of bytes, and that nothing is written.
func TestP114Mixed(t *testing.T) {
	type ending struct {
		kind, cause, steps int
		global             bool
	}
	seen := map[ending]int{}
	n := chance(0x9E3779B97F4A7C15)
	for _, pages := range []int{1, 3, 16} {
		m := fresh(t, pages)
		for i := range uint64(pages * 512) {
			m.Put(api.Base+8*i, 8, n.entry(uint64(pages)))
		}
		before := whole(t, m)
		for range 100000 {
			va := n.below(canonicals)
			switch n.below(8) {
			case 0, 1, 2:
				va = ones - va
			case 3:
				va = mixed(va)
			}
			c := full(8<<60 + n.below(1<<16)<<44 + first + n.below(uint64(pages)))
			c.Status = n.below(1 << 20)
			q := ask{m, c, int(n.below(2)), int(n.below(3)), va}
			want, steps := q.walked(before)
			if got := q.answer(t); got != want {
				t.Fatalf("of %x, kind %d, priv %d, satp %x, status %x: %+v, not %+v", va, q.kind, q.priv, c.Satp, c.Status, got, want)
			}
			seen[ending{q.kind, want.fault.Cause, steps, want.leaf.Global}]++
		}
		if !bytes.Equal(whole(t, m), before) {
			t.Errorf("the walks wrote in %d pages", pages)
		}
	}
	for kind := range 3 {
		causes := [...][2]int{{12, 1}, {13, 5}, {15, 7}}[kind]
		for steps := 1; steps <= 3; steps++ {
			wanted := []ending{{kind, 0, steps, false}, {kind, 0, steps, true}, {kind, causes[0], steps, false}}
			if steps > 1 {
				wanted = append(wanted, ending{kind, causes[1], steps, false})
			}
			for _, c := range wanted {
				if seen[c] == 0 {
					t.Errorf("no walk was %v", c)
				}
			}
		}
	}
}

// TestP114Fault asks that a fault is of the kind that was asked for, and of all of va, whatever the same memory was asked before.
func TestP114Fault(t *testing.T) {
	m := way(t, someVa, 1, entry(first+9, v))
	for _, va := range append(samples(), someVa) {
		// The tables lead out of memory at this one part of va alone.
		out := va>>21 == someVa>>21
		for range 2 {
			for kind, causes := range [...][2]int{{12, 1}, {13, 5}, {15, 7}} {
				cause := causes[0]
				if out {
					cause = causes[1]
				}
				ask{m, satp(first), api.Super, kind, va}.check(t, told{fault: api.Fault{Is: true, Cause: cause, Val: va}})
			}
		}
	}
}
