package tlb

import (
	"bytes"
	"math"
	"testing"

	"suzerain/api"
	"suzerain/ram"
	"suzerain/walk"
)

const (
	// first is the page at Base.
	first = 0x80000
	// someVa has another number in the part of each level.
	someVa = 0x1234567ABC

	// The flags of an entry, by their letters.
	v, r, w, x, u, g, a, d = 1, 2, 4, 8, 16, 32, 64, 128
	// open lets a user do whatever there is, and system a supervisor.
	open   = v | r | w | x | u | a | d
	system = v | r | w | x | a | d

	sum, mxr = 1 << 18, 1 << 19
)

var (
	strangeKinds = []int{-1, -2, 3, 4, 257, 1 << 32, 1<<32 + 1, math.MinInt, math.MaxInt}
	strangePrivs = []int{-1, 2, 3, 256, 1 << 32, 1<<32 + 1, math.MinInt, math.MaxInt}
)

// entry is a page and flags.
func entry(page, flags uint64) uint64 {
	return page<<10 + flags
}

// satp is a table and an asid.
func satp(page, asid uint64) api.Csrs {
	return api.Csrs{Satp: 8<<60 + asid<<44 + page}
}

// real is where an address is by an entry, whether that is Aligned or not.
func real(e, va uint64, level int) uint64 {
	return e>>10%(1<<44)*4096/unit(level)*unit(level) + va%unit(level)
}

// pageFault and noAddress are faults by their causes, a Fetch's, a Load's and a Store's; of kinds that are none they are a Load's.
func pageFault(kind int, va uint64) api.Fault {
	return fault(kind, va, 12, 13, 15)
}

func noAddress(kind int, va uint64) api.Fault {
	return fault(kind, va, 1, 5, 7)
}

func fault(kind int, va uint64, causes ...int) api.Fault {
	if kind < 0 || kind > 2 {
		kind = api.Load
	}
	return api.Fault{Is: true, Cause: causes[kind], Val: va}
}

// memory has four pages: a table of each level, by which way lays a walk, and one more.
func memory(t *testing.T) *ram.Ram {
	t.Helper()
	m, errno := ram.New(4)
	if errno != api.OK {
		t.Fatal(errno)
	}
	return m
}

// way lets the walk of va come to e at a level.
func way(t *testing.T, m *ram.Ram, va uint64, level int, e uint64) {
	t.Helper()
	for l := 2; l >= level; l-- {
		page := uint64(first + 2 - l)
		stands := e
		if l > level {
			stands = entry(page+1, v)
		}
		if !m.Put(page*4096+va/unit(l)%512*8, 8, stands) {
			t.Fatalf("no place for an entry of level %d", l)
		}
	}
}

// ask is a call of To.
type ask struct {
	m          *ram.Ram
	c          api.Csrs
	priv, kind int
	va         uint64
}

// told are its answers, and how many misses and leaves there are behind it.
type told struct {
	to     uint64
	fault  api.Fault
	misses uint64
	kept   int
}

// check asks x, and that memory stays as it is.
func (q ask) check(t *testing.T, x *Tlb, want told) {
	t.Helper()
	before := q.bytes()
	to, f := x.To(q.m, q.c, q.priv, q.kind, q.va)
	if got := (told{to, f, x.Misses(), x.Len()}); got != want {
		t.Errorf("of %x, kind %d, priv %d, satp %x, status %x: %+v, not %+v", q.va, q.kind, q.priv, q.c.Satp, q.c.Status, got, want)
	}
	if !bytes.Equal(q.bytes(), before) {
		t.Errorf("To of %x, kind %d, priv %d wrote", q.va, q.kind, q.priv)
	}
}

func (q ask) bytes() []byte {
	if q.m == nil {
		return nil
	}
	b, _ := q.m.Bytes(api.Base, q.m.Pages()*api.PageSize)
	return b
}

// TestP123NotPaged asks without a table, where neither memory nor what is kept is asked.
func TestP123NotPaged(t *testing.T) {
	m := memory(t)
	way(t, m, 4096, 0, entry(5, open))
	for mode := range uint64(16) {
		if mode == 8 {
			continue
		}
		for _, rest := range []uint64{0, first, 3<<44 + first, 1<<60 - 1} {
			c := api.Csrs{Satp: mode<<60 + rest, Status: ones}
			for _, va := range []uint64{0, 4096, 4099, someVa, 1<<38 - 1, 1 << 38, 1 << 40, 1 << 63, ones} {
				o := one{va, c.Satp >> 44 % (1 << 16), leaf(entry(9, open|g), 2, true)}
				for _, most := range []int{0, 1, 8} {
					row := []one{o}[:min(most, 1)]
					x := with(most, row...)
					for _, kind := range append([]int{0, 1, 2}, strangeKinds...) {
						for _, priv := range append([]int{0, 1}, strangePrivs...) {
							ask{nil, c, priv, kind, va}.check(t, x, told{to: va, kept: len(row)})
						}
					}
					ask{m, c, api.User, api.Load, va}.check(t, x, told{to: va, kept: len(row)})
					holds(t, x, row...)
				}
			}
		}
	}
}

// TestP123Canonical asks addresses that may not be, though a leaf is kept that covers them, and there is no memory to walk in.
func TestP123Canonical(t *testing.T) {
	vas := []uint64{1 << 38, 1<<38 + 1, 1<<39 - 1, 1 << 39, 1 << 63, 1<<63 - 1, ones - 1<<38, 1<<64 - 1<<39}
	for i := 38; i < 64; i++ {
		vas = append(vas, 1<<i+someVa, ones-1<<i)
	}
	for _, va := range vas {
		for _, o := range []one{{va, 3, leaf(entry(0, open|g), 2, true)}, {va, 3, leaf(entry(9, open), 0, false)}, {someVa, 3, leaf(entry(9, open), 0, false)}} {
			x := with(4, o)
			for _, kind := range append([]int{0, 1, 2}, strangeKinds...) {
				for _, priv := range []int{0, 1, 2} {
					ask{nil, satp(first, 3), priv, kind, va}.check(t, x, told{fault: pageFault(kind, va), kept: 1})
				}
			}
			holds(t, x, o)
		}
	}
	m := memory(t)
	for _, va := range []uint64{0, 1<<38 - 1, 1<<64 - 1<<38, ones} {
		e := entry(1<<18, open)
		way(t, m, va, 2, e)
		ask{m, satp(first, 0), api.User, api.Load, va}.check(t, New(1), told{to: real(e, va, 2), misses: 1, kept: 1})
	}
}

// TestP123Kept asks what is kept and lets it: no memory is walked in.
func TestP123Kept(t *testing.T) {
	for level := range 3 {
		for _, page := range []uint64{0, 1 << 18, 1<<44 - 1<<18, 5, 1<<44 - 1} {
			for _, asid := range []uint64{0, 1, 0x8000, 0xFFFF} {
				for _, row := range []struct {
					flags, status uint64
					kind, priv    int
				}{
					{v | r | a | u, 0, api.Load, api.User}, {v | x | a | u, mxr, api.Load, api.User}, {v | x | a | u, 0, api.Fetch, api.User}, {open, 0, api.Store, api.User},
					{v | r | a, 0, api.Load, api.Super}, {v | r | a | u, sum, api.Load, api.Super}, {v | x | a, mxr, api.Load, api.Super}, {v | x | a, sum, api.Fetch, api.Super},
					{open, sum, api.Store, api.Super}, {system, 0, api.Store, api.Super}, {open | g, ones, api.Fetch, api.User},
				} {
					e := entry(page, row.flags)
					c := satp(1<<44-1, asid)
					c.Status = row.status
					o := one{someVa, asid, leaf(e, level, false)}
					x := with(2, o)
					for _, within := range []uint64{0, 1, 0x800, unit(level) - 1, unit(level) / 2} {
						va := someVa ^ within
						for _, m := range []*ram.Ram{nil, memory(t)} {
							ask{m, c, row.priv, row.kind, va}.check(t, x, told{to: real(e, va, level), kept: 1})
						}
					}
					holds(t, x, o)
				}
			}
		}
	}
}

// TestP123Put asks which leaf is kept behind a miss: that of the walk, for the address as it is, and for Satp's asid.
func TestP123Put(t *testing.T) {
	for level := range 3 {
		for _, flags := range []uint64{open, open | g} {
			for _, asid := range []uint64{0, 7, 0xFFFF} {
				m := memory(t)
				e := entry(1<<20, flags)
				way(t, m, someVa, level, e)
				x := New(8)
				q := ask{m, satp(first, asid), api.User, api.Store, someVa}
				q.check(t, x, told{to: real(e, someVa, level), misses: 1, kept: 1})
				holds(t, x, one{someVa, asid, leaf(e, level, flags != open)})
				for _, other := range []uint64{asid ^ 1, asid ^ 0x8000, asid + 1<<16, asid + 1<<60} {
					if l, ok := x.Find(someVa, other); ok != (flags != open) {
						t.Errorf("of another asid is found %+v", l)
					}
				}
				for i := range uint64(5) {
					q.va = someVa ^ (unit(level)-1)/(i+1)
					q.kind, q.m = int(i%3), nil
					q.check(t, x, told{to: real(e, q.va, level), misses: 1, kept: 1})
				}
			}
		}
	}
}

// TestP123GlobalTable asks a leaf that is Global by a table on the way.
func TestP123GlobalTable(t *testing.T) {
	m := memory(t)
	e := entry(77, open)
	way(t, m, someVa, 0, e)
	m.Put(first*4096+someVa/unit(2)%512*8, 8, entry(first+1, v|g))
	x := New(8)
	ask{m, satp(first, 1), api.User, api.Load, someVa}.check(t, x, told{to: real(e, someVa, 0), misses: 1, kept: 1})
	holds(t, x, one{someVa, 1, leaf(e, 0, true)})
	ask{nil, satp(first, 2), api.User, api.Load, someVa}.check(t, x, told{to: real(e, someVa, 0), misses: 1, kept: 1})
}

// TestP123NotLet asks what is kept and does not let it, while memory's entry does, and does not.
func TestP123NotLet(t *testing.T) {
	for i, row := range []struct {
		old, flags, status uint64
		kind, priv         int
		may                bool
	}{
		{v | r | u | a, open, 0, api.Store, api.User, true}, {v | r | u | a, v | r | u | a, 0, api.Store, api.User, false},
		{v | r | w | u | a, open, 0, api.Store, api.User, true}, {v | r | w | u | a, open &^ d, 0, api.Store, api.User, false},
		{v | r | w | u | d, open, 0, api.Load, api.User, true}, {open &^ a, open &^ a, 0, api.Load, api.User, false},
		{v | r | u | a, open, 0, api.Fetch, api.User, true}, {v | r | u | a, open &^ x, 0, api.Fetch, api.User, false},
		{v | x | u | a, open, 0, api.Load, api.User, true}, {v | x | u | a, v | x | u | a, 0, api.Load, api.User, false},
		{open, system, 0, api.Load, api.Super, true}, {open, open, 0, api.Load, api.Super, false}, {open, open, sum, api.Fetch, api.Super, false},
		{system, open, ones, api.Load, api.User, true}, {system, system, ones, api.Load, api.User, false}, {open, 0, 0, api.Load, api.Super, false},
		{0, open, 0, api.Load, api.User, true}, {v, open, 0, api.Fetch, api.User, true}, {0, 0, 0, api.Load, api.User, false},
		{open, open, sum, 3, api.User, false}, {open, open, sum, -1, api.User, false}, {open, open, sum, api.Load, 2, false}, {open, open, sum, api.Load, -1, false},
	} {
		for level := range 3 {
			m := memory(t)
			e := entry(3<<18, row.flags)
			way(t, m, someVa, level, e)
			old := one{someVa, 5, leaf(entry(1<<18, row.old), level, false)}
			c := satp(first, 5)
			c.Status = row.status
			q := ask{m, c, row.priv, row.kind, someVa}
			for _, most := range []int{1, 2, 8} {
				stay := []one{{fillerVa, 5, leaf(0, 0, false)}, old}
				stay = stay[2-min(most, 2):]
				x := with(most, stay...)
				want := told{fault: pageFault(row.kind, someVa), misses: 1, kept: len(stay)}
				if row.may {
					stay = append(stay, one{someVa, 5, leaf(e, level, false)})
					stay = stay[max(0, len(stay)-most):]
					want = told{to: real(e, someVa, level), misses: 1, kept: len(stay)}
				}
				q.check(t, x, want)
				if holds(t, x, stay...); t.Failed() {
					t.Fatalf("row %d, level %d, most %d", i, level, most)
				}
			}
		}
	}
}

// fillerVa is Canonical, and not within any leaf of someVa's.
const fillerVa = 0x3FC0000000

// TestP123Behind asks again what is not let by the first leaf that covers: it stays the first, so each is a miss, till it is gone.
func TestP123Behind(t *testing.T) {
	m := memory(t)
	e := entry(300, open)
	way(t, m, someVa, 0, e)
	old, young := one{someVa, 0, leaf(entry(200, v|r|u|a), 0, false)}, one{someVa, 0, leaf(e, 0, false)}
	x := with(3, old)
	store, load := ask{m, satp(first, 0), api.User, api.Store, someVa}, ask{m, satp(first, 0), api.User, api.Load, someVa}
	store.check(t, x, told{to: real(e, someVa, 0), misses: 1, kept: 2})
	load.check(t, x, told{to: real(old.leaf.Pte, someVa, 0), misses: 1, kept: 2})
	store.check(t, x, told{to: real(e, someVa, 0), misses: 2, kept: 3})
	holds(t, x, old, young, young)
	store.check(t, x, told{to: real(e, someVa, 0), misses: 3, kept: 3})
	holds(t, x, young, young, young)
	store.check(t, x, told{to: real(e, someVa, 0), misses: 3, kept: 3})
	load.check(t, x, told{to: real(e, someVa, 0), misses: 3, kept: 3})
}

// TestP123Faults asks faults of each kind: each is a miss, and nothing is kept of it.
func TestP123Faults(t *testing.T) {
	for _, most := range []int{0, 1, 8} {
		for _, kind := range append([]int{0, 1, 2}, strangeKinds...) {
			for level := range 3 {
				for i, row := range []struct {
					e     uint64
					fault api.Fault
				}{
					{0, pageFault(kind, someVa)}, {open &^ v, pageFault(kind, someVa)}, {entry(1<<18, v|w|a), pageFault(kind, someVa)}, {entry(1<<18, system), pageFault(kind, someVa)},
					{entry(1<<18, open&^a), pageFault(kind, someVa)}, {entry(1<<18, open) | 1<<54, pageFault(kind, someVa)}, {entry(1<<18, open&^(r|w|x)), pageFault(kind, someVa)},
					{entry(1<<40, v), noAddress(kind, someVa)}, {entry(0, v), noAddress(kind, someVa)}, {entry(first+4, v), noAddress(kind, someVa)},
				} {
					if level == 0 {
						row.fault = pageFault(kind, someVa)
					}
					m := memory(t)
					way(t, m, someVa, level, row.e)
					stay := []one{{fillerVa, 1, leaf(entry(1, open), 2, true)}}[:min(most, 1)]
					x := with(most, stay...)
					for n := range uint64(3) {
						ask{m, satp(first, 1), api.User, kind, someVa}.check(t, x, told{fault: row.fault, misses: n + 1, kept: len(stay)})
					}
					ask{m, satp(first+4, 1), api.User, kind, someVa}.check(t, x, told{fault: noAddress(kind, someVa), misses: 4, kept: len(stay)})
					if holds(t, x, stay...); t.Failed() {
						t.Fatalf("most %d, kind %d, level %d, row %d", most, kind, level, i)
					}
				}
			}
		}
	}
	// Of those above the lowest level, an entry that is not Aligned.
	m := memory(t)
	way(t, m, someVa, 1, entry(1, open))
	ask{m, satp(first, 0), api.User, api.Load, someVa}.check(t, New(8), told{fault: pageFault(api.Load, someVa), misses: 1})
}

// TestP123Asid asks Satps that differ in one bit: those of the asid alone tell leaves apart.
func TestP123Asid(t *testing.T) {
	for _, asid := range []uint64{0, 1, 0x5555, 0xAAAA, 0xFFFF} {
		m := memory(t)
		e := entry(1000, open)
		way(t, m, someVa, 0, e)
		x := New(8)
		q := ask{m, satp(first, asid), api.User, api.Load, someVa}
		q.check(t, x, told{to: real(e, someVa, 0), misses: 1, kept: 1})
		for bit := range 60 {
			c := x.Clone()
			p := q
			p.c.Satp ^= 1 << bit
			want := told{to: real(e, someVa, 0), misses: 1, kept: 1}
			if bit >= 44 {
				want = told{to: real(e, someVa, 0), misses: 2, kept: 2}
			} else {
				p.m = nil
			}
			p.check(t, c, want)
			p.check(t, c, want)
		}
		// Leaves that were Put for more than an asid of Satp has are of none.
		for _, other := range []uint64{asid + 1<<16, asid + 8<<16, asid + 1<<63, ones - asid} {
			c := with(8, one{someVa, other, leaf(entry(5, open), 0, false)})
			q.check(t, c, told{to: real(e, someVa, 0), misses: 1, kept: 2})
		}
	}
}

// TestP123None asks one that keeps nothing: each To of a table is a miss, and walk.To.
func TestP123None(t *testing.T) {
	for _, most := range []int{0, -1, math.MinInt} {
		m := memory(t)
		e := entry(1000, open)
		way(t, m, someVa, 0, e)
		x := New(most)
		for n := range uint64(10) {
			ask{m, satp(first, 0), api.User, int(n % 3), someVa}.check(t, x, told{to: real(e, someVa, 0), misses: n + 1})
		}
		m.Put(api.Base, api.PageSize, 0)
		way(t, m, someVa, 0, 0)
		ask{m, satp(first, 0), api.User, api.Fetch, someVa}.check(t, x, told{fault: pageFault(api.Fetch, someVa), misses: 11})
	}
}

// TestP123Changed changes memory behind a To, with a Flush between and without.
func TestP123Changed(t *testing.T) {
	for level := range 3 {
		old, young := entry(1<<18, open), entry(2<<18, open)
		for i, row := range []struct {
			flush func(x *Tlb)
			seen  bool
		}{
			{func(x *Tlb) {}, false},
			{func(x *Tlb) { x.Flush(true, 0, true, 0) }, true}, {func(x *Tlb) { x.Flush(true, 0, false, 3) }, true}, {func(x *Tlb) { x.Flush(true, 0, false, 4) }, false},
			{func(x *Tlb) { x.Flush(false, someVa, true, 0) }, true}, {func(x *Tlb) { x.Flush(false, someVa, false, 3) }, true}, {func(x *Tlb) { x.Flush(false, someVa, false, 2) }, false},
			{func(x *Tlb) { x.Flush(false, someVa+unit(level), true, 3) }, false}, {func(x *Tlb) { x.Flush(false, someVa^(unit(level)-1), false, 3) }, true},
		} {
			for _, to := range []uint64{young, 0} {
				m := memory(t)
				way(t, m, someVa, level, old)
				x := New(4)
				q := ask{m, satp(first, 3), api.User, api.Load, someVa}
				q.check(t, x, told{to: real(old, someVa, level), misses: 1, kept: 1})
				way(t, m, someVa, level, to)
				row.flush(x)
				want := told{to: real(old, someVa, level), misses: 1, kept: 1}
				if row.seen && to != 0 {
					want = told{to: real(young, someVa, level), misses: 2, kept: 1}
				} else if row.seen {
					want = told{fault: pageFault(api.Load, someVa), misses: 2}
				}
				if q.check(t, x, want); t.Failed() {
					t.Fatalf("row %d, level %d", i, level)
				}
			}
		}
	}
}

// TestP123CloneMisses asks that each counts its own.
func TestP123CloneMisses(t *testing.T) {
	m := memory(t)
	e := entry(1000, open)
	way(t, m, someVa, 0, e)
	q := ask{m, satp(first, 0), api.User, api.Load, someVa}
	far := ask{m, satp(first, 0), api.User, api.Load, fillerVa}
	x := New(2)
	q.check(t, x, told{to: real(e, someVa, 0), misses: 1, kept: 1})
	far.check(t, x, told{fault: pageFault(api.Load, fillerVa), misses: 2, kept: 1})
	c := x.Clone()
	far.check(t, c, told{fault: pageFault(api.Load, fillerVa), misses: 3, kept: 1})
	q.check(t, c, told{to: real(e, someVa, 0), misses: 3, kept: 1})
	q.c = satp(first, 1)
	q.check(t, x, told{to: real(e, someVa, 0), misses: 3, kept: 2})
	q.check(t, c, told{to: real(e, someVa, 0), misses: 4, kept: 2})
	far.check(t, x, told{fault: pageFault(api.Load, fillerVa), misses: 4, kept: 2})
	far.check(t, x, told{fault: pageFault(api.Load, fillerVa), misses: 5, kept: 2})
	if c.Misses() != 4 || c.Clone().Misses() != 4 || x.Clone().Misses() != 5 {
		t.Error(c.Misses(), x.Misses())
	}
	for _, y := range []*Tlb{x, c} {
		before := y.Misses()
		y.Flush(true, 0, true, 0)
		y.Find(someVa, 0)
		y.Put(someVa, 0, api.Leaf{})
		if y.Misses() != before {
			t.Error("another call than To is a miss")
		}
	}
}

// crowd lays two tables of many entries: leaves, tables and what is none, at all levels.
func crowd(t *testing.T, flags uint64) (*ram.Ram, func(below uint64) uint64) {
	t.Helper()
	m, errno := ram.New(api.MaxPages)
	if errno != api.OK {
		t.Fatal(errno)
	}
	n := uint64(0x9E3779B97F4A7C15)
	draw := func(below uint64) uint64 {
		n = mixed(n)
		return n >> 20 % below
	}
	for i := range uint64(api.MaxPages * 512) {
		e := entry(first+draw(api.MaxPages+1), v)
		switch draw(6) {
		case 0, 1:
			e = entry(draw(4)<<18, draw(256)|v|r|a) &^ g
		case 2:
			e = entry(draw(1<<20), draw(256)) &^ g
		}
		m.Put(api.Base+8*i, 8, e|flags)
	}
	return m, draw
}

// anywhere is an access to one of some addresses.
func anywhere(m *ram.Ram, draw func(uint64) uint64, tables uint64) ask {
	table := draw(tables)
	q := ask{m, satp(first+table, table), int(draw(2)), int(draw(3)), draw(3)<<30 + draw(3)<<21 + draw(3)<<12 + draw(4096)}
	q.c.Status = draw(4) << 18
	switch draw(16) {
	case 0:
		q.va = ^q.va
	case 1:
		q.va |= 1 << 38
	case 2:
		q.kind = 3
	case 3:
		q.priv = -1
	case 4:
		q.c.Satp &^= 15 << 60
	}
	return q
}

// TestP124Walk asks that To is walk.To as long as no entry is changed: with more asids than one, and with one and leaves that are Global.
func TestP124Walk(t *testing.T) {
	for _, row := range []struct{ flags, tables uint64 }{{0, 4}, {g, 1}} {
		m, draw := crowd(t, row.flags)
		for most := range api.MaxTlb + 1 {
			x := New(most)
			good := 0
			for range 20000 {
				q := anywhere(m, draw, row.tables)
				want, fault := walk.To(q.m, q.c, q.priv, q.kind, q.va)
				got, f := x.To(q.m, q.c, q.priv, q.kind, q.va)
				if got != want || f != fault {
					t.Fatalf("of %+v: %x, %v, not %x, %v", q, got, f, want, fault)
				}
				if !f.Is {
					good++
				}
			}
			if x.Len() != most || good < 2000 || most > 1 && x.Misses() > 19900 {
				t.Errorf("%d of at most %d are kept, with %d misses, of %d that came to something", x.Len(), most, x.Misses(), good)
			}
		}
	}
}

// TestP124Flushed asks the same of memory that is changed, with a Flush of all ahead of each To.
func TestP124Flushed(t *testing.T) {
	m, draw := crowd(t, 0)
	x := New(8)
	for range 20000 {
		m.Put(api.Base+8*(draw(3)+512*draw(16)), 8, entry(draw(2)<<18, draw(256)|v|r|a))
		q := anywhere(m, draw, 4)
		x.Flush(true, 0, true, 0)
		want, fault := walk.To(q.m, q.c, q.priv, q.kind, q.va)
		if got, f := x.To(q.m, q.c, q.priv, q.kind, q.va); got != want || f != fault {
			t.Fatalf("of %+v: %x, %v, not %x, %v", q, got, f, want, fault)
		}
	}
}

// TestP123Mixed changes entries and flushes now and then, and holds To against a row that is done one by one.
func TestP123Mixed(t *testing.T) {
	m, draw := crowd(t, 0)
	for most := range api.MaxTlb + 1 {
		x, row, misses := New(most), &model{most: most}, uint64(0)
		for i := range 2000 {
			if draw(4) == 0 {
				m.Put(api.Base+8*(draw(3)+512*draw(16)), 8, entry(draw(2)<<18, draw(256)|v|r|a))
			}
			q := anywhere(m, draw, 3)
			if draw(10) == 0 {
				all, every := draw(4) == 0, draw(2) == 0
				x.Flush(all, q.va, every, 1)
				row.flush(all, q.va, every, 1)
			}
			asid := q.c.Satp >> 44 % (1 << 16)
			leaf, missed := row.find(q.va, asid)
			to, fault := real(leaf.Pte, q.va, leaf.Level), api.Fault{}
			if paged := q.c.Satp>>60 == 8; !paged || q.va>>38 != 0 && q.va>>38 != ones>>38 {
				to, fault = walk.To(q.m, q.c, q.priv, q.kind, q.va)
			} else if !missed || !lets(leaf.Pte, q) {
				misses++
				leaf, fault = walk.Walk(q.m, q.c, q.priv, q.kind, q.va)
				to = 0
				if !fault.Is {
					row.put(one{q.va, asid, leaf})
					to = real(leaf.Pte, q.va, leaf.Level)
				}
			}
			q.check(t, x, told{to, fault, misses, len(row.row)})
			if holds(t, x, row.row...); t.Failed() {
				t.Fatalf("most %d, call %d", most, i)
			}
		}
	}
}

// lets tells what a leaf lets by its flags.
func lets(e uint64, q ask) bool {
	has := func(flags uint64) bool { return e&flags == flags }
	status := func(bit uint64) bool { return q.c.Status&bit != 0 }
	kind := [...]bool{has(x), has(r) || has(x) && status(mxr), has(w | d), false}[q.kind]
	priv := [...]bool{false, has(u), !has(u) || q.kind != api.Fetch && status(sum)}[q.priv+1]
	return has(v|a) && kind && priv
}
