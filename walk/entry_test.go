package walk

import (
	"bytes"
	"testing"

	"suzerain/api"
	"suzerain/ram"
)

// high are the bits 54 to 63 of an entry.
const high = 1<<64 - 1<<54

// isBit tells whether n has the bit i.
func isBit(n uint64, i int) bool {
	return n>>i%2 == 1
}

// model is an entry at a level, flag by flag as the chapters say it.
type model struct {
	valid, table, leaf bool
	e                  uint64
	level              int
}

func modelOf(e uint64, level int) model {
	valid := isBit(e, 0) && !(isBit(e, 2) && !isBit(e, 1)) && e>>54 == 0
	return model{
		valid: valid,
		table: valid && !isBit(e, 1) && !isBit(e, 2) && !isBit(e, 3) && !isBit(e, 4) && !isBit(e, 6) && !isBit(e, 7),
		leaf:  valid && (isBit(e, 1) || isBit(e, 3)),
		e:     e, level: level,
	}
}

// lets tells whether it is a leaf by which somebody may do something.
func (o model) lets(kind, priv int, status uint64) bool {
	if !o.leaf || !isBit(o.e, 6) || o.e>>10%(1<<44)%(unit(o.level)/4096) != 0 || kind < 0 || kind > 2 || priv < 0 || priv > 1 {
		return false
	}
	kinds := [...]bool{isBit(o.e, 3), isBit(o.e, 1) || isBit(o.e, 3) && isBit(status, 19), isBit(o.e, 2) && isBit(o.e, 7)}
	privs := [...]bool{isBit(o.e, 4), !isBit(o.e, 4) || kind != 0 && isBit(status, 18)}
	return kinds[kind] && privs[priv]
}

// end is what a walk that comes to it answers, if it goes on no more there.
func (o model) end(q ask, global bool) told {
	if o.lets(q.kind, q.priv, q.c.Status) {
		return found(o.e, q.va, o.level, global || isBit(o.e, 5))
	}
	return refused(pageFault(q.kind, q.va))
}

// kindsAndPrivs are those that are, some that are none, and those of both with each of the four values of Sum and Mxr.
func (q ask) kindsAndPrivs(each func(ask)) {
	for _, kind := range []int{0, 1, 2, -1, 3, 1 << 32} {
		for _, priv := range []int{0, 1, -1, 2, 1<<32 + 1} {
			for _, status := range []uint64{0, sum, mxr, sum | mxr, ones, ones &^ sum, ones &^ mxr, ones &^ (sum | mxr)} {
				q.kind, q.priv, q.c.Status = kind, priv, status
				each(q)
			}
		}
	}
}

const someVa = 0x1234567ABC

// TestP112Flags asks each of the 1024 values of the flags at each level, of whoever there is.
func TestP112Flags(t *testing.T) {
	for level := range 3 {
		m := way(t, someVa, level, 0)
		before := whole(t, m)
		for flags := range uint64(1 << 10) {
			// A table goes on to a page that is not in memory.
			e := entry(0x40000000, flags)
			put(t, m, pageOf(level), someVa, level, e)
			o := modelOf(e, level)
			ask{m: m, c: satp(first), va: someVa}.kindsAndPrivs(func(q ask) {
				want := o.end(q, false)
				if o.table && level > 0 {
					want = refused(noAddress(q.kind, q.va))
				}
				if got := q.answer(t); got != want {
					t.Errorf("level %d, flags %x, kind %d, priv %d, status %x: %+v, not %+v", level, flags, q.kind, q.priv, q.c.Status, got, want)
				}
			})
		}
		put(t, m, pageOf(level), someVa, level, 0)
		if !bytes.Equal(whole(t, m), before) {
			t.Errorf("the walks to level %d wrote", level)
		}
	}
}

// TestP112None asks entries that are neither a Leaf nor a Table, though all would be there below them.
func TestP112None(t *testing.T) {
	var none []uint64
	for _, e := range []uint64{
		0, v | u, v | a, v | d, v | u | g | a | d, v | w, v | w | x, v | w | a | d, v | w | x | u | a | d, open &^ v, r | x | a, 1<<10 - 2,
	} {
		none = append(none, e, e|3<<8)
	}
	for i := 54; i < 64; i++ {
		none = append(none, v|1<<i, open|1<<i)
	}
	none = append(none, v|high, open|high, ones)
	for level := range 3 {
		for _, flags := range none {
			for kind := range 3 {
				below := uint64(0x40000000)
				if level > 0 {
					below = pageOf(level - 1)
				}
				m := way(t, someVa, 0, entry(5, open))
				put(t, m, pageOf(level), someVa, level, below<<10|flags)
				for priv := range 2 {
					ask{m, api.Csrs{Satp: 8<<60 + first, Status: sum | mxr}, priv, kind, someVa}.check(t, refused(pageFault(kind, someVa)))
				}
			}
		}
	}
}

// TestP112TableAtLevel0 asks tables where there is no level below.
func TestP112TableAtLevel0(t *testing.T) {
	for _, flags := range []uint64{v, v | g, v | 3<<8} {
		for _, page := range []uint64{first, first + 1, first + 2, 0, first + 3, 1<<44 - 1} {
			m := way(t, someVa, 0, entry(page, flags))
			for kind := range 3 {
				ask{m, satp(first), api.User, kind, someVa}.check(t, refused(pageFault(kind, someVa)))
			}
		}
	}
	// A table that leads to itself is come to three times.
	for _, va := range []uint64{0, 0x40201000, ones} {
		m := fresh(t, 1)
		put(t, m, first, va, 2, entry(first, v))
		ask{m, satp(first), api.User, api.Load, va}.check(t, refused(pageFault(api.Load, va)))
	}
}

// TestP112NotThere asks tables, at each level, whose entry is not in memory.
func TestP112NotThere(t *testing.T) {
	gone := []uint64{
		0, 1, first - 1, first + 3, first + 4, first + 16, 2 * first, 1 << 40, 1<<40 + first, 1<<43 + first, 1<<44 - 1, 1<<44 - 512,
		1<<32 + first, 1<<31 + first, 1<<20 + first, 1<<42 + first + 2,
	}
	for _, va := range []uint64{0, someVa, 0x3FFFFFF000, ones} {
		for _, page := range gone {
			for _, kind := range append([]int{0, 1, 2}, strangeKinds...) {
				for _, priv := range []int{0, 1, 2, -1} {
					want := refused(noAddress(kind, va))
					ask{fresh(t, 3), satp(page), priv, kind, va}.check(t, want)
					ask{way(t, va, 2, entry(page, v)), satp(first), priv, kind, va}.check(t, want)
					ask{way(t, va, 1, entry(page, v|g)), satp(first), priv, kind, va}.check(t, want)
				}
			}
		}
	}
}

// placed is an address whose part of a level is index, and those above it are 5 and 6.
func placed(level int, index uint64) uint64 {
	parts := [3]uint64{3, 6, 5}
	parts[level] = index
	va := uint64(0xABC) + parts[0]<<12 + parts[1]<<21 + parts[2]<<30
	if parts[2] > 255 {
		va += 1<<64 - 1<<39
	}
	return va
}

// led lays tables, all in the page at Base, by which the walk of va comes to another page at a level, and tells Satp.
func led(t *testing.T, m *ram.Ram, va uint64, level int, page uint64) api.Csrs {
	t.Helper()
	if level == 2 {
		return satp(page)
	}
	for l := 2; l > level+1; l-- {
		put(t, m, first, va, l, entry(first, v))
	}
	put(t, m, first, va, level+1, entry(page, v))
	return satp(first)
}

// TestP112Edges asks the first and the last eight bytes of memory, of the fewest and of the most pages, and those just beside it.
func TestP112Edges(t *testing.T) {
	leaf := entry(0x40000000, open)
	for _, pages := range []int{1, 2, 16} {
		last := uint64(first + pages - 1)
		for level := range 3 {
			for _, row := range []struct {
				page, index uint64
				there       bool
			}{{last, 511, true}, {first, 0, true}, {last + 1, 0, false}, {first - 1, 511, false}} {
				m := fresh(t, pages)
				va := placed(level, row.index)
				c := led(t, m, va, level, row.page)
				want := refused(noAddress(api.Load, va))
				if row.there {
					put(t, m, row.page, va, level, leaf)
					want = found(leaf, va, level, false)
				}
				ask{m, c, api.User, api.Load, va}.check(t, want)
			}
		}
	}
}

func TestP112Aligned(t *testing.T) {
	pages := []uint64{0, 1, 2, 511, 512, 513, 1024, 262143, 262144, 262145, 262144 - 512, 262144 + 512, 524288, 1<<44 - 1, 1<<44 - 512, 1<<44 - 262144, first, first + 1}
	for i := range 44 {
		pages = append(pages, 1<<i)
	}
	for level := range 3 {
		for _, page := range pages {
			e := entry(page, open)
			for kind := range 3 {
				want := refused(pageFault(kind, someVa))
				if page%(unit(level)/4096) == 0 {
					want = found(e, someVa, level, false)
				}
				ask{way(t, someVa, level, e), satp(first), api.User, kind, someVa}.check(t, want)
			}
		}
	}
}

// TestP112May tells by rows who may what, at each level.
func TestP112May(t *testing.T) {
	const system, users = v | r | w | x | a | d, open
	for i, row := range []struct {
		flags      uint64
		kind, priv int
		status     uint64
		may        bool
	}{
		{users, api.Fetch, api.User, 0, true}, {users, api.Load, api.User, 0, true}, {users, api.Store, api.User, 0, true},
		{users, api.Fetch, api.Super, 0, false}, {users, api.Load, api.Super, 0, false}, {users, api.Store, api.Super, 0, false},
		{users, api.Fetch, api.Super, sum | mxr, false}, {users, api.Load, api.Super, sum, true}, {users, api.Store, api.Super, sum, true},
		{users, api.Load, api.Super, mxr, false}, {users, api.Store, api.Super, mxr, false},
		{system, api.Fetch, api.Super, 0, true}, {system, api.Load, api.Super, 0, true}, {system, api.Store, api.Super, 0, true},
		{system, api.Fetch, api.Super, sum, true}, {system, api.Load, api.Super, sum, true}, {system, api.Store, api.Super, sum, true},
		{system, api.Fetch, api.User, sum | mxr, false}, {system, api.Load, api.User, sum | mxr, false}, {system, api.Store, api.User, sum | mxr, false},
		{users &^ x, api.Fetch, api.User, mxr, false}, {users &^ (r | w), api.Load, api.User, 0, false}, {users &^ (r | w), api.Load, api.User, mxr, true},
		{users &^ (r | w), api.Load, api.User, sum, false}, {users &^ (r | w), api.Load, api.Super, mxr, false},
		{users &^ (r | w), api.Load, api.Super, sum | mxr, true}, {users &^ w, api.Store, api.User, mxr, false},
		{users &^ a, api.Fetch, api.User, 0, false}, {users &^ a, api.Load, api.User, 0, false}, {users &^ a, api.Store, api.User, 0, false},
		{users &^ d, api.Fetch, api.User, 0, true}, {users &^ d, api.Load, api.User, 0, true}, {users &^ d, api.Store, api.User, 0, false},
		{users, 3, api.User, 0, false}, {users, -1, api.User, 0, false}, {users, api.Load, 2, sum, false}, {users, api.Load, -1, sum, false},
	} {
		for level := range 3 {
			e := entry(1<<30, row.flags)
			want := refused(pageFault(row.kind, someVa))
			if row.may {
				want = found(e, someVa, level, false)
			}
			c := api.Csrs{Satp: 8<<60 + first, Status: row.status}
			q := ask{way(t, someVa, level, e), c, row.priv, row.kind, someVa}
			if got := q.answer(t); got != want {
				t.Errorf("row %d, level %d", i, level)
			}
			q.check(t, want)
		}
	}
}

// TestP112Global asks G of a leaf and of each table on the way, and of other entries, which do not count.
func TestP112Global(t *testing.T) {
	for _, va := range within {
		for level := range 3 {
			for set := range uint64(8) {
				flags := func(l int) uint64 { return g * (set >> l % 2) }
				leaf := entry(1<<30, open|flags(level))
				m := fresh(t, 3)
				for i := range uint64(3 * 512) {
					m.Put(api.Base+8*i, 8, g)
				}
				for l := 2; l > level; l-- {
					put(t, m, pageOf(l), va, l, entry(pageOf(l-1), v|flags(l)))
				}
				put(t, m, pageOf(level), va, level, leaf)
				ask{m, satp(first), api.User, api.Load, va}.check(t, found(leaf, va, level, set>>level != 0))
			}
		}
	}
}
