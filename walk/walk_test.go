package walk

import (
	"bytes"
	"math"
	"testing"

	"suzerain/api"
	"suzerain/ram"
)

const (
	ones = 1<<64 - 1
	// first is the page at Base.
	first = 0x80000
	// canonicals are how many addresses each of the two parts that are Canonical has.
	canonicals = 1 << 38

	// The flags of an entry, by their letters.
	v, r, w, x, u, g, a, d = 1, 2, 4, 8, 16, 32, 64, 128
	// open lets a user do whatever there is.
	open = v | r | w | x | u | a | d

	sum, mxr = 1 << 18, 1 << 19
)

// strangeKinds and strangePrivs are none, some of them but for bits above the lowest 32.
var (
	strangeKinds = []int{-1, -2, -3, 3, 4, 5, 255, 256, 257, 258, 1 << 32, 1<<32 + 1, 1<<32 + 2, math.MinInt, math.MinInt + 1, math.MinInt + 2, math.MaxInt}
	strangePrivs = []int{-1, -2, 2, 3, 4, 256, 257, 1 << 32, 1<<32 + 1, math.MinInt, math.MinInt + 1, math.MaxInt}
)

// samples are none, all, each bit alone and each left out, all bits below each one, and numbers with bits all over.
func samples() []uint64 {
	out := []uint64{0, ones, 0x5555555555555555, 0xAAAAAAAAAAAAAAAA, 0x0123456789ABCDEF, 0x7FC0E03456}
	n := uint64(0x9E3779B97F4A7C15)
	for i := range 64 {
		n = mixed(n)
		out = append(out, 1<<i, ^uint64(1<<i), 1<<i-1, n)
	}
	return out
}

// mixed is the number behind n in a row with bits all over.
func mixed(n uint64) uint64 {
	n ^= n << 13
	n ^= n >> 7
	return n ^ n<<17
}

// within are addresses in both parts that are Canonical: at their edges, and with parts that differ from level to level.
var within = []uint64{
	0, 1, 4095, 4096, 0x1234, 1 << 21, 1<<21 - 1, 1 << 30, 1<<30 - 1, 0x3FFFFFFFFF, 0x3FFFFFF000, 0x1234567ABC, 0x05C0E03456, 0x2AAAAAAAAA, 0x1555555555,
	1<<64 - canonicals, 1<<64 - canonicals + 4096, 0xFFFFFFC0E0345678, 0xFFFFFFD555555555, 0xFFFFFFEAAAAAAAAA, ones - 4095, ones,
}

// part is the nine bits of va by which a table of that level is asked.
func part(va uint64, level int) uint64 {
	return va >> [...]int{12, 21, 30}[level] % 512
}

// unit is how many bytes a leaf of that level has.
func unit(level int) uint64 {
	return [...]uint64{1 << 12, 1 << 21, 1 << 30}[level]
}

// entry is a page and flags.
func entry(page, flags uint64) uint64 {
	return page<<10 + flags
}

// satp is a Satp by which there is a table.
func satp(page uint64) api.Csrs {
	return api.Csrs{Satp: 8<<60 + page}
}

// pageFault and noAddress are faults by their causes, a Fetch's, a Load's and a Store's; of kinds that are none they are a Load's.
func pageFault(kind int, va uint64) api.Fault {
	return api.Fault{Is: true, Cause: causeOf(kind, [...]int{12, 13, 15}), Val: va}
}

func noAddress(kind int, va uint64) api.Fault {
	return api.Fault{Is: true, Cause: causeOf(kind, [...]int{1, 5, 7}), Val: va}
}

func causeOf(kind int, causes [3]int) int {
	if kind < 0 || kind > 2 {
		kind = 1
	}
	return causes[kind]
}

func fresh(t *testing.T, pages int) *ram.Ram {
	t.Helper()
	m, errno := ram.New(pages)
	if errno != api.OK {
		t.Fatal(errno)
	}
	return m
}

func whole(t *testing.T, m *ram.Ram) []byte {
	t.Helper()
	b, ok := m.Bytes(api.Base, m.Pages()*4096)
	if !ok {
		t.Fatal("memory is not there")
	}
	return b
}

// put lets an entry stand in the table at a page.
func put(t *testing.T, m *ram.Ram, page, va uint64, level int, e uint64) {
	t.Helper()
	if !m.Put(page*4096+8*part(va, level), 8, e) {
		t.Fatalf("no place for an entry of level %d in the page %x", level, page)
	}
}

// way is three pages, one a level, in which the walk of va comes to e at a level, by tables that have links, and V.
func way(t *testing.T, va uint64, level int, e uint64, links ...uint64) *ram.Ram {
	t.Helper()
	m := fresh(t, 3)
	for l := 2; l > level; l-- {
		link := uint64(v)
		for _, flags := range links {
			link |= flags
		}
		put(t, m, pageOf(l), va, l, entry(pageOf(l-1), link))
	}
	put(t, m, pageOf(level), va, level, e)
	return m
}

// pageOf is where the table of a level stands in a way.
func pageOf(level int) uint64 {
	return first + 2 - uint64(level)
}

// ask is a walk.
type ask struct {
	m          *ram.Ram
	c          api.Csrs
	priv, kind int
	va         uint64
}

// told are the answers to it.
type told struct {
	leaf  api.Leaf
	to    uint64
	fault api.Fault
}

// answer asks both calls, which tell the same fault.
func (q ask) answer(t *testing.T) told {
	t.Helper()
	leaf, fault := Walk(q.m, q.c, q.priv, q.kind, q.va)
	to, other := To(q.m, q.c, q.priv, q.kind, q.va)
	if fault != other {
		t.Errorf("of %x, kind %d, priv %d: Walk tells %v, To %v", q.va, q.kind, q.priv, fault, other)
	}
	return told{leaf, to, fault}
}

// check asks that both calls answer want, and the same again, and that nothing is written.
func (q ask) check(t *testing.T, want told) {
	t.Helper()
	var before []byte
	if q.m != nil {
		before = whole(t, q.m)
	}
	for range 2 {
		if got := q.answer(t); got != want {
			t.Errorf("of %x, kind %d, priv %d, satp %x, status %x: %+v, not %+v", q.va, q.kind, q.priv, q.c.Satp, q.c.Status, got, want)
		}
	}
	if q.m != nil && !bytes.Equal(whole(t, q.m), before) {
		t.Errorf("the walk of %x, kind %d, priv %d wrote", q.va, q.kind, q.priv)
	}
}

// refused are the answers of a fault.
func refused(f api.Fault) told {
	return told{fault: f}
}

// found are the answers of a leaf that is aligned.
func found(e, va uint64, level int, global bool) told {
	return told{leaf: api.Leaf{Pte: e, Level: level, Global: global}, to: e>>10%(1<<44)*4096 + va%unit(level)}
}

func TestP111Faults(t *testing.T) {
	for _, va := range samples() {
		for _, f := range []struct{ kind, page, none int }{{0, 12, 1}, {1, 13, 5}, {2, 15, 7}} {
			if got := PageFault(f.kind, va); got != (api.Fault{Is: true, Cause: f.page, Val: va}) {
				t.Errorf("PageFault(%d, %x) is %v", f.kind, va, got)
			}
			if got := NoAddress(f.kind, va); got != (api.Fault{Is: true, Cause: f.none, Val: va}) {
				t.Errorf("NoAddress(%d, %x) is %v", f.kind, va, got)
			}
		}
		for _, kind := range strangeKinds {
			if got := PageFault(kind, va); got != (api.Fault{Is: true, Cause: 13, Val: va}) {
				t.Errorf("PageFault(%d, %x) is %v", kind, va, got)
			}
			if got := NoAddress(kind, va); got != (api.Fault{Is: true, Cause: 5, Val: va}) {
				t.Errorf("NoAddress(%d, %x) is %v", kind, va, got)
			}
		}
	}
}

// full has all bits of each register but Satp.
func full(satp uint64) api.Csrs {
	return api.Csrs{
		Status: ones, Ie: ones, Tvec: ones, Counteren: ones, Scratch: ones, Epc: ones, Cause: ones, Tval: ones, Ip: ones, Satp: satp,
		Cycle: ones, Instret: ones,
	}
}

func TestP111Paged(t *testing.T) {
	for mode := range uint64(16) {
		for _, rest := range samples() {
			at := mode<<60 + rest%(1<<60)
			for _, c := range []api.Csrs{{Satp: at}, full(at)} {
				if got, want := Paged(c), mode == 8; got != want {
					t.Errorf("Paged of Satp %x is %v", at, got)
				}
			}
		}
	}
}

func TestP111Table(t *testing.T) {
	const va = 0x1234567ABC
	leaf := entry(5, open)
	m := way(t, va, 0, leaf)
	for _, asid := range []uint64{0, 1, 3, 0x5555, 0xAAAA, 0x8000, 0xFFFF} {
		for _, c := range []api.Csrs{satp(asid<<44 + first), {Satp: 8<<60 + asid<<44 + first, Status: ones}} {
			ask{m, c, api.User, api.Load, va}.check(t, found(leaf, va, 0, false))
		}
	}
	for i := range 60 {
		want := found(leaf, va, 0, false)
		switch {
		case i == 0 || i == 1:
			// There the other tables stand, of which none has anything at that place.
			want = refused(pageFault(api.Load, va))
		case i < 44:
			want = refused(noAddress(api.Load, va))
		}
		ask{m, satp(first ^ 1<<i), api.User, api.Load, va}.check(t, want)
	}
}

func TestP112NotPaged(t *testing.T) {
	filled := way(t, 0, 0, entry(5, open))
	for mode := range uint64(16) {
		if mode == 8 {
			continue
		}
		for _, rest := range []uint64{0, first, 1<<60 - 1, 3<<44 + first} {
			c := full(mode<<60 + rest)
			for _, va := range []uint64{0, 12, 4096, canonicals - 1, canonicals, 1 << 63, ones - canonicals, 1<<64 - canonicals, ones, 0xAAAAAAAAAAAAAAAA} {
				for _, kind := range append([]int{0, 1, 2}, strangeKinds...) {
					for _, priv := range append([]int{0, 1}, strangePrivs...) {
						for _, m := range []*ram.Ram{filled, nil} {
							if got := (ask{m, c, priv, kind, va}).answer(t); got != (told{to: va}) {
								t.Fatalf("of %x, kind %d, priv %d, satp %x: %+v", va, kind, priv, c.Satp, got)
							}
						}
					}
				}
			}
		}
	}
}

func TestP112Canonical(t *testing.T) {
	const g1 = 1 << 30
	m := fresh(t, 1)
	for i := range uint64(512) {
		if !m.Put(api.Base+8*i, 8, entry(i<<18, open)) {
			t.Fatal(i)
		}
	}
	for _, row := range []struct {
		va uint64
		is bool
	}{
		{0, true}, {1, true}, {g1 - 1, true}, {g1, true}, {canonicals - 1, true}, {canonicals - g1, true},
		{canonicals, false}, {canonicals + 1, false}, {canonicals + g1, false}, {2*canonicals - 1, false}, {2 * canonicals, false}, {2*canonicals + 5, false},
		{1 << 40, false}, {1<<63 - 1, false}, {1 << 63, false}, {1<<63 + 1, false}, {1<<64 - 2*canonicals, false}, {1<<64 - 2*canonicals - 1, false},
		{1<<64 - canonicals - 1, false}, {1<<64 - canonicals - 4096, false},
		{1<<64 - canonicals, true}, {1<<64 - canonicals + 1, true}, {1<<64 - g1, true}, {ones - 1, true}, {ones, true},
	} {
		for kind := range 3 {
			want := refused(pageFault(kind, row.va))
			gone := want
			if row.is {
				want = found(entry(part(row.va, 2)<<18, open), row.va, 2, false)
				gone = refused(noAddress(kind, row.va))
			}
			ask{m, satp(first), api.User, kind, row.va}.check(t, want)
			// Without a table there, what is not Canonical is told first.
			ask{m, satp(0), api.User, kind, row.va}.check(t, gone)
		}
	}
	for i := 38; i < 64; i++ {
		for _, va := range []uint64{1 << i, ^uint64(1 << i)} {
			ask{m, satp(first), api.User, api.Store, va}.check(t, refused(pageFault(api.Store, va)))
		}
	}
}

// TestP112Place asks that an entry is found at one place alone: by all of the table's page, and by va's part of that level.
func TestP112Place(t *testing.T) {
	for _, va := range within {
		for level := range 3 {
			leaf := entry(0x40000000, open)
			q := ask{way(t, va, level, leaf), satp(first), api.User, api.Load, va}
			q.check(t, found(leaf, va, level, false))
			for bit := range 39 {
				at := va ^ 1<<bit
				if bit == 38 {
					at = va ^ (1<<64 - 1<<38)
				}
				want := refused(pageFault(api.Load, at))
				if uint64(1)<<bit < unit(level) {
					want = found(leaf, at, level, false)
				}
				ask{q.m, q.c, q.priv, q.kind, at}.check(t, want)
			}
		}
	}
}

func TestP112Examples(t *testing.T) {
	if to, f := To(nil, api.Csrs{}, api.User, api.Load, 77); to != 77 || f != (api.Fault{}) {
		t.Error(to, f)
	}
	m := fresh(t, 4)
	for _, row := range []struct{ at, e uint64 }{
		{0x80000000 + 8*1, 0x20000400 + v}, {0x80001000 + 8*2, 0x20000800 + v}, {0x80002000 + 8*3, 0x20000C00 + v + r + a},
		{0x80001000 + 8*4, 0x10000000 + v + x + a}, {0x80000000 + 8*511, 0x10000000 + v + r + w + a + d},
	} {
		if !m.Put(row.at, 8, row.e) {
			t.Fatal(row)
		}
	}
	for _, row := range []struct {
		kind     int
		va, want uint64
	}{{api.Load, 0x40403456, 0x80003456}, {api.Fetch, 0x40923456, 0x40123456}, {api.Store, 0xFFFFFFFFFFFFFFFE, 0x7FFFFFFE}, {api.Load, 0xFFFFFFFFC0000000, 0x40000000}} {
		if to, f := To(m, satp(first), api.Super, row.kind, row.va); to != row.want || f.Is {
			t.Errorf("To of %x is %x, %v", row.va, to, f)
		}
	}
}
