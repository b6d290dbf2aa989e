package space

import (
	"bytes"
	"math"
	"slices"
	"testing"

	"suzerain/api"
	"suzerain/ram"
	"suzerain/tlb"
)

const (
	ones = 1<<64 - 1
	// first is the page at Base; a world has its tables in it and in the two behind.
	first = 0x80000
	// worldPages are those of a world, and beyond is the page behind them.
	worldPages = 8
	beyond     = first + worldPages
	// canonicals are how many addresses each of the two parts that are Canonical has.
	canonicals = 1 << 38

	// The flags of an entry, by their letters.
	v, r, w, x, u, a, d = 1, 2, 4, 8, 16, 64, 128
	// open lets a user do whatever there is, and system a supervisor.
	open   = v | r | w | x | u | a | d
	system = v | r | w | x | a | d

	sum, mxr = 1 << 18, 1 << 19
)

var (
	strangeKinds  = []int{-1, -2, 3, 4, 257, 1 << 32, 1<<32 + 1, 1<<32 + 2, math.MinInt, math.MaxInt}
	strangePrivs  = []int{-1, 2, 3, 256, 1 << 32, 1<<32 + 1, math.MinInt, math.MaxInt}
	strangeWidths = []int{0, -1, -2, -4, -8, 3, 5, 6, 7, 9, 12, 16, 64, 256 + 4, 4096, 1 << 31, 1 << 32, 1<<32 + 1, 1<<32 + 8, math.MinInt, math.MinInt + 8, math.MaxInt}
	widths        = []int{1, 2, 4, 8}
	// mosts are how many leaves are kept; -1 stands for nothing that keeps them.
	mosts = []int{-1, 0, 1, 2, 8}
)

// mixed is the number behind n in a row with bits all over.
func mixed(n uint64) uint64 {
	n ^= n << 13
	n ^= n >> 7
	return n ^ n<<17
}

// entry is a page and flags.
func entry(page, flags uint64) uint64 {
	return page<<10 + flags
}

// table is the registers by which a world's tables hold.
func table(status uint64) api.Csrs {
	return api.Csrs{Satp: 8<<60 + first, Status: status}
}

// pageFault and noAddress are faults by their causes, a Fetch's, a Load's and a Store's; of kinds that are none they are a Load's.
func pageFault(kind int, va uint64) api.Fault {
	return fault(kind, va, 12, 13, 15)
}

func noAddress(kind int, va uint64) api.Fault {
	return fault(kind, va, 1, 5, 7)
}

func fault(kind int, va uint64, causes ...int) api.Fault {
	if kind < 0 || kind > 2 {
		kind = api.Load
	}
	return api.Fault{Is: true, Cause: causes[kind], Val: va}
}

// memory has bytes all over.
func memory(t *testing.T, pages int) *ram.Ram {
	t.Helper()
	m, errno := ram.New(pages)
	if errno != api.OK {
		t.Fatal(errno)
	}
	n := uint64(0x9E3779B97F4A7C15)
	for at := uint64(api.Base); m.Put(at, 8, n); at += 8 {
		n = mixed(n)
	}
	return m
}

// world has tables in which the lowest nine bits of a virtual page's number alone tell its entry, so that each row of pages comes again at all places, and round the end of all addresses.
func world(t *testing.T) *ram.Ram {
	t.Helper()
	m := memory(t, worldPages)
	for i := range uint64(512) {
		put(t, m, 0, i, entry(first+1, v))
		put(t, m, 1, i, entry(first+2, v))
		put(t, m, 2, i, 0)
	}
	return m
}

// put lays an entry in a page of memory, and lay one for a virtual page of a world.
func put(t *testing.T, m *ram.Ram, page, i, e uint64) {
	t.Helper()
	if !m.Put(api.Base+page*4096+i*8, 8, e) {
		t.Fatal("no place for an entry")
	}
}

func lay(t *testing.T, m *ram.Ram, page, e uint64) {
	t.Helper()
	put(t, m, 2, page%512, e)
}

// image is all of memory.
func image(m *ram.Ram) []byte {
	b, _ := m.Bytes(api.Base, m.Pages()*api.PageSize)
	return b
}

// number is what bytes at some addresses of an image are, the lowest first.
func number(b []byte, all ...uint64) uint64 {
	var x uint64
	for i, at := range all {
		x += uint64(b[at-api.Base]) << (8 * i)
	}
	return x
}

// run is n addresses from one on.
func run(from uint64, n int) []uint64 {
	var all []uint64
	for len(all) < n {
		all = append(all, from)
		from++
	}
	return all
}

// has tells of each of n bytes whether it is in memory.
func has(m *ram.Ram, at uint64, n int) bool {
	for _, one := range run(at, n) {
		if one < api.Base || one >= api.Base+uint64(m.Pages())*4096 {
			return false
		}
	}
	return true
}

// with is a space that keeps so many leaves.
func with(m *ram.Ram, most int) Space {
	if most < 0 {
		return Space{M: m}
	}
	return Space{M: m, T: tlb.New(most)}
}

// access is what one of priv does to n bytes; x is what it stores.
type access struct {
	c          api.Csrs
	priv, kind int
	va         uint64
	n          int
	x          uint64
}

// told is where its bytes are or which fault it has, how often To is asked for it with a table, and, of a space that keeps leaves, how many walks there are and how many leaves behind them.
type told struct {
	all         []uint64
	fault       api.Fault
	asks, walks uint64
	kept        int
}

// check asks a Load or a Store of spaces that keep more leaves and less, and what memory and what is kept are behind it.
func (q access) check(t *testing.T, m *ram.Ram, want told) {
	t.Helper()
	for _, most := range mosts {
		s := with(m.Clone(), most)
		q.once(t, s, want)
		want.count(t, s, most)
		if most < 2 || want.fault.Is {
			continue
		}
		q.once(t, s, want)
		want.count(t, s, most)
	}
}

// once asks it of one space.
func (q access) once(t *testing.T, s Space, want told) {
	t.Helper()
	b := image(s.M)
	if q.kind == api.Load {
		got, f := s.Load(q.c, q.priv, q.va, q.n)
		if value := number(b, want.all...); got != value || f != want.fault {
			t.Errorf("Load of %+v is %x, %+v, not %x, %+v", q, got, f, value, want.fault)
		}
	} else {
		all, f := s.Store(q.c, q.priv, q.va, q.n, q.x)
		if !slices.Equal(all, want.all) || f != want.fault {
			t.Errorf("Store of %+v is %x, %+v, not %x, %+v", q, all, f, want.all, want.fault)
		}
		for i, at := range want.all {
			b[at-api.Base] = byte(q.x >> (8 * i))
		}
	}
	if !bytes.Equal(image(s.M), b) {
		t.Errorf("memory is another behind %+v", q)
	}
}

// count asks how many walks there were, and how many leaves are kept.
func (want told) count(t *testing.T, s Space, most int) {
	t.Helper()
	if most < 0 {
		return
	}
	walks := want.walks
	if most == 0 {
		walks = want.asks
	}
	if s.T.Misses() != walks || s.T.Len() != min(want.kept, most) {
		t.Errorf("with %d: %d walks, not %d, and %d leaves, not %d", most, s.T.Misses(), walks, s.T.Len(), min(want.kept, most))
	}
}

// checkTo asks To with spaces that keep more leaves and less, each twice, and that memory stays; with a table of want each To of an address that is Canonical is a walk, if none is kept.
func (q access) checkTo(t *testing.T, m *ram.Ram, want told) {
	t.Helper()
	b := image(m)
	for _, most := range mosts {
		s := with(m, most)
		for range 2 {
			at, f := s.To(q.c, q.priv, q.kind, q.va, q.n)
			if f != want.fault || at != append(want.all, 0)[0] {
				t.Errorf("To of %+v is %x, %+v, not %x, %+v", q, at, f, want.all, want.fault)
			}
			if most > 0 && want.kept > 0 {
				want.count(t, s, most)
			}
		}
		if s.T != nil && want.kept == 0 && (s.T.Misses() != 2*want.walks || s.T.Len() != 0) {
			t.Errorf("To of %+v twice: %d walks, %d leaves", q, s.T.Misses(), s.T.Len())
		}
		if most == 0 && s.T.Misses() != 2*want.asks {
			t.Errorf("To of %+v twice: %d walks, none kept", q, s.T.Misses())
		}
	}
	if !bytes.Equal(image(m), b) {
		t.Errorf("To of %+v wrote", q)
	}
}
