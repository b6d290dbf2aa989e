package ram

import (
	"bytes"
	"math/big"
	"slices"
	"testing"

	"suzerain/api"
)

const (
	ones = 1<<64 - 1
	most = 1<<63 - 1
	page = api.PageSize
)

// number has eight bytes that all differ, with the highest bit of some of them set.
const number = 0x81A2C3E405162738

func fresh(t *testing.T, pages int) *Ram {
	t.Helper()
	m, e := New(pages)
	if e != api.OK || m == nil {
		t.Fatalf("New(%d): %v, %d", pages, m, e)
	}
	return m
}

// marked is memory of so many pages of which no two neighbouring bytes are the same, and none is 0.
func marked(t *testing.T, pages int) *Ram {
	t.Helper()
	m := fresh(t, pages)
	b := make([]byte, pages*page)
	for i := range b {
		b[i] = byte(1 + i%251)
	}
	if !m.Load(api.Base, b) {
		t.Fatal("Load of all of memory is refused")
	}
	return m
}

// whole is all of memory, as it stands now, even if what Bytes tells should be shared.
func whole(t *testing.T, m *Ram) []byte {
	t.Helper()
	b, ok := m.Bytes(api.Base, m.Pages()*page)
	if !ok || len(b) != m.Pages()*page {
		t.Fatalf("Bytes of all of memory: %d bytes, %v", len(b), ok)
	}
	return slices.Clone(b)
}

// places are addresses about both edges of memory, and of those of all numbers.
func places(pages int) []uint64 {
	var out []uint64
	for _, edge := range []uint64{0, api.Base, api.Base + page, api.Base + uint64(pages)*page, 2 * api.Base, 1 << 63, 1<<63 + api.Base, 1<<32 + api.Base} {
		for d := range uint64(20) {
			out = append(out, edge+d, edge-d)
		}
	}
	return out
}

// counts are numbers of bytes: those of numbers, those about memory's size, and such as are none.
func counts(pages int) []int {
	size := pages * page
	out := []int{-1 << 63, -1<<63 + 1, -1 << 32, -8, -2, -1, size - 1, size, size + 1, 1 << 31, 1 << 32, 1<<32 + 1, 1<<32 + 8, 1 << 62, most - api.Base, most - 1, most}
	for n := range 20 {
		out = append(out, n)
	}
	return out
}

// has is Has by the words of the document, in numbers that do not go round.
func has(pages int, at uint64, n int) bool {
	if n < 0 {
		return false
	}
	first := new(big.Int).SetUint64(api.Base)
	behind := new(big.Int).Add(first, big.NewInt(int64(pages)*page))
	from := new(big.Int).SetUint64(at)
	if from.Cmp(first) < 0 {
		return false
	}
	if n == 0 {
		return from.Cmp(behind) <= 0
	}
	last := new(big.Int).Add(from, big.NewInt(int64(n)-1))
	return last.Cmp(behind) < 0
}

func width(n int) bool { return slices.Contains([]int{1, 2, 4, 8}, n) }

// P2.1: how many pages there may be, and that one is told of all others.
func TestNew(t *testing.T) {
	for pages := 1; pages <= 16; pages++ {
		m, e := New(pages)
		if e != api.OK || m == nil {
			t.Fatalf("New(%d): %v, %d", pages, m, e)
		}
		if got := m.Pages(); got != pages {
			t.Errorf("Pages() of %d = %d", pages, got)
		}
		if b := whole(t, m); !bytes.Equal(b, make([]byte, pages*4096)) {
			t.Errorf("memory of %d pages is not all 0", pages)
		}
		if m.Has(0x80000000-1, 1) || !m.Has(0x80000000, pages*4096) || m.Has(0x80000000+uint64(pages)*4096, 1) {
			t.Errorf("memory of %d pages stands elsewhere", pages)
		}
	}
	for _, pages := range []int{-1 << 63, -4096, -16, -1, 0, 17, 18, 4096, 1<<32 + 1, 1 << 62, most} {
		if m, e := New(pages); m != nil || e != api.ErrArg {
			t.Errorf("New(%d): %v, %d", pages, m, e)
		}
	}
}

// P2.1: the edges of memory, none at them, and numbers that go round.
func TestHasTable(t *testing.T) {
	m := fresh(t, 1)
	for _, c := range []struct {
		at   uint64
		n    int
		want bool
	}{
		{0x80000000, 1, true},
		{0x80000000, 4096, true},
		{0x80000000, 4097, false},
		{0x80000FFF, 1, true},
		{0x80000FFF, 2, false},
		{0x80000FF8, 8, true},
		{0x80000FF9, 8, false},
		{0x80001000, 1, false},
		{0x7FFFFFFF, 1, false},
		{0x7FFFFFFF, 2, false},
		{0x7FFFFFF8, 8, false},
		{0, 1, false},
		{0x80000000, 0, true},
		{0x80000123, 0, true},
		{0x80000FFF, 0, true},
		{0x80001000, 0, true},
		{0x80001001, 0, false},
		{0x7FFFFFFF, 0, false},
		{0, 0, false},
		{ones, 0, false},
		{0x80000000, -1, false},
		{0x80000001, -1, false},
		{0x80001000, -1, false},
		{0x80001001, -1, false},
		{0x80000000, -1 << 63, false},
		{0x80000000, most, false},
		{0x80000FFF, most, false},
		{ones, 1, false},
		{ones, 2, false},
		{ones - 3, 8, false},
		{1<<64 - 4096, 4096, false},
		{1<<63 + 1, most, false},
		{1<<63 + 0x80000000, most, false},
		{1<<63 + 0x80000800, most, false},
		{ones, 0x80000001, false},
		{ones, 0x80000802, false},
	} {
		if got := m.Has(c.at, c.n); got != c.want {
			t.Errorf("Has(%#x, %d) = %v", c.at, c.n, got)
		}
	}
}

// P2.1: Has by the words of the document, with the least, some and the most pages.
func TestHasModel(t *testing.T) {
	for _, pages := range []int{1, 2, 3, 16} {
		m := fresh(t, pages)
		for _, at := range places(pages) {
			for _, n := range counts(pages) {
				if got := m.Has(at, n); got != has(pages, at, n) {
					t.Errorf("of %d pages Has(%#x, %d) = %v", pages, at, n, got)
				}
			}
		}
	}
}

// P2.2: the lowest byte stands first, and the lowest bytes of a number are put alone.
func TestGetAndPutTable(t *testing.T) {
	for _, c := range []struct {
		n     int
		bytes []byte
		num   uint64
	}{
		{1, []byte{0x38}, 0x38},
		{2, []byte{0x38, 0x27}, 0x2738},
		{4, []byte{0x38, 0x27, 0x16, 0x05}, 0x05162738},
		{8, []byte{0x38, 0x27, 0x16, 0x05, 0xE4, 0xC3, 0xA2, 0x81}, number},
	} {
		for _, at := range []uint64{api.Base, api.Base + 1, api.Base + 5, api.Base + page - 3, api.Base + page, api.Base + 2*page - 8} {
			m := fresh(t, 2)
			if !m.Put(at, c.n, number) {
				t.Errorf("Put(%#x, %d) is refused", at, c.n)
			}
			if b, ok := m.Bytes(at, c.n); !ok || !bytes.Equal(b, c.bytes) {
				t.Errorf("behind Put(%#x, %d): % x, %v", at, c.n, b, ok)
			}
			if x, ok := m.Get(at, 8); !ok || x != c.num {
				t.Errorf("behind Put(%#x, %d): %#x, %v", at, c.n, x, ok)
			}
			if !m.Put(at, 8, number) {
				t.Errorf("Put(%#x, 8) is refused", at)
			}
			if x, ok := m.Get(at, c.n); !ok || x != c.num {
				t.Errorf("Get(%#x, %d): %#x, %v", at, c.n, x, ok)
			}
		}
	}
}

// P2.2: numbers whose bytes are all set stay what they are.
func TestGetIsNotSigned(t *testing.T) {
	m := fresh(t, 1)
	if !m.Put(api.Base, 8, ones) {
		t.Fatal("Put is refused")
	}
	for n, want := range map[int]uint64{1: 0xFF, 2: 0xFFFF, 4: 0xFFFFFFFF, 8: ones} {
		if x, ok := m.Get(api.Base, n); !ok || x != want {
			t.Errorf("Get of %d bytes: %#x, %v", n, x, ok)
		}
	}
}

// P2.2: the document's example.
func TestExample(t *testing.T) {
	m := fresh(t, 1)
	if !m.Put(api.Base, 4, 1) {
		t.Error("Put(Base, 4, 1) is refused")
	}
	if x, ok := m.Get(api.Base, 8); x != 1 || !ok {
		t.Errorf("Get(Base, 8): %d, %v", x, ok)
	}
}

// P2.2, P2.3: which numbers are got and put, at which addresses; what is put is there and changes no other byte; what is refused tells and changes nothing.
func TestGetAndPutEverywhere(t *testing.T) {
	for _, pages := range []int{1, 2, 16} {
		m := marked(t, pages)
		before := whole(t, m)
		for _, at := range places(pages) {
			for _, n := range counts(pages) {
				want := width(n) && has(pages, at, n)
				x, ok := m.Get(at, n)
				if ok != want || !ok && x != 0 {
					t.Errorf("of %d pages Get(%#x, %d): %#x, %v", pages, at, n, x, ok)
				}
				if got := m.Put(at, n, number); got != want {
					t.Errorf("of %d pages Put(%#x, %d): %v", pages, at, n, got)
				}
				model := slices.Clone(before)
				for i := 0; want && i < n; i++ {
					model[at-api.Base+uint64(i)] = byte(uint64(number) >> (8 * i))
				}
				if !bytes.Equal(whole(t, m), model) {
					t.Errorf("of %d pages Put(%#x, %d) leaves other bytes", pages, at, n)
				}
				if want && !m.Put(at, n, x) || !bytes.Equal(whole(t, m), before) {
					t.Fatalf("of %d pages what Get(%#x, %d) told is not what stood there", pages, at, n)
				}
			}
		}
	}
}

// P2.2, P2.3: which bytes are loaded and told, at which addresses; no other is changed; what is refused tells and changes nothing.
func TestLoadAndBytesEverywhere(t *testing.T) {
	for _, pages := range []int{1, 2, 16} {
		m := marked(t, pages)
		before := whole(t, m)
		for _, at := range places(pages) {
			for _, n := range counts(pages) {
				want := has(pages, at, n)
				told, ok := m.Bytes(at, n)
				if ok != want || !ok && told != nil {
					t.Errorf("of %d pages Bytes(%#x, %d): %d bytes, %v", pages, at, n, len(told), ok)
				}
				if ok && !bytes.Equal(told, before[at-api.Base:][:n]) {
					t.Errorf("of %d pages Bytes(%#x, %d) tells others", pages, at, n)
				}
				if n < 0 || n > pages*page+1 {
					continue
				}
				b := bytes.Repeat([]byte{0xFE}, n)
				if got := m.Load(at, b); got != want {
					t.Errorf("of %d pages Load(%#x) of %d bytes: %v", pages, at, n, got)
				}
				model := slices.Clone(before)
				if want {
					copy(model[at-api.Base:], b)
				}
				if !bytes.Equal(whole(t, m), model) {
					t.Errorf("of %d pages Load(%#x) of %d bytes leaves other bytes", pages, at, n)
				}
				m.Load(api.Base, before)
			}
		}
	}
}

// P2.2: none are loaded and told where they could stand, and nowhere else.
func TestNoBytes(t *testing.T) {
	m := marked(t, 1)
	before := whole(t, m)
	for at, want := range map[uint64]bool{api.Base: true, api.Base + 7: true, api.Base + page: true, api.Base + page + 1: false, api.Base - 1: false, 0: false, ones: false} {
		if m.Load(at, nil) != want || m.Load(at, []byte{}) != want {
			t.Errorf("Load(%#x) of none is not %v", at, want)
		}
		if b, ok := m.Bytes(at, 0); len(b) != 0 || ok != want {
			t.Errorf("Bytes(%#x, 0): %v, %v", at, b, ok)
		}
	}
	if !bytes.Equal(whole(t, m), before) {
		t.Error("none are loaded, and memory is changed")
	}
}

// spans are pieces of memory of two pages: small ones, some with an edge of a page in them, and all of it.
func spans() []struct {
	at uint64
	n  int
} {
	return []struct {
		at uint64
		n  int
	}{{api.Base + 5, 0}, {api.Base, 1}, {api.Base + 5, 3}, {api.Base + 8, 8}, {api.Base, page}, {api.Base + 5, page}, {api.Base + page, page}, {api.Base, 2 * page}, {api.Base + 2*page, 0}}
}

// P2.2, R7: a list that is loaded, and the room behind its end, is neither changed nor kept.
func TestLoadKeepsNoList(t *testing.T) {
	for _, s := range spans() {
		m := marked(t, 2)
		room := bytes.Repeat([]byte{0xFE}, s.n+16)
		if !m.Load(s.at, room[:s.n]) {
			t.Fatalf("Load(%#x) of %d bytes is refused", s.at, s.n)
		}
		loaded := whole(t, m)
		clear(room)
		if !bytes.Equal(whole(t, m), loaded) {
			t.Errorf("Load(%#x): memory is changed with the %d bytes that were handed in", s.at, s.n)
		}
		for at := uint64(api.Base); at < api.Base+2*page; at += 8 {
			if !m.Put(at, 8, number) {
				t.Fatalf("Put(%#x, 8) is refused", at)
			}
		}
		if !bytes.Equal(room, make([]byte, s.n+16)) {
			t.Errorf("Load(%#x): the %d bytes that were handed in are changed with memory", s.at, s.n)
		}
	}
}

// P2.2, R7: Load changes neither the list nor the room behind its end, also where it refuses.
func TestLoadChangesNoList(t *testing.T) {
	for _, at := range []uint64{api.Base - 1, api.Base, api.Base + page - 4, api.Base + page - 3, ones - 2} {
		m := marked(t, 1)
		room := []byte{1, 2, 3, 4, 5, 6, 7, 8}
		m.Load(at, room[:4])
		if !bytes.Equal(room, []byte{1, 2, 3, 4, 5, 6, 7, 8}) {
			t.Errorf("Load(%#x) leaves % x", at, room)
		}
	}
}

// P2.2, R7: a list that is told is the caller's own, with the room behind its end.
func TestBytesAreTheCallers(t *testing.T) {
	for _, s := range spans() {
		m := marked(t, 2)
		before := whole(t, m)
		one, _ := m.Bytes(s.at, s.n)
		two, _ := m.Bytes(s.at, s.n)
		kept := slices.Clone(two)
		clear(one[:cap(one)])
		_ = append(one, 0xFE, 0xFE)
		if !bytes.Equal(whole(t, m), before) {
			t.Errorf("memory is changed with what Bytes(%#x, %d) told", s.at, s.n)
		}
		if !bytes.Equal(two, kept) {
			t.Errorf("two lists that Bytes(%#x, %d) told share memory", s.at, s.n)
		}
		m.Load(api.Base, make([]byte, 2*page))
		if !bytes.Equal(two, kept) {
			t.Errorf("what Bytes(%#x, %d) told is changed with memory", s.at, s.n)
		}
	}
}

// P2.2, R7: a clone is the same at first; then each of both goes its own way, and so does a clone's clone.
func TestClone(t *testing.T) {
	for _, pages := range []int{1, 2, 16} {
		m := marked(t, pages)
		before := whole(t, m)
		c := m.Clone()
		if c == nil || c == m || c.Pages() != pages || !bytes.Equal(whole(t, c), before) {
			t.Fatalf("a clone of %d pages is not the same", pages)
		}
		last := api.Base + uint64(pages)*page - 8
		if !c.Put(api.Base, 8, number) || !c.Put(last, 8, number) || !c.Load(api.Base+100, []byte{9, 9, 9}) {
			t.Fatal("a clone refuses")
		}
		if !bytes.Equal(whole(t, m), before) {
			t.Errorf("of %d pages: what is done of a clone is seen", pages)
		}
		cloned := whole(t, c)
		d := c.Clone()
		if !m.Load(api.Base, make([]byte, pages*page)) || !d.Put(last, 8, 5) {
			t.Fatal("memory refuses")
		}
		if !bytes.Equal(whole(t, c), cloned) {
			t.Errorf("of %d pages: a clone sees what is done of others", pages)
		}
	}
}

// R6: two memories are apart.
func TestTwoAreApart(t *testing.T) {
	one, two := fresh(t, 1), fresh(t, 1)
	one.Load(api.Base, bytes.Repeat([]byte{0xFE}, page))
	if !bytes.Equal(whole(t, two), make([]byte, page)) || !bytes.Equal(whole(t, fresh(t, 1)), make([]byte, page)) {
		t.Error("what is put into one memory stands in another")
	}
}

// P2.3: of many numbers and bytes that are put over each other the last are there, and the others as they were.
func TestLastIsThere(t *testing.T) {
	const pages = 3
	m := marked(t, pages)
	model := whole(t, m)
	x := uint64(0x9E3779B97F4A7C15)
	for range 4000 {
		x = x*6364136223846793005 + 1442695040888963407
		off, n := int(x>>20%(pages*page)), int([]int{1, 2, 4, 8}[x>>33%4])
		at := api.Base + uint64(off)
		if off+n > pages*page {
			if m.Put(at, n, x) || m.Load(at, make([]byte, n)) {
				t.Fatalf("%d bytes at %#x go over the end", n, at)
			}
			continue
		}
		var b [8]byte
		for i := range b {
			b[i] = byte(x >> (8 * i))
		}
		copy(model[off:], b[:n])
		if x>>40%2 == 0 && !m.Put(at, n, x) || x>>40%2 == 1 && !m.Load(at, b[:n]) {
			t.Fatalf("%d bytes at %#x are refused", n, at)
		}
		if !bytes.Equal(whole(t, m), model) {
			t.Fatalf("behind %d bytes at %#x other bytes stand in memory", n, at)
		}
		if got, ok := m.Get(at, n); !ok || got != x<<(64-8*n)>>(64-8*n) {
			t.Fatalf("Get(%#x, %d): %#x, %v behind %#x", at, n, got, ok, x)
		}
	}
}
