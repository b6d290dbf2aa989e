package tlb

import (
	"math"
	"slices"
	"testing"

	"suzerain/api"
)

const ones = 1<<64 - 1

// one is a leaf that was Put, with what it was Put for.
type one struct {
	va, asid uint64
	leaf     api.Leaf
}

// leaf has a number for its entry by which it is known again.
func leaf(id uint64, level int, global bool) api.Leaf {
	return api.Leaf{Pte: id, Level: level, Global: global}
}

// unit is how many bytes a leaf of that level has.
func unit(level int) uint64 {
	return [...]uint64{1 << 12, 1 << 21, 1 << 30}[level]
}

// covers tells it by the numbers of the two addresses' leaves.
func (o one) covers(va uint64) bool {
	return o.va/unit(o.leaf.Level) == va/unit(o.leaf.Level)
}

// with keeps so many at most, and these were Put in order.
func with(most int, row ...one) *Tlb {
	x := New(most)
	for _, o := range row {
		x.Put(o.va, o.asid, o.leaf)
	}
	return x
}

// found asks that Find tells want, and none that it tells nothing.
func found(t *testing.T, x *Tlb, va, asid uint64, want api.Leaf) {
	t.Helper()
	if got, ok := x.Find(va, asid); got != want || !ok {
		t.Errorf("Find(%x, %x) is %+v, %v, not %+v", va, asid, got, ok, want)
	}
}

func none(t *testing.T, x *Tlb, va, asid uint64) {
	t.Helper()
	if got, ok := x.Find(va, asid); got != (api.Leaf{}) || ok {
		t.Errorf("Find(%x, %x) is %+v, %v", va, asid, got, ok)
	}
}

// fill puts a leaf of an address and an asid that no test asks.
func fill(x *Tlb) {
	x.Put(0x5A5A5A5A5A5A5000, 0xA5A5A5A5A5A5A5A5, leaf(0, 0, false))
}

// mostOf is how many are kept of many that are Put.
func mostOf(x *Tlb) int {
	c := x.Clone()
	for range 2 * api.MaxTlb {
		fill(c)
	}
	return c.Len()
}

// holds asks that x keeps want, in that order, and no more: a full row lets go of its first at each Put, so that each of them is once the first.
func holds(t *testing.T, x *Tlb, want ...one) {
	t.Helper()
	if x.Len() != len(want) {
		t.Errorf("%d are kept, not %d", x.Len(), len(want))
		return
	}
	c := x.Clone()
	for range mostOf(x) - len(want) {
		fill(c)
	}
	for _, o := range want {
		found(t, c, o.va, o.asid, o.leaf)
		fill(c)
	}
	for _, o := range want {
		none(t, c, o.va, o.asid)
	}
}

func TestP121New(t *testing.T) {
	for _, row := range []struct{ most, want int }{
		{math.MinInt, 0}, {math.MinInt + 8, 0}, {-1 << 32, 0}, {-1<<32 + 3, 0}, {-8, 0}, {-1, 0}, {0, 0}, {1, 1}, {2, 2}, {3, 3}, {7, 7}, {8, 8},
		{9, 8}, {10, 8}, {255, 8}, {256, 8}, {1 << 32, 8}, {1<<32 + 3, 8}, {math.MaxInt, 8},
	} {
		x := New(row.most)
		if x.Len() != 0 || x.Misses() != 0 {
			t.Errorf("New(%d) keeps %d, with %d misses", row.most, x.Len(), x.Misses())
		}
		none(t, x, 0, 0)
		none(t, x, ones, ones)
		var all []one
		for i := range uint64(20) {
			all = append(all, one{i * 4096, i, leaf(i+1, 0, false)})
			x.Put(all[i].va, all[i].asid, all[i].leaf)
			if want := min(len(all), row.want); x.Len() != want {
				t.Errorf("New(%d) keeps %d of %d, not %d", row.most, x.Len(), len(all), want)
			}
		}
		holds(t, x, all[len(all)-row.want:]...)
	}
	if a, b := New(2), New(2); a == b {
		t.Error("two are one")
	}
}

// places are addresses at the edges of leaves and of all, and with bits all over.
var places = []uint64{
	0, 1, 4095, 4096, 1<<21 - 1, 1 << 21, 1<<30 - 1, 1 << 30, 0x1234567ABC, 0x3FFFFFFFFF, 1 << 38, 1<<39 - 1, 1 << 63, 1<<63 - 1,
	0x5555555555555555, 0xAAAAAAAAAAAAAAAA, 1<<64 - 1<<30, 1<<64 - 1<<30 - 1, 1<<64 - 1<<21, 1<<64 - 4096, ones - 1, ones,
}

// TestP121Covers asks addresses that differ from a leaf's own in one bit, and in all below and from one on.
func TestP121Covers(t *testing.T) {
	for level, from := range []int{12, 21, 30} {
		for _, va := range places {
			l := leaf(9, level, false)
			x := with(1, one{va, 5, l})
			for bit := range 64 {
				for _, row := range []struct {
					differ uint64
					is     bool
				}{{1 << bit, bit < from}, {1<<bit - 1, bit <= from}, {ones << bit, false}, {1<<from - 1<<(bit%from), true}} {
					at := va ^ row.differ
					if row.is {
						found(t, x, at, 5, l)
					} else {
						none(t, x, at, 5)
					}
					c := x.Clone()
					c.Flush(false, at, false, 5)
					if gone := c.Len() == 0; gone != row.is {
						t.Errorf("level %d: a leaf of %x is flushed by %x: %v", level, va, at, gone)
					}
				}
			}
		}
	}
}

// TestP121Edges asks the first and the last byte of leaves, and those beside them.
func TestP121Edges(t *testing.T) {
	for level := range 3 {
		size := unit(level)
		for _, n := range []uint64{0, 1, 5, 1<<34 - 1} {
			first := n * size
			l := leaf(7, level, false)
			for _, at := range []uint64{first, first + 1, first + size/2, first + size - 1} {
				x := with(3, one{at, 0, l})
				for _, va := range []uint64{first, first + 1, first + size/2, first + size - 1} {
					found(t, x, va, 0, l)
				}
				for _, va := range []uint64{first - 1, first - size, first + size, first + 2*size - 1, first + 1<<63} {
					none(t, x, va, 0)
				}
			}
		}
	}
}

func TestP122Find(t *testing.T) {
	own, other := one{0x40201000, 3, leaf(1, 0, false)}, one{0x40201000, 4, leaf(2, 0, false)}
	wide, widest := one{0x40200000, 3, leaf(3, 1, false)}, one{0x40000000, 3, leaf(4, 2, false)}
	global := one{0x40201000, 9, leaf(5, 0, true)}
	away := one{0x80000000, 3, leaf(6, 0, true)}
	for i, row := range []struct {
		row      []one
		va, asid uint64
		want     api.Leaf
	}{
		{nil, 0, 0, api.Leaf{}},
		{[]one{own}, 0x40201FFF, 3, own.leaf},
		{[]one{own}, 0x40201000, 4, api.Leaf{}},
		{[]one{own}, 0x40202000, 3, api.Leaf{}},
		{[]one{own, wide}, 0x40201000, 3, own.leaf},
		{[]one{wide, own}, 0x40201000, 3, wide.leaf},
		{[]one{widest, wide, own}, 0x40201000, 3, widest.leaf},
		{[]one{own, wide, widest}, 0x40202000, 3, wide.leaf},
		{[]one{own, wide, widest}, 0x40400000, 3, widest.leaf},
		{[]one{own, wide, widest}, 0x80000000, 3, api.Leaf{}},
		{[]one{own, other}, 0x40201000, 4, other.leaf},
		{[]one{other, own}, 0x40201000, 3, own.leaf},
		{[]one{own, other}, 0x40201000, 5, api.Leaf{}},
		{[]one{global}, 0x40201000, 3, global.leaf},
		{[]one{global}, 0x40201000, 9, global.leaf},
		{[]one{global}, 0x40202000, 9, api.Leaf{}},
		{[]one{own, global}, 0x40201000, 3, own.leaf},
		{[]one{global, own}, 0x40201000, 3, global.leaf},
		{[]one{own, global}, 0x40201000, 4, global.leaf},
		{[]one{away, other, own}, 0x40201000, 3, own.leaf},
		{[]one{away, own}, 0x80000000, 8, away.leaf},
	} {
		x := with(8, row.row...)
		for range 2 {
			if got, ok := x.Find(row.va, row.asid); got != row.want || ok != (row.want != api.Leaf{}) {
				t.Errorf("row %d: %+v, %v, not %+v", i, got, ok, row.want)
			}
		}
		holds(t, x, row.row...)
	}
	// A leaf of nothing is one too.
	found(t, with(1, one{}), 4095, 0, api.Leaf{})
}

// TestP122Asid asks asids that differ in one bit.
func TestP122Asid(t *testing.T) {
	for _, asid := range []uint64{0, 1, 0xFFFF, 0x5555, ones} {
		for _, global := range []bool{false, true} {
			o := one{4096, asid, leaf(1, 0, global)}
			x := with(4, o)
			found(t, x, 4096, asid, o.leaf)
			for bit := range 64 {
				at := asid ^ 1<<bit
				if global {
					found(t, x, 4096, at, o.leaf)
				} else {
					none(t, x, 4096, at)
				}
				c := x.Clone()
				c.Flush(true, 0, false, at)
				c.Flush(false, 4096, false, at)
				holds(t, c, o)
			}
		}
	}
}

func TestP122Put(t *testing.T) {
	for most := range api.MaxTlb + 1 {
		x := New(most)
		var all []one
		for i := range uint64(3 * api.MaxTlb) {
			o := one{i << 12, i % 3, leaf(100+i, 0, i%4 == 0)}
			all = append(all, o)
			x.Put(o.va, o.asid, o.leaf)
			holds(t, x, all[max(0, len(all)-most):]...)
		}
		if x.Misses() != 0 {
			t.Errorf("a Put is a miss")
		}
	}
}

// TestP122PutAgain puts what is kept already: it is another one.
func TestP122PutAgain(t *testing.T) {
	a, b := one{4096, 1, leaf(1, 0, false)}, one{8192, 1, leaf(2, 0, false)}
	again := one{4096, 1, leaf(3, 0, false)}
	holds(t, with(8, a, a), a, a)
	holds(t, with(8, a, b, a), a, b, a)
	holds(t, with(2, a, b, a), b, a)
	holds(t, with(1, a, a), a)
	holds(t, with(3, a, again, b), a, again, b)
	x := with(2, a, again)
	found(t, x, 4096, 1, a.leaf)
	x.Put(b.va, b.asid, b.leaf)
	found(t, x, 4096, 1, again.leaf)
	x = with(8, a, a, b, a)
	x.Flush(false, 4096, false, 1)
	holds(t, x, b)
	x = with(0, a)
	none(t, x, 4096, 1)
	holds(t, x)
}

// TestP122Strange puts leaves of levels that there are none of: nothing panics.
func TestP122Strange(t *testing.T) {
	for _, level := range []int{-1, -2, 3, 4, 6, 64, 1 << 32, 1<<61 + 1, math.MinInt, math.MinInt + 1, math.MaxInt, math.MaxInt / 9} {
		x := with(2, one{4096, 1, leaf(1, level, false)})
		x.Find(4096, 1)
		x.Find(ones, 1)
		x.Flush(false, 0, true, 0)
		x.Flush(true, 0, true, 0)
		holds(t, x)
	}
}

// TestP122Unmade asks one that New did not make: it keeps nothing.
func TestP122Unmade(t *testing.T) {
	var x Tlb
	x.Put(0, 0, api.Leaf{})
	x.Flush(true, 0, true, 0)
	none(t, &x, 0, 0)
	holds(t, x.Clone())
}

// letters are leaves that are known by a letter: those of lower case are of asid 1, of upper case of asid 2; of b, B the leaf is Global; c, C do not cover 5<<21.
func letters(text string) []one {
	var out []one
	for _, letter := range text {
		l := leaf(uint64(letter), 0, false)
		va, asid := uint64(5<<21+7), uint64(1)
		switch letter {
		case 'b', 'B':
			l.Global = true
		case 'c', 'C':
			va += 4096
		case 'd', 'D':
			va, l.Level = 5<<21+1<<20, 1
		}
		if letter < 'a' {
			asid = 2
		}
		out = append(out, one{va, asid, l})
	}
	return out
}

func TestP122Flush(t *testing.T) {
	const va = 5<<21 + 99
	for _, row := range []struct {
		row   string
		all   bool
		va    uint64
		every bool
		asid  uint64
		want  string
	}{
		{"", true, va, true, 1, ""}, {"", false, va, false, 1, ""},
		{"abcdABCD", true, va, true, 1, ""}, {"abcdABCD", true, 0, true, 77, ""}, {"abcdABCD", true, ones, true, 0, ""},
		{"abcdABCD", true, va, false, 1, "bABCD"}, {"abcdABCD", true, 0, false, 2, "abcdB"}, {"abcdABCD", true, va, false, 3, "abcdABCD"},
		{"abcdABCD", false, va, true, 1, "cC"}, {"abcdABCD", false, va, true, 3, "cC"}, {"abcdABCD", false, 0, true, 1, "abcdABCD"},
		{"abcdABCD", false, va, false, 1, "bcABCD"}, {"abcdABCD", false, va, false, 2, "abcdBC"}, {"abcdABCD", false, va, false, 0, "abcdABCD"},
		{"abcdABCD", false, va + 4096, false, 1, "abABCD"}, {"abcdABCD", false, va + 8192, false, 1, "abcABCD"}, {"abcdABCD", false, va + 8192, true, 9, "abcABC"},
		{"abcdABCD", false, va + 1<<21, true, 1, "abcdABCD"}, {"abcdABCD", false, va + 1<<40, true, 1, "abcdABCD"},
		{"aCcA", false, va, false, 1, "CcA"}, {"cCaA", false, va, false, 1, "cCA"}, {"cCAa", false, va, false, 1, "cCA"}, {"a", false, va, false, 1, ""},
		{"aca", false, va, false, 1, "c"}, {"cac", false, va, false, 1, "cc"}, {"aaaaaaaa", false, va, false, 1, ""}, {"DcBabCAd", false, va, false, 1, "DcBbCA"},
		{"bB", true, 0, false, 1, "bB"}, {"bB", true, 0, true, 1, ""}, {"bB", false, va, false, 1, "bB"}, {"bB", false, va, true, 1, ""},
		{"bB", false, 0, true, 1, "bB"},
	} {
		x := with(8, letters(row.row)...)
		before := x.Clone()
		for range 2 {
			x.Flush(row.all, row.va, row.every, row.asid)
			holds(t, x, letters(row.want)...)
		}
		if t.Failed() {
			t.Fatalf("of %s by %v, %x, %v, %d", row.row, row.all, row.va, row.every, row.asid)
		}
		holds(t, before, letters(row.row)...)
		// What is gone leaves room.
		filler := one{1 << 50, 6, leaf(6, 2, false)}
		for range len(row.row) - len(row.want) {
			x.Put(filler.va, filler.asid, filler.leaf)
		}
		want := letters(row.want)
		for len(want) < len(row.row) {
			want = append(want, filler)
		}
		holds(t, x, want...)
	}
}

// model is a row of leaves, done one by one.
type model struct {
	most int
	row  []one
}

func (m *model) find(va, asid uint64) (api.Leaf, bool) {
	for _, o := range m.row {
		if o.covers(va) && (o.leaf.Global || o.asid == asid) {
			return o.leaf, true
		}
	}
	return api.Leaf{}, false
}

func (m *model) put(o one) {
	m.row = append(m.row, o)
	m.row = m.row[max(0, len(m.row)-m.most):]
}

func (m *model) flush(all bool, va uint64, every bool, asid uint64) {
	var stay []one
	for _, o := range m.row {
		if !all && !o.covers(va) {
			stay = append(stay, o)
		} else if !every && (o.leaf.Global || o.asid != asid) {
			stay = append(stay, o)
		}
	}
	m.row = stay
}

func mixed(n uint64) uint64 {
	n ^= n << 13
	n ^= n >> 7
	return n ^ n<<17
}

// TestP122Mixed does calls of all kinds in many orders.
func TestP122Mixed(t *testing.T) {
	n := uint64(0x9E3779B97F4A7C15)
	draw := func(below uint64) uint64 {
		n = mixed(n)
		return n >> 20 % below
	}
	place := func() uint64 {
		return draw(2)<<30 + draw(2)<<21 + draw(3)<<12 + draw(4096)
	}
	for most := range api.MaxTlb + 1 {
		x, m := New(most), &model{most: most}
		for i := range 4000 {
			va, asid := place(), draw(3)
			switch draw(6) {
			case 0, 1, 2:
				o := one{va, asid, leaf(uint64(i)+1, int(draw(3)), draw(3) == 0)}
				x.Put(o.va, o.asid, o.leaf)
				m.put(o)
			case 3:
				all, every := draw(8) == 0, draw(3) == 0
				x.Flush(all, va, every, asid)
				m.flush(all, va, every, asid)
			case 4:
				x = x.Clone()
			}
			got, ok := x.Find(va, asid)
			if want, is := m.find(va, asid); got != want || ok != is {
				t.Fatalf("most %d, call %d: Find(%x, %d) is %+v, %v, not %+v", most, i, va, asid, got, ok, want)
			}
			if holds(t, x, m.row...); t.Failed() {
				t.Fatalf("most %d, call %d", most, i)
			}
		}
	}
}

func TestP123Clone(t *testing.T) {
	row := letters("aBcDA")
	do := []func(x *Tlb){
		func(x *Tlb) { x.Put(1<<50, 1, leaf(1, 0, false)) },
		func(x *Tlb) {
			for range 9 {
				x.Put(1<<50, 1, leaf(1, 0, false))
			}
		},
		func(x *Tlb) { x.Flush(true, 0, true, 0) },
		func(x *Tlb) { x.Flush(false, 5<<21, false, 1) },
		func(x *Tlb) { x.Flush(false, 5<<21, false, 1); fill(x); fill(x) },
	}
	for most := range api.MaxTlb + 1 {
		want := row[len(row)-min(most, len(row)):]
		for i, f := range do {
			for _, back := range []bool{false, true} {
				x := with(most, row...)
				c := x.Clone()
				if c == x || mostOf(c) != most {
					t.Errorf("a clone of at most %d keeps %d", most, mostOf(c))
				}
				if back {
					x, c = c, x
				}
				f(c)
				holds(t, x, want...)
				if i == 2 {
					holds(t, c)
				}
				if d := x.Clone(); d.Len() != x.Len() {
					t.Error(d.Len())
				}
			}
		}
	}
	// Both go on in the room that one of them had left.
	x := with(8, row[:3]...)
	c := x.Clone()
	x.Put(row[3].va, row[3].asid, row[3].leaf)
	c.Put(row[4].va, row[4].asid, row[4].leaf)
	holds(t, x, row[:4]...)
	holds(t, c, append(slices.Clone(row[:3]), row[4])...)
}

func TestP122Examples(t *testing.T) {
	x := New(1)
	x.Put(4096, 0, leaf(1, 0, false))
	x.Put(8192, 0, leaf(2, 0, false))
	if x.Len() != 1 {
		t.Error(x.Len())
	}
	none(t, x, 4096, 0)
	found(t, x, 8192, 0, leaf(2, 0, false))
}
