package space

import (
	"testing"

	"suzerain/api"
	"suzerain/walk"
)

// edges are addresses about the ends of memory and of all.
func edges(end uint64) []uint64 {
	out := []uint64{1 << 31 >> 1, 1 << 32, 1<<32 + api.Base, 1<<63 + api.Base, 1 << 38, 1 << 63}
	for _, mid := range []uint64{0, api.Base, end} {
		for i := range uint64(21) {
			out = append(out, mid+i-10)
		}
	}
	return out
}

// TestP131Plain asks, without a table, about bytes at both ends of memory.
func TestP131Plain(t *testing.T) {
	for _, pages := range []int{1, 2, api.MaxPages} {
		m := memory(t, pages)
		for _, va := range edges(api.Base + uint64(pages)*4096) {
			for _, n := range widths {
				for kind := range 3 {
					want := told{fault: noAddress(kind, va)}
					if has(m, va, n) {
						want = told{all: []uint64{va}}
					}
					access{priv: api.User, kind: kind, va: va, n: n}.checkTo(t, m, want)
				}
			}
		}
	}
}

// TestP131Strange asks for kinds and privileges that are none.
func TestP131Strange(t *testing.T) {
	m := memory(t, 1)
	for _, kind := range append(strangeKinds, 0, 1, 2) {
		for _, priv := range append(strangePrivs, 0, 1) {
			access{priv: priv, kind: kind, va: api.Base + 4093, n: 2}.checkTo(t, m, told{all: []uint64{api.Base + 4093}})
			access{priv: priv, kind: kind, va: api.Base + 4093, n: 4}.checkTo(t, m, told{fault: noAddress(kind, api.Base+4093)})
		}
	}
	m = world(t)
	lay(t, m, 5, entry(first+3, open))
	lay(t, m, 6, entry(beyond, open))
	for _, kind := range strangeKinds {
		access{c: table(0), priv: api.User, kind: kind, va: 0x5000, n: 1}.checkTo(t, m, told{fault: pageFault(kind, 0x5000), asks: 1, walks: 1})
	}
	for _, priv := range strangePrivs {
		for kind := range 3 {
			access{c: table(0), priv: priv, kind: kind, va: 0x5000, n: 1}.checkTo(t, m, told{fault: pageFault(kind, 0x5000), asks: 1, walks: 1})
		}
	}
}

// TestP131Table asks by a table, of each kind: where a page is elsewhere, at the ends of memory, beyond them, and what may not be.
func TestP131Table(t *testing.T) {
	last := uint64(beyond - 1)
	for _, row := range []struct {
		e, off uint64
		n      int
		priv   int
		status uint64
		// is tells of a Fetch, a Load and a Store: 'y' where the page tells, 'n' no address, 'p' a page fault.
		is string
	}{
		{entry(first+5, open), 0, 8, api.User, 0, "yyy"}, {entry(first+5, open), 0x123, 1, api.User, 0, "yyy"}, {entry(first+5, open), 0xFFF, 1, api.User, 0, "yyy"},
		{entry(first+5, open), 0xFFF, 8, api.User, 0, "yyy"}, {entry(first, open), 0, 1, api.User, 0, "yyy"}, {entry(first+5, system), 0x800, 4, api.Super, 0, "yyy"},
		{entry(last, open), 0xFF8, 8, api.User, 0, "yyy"}, {entry(last, open), 0xFF9, 8, api.User, 0, "nnn"}, {entry(last, open), 0xFFC, 4, api.User, 0, "yyy"},
		{entry(last, open), 0xFFD, 4, api.User, 0, "nnn"}, {entry(last, open), 0xFFE, 2, api.User, 0, "yyy"}, {entry(last, open), 0xFFF, 2, api.User, 0, "nnn"},
		{entry(last, open), 0xFFF, 1, api.User, 0, "yyy"}, {entry(last, system), 0xFFF, 2, api.Super, 0, "nnn"},
		{entry(beyond, open), 0, 1, api.User, 0, "nnn"}, {entry(beyond, open), 0xFFF, 8, api.User, 0, "nnn"}, {entry(first-1, open), 0xFFF, 1, api.User, 0, "nnn"},
		{entry(first-1, open), 0xFFF, 2, api.User, 0, "nnn"}, {entry(first-1, open), 0xFF9, 8, api.User, 0, "nnn"}, {entry(0, open), 0, 4, api.User, 0, "nnn"},
		{entry(1<<44-1, open), 0xFFF, 2, api.User, 0, "nnn"}, {entry(1<<44-1, open), 0xFF8, 8, api.User, 0, "nnn"}, {entry(1<<43+first, open), 0, 1, api.User, 0, "nnn"},
		{0, 0, 1, api.User, 0, "ppp"}, {entry(first+5, open) &^ v, 8, 8, api.User, 0, "ppp"}, {entry(first+5, open) &^ a, 8, 8, api.User, 0, "ppp"},
		{entry(first+5, open) &^ d, 8, 8, api.User, 0, "yyp"}, {entry(first+5, open) &^ w, 8, 8, api.User, 0, "yyp"}, {entry(first+5, open) &^ x, 8, 8, api.User, 0, "pyy"},
		{entry(first+5, v|x|u|a), 8, 8, api.User, 0, "ypp"}, {entry(first+5, v|x|u|a), 8, 8, api.User, mxr, "yyp"}, {entry(first+5, v), 8, 8, api.User, 0, "ppp"},
		{entry(first+5, system), 8, 8, api.User, 0, "ppp"}, {entry(first+5, open), 8, 8, api.Super, 0, "ppp"}, {entry(first+5, open), 8, 8, api.Super, sum, "pyy"},
		{entry(beyond, system), 8, 8, api.User, 0, "ppp"}, {entry(beyond, open) &^ w, 8, 8, api.User, 0, "nnp"},
	} {
		m := world(t)
		for _, page := range []uint64{0, 5, 0x1234567, canonicals/4096 - 1, 1<<52 - canonicals/4096, 1<<52 - 1} {
			lay(t, m, page, row.e)
			va := page*4096 + row.off
			for kind, is := range row.is {
				want := told{fault: pageFault(kind, va), asks: 1, walks: 1}
				switch is {
				case 'y':
					want = told{all: []uint64{row.e>>10*4096 + row.off}, asks: 1, walks: 1, kept: 1}
				case 'n':
					want = told{fault: noAddress(kind, va), asks: 1, walks: 1, kept: 1}
				}
				access{c: table(row.status), priv: row.priv, kind: kind, va: va, n: row.n}.checkTo(t, m, want)
			}
		}
	}
}

// TestP131Canonical asks addresses that may not be, of which no table is asked.
func TestP131Canonical(t *testing.T) {
	m := world(t)
	for i := range uint64(512) {
		lay(t, m, i, entry(first+3, open))
	}
	for _, va := range []uint64{canonicals, canonicals + 8, 1 << 39, 1 << 63, 1<<63 - 8, 1<<64 - canonicals - 1, 1<<64 - canonicals - 8, 1<<64 - 1<<39, api.Base << 20} {
		for _, n := range widths {
			for kind := range 3 {
				access{c: table(0), kind: kind, va: va, n: n}.checkTo(t, m, told{fault: pageFault(kind, va)})
			}
		}
	}
}

// TestP131Far asks where the tables themselves are not in memory.
func TestP131Far(t *testing.T) {
	m := world(t)
	put(t, m, 1, 3, entry(beyond, v))
	put(t, m, 1, 4, entry(1<<40+first, v))
	for kind := range 3 {
		for _, va := range []uint64{3 << 21, 4 << 21, 4<<21 + 0xFFF} {
			access{c: table(0), kind: kind, va: va, n: 1}.checkTo(t, m, told{fault: noAddress(kind, va), asks: 1, walks: 1})
		}
		c := table(0)
		c.Satp += worldPages
		access{c: c, kind: kind, va: 0x5008, n: 8}.checkTo(t, m, told{fault: noAddress(kind, 0x5008), asks: 1, walks: 1})
	}
}

// TestP131Large asks by leaves above the lowest level, over all of memory and beyond.
func TestP131Large(t *testing.T) {
	m := world(t)
	put(t, m, 0, 5, entry(first, open))
	put(t, m, 1, 6, entry(first, open))
	put(t, m, 1, 7, entry(first+512, open))
	for _, from := range []uint64{5 << 30, 6 << 21} {
		for kind := range 3 {
			for _, n := range widths {
				for _, off := range edges(worldPages * 4096) {
					if off >= 1<<21 {
						continue
					}
					want := told{fault: noAddress(kind, from+off), asks: 1, walks: 1, kept: 1}
					if has(m, api.Base+off, n) {
						want = told{all: []uint64{api.Base + off}, asks: 1, walks: 1, kept: 1}
					}
					access{c: table(0), kind: kind, va: from + off, n: n}.checkTo(t, m, want)
				}
			}
		}
	}
	access{c: table(0), kind: api.Load, va: 7<<21 + 16, n: 8}.checkTo(t, m, told{fault: noAddress(api.Load, 7<<21+16), asks: 1, walks: 1, kept: 1})
}

// TestP131Kept asks that a leaf that is kept is what To goes by, whatever the tables say by now, and that without one the tables alone are.
func TestP131Kept(t *testing.T) {
	for _, most := range mosts {
		m := world(t)
		s := with(m, most)
		lay(t, m, 5, entry(first+3, open))
		want := uint64(api.Base + 3*4096 + 8)
		ask := func() {
			t.Helper()
			if at, f := s.To(table(0), api.User, api.Load, 0x5008, 8); at != want || f.Is {
				t.Errorf("with %d: %x, %+v, not %x", most, at, f, want)
			}
		}
		ask()
		lay(t, m, 5, entry(first+4, open))
		if most <= 0 {
			want += 4096
		}
		ask()
		if s.T != nil {
			s.T.Flush(true, 0, true, 0)
		}
		want = api.Base + 4*4096 + 8
		ask()
	}
	// One that was put by hand leads where no table does.
	m := memory(t, 2)
	s := with(m, 1)
	s.T.Put(0x5000, 0, api.Leaf{Pte: entry(first+1, open)})
	c := api.Csrs{Satp: 8 << 60}
	if at, f := s.To(c, api.User, api.Store, 0x5FFE, 2); at != api.Base+0x1FFE || f.Is {
		t.Errorf("%x %+v", at, f)
	}
	if at, f := s.To(c, api.User, api.Store, 0x5FFF, 2); at != 0 || f != noAddress(api.Store, 0x5FFF) {
		t.Errorf("%x %+v", at, f)
	}
	if at, f := (Space{M: m}).To(c, api.User, api.Store, 0x5FFE, 2); at != 0 || f != noAddress(api.Store, 0x5FFE) {
		t.Errorf("%x %+v", at, f)
	}
}

// TestP131Widths asks for numbers of bytes that no access has: none panics, and those that can't all be there are not.
func TestP131Widths(t *testing.T) {
	m := world(t)
	lay(t, m, 5, entry(beyond-1, open))
	for _, n := range strangeWidths {
		for kind := range 3 {
			for _, most := range mosts {
				s := with(m, most)
				for _, c := range []api.Csrs{{}, table(0)} {
					for _, va := range []uint64{0, api.Base, api.Base + 4096, 0x5000, 0x5FFC, ones} {
						at, f := s.To(c, api.User, kind, va, n)
						to, before := walk.To(m, c, api.User, kind, va)
						switch {
						case before.Is && (at != 0 || f != before), !before.Is && (n < 0 || n > 4096*worldPages) && (at != 0 || f != noAddress(kind, va)):
							t.Errorf("To of %d bytes at %x is %x, %+v", n, va, at, f)
						case !f.Is && at != to, f.Is && at != 0:
							t.Errorf("To of %d bytes at %x is %x, %+v", n, va, at, f)
						}
					}
				}
			}
		}
	}
}
