package space

import (
	"bytes"
	"slices"
	"testing"

	"suzerain/api"
	"suzerain/ram"
)

// value is what tests store: each of its bytes is another, and none is one of memory's by rule.
const value = 0x8899AABBCCDDEEFF

// both asks a Load and a Store of spaces that keep more leaves and less.
func (q access) both(t *testing.T, m *ram.Ram, want func(kind int) told) {
	t.Helper()
	for _, kind := range []int{api.Load, api.Store} {
		q.kind, q.x = kind, value
		q.check(t, m, want(kind))
	}
}

// asked is how many Tos there are of bytes of which all are found.
func asked(va uint64, n int) uint64 {
	if va&uint64(n-1) == 0 {
		return 1
	}
	return uint64(n)
}

// TestP132P133Plain asks, without a table, each byte of the first and of the last of memory, and beyond its ends: the first byte that is not there is the fault's, or the access's own address if it is aligned.
func TestP132P133Plain(t *testing.T) {
	for _, pages := range []int{1, 2} {
		m := memory(t, pages)
		for _, va := range edges(api.Base + uint64(pages)*4096) {
			for _, n := range widths {
				for _, priv := range []int{api.User, api.Super} {
					access{priv: priv, va: va, n: n}.both(t, m, func(kind int) told {
						for _, at := range run(va, n) {
							if !has(m, at, 1) {
								return told{fault: noAddress(kind, at)}
							}
						}
						return told{all: run(va, n)}
					})
				}
			}
		}
	}
}

// TestP132P133Rows has faults at the ends of memory told one by one.
func TestP132P133Rows(t *testing.T) {
	m := memory(t, 2)
	const end = api.Base + 2*4096
	for _, row := range []struct {
		va    uint64
		n     int
		fault uint64
	}{
		{end, 1, end}, {end, 8, end}, {end - 1, 2, end}, {end - 1, 4, end}, {end - 1, 8, end}, {end - 2, 4, end}, {end - 4, 8, end}, {end - 7, 8, end}, {end + 1, 2, end + 1},
		{api.Base - 1, 1, api.Base - 1}, {api.Base - 1, 2, api.Base - 1}, {api.Base - 7, 8, api.Base - 7}, {api.Base - 2, 4, api.Base - 2}, {api.Base - 8, 8, api.Base - 8},
		{0, 8, 0}, {1, 8, 1}, {ones, 1, ones}, {ones, 2, ones}, {ones - 6, 8, ones - 6}, {ones - 7, 8, ones - 7}, {ones - 2, 4, ones - 2},
	} {
		access{va: row.va, n: row.n}.both(t, m, func(kind int) told { return told{fault: noAddress(kind, row.fault)} })
	}
}

// over is an access over the end of a page, or within it: the page has entry first, the page behind it next.
type over struct {
	first, next uint64
	off         uint64
	n           int
	priv        int
	status      uint64
	// cause is whose fault it is of a Load and of a Store, '-' if there is none, 'n' no address, 'p' a page fault, of the byte bad.
	cause string
	bad   uint64
	// asks and walks are those up to the fault, or all, and kept the leaves behind them.
	asks, walks uint64
	kept        int
}

// want is what is told of it at a virtual page.
func (o over) want(kind int, va uint64) told {
	want := told{asks: o.asks, walks: o.walks, kept: o.kept}
	switch o.cause[kind-api.Load] {
	case 'n':
		want.fault = noAddress(kind, va+o.bad)
	case 'p':
		want.fault = pageFault(kind, va+o.bad)
	default:
		for i := range uint64(o.n) {
			at := o.first>>10*4096 + o.off + i
			if o.off+i >= 4096 {
				at = o.next>>10*4096 + o.off + i - 4096
			}
			want.all = append(want.all, at)
		}
	}
	return want
}

// TestP132P133Over has accesses over the end of a page at many places, that of all addresses too, behind which 0 comes.
func TestP132P133Over(t *testing.T) {
	one, two, last := entry(first+5, open), entry(first+3, open), entry(beyond-1, open)
	far, before := entry(beyond, open), entry(first-1, open)
	for i, row := range []over{
		{one, 0, 0, 8, api.User, 0, "--", 0, 1, 1, 1}, {one, 0, 0xFF8, 8, api.User, 0, "--", 0, 1, 1, 1}, {one, 0, 0xFFC, 4, api.User, 0, "--", 0, 1, 1, 1},
		{one, 0, 0xFFE, 2, api.User, 0, "--", 0, 1, 1, 1}, {one, 0, 0xFFF, 1, api.User, 0, "--", 0, 1, 1, 1}, {one, 0, 1, 8, api.User, 0, "--", 0, 8, 1, 1},
		{one, 0, 0xFF7, 8, api.User, 0, "--", 0, 8, 1, 1}, {one, 0, 0xFFB, 4, api.User, 0, "--", 0, 4, 1, 1}, {one, 0, 0xFFD, 2, api.User, 0, "--", 0, 2, 1, 1},
		{one, 0, 0x804, 8, api.User, 0, "--", 0, 8, 1, 1}, {one, 0, 0x802, 4, api.User, 0, "--", 0, 4, 1, 1},
		// The next page is elsewhere, ahead of the first or behind it, or is the same.
		{one, two, 0xFFF, 2, api.User, 0, "--", 0, 2, 2, 2}, {one, two, 0xFFD, 4, api.User, 0, "--", 0, 4, 2, 2}, {one, two, 0xFFF, 4, api.User, 0, "--", 0, 4, 2, 2},
		{one, two, 0xFF9, 8, api.User, 0, "--", 0, 8, 2, 2}, {one, two, 0xFFC, 8, api.User, 0, "--", 0, 8, 2, 2}, {two, one, 0xFFF, 8, api.User, 0, "--", 0, 8, 2, 2},
		{one, one, 0xFFD, 8, api.User, 0, "--", 0, 8, 2, 2}, {last, one, 0xFFE, 4, api.User, 0, "--", 0, 4, 2, 2}, {one, last, 0xFFE, 8, api.User, 0, "--", 0, 8, 2, 2},
		// The next page is not mapped, or not in memory: its first byte is the fault's.
		{one, 0, 0xFFF, 2, api.User, 0, "pp", 1, 2, 2, 1}, {one, 0, 0xFFD, 4, api.User, 0, "pp", 3, 4, 2, 1}, {one, 0, 0xFFE, 4, api.User, 0, "pp", 2, 3, 2, 1},
		{one, 0, 0xFF9, 8, api.User, 0, "pp", 7, 8, 2, 1}, {one, 0, 0xFFF, 8, api.User, 0, "pp", 1, 2, 2, 1}, {one, two &^ v, 0xFFF, 8, api.User, 0, "pp", 1, 2, 2, 1},
		{one, far, 0xFFF, 2, api.User, 0, "nn", 1, 2, 2, 2}, {one, far, 0xFFC, 8, api.User, 0, "nn", 4, 5, 2, 2}, {one, before, 0xFF9, 8, api.User, 0, "nn", 7, 8, 2, 2},
		{last, 0, 0xFFF, 2, api.User, 0, "pp", 1, 2, 2, 1}, {last, far, 0xFFD, 4, api.User, 0, "nn", 3, 4, 2, 2},
		// The next page may not be read, or not be written, by whoever asks.
		{one, two &^ u, 0xFFA, 8, api.User, 0, "pp", 6, 7, 2, 1}, {one &^ u, two, 0xFFA, 8, api.Super, 0, "pp", 6, 7, 2, 1}, {one &^ u, two, 0xFFA, 8, api.Super, sum, "--", 0, 8, 2, 2},
		{one, two &^ a, 0xFFE, 4, api.User, 0, "pp", 2, 3, 2, 1}, {one, two &^ (r | w), 0xFFE, 4, api.User, 0, "pp", 2, 3, 2, 1},
		// The first page is the fault's, whatever the next one is.
		{0, two, 0xFFF, 2, api.User, 0, "pp", 0, 1, 1, 0}, {0, 0, 0xFF9, 8, api.User, 0, "pp", 0, 1, 1, 0}, {0, far, 0xFFC, 8, api.User, 0, "pp", 0, 1, 1, 0},
		{far, two, 0xFFD, 4, api.User, 0, "nn", 0, 1, 1, 1}, {far, 0, 0xFFF, 8, api.User, 0, "nn", 0, 1, 1, 1}, {before, one, 0xFFF, 2, api.User, 0, "nn", 0, 1, 1, 1},
		{one &^ u, two, 0xFFA, 8, api.User, 0, "pp", 0, 1, 1, 0}, {one &^ a, one, 0x123, 2, api.User, 0, "pp", 0, 1, 1, 0},
		// Of those that are aligned too.
		{0, two, 0xFF8, 8, api.User, 0, "pp", 0, 1, 1, 0}, {far, two, 0xFFC, 4, api.User, 0, "nn", 0, 1, 1, 1}, {one &^ u, two, 0, 1, api.User, 0, "pp", 0, 1, 1, 0},
	} {
		for _, page := range []uint64{0, 5, 0x1234567, 1<<18 - 1, canonicals/4096 - 2, 1<<52 - canonicals/4096, 1<<52 - 2, 1<<52 - 1} {
			m := world(t)
			lay(t, m, page+1, row.next)
			lay(t, m, page, row.first)
			va := page*4096 + row.off
			q := access{c: table(row.status), priv: row.priv, va: va, n: row.n}
			q.both(t, m, func(kind int) told { return row.want(kind, va) })
		}
		if t.Failed() {
			t.Fatalf("row %d", i)
		}
	}
}

// TestP132P133One has pages that one of the two may be done to alone.
func TestP132P133One(t *testing.T) {
	one, two := entry(first+5, open), entry(first+3, open)
	for _, row := range []struct {
		over
		kind int
	}{
		{over{one, two &^ w, 0xFFD, 4, api.User, 0, "--", 0, 4, 2, 2}, api.Load}, {over{one, two &^ w, 0xFFD, 4, api.User, 0, "pp", 3, 4, 2, 1}, api.Store},
		{over{one, two &^ d, 0xFFC, 8, api.User, 0, "--", 0, 8, 2, 2}, api.Load}, {over{one, two &^ d, 0xFFC, 8, api.User, 0, "pp", 4, 5, 2, 1}, api.Store},
		{over{one &^ d, two, 0xFFF, 8, api.User, 0, "--", 0, 8, 2, 2}, api.Load}, {over{one &^ d, two, 0xFFF, 8, api.User, 0, "pp", 0, 1, 1, 0}, api.Store},
		{over{one &^ w, two, 0xFF8, 8, api.User, 0, "--", 0, 1, 1, 1}, api.Load}, {over{one &^ w, two, 0xFF8, 8, api.User, 0, "pp", 0, 1, 1, 0}, api.Store},
		{over{one, two &^ (r | w), 0xFFE, 4, api.User, mxr, "--", 0, 4, 2, 2}, api.Load}, {over{one, two &^ (r | w), 0xFFE, 4, api.User, mxr, "pp", 2, 3, 2, 1}, api.Store},
	} {
		m := world(t)
		lay(t, m, 511, row.first)
		lay(t, m, 0, row.next)
		for _, va := range []uint64{511*4096 + row.off, row.off - 4096} {
			access{c: table(row.status), priv: row.priv, kind: row.kind, va: va, n: row.n, x: value}.check(t, m, row.want(row.kind, va))
		}
	}
}

// TestP132P133Canonical has accesses over the edges of the addresses that may be: those that may not are no walk.
func TestP132P133Canonical(t *testing.T) {
	m := world(t)
	for i := range uint64(512) {
		lay(t, m, i, entry(first+3+i%2, open))
	}
	const low, high = 1 << 38, 1<<64 - 1<<38
	at := uint64(api.Base + 4*4096)
	for _, row := range []struct {
		va   uint64
		n    int
		bad  uint64
		asks uint64
	}{
		{low - 1, 2, low, 1}, {low - 7, 8, low, 7}, {low - 2, 4, low, 2}, {low - 4, 8, low, 4}, {low, 8, low, 0}, {low, 1, low, 0}, {low + 1, 2, low + 1, 0},
		{high - 1, 2, high - 1, 0}, {high - 7, 8, high - 7, 0}, {high - 8, 8, high - 8, 0}, {high - 4, 8, high - 4, 0}, {1<<63 - 1, 2, 1<<63 - 1, 0}, {1 << 63, 8, 1 << 63, 0},
	} {
		access{c: table(0), va: row.va, n: row.n}.both(t, m, func(kind int) told {
			return told{fault: pageFault(kind, row.bad), asks: row.asks, walks: min(row.asks, 1), kept: int(min(row.asks, 1))}
		})
	}
	for _, row := range []struct {
		va   uint64
		n    int
		all  []uint64
		kept int
	}{
		{low - 1, 1, run(at+4095, 1), 1}, {low - 8, 8, run(at+4088, 8), 1}, {high, 8, run(at-4096, 8), 1}, {high + 1, 4, run(at-4095, 4), 1},
		{ones, 1, run(at+4095, 1), 1}, {ones - 7, 8, run(at+4088, 8), 1}, {ones, 2, []uint64{at + 4095, at - 4096}, 2}, {ones - 2, 4, append(run(at+4093, 3), at-4096), 2},
		{ones - 6, 8, append(run(at+4089, 7), at-4096), 2}, {ones, 8, append(run(at+4095, 1), run(at-4096, 7)...), 2}, {ones - 3, 8, append(run(at+4092, 4), run(at-4096, 4)...), 2},
	} {
		access{c: table(0), va: row.va, n: row.n}.both(t, m, func(int) told {
			return told{all: row.all, asks: asked(row.va, row.n), walks: uint64(row.kept), kept: row.kept}
		})
	}
}

// TestP132P133Far has accesses over the end of a table that is in memory.
func TestP132P133Far(t *testing.T) {
	m := world(t)
	lay(t, m, 511, entry(first+5, open))
	put(t, m, 1, 4, entry(beyond, v))
	put(t, m, 0, 2, entry(1<<40, v))
	for _, next := range []uint64{4 << 21, 2 << 30} {
		for _, n := range widths[1:] {
			for back := range n - 1 {
				left := uint64(back + 1)
				if left&uint64(n-1) == 0 {
					continue
				}
				access{c: table(0), va: next - left, n: n}.both(t, m, func(kind int) told {
					return told{fault: noAddress(kind, next), asks: left + 1, walks: 2, kept: 1}
				})
			}
		}
	}
}

// TestP132P133Large has accesses by one leaf that is above the lowest level: over the ends of pages, and over memory's.
func TestP132P133Large(t *testing.T) {
	m := world(t)
	put(t, m, 0, 5, entry(first, open))
	put(t, m, 1, 6, entry(first, open))
	const end = worldPages * 4096
	for _, from := range []uint64{5 << 30, 6 << 21} {
		for _, off := range []uint64{4*4096 - 1, 5*4096 - 4, 6*4096 - 7, 7*4096 - 2, end - 8, end - 1} {
			for _, n := range widths {
				va, at := from+off, api.Base+off
				access{c: table(0), va: va, n: n}.both(t, m, func(kind int) told {
					if off+uint64(n) > end {
						return told{fault: noAddress(kind, from+end), asks: end - off + 1, walks: 1, kept: 1}
					}
					return told{all: run(at, n), asks: asked(va, n), walks: 1, kept: 1}
				})
			}
		}
	}
}

// TestP133Lowest asks that the lowest n bytes of a number alone are stored, and each byte beside them stays.
func TestP133Lowest(t *testing.T) {
	for _, n := range widths {
		for off := range uint64(17) {
			for _, x := range []uint64{0, ones, value, 1, 1 << 63, 0x00FF00FF00FF00FF, ^uint64(value)} {
				s := Space{M: memory(t, 1)}
				want := image(s.M)
				all, f := s.Store(api.Csrs{}, api.User, api.Base+100+off, n, x)
				for i, rest := uint64(0), x; i < uint64(n); i, rest = i+1, rest/256 {
					want[100+off+i] = byte(rest % 256)
				}
				if !slices.Equal(all, run(api.Base+100+off, n)) || f.Is || !bytes.Equal(image(s.M), want) {
					t.Errorf("Store of %d bytes of %x at %d: %x, %+v", n, x, off, all, f)
				}
			}
		}
	}
}

// TestP133Ahead stores over the end of a page that is the table itself: where its bytes go is found ahead of the first that is stored.
func TestP133Ahead(t *testing.T) {
	for _, next := range []uint64{entry(first+5, open), entry(beyond, open), 0} {
		m := world(t)
		lay(t, m, 510, entry(first+2, open))
		lay(t, m, 511, next)
		q := access{c: table(0), kind: api.Store, va: 510*4096 + 4089, n: 8, x: value}
		want := told{fault: pageFault(api.Store, 511*4096), asks: 8, walks: 2, kept: 1}
		if next == entry(first+5, open) {
			want = told{all: append(run(api.Base+2*4096+4089, 7), api.Base+5*4096), asks: 8, walks: 2, kept: 2}
		} else if next != 0 {
			want = told{fault: noAddress(api.Store, 511*4096), asks: 8, walks: 2, kept: 2}
		}
		for _, most := range mosts {
			s := with(m.Clone(), most)
			q.once(t, s, want)
			want.count(t, s, most)
		}
	}
	// One that is aligned can have its own entry.
	m := world(t)
	lay(t, m, 3, entry(first+2, open))
	s := Space{M: m}
	all, f := s.Store(table(0), api.User, 3*4096+24, 8, entry(first+4, open))
	if !slices.Equal(all, run(api.Base+2*4096+24, 8)) || f.Is {
		t.Errorf("%x %+v", all, f)
	}
	if at, f := s.To(table(0), api.User, api.Load, 3*4096, 1); at != api.Base+4*4096 || f.Is {
		t.Errorf("%x %+v", at, f)
	}
}

// TestP132P133Widths has numbers of bytes that no access has: each ends, none panics, and nothing is stored.
func TestP132P133Widths(t *testing.T) {
	m := world(t)
	for i := range uint64(512) {
		lay(t, m, i, entry(first+3, open))
	}
	for _, n := range strangeWidths {
		for _, c := range []api.Csrs{{}, table(0)} {
			for _, va := range []uint64{0, 3, api.Base, api.Base + 1, 0x5FFC, 0x5FFF, ones} {
				access{c: c, va: va, n: n}.both(t, m, func(kind int) told { return told{fault: noAddress(kind, va)} })
			}
		}
	}
}

// TestP132P133Strange has privileges that are none: without a table they may what others may, by one nothing.
func TestP132P133Strange(t *testing.T) {
	m := world(t)
	lay(t, m, 5, entry(first+3, open))
	for _, priv := range strangePrivs {
		access{priv: priv, va: api.Base + 0x3001, n: 4}.both(t, m, func(int) told { return told{all: run(api.Base+0x3001, 4)} })
		for _, va := range []uint64{0x5000, 0x5001} {
			access{c: table(sum | mxr), priv: priv, va: va, n: 4}.both(t, m, func(kind int) told {
				return told{fault: pageFault(kind, va), asks: 1, walks: 1}
			})
		}
	}
}

// TestP133Own asks that the list of each Store is its caller's own, its spare room too.
func TestP133Own(t *testing.T) {
	s := Space{M: memory(t, 1)}
	for _, va := range []uint64{api.Base + 16, api.Base + 17} {
		one, _ := s.Store(api.Csrs{}, api.User, va, 8, value)
		two, _ := s.Store(api.Csrs{}, api.User, va, 8, value)
		clear(one[:cap(one)])
		three, _ := s.Store(api.Csrs{}, api.User, va, 8, value)
		if !slices.Equal(two, run(va, 8)) || !slices.Equal(three, run(va, 8)) {
			t.Errorf("%x %x", two, three)
		}
	}
}

// TestP135Example is the document's own.
func TestP135Example(t *testing.T) {
	for _, most := range mosts {
		m, _ := ram.New(1)
		s := with(m, most)
		if all, f := s.Store(api.Csrs{}, api.Super, api.Base+1, 4, 7); !slices.Equal(all, run(api.Base+1, 4)) || f.Is {
			t.Errorf("%x %+v", all, f)
		}
		if got, f := s.Load(api.Csrs{}, api.Super, api.Base, 8); got != 1792 || f.Is {
			t.Errorf("%d %+v", got, f)
		}
	}
}

// TestP135Bytes asks that a Load is what Loads of its bytes are, and that what was stored is loaded, at each place about the end of a page.
func TestP135Bytes(t *testing.T) {
	for _, most := range mosts {
		for _, page := range []uint64{5, 1<<52 - 1} {
			m := world(t)
			lay(t, m, page, entry(first+6, open))
			lay(t, m, page+1, entry(first+4, open))
			s := with(m, most)
			load := func(va uint64, n int) uint64 {
				got, f := s.Load(table(0), api.User, va, n)
				if f.Is {
					t.Errorf("Load of %d at %x: %+v", n, va, f)
				}
				return got
			}
			x := uint64(value)
			for off := range uint64(25) {
				for _, n := range widths {
					va := page*4096 + 4096 - 16 + off
					for _, round := range []string{"before", "behind"} {
						var sum uint64
						for i, at := range run(va, n) {
							sum += load(at, 1) << (8 * i)
						}
						if got := load(va, n); got != sum || round == "behind" && got != x<<(64-8*n)>>(64-8*n) {
							t.Errorf("Load of %d at %x %s is %x, its bytes are %x, stored is %x", n, va, round, got, sum, x)
						}
						if round == "before" {
							x = mixed(x)
							s.Store(table(0), api.User, va, n, x)
						}
					}
				}
			}
		}
	}
}
