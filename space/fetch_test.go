package space

import (
	"bytes"
	"testing"

	"suzerain/api"
	"suzerain/ram"
)

// fetched is what a Fetch tells, how many Tos and walks of a table there are for it, and how many leaves are kept behind it.
type fetched struct {
	word        uint32
	fault       api.Fault
	asks, walks uint64
	kept        int
}

// fetch asks a Fetch at pc of spaces that keep more leaves and less, and that memory stays.
func fetch(t *testing.T, m *ram.Ram, c api.Csrs, priv int, pc uint64, want fetched) {
	t.Helper()
	b := image(m)
	for _, most := range mosts {
		s := with(m, most)
		for round := range 2 {
			if word, f := s.Fetch(c, priv, pc); word != want.word || f != want.fault {
				t.Errorf("Fetch at %x by %d is %x, %+v, not %x, %+v", pc, priv, word, f, want.word, want.fault)
			}
			if round == 0 || most > 1 && !want.fault.Is {
				told{asks: want.asks, walks: want.walks, kept: want.kept}.count(t, s, most)
			}
		}
	}
	if !bytes.Equal(image(m), b) {
		t.Errorf("Fetch at %x wrote", pc)
	}
}

// stand lets a number of n bytes stand in memory.
func stand(t *testing.T, m *ram.Ram, at uint64, n int, x uint64) {
	t.Helper()
	if !m.Put(at, n, x) {
		t.Fatal("no place for a number")
	}
}

// TestP134Lowest asks each pair of lowest bits, with all and with none above them: those of two ones alone have a higher half.
func TestP134Lowest(t *testing.T) {
	m := memory(t, 1)
	for _, rest := range []uint64{0, 0xFFFC, 0x4500, 0x8000, 0x0004} {
		for two := range uint64(4) {
			for _, high := range []uint64{0, 1, 2, 3, 0xFFFF, 0x8000, 0x1234, 0x7FFC} {
				low := rest + two
				want := fetched{word: uint32(low)}
				if two == 3 {
					want.word = uint32(high*65536 + low)
				}
				for _, pc := range []uint64{api.Base, api.Base + 2, api.Base + 64, api.Base + 66, api.Base + 101, api.Base + 103, api.Base + 4092} {
					stand(t, m, pc, 2, low)
					stand(t, m, pc+2, 2, high)
					fetch(t, m, api.Csrs{}, api.User, pc, want)
					fetch(t, m, api.Csrs{}, api.Super, pc, want)
				}
			}
		}
	}
}

// TestP134Ends asks, without a table, about both ends of memory, and at the highest addresses.
func TestP134Ends(t *testing.T) {
	for _, pages := range []int{1, 2} {
		m := memory(t, pages)
		end := api.Base + uint64(pages)*4096
		for _, low := range []uint64{0x4501, 0xFFFE, 0x0000} {
			stand(t, m, end-2, 2, low)
			fetch(t, m, api.Csrs{}, api.User, end-2, fetched{word: uint32(low)})
		}
		for _, low := range []uint64{0xFFFF, 3, 0x0513} {
			stand(t, m, end-2, 2, low)
			fetch(t, m, api.Csrs{}, api.User, end-2, fetched{fault: noAddress(api.Fetch, end)})
			stand(t, m, end-3, 2, low)
			fetch(t, m, api.Csrs{}, api.User, end-3, fetched{fault: noAddress(api.Fetch, end-1)})
		}
		for _, pc := range []uint64{end - 1, end, end + 1, end + 2, api.Base - 1, api.Base - 2, api.Base - 3, api.Base - 4, 0, 1, 2, ones, ones - 1, ones - 2, ones - 3, 1<<32 + api.Base, 1 << 63} {
			fetch(t, m, api.Csrs{}, api.User, pc, fetched{fault: noAddress(api.Fetch, pc)})
		}
	}
	m := memory(t, 1)
	stand(t, m, api.Base, 4, 0xFEDCBA97)
	fetch(t, m, api.Csrs{}, api.User, api.Base, fetched{word: 0xFEDCBA97})
	stand(t, m, api.Base+4092, 4, 0x89ABCDEF)
	fetch(t, m, api.Csrs{}, api.User, api.Base+4092, fetched{word: 0x89ABCDEF})
}

// TestP134Over has fetches over the end of a page: of one at the end of all addresses the next is at 0.
func TestP134Over(t *testing.T) {
	one, two, last := entry(first+5, open), entry(first+3, open), entry(beyond-1, open)
	far, before := entry(beyond, open), entry(first-1, open)
	const none, address, page = 0, 1, 2
	for i, row := range []struct {
		first, next uint64
		off, low    uint64
		priv        int
		status      uint64
		fault       int
		bad         uint64
		asks        uint64
		kept        int
	}{
		{one, 0, 0xFFC, 0x0513, api.User, 0, none, 0, 2, 1}, {one, 0, 0xFFA, 0xFFFF, api.User, 0, none, 0, 2, 1}, {one, 0, 0xFFE, 0x4501, api.User, 0, none, 0, 1, 1},
		{one, 0, 0xFFC, 0x4501, api.User, 0, none, 0, 1, 1}, {one, two, 0xFFE, 0x4502, api.User, 0, none, 0, 1, 1}, {one, far, 0xFFE, 0x4500, api.User, 0, none, 0, 1, 1},
		{one, two, 0xFFE, 0x0513, api.User, 0, none, 0, 2, 2}, {two, one, 0xFFE, 0x0513, api.User, 0, none, 0, 2, 2}, {one, one, 0xFFE, 0xFFFF, api.User, 0, none, 0, 2, 2},
		{last, two, 0xFFE, 0x0513, api.User, 0, none, 0, 2, 2}, {last, two, 0xFFE, 0x4501, api.User, 0, none, 0, 1, 1}, {one, last, 0xFFE, 0x0513, api.User, 0, none, 0, 2, 2},
		{one, two &^ (r | w | d), 0xFFE, 0x0513, api.User, 0, none, 0, 2, 2}, {one &^ u, two &^ u, 0xFFE, 0x0513, api.Super, 0, none, 0, 2, 2},
		// The next page is the fault's.
		{one, 0, 0xFFE, 0x0513, api.User, 0, page, 2, 2, 1}, {one, two &^ x, 0xFFE, 0x0513, api.User, 0, page, 2, 2, 1}, {one, two &^ x, 0xFFE, 0x0513, api.User, mxr, page, 2, 2, 1},
		{one, two &^ u, 0xFFE, 0x0513, api.User, 0, page, 2, 2, 1}, {one &^ u, two, 0xFFE, 0x0513, api.Super, sum, page, 2, 2, 1}, {one, two &^ a, 0xFFE, 0x0513, api.User, 0, page, 2, 2, 1},
		{one, far, 0xFFE, 0x0513, api.User, 0, address, 2, 2, 2}, {one, before, 0xFFE, 0xFFFF, api.User, 0, address, 2, 2, 2}, {last, 0, 0xFFE, 0x0513, api.User, 0, page, 2, 2, 1},
		{last, far, 0xFFE, 0x0513, api.User, 0, address, 2, 2, 2},
		// The first page is.
		{0, two, 0xFFE, 0x0513, api.User, 0, page, 0, 1, 0}, {one &^ x, two, 0xFFE, 0x0513, api.User, 0, page, 0, 1, 0}, {one &^ u, two, 0xFFE, 0x0513, api.User, 0, page, 0, 1, 0},
		{one, two, 0xFFC, 0x0513, api.Super, sum, page, 0, 1, 0}, {far, two, 0xFFE, 0x0513, api.User, 0, address, 0, 1, 1}, {before, two, 0xFFE, 0x0513, api.User, 0, address, 0, 1, 1},
		{0, 0, 0xFFE, 0x0513, api.User, 0, page, 0, 1, 0}, {far, 0, 0, 0x4501, api.User, 0, address, 0, 1, 1},
	} {
		for _, number := range []uint64{0, 5, 0x1234567, 1<<18 - 1, 1<<52 - canonicals/4096, 1<<52 - 1} {
			m := world(t)
			lay(t, m, number+1, row.next)
			lay(t, m, number, row.first)
			m.Put(row.first>>10*4096+row.off, 2, row.low)
			behind := row.first>>10*4096 + row.off + 2
			if row.off == 0xFFE {
				behind = row.next >> 10 * 4096
			}
			m.Put(behind, 2, 0xBEAD)
			pc := number*4096 + row.off
			want := fetched{asks: row.asks, walks: min(row.asks, uint64(row.kept)), kept: row.kept}
			switch row.fault {
			case none:
				want.word = uint32(row.low)
				if row.low%4 == 3 {
					want.word += 0xBEAD0000
				}
			case address:
				want.fault = noAddress(api.Fetch, pc+row.bad)
			case page:
				want.fault = pageFault(api.Fetch, pc+row.bad)
				want.walks = row.asks
			}
			fetch(t, m, table(row.status), row.priv, pc, want)
		}
		if t.Failed() {
			t.Fatalf("row %d", i)
		}
	}
}

// TestP134Odd has a pc that is odd: the first byte's page tells where both bytes of a half are.
func TestP134Odd(t *testing.T) {
	m := world(t)
	lay(t, m, 511, entry(first+5, open))
	lay(t, m, 0, entry(first+3, open))
	at := uint64(api.Base + 5*4096)
	for _, pc := range []uint64{0x1FF000, ones - 4095} {
		stand(t, m, at+4095, 2, 0x08F6)
		fetch(t, m, table(0), api.User, pc+4095, fetched{word: 0x08F6, asks: 1, walks: 1, kept: 1})
		stand(t, m, at+4093, 4, 0x12340513)
		fetch(t, m, table(0), api.User, pc+4093, fetched{word: 0x12340513, asks: 2, walks: 1, kept: 1})
		stand(t, m, at+4095, 2, 0x0517)
		stand(t, m, at-2*4096+1, 2, 0x6789)
		fetch(t, m, table(0), api.User, pc+4095, fetched{word: 0x67890517, asks: 2, walks: 2, kept: 2})
	}
	lay(t, m, 511, entry(beyond-1, open))
	fetch(t, m, table(0), api.User, ones, fetched{fault: noAddress(api.Fetch, ones), asks: 1, walks: 1, kept: 1})
}

// TestP134Canonical has a higher half that may not be, and one that is at 0 again.
func TestP134Canonical(t *testing.T) {
	m := world(t)
	for i := range uint64(512) {
		lay(t, m, i, entry(first+3+i%2, open))
	}
	stand(t, m, api.Base+4*4096+4094, 2, 0x0513)
	stand(t, m, api.Base+3*4096, 2, 0x4566)
	fetch(t, m, table(0), api.User, canonicals-2, fetched{fault: pageFault(api.Fetch, canonicals), asks: 1, walks: 1, kept: 1})
	fetch(t, m, table(0), api.User, ones-1, fetched{word: 0x45660513, asks: 2, walks: 2, kept: 2})
	for _, pc := range []uint64{canonicals, canonicals + 2, 1<<64 - canonicals - 2, 1<<64 - canonicals - 1, 1 << 63} {
		fetch(t, m, table(0), api.User, pc, fetched{fault: pageFault(api.Fetch, pc)})
	}
	fetch(t, m, table(0), api.User, 1<<64-canonicals, fetched{word: 0x4566, asks: 1, walks: 1, kept: 1})
}

// TestP134Strange has privileges that are none.
func TestP134Strange(t *testing.T) {
	m := world(t)
	lay(t, m, 5, entry(first+3, open))
	stand(t, m, api.Base+3*4096, 4, 0x12340513)
	for _, priv := range strangePrivs {
		fetch(t, m, api.Csrs{}, priv, api.Base+3*4096, fetched{word: 0x12340513})
		fetch(t, m, table(sum|mxr), priv, 0x5000, fetched{fault: pageFault(api.Fetch, 0x5000), asks: 1, walks: 1})
	}
}
