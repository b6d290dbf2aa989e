package csr

import (
	"math"
	"testing"

	"suzerain/api"
)

const (
	ones = 1<<64 - 1
	top  = 1 << 63
)

// The fields of a row, by where they stand in it.
const (
	atStatus = iota
	atIe
	atTvec
	atCounteren
	atScratch
	atEpc
	atCause
	atTval
	atIp
	atSatp
	atCycle
	atInstret
	fields
	// noField is where the time stands: in no row.
	noField = -1
)

// row is api.Csrs, field by field in its order.
type row [fields]uint64

func (r row) csrs() api.Csrs {
	return api.Csrs{
		Status: r[0], Ie: r[1], Tvec: r[2], Counteren: r[3], Scratch: r[4], Epc: r[5],
		Cause: r[6], Tval: r[7], Ip: r[8], Satp: r[9], Cycle: r[10], Instret: r[11],
	}
}

func rowOf(c api.Csrs) row {
	return row{c.Status, c.Ie, c.Tvec, c.Counteren, c.Scratch, c.Epc, c.Cause, c.Tval, c.Ip, c.Satp, c.Cycle, c.Instret}
}

// known is a number that the chapter names, and its field.
type known struct {
	number, field int
}

// written are those that may be written, and counted those that may be read alone (of which a user may read the one with the bit i of Counteren).
var (
	written = []known{
		{0x100, atStatus}, {0x104, atIe}, {0x105, atTvec}, {0x106, atCounteren}, {0x140, atScratch},
		{0x141, atEpc}, {0x142, atCause}, {0x143, atTval}, {0x144, atIp}, {0x180, atSatp},
	}
	counted = []known{{0xC00, atCycle}, {0xC01, noField}, {0xC02, atInstret}}
)

// strange are numbers that are none: just beside those that are, those of the machine and of a greater part, and wild ones.
var strange = []int{
	0x101, 0x102, 0x103, 0x107, 0x13F, 0x145, 0x17F, 0x181, 0xBFF, 0xC03, 0xFF, 0, 1, 2, 3, 0x10A, 0x14D, 0x15D, 0x200, 0x240,
	0x300, 0x304, 0x305, 0x306, 0x340, 0x341, 0x342, 0x343, 0x344, 0x380, 0xB00, 0xB02, 0xC80, 0xC81, 0xC82, 0xF14, 0xFFF, 0x1000,
	0x1100, 0x1C00, -1, -0x100, -0xC00, 1<<16 + 0x100, 1<<32 + 0x100, 1<<32 + 0xC01, -1<<32 + 0x140, 1<<62 + 0x180,
	math.MinInt32, math.MaxInt32, math.MinInt, math.MinInt + 0x100, math.MinInt + 0xC00, math.MaxInt,
}

// strangePrivs are privileges that are none.
var strangePrivs = []int{-1, 2, 3, 4, 256, 257, 1<<32 + 1, 1 << 32, math.MinInt, math.MinInt + 1, math.MaxInt}

// kept is a row of which each field has bits of its own all over, and which is legal if it is asked to be.
func kept(legal bool) row {
	var r row
	x := uint64(0x9E3779B97F4A7C15)
	for i := range r {
		x ^= x << 13
		x ^= x >> 7
		x ^= x << 17
		r[i] = x
	}
	if legal {
		r[atStatus], r[atIe], r[atCounteren], r[atIp] = api.Uxl|api.Spie|api.Sum, 0x202, 5, 0x20
		r[atTvec], r[atEpc], r[atSatp] = r[atTvec]&^2, r[atEpc]&^1, 8<<60+r[atSatp]>>4
	}
	return r
}

// filled is a row of which each field is x.
func filled(x uint64) row {
	var r row
	for i := range r {
		r[i] = x
	}
	return r
}

// rows are those that the calls are tried with.
func rows() []row {
	return []row{rowOf(Fresh()), {}, filled(ones), kept(true), kept(false), filled(0x5555555555555555), filled(0xAAAAAAAAAAAAAAAA)}
}

// samples are 0, all bits, each bit alone and each left out, and numbers with bits all over.
func samples() []uint64 {
	out := []uint64{0, ones, 7, 0x222, 0xC0122, 0x5555555555555555, 0xAAAAAAAAAAAAAAAA}
	for i := range 64 {
		out = append(out, 1<<i, ^uint64(1<<i))
	}
	return append(out, kept(false).list()...)
}

func (r row) list() []uint64 {
	return r[:]
}

// bitOf is a bit of what a field holds behind a write of x, as the chapter says it: of Satp too, if x may stand there.
func bitOf(field, i int, was, x uint64) uint64 {
	old, bit := was>>i&1, x>>i&1
	switch field {
	case atStatus:
		switch i {
		case 1, 5, 8, 18, 19:
			return bit
		case 33:
			return 1
		}
		return 0
	case atIe:
		if i == 1 || i == 5 || i == 9 {
			return bit
		}
		return 0
	case atTvec:
		if i == 1 {
			return 0
		}
	case atCounteren:
		if i > 2 {
			return 0
		}
	case atEpc:
		if i == 0 {
			return 0
		}
	case atIp:
		if i != 1 {
			return old
		}
	}
	return bit
}

// holds is what a field holds behind a write of x, bit by bit.
func holds(field int, was, x uint64) uint64 {
	if mode := x >> 60; field == atSatp && mode != 0 && mode != 8 {
		return was
	}
	var y uint64
	for i := range 64 {
		y |= bitOf(field, i, was, x) << i
	}
	return y
}

// writes is the row behind a write.
func (r row) writes(field int, x uint64) row {
	r[field] = holds(field, r[field], x)
	return r
}

// legal is Legal, as the chapter says it.
func (r row) legal() row {
	for _, field := range []int{atStatus, atIe, atTvec, atCounteren, atEpc} {
		r[field] = holds(field, r[field], r[field])
	}
	var ip uint64
	for _, i := range []int{1, 5} {
		ip |= r[atIp] >> i & 1 << i
	}
	r[atIp] = ip
	r[atSatp] = holds(atSatp, 0, r[atSatp])
	return r
}

func checkWrite(t *testing.T, r row, number int, x uint64, want row) {
	t.Helper()
	if got := rowOf(Write(r.csrs(), number, x)); got != want {
		t.Errorf("Write(%#x, %#x, %#x) = %#x, not %#x", r, number, x, got, want)
	}
}

func TestNumbersAreThoseOfApi(t *testing.T) {
	names := []int{
		api.CsrStatus, api.CsrIe, api.CsrTvec, api.CsrCounteren, api.CsrScratch, api.CsrEpc, api.CsrCause, api.CsrTval, api.CsrIp, api.CsrSatp,
		api.CsrCycle, api.CsrTime, api.CsrInstret,
	}
	for i, k := range append(written[:len(written):len(written)], counted...) {
		if k.number != names[i] {
			t.Errorf("%d: %#x, not %#x", i, k.number, names[i])
		}
	}
}

// P9.1: Uxl, and nothing else.
func TestP91Fresh(t *testing.T) {
	for i, x := range rowOf(Fresh()) {
		want := uint64(0)
		if i == atStatus {
			want = 2 << 32
		}
		if x != want {
			t.Errorf("field %d: %#x, not %#x", i, x, want)
		}
	}
	if Fresh() != Fresh() {
		t.Error("not the same twice")
	}
}

// counterens are the eight values of the bits 0 to 2, with higher ones set and not.
func counterens() []uint64 {
	var out []uint64
	for low := range uint64(8) {
		for _, above := range []uint64{0, 8, 1 << 32, top, ones &^ 7} {
			out = append(out, low|above)
		}
	}
	return out
}

func checkMay(t *testing.T, r row, number, priv int, write, want bool) {
	t.Helper()
	if got := May(r.csrs(), number, priv, write); got != want {
		t.Errorf("May(%#x, %#x, %d, %t) = %t", r, number, priv, write, got)
	}
}

// P9.1: what a supervisor, and nobody else, may read and write, whatever the row.
func TestP91MayWritten(t *testing.T) {
	for _, r := range rows() {
		for _, counteren := range counterens() {
			r[atCounteren] = counteren
			for _, k := range written {
				for _, write := range []bool{false, true} {
					checkMay(t, r, k.number, api.Super, write, true)
					checkMay(t, r, k.number, api.User, write, false)
				}
			}
		}
	}
}

// P9.1: the counters are a supervisor's to read, and a user's by their bits; nobody writes them.
func TestP91MayCounters(t *testing.T) {
	for _, r := range rows() {
		for _, counteren := range counterens() {
			r[atCounteren] = counteren
			for i, k := range counted {
				checkMay(t, r, k.number, api.Super, false, true)
				checkMay(t, r, k.number, api.User, false, counteren>>i&1 == 1)
				checkMay(t, r, k.number, api.Super, true, false)
				checkMay(t, r, k.number, api.User, true, false)
			}
		}
	}
}

// P9.1: no other number, and no other privilege.
func TestP91MayNoOther(t *testing.T) {
	for _, r := range rows() {
		for _, write := range []bool{false, true} {
			for _, number := range strange {
				checkMay(t, r, number, api.Super, write, false)
				checkMay(t, r, number, api.User, write, false)
			}
			for _, priv := range strangePrivs {
				for _, k := range append(written[:len(written):len(written)], counted...) {
					checkMay(t, r, k.number, priv, write, false)
				}
			}
		}
	}
}

// P9.1: of all numbers of twelve bits, and some more, thirteen.
func TestP91MayAll(t *testing.T) {
	all := filled(ones)
	reads, writes, users := 0, 0, 0
	for number := -0x2000; number < 0x4000; number++ {
		if May(all.csrs(), number, api.Super, false) {
			reads++
		}
		if May(all.csrs(), number, api.Super, true) {
			writes++
		}
		if May(all.csrs(), number, api.User, false) {
			users++
		}
	}
	if reads != 13 || writes != 10 || users != 3 {
		t.Errorf("%d read, %d written, %d of a user", reads, writes, users)
	}
}

// P9.2: each number tells its own field, or the time.
func TestP92Read(t *testing.T) {
	var r row
	for i := range r {
		r[i] = uint64(i+1) * 0x0101010101010101
	}
	const time = 0xFEDCBA9876543210
	for _, k := range append(written[:len(written):len(written)], counted...) {
		want := uint64(time)
		if k.field != noField {
			want = r[k.field]
		}
		if got := Read(r.csrs(), k.number, time); got != want {
			t.Errorf("Read of %#x = %#x, not %#x", k.number, got, want)
		}
	}
	for _, number := range strange {
		if got := Read(r.csrs(), number, time); got != 0 {
			t.Errorf("Read of %#x = %#x", number, got)
		}
	}
}

// P9.2: what is read is whatever stands there, legal or not, and hangs on the time of the one number alone.
func TestP92ReadWhole(t *testing.T) {
	for _, r := range rows() {
		for _, time := range []uint64{0, 1, top, ones} {
			for _, k := range written {
				if got := Read(r.csrs(), k.number, time); got != r[k.field] {
					t.Errorf("Read of %#x = %#x, not %#x", k.number, got, r[k.field])
				}
			}
			if a, b, c := Read(r.csrs(), 0xC00, time), Read(r.csrs(), 0xC01, time), Read(r.csrs(), 0xC02, time); a != r[atCycle] || b != time || c != r[atInstret] {
				t.Errorf("the counters: %#x, %#x, %#x", a, b, c)
			}
		}
	}
}

// P9.2: ordinary numbers, and the example.
func TestP92WriteOrdinary(t *testing.T) {
	for _, x := range []struct {
		number, field int
		x, want       uint64
	}{
		{0x141, atEpc, 7, 6}, {0x141, atEpc, ones, ones - 1}, {0x141, atEpc, 0x80000002, 0x80000002},
		{0x100, atStatus, 0, 0x200000000}, {0x100, atStatus, ones, 0x2000C0122}, {0x100, atStatus, 0x2, 0x200000002}, {0x100, atStatus, 0x8000000000006000, 0x200000000},
		{0x104, atIe, ones, 0x222}, {0x104, atIe, 0x20, 0x20}, {0x104, atIe, 0x888, 0},
		{0x105, atTvec, 0x80000101, 0x80000101}, {0x105, atTvec, 0x80000103, 0x80000101}, {0x105, atTvec, 2, 0},
		{0x106, atCounteren, ones, 7}, {0x106, atCounteren, 8, 0},
		{0x140, atScratch, ones, ones}, {0x142, atCause, top + 5, top + 5}, {0x143, atTval, 3, 3},
		{0x144, atIp, ones, 2}, {0x144, atIp, 0x20, 0}, {0x180, atSatp, 8<<60 + 0x80001, 8<<60 + 0x80001}, {0x180, atSatp, 9 << 60, 0},
	} {
		want := rowOf(Fresh())
		want[x.field] = x.want
		checkWrite(t, rowOf(Fresh()), x.number, x.x, want)
	}
}

// P9.2, P9.4: each number with each bit, of each row: that field, as the chapter says it, and no other.
func TestP92WriteBits(t *testing.T) {
	for _, r := range rows() {
		for _, k := range written {
			for _, x := range samples() {
				checkWrite(t, r, k.number, x, r.writes(k.field, x))
			}
		}
	}
}

// P9.2: the counters, and what is none, are not written.
func TestP92WriteNothing(t *testing.T) {
	numbers := append([]int{}, strange...)
	for _, k := range counted {
		numbers = append(numbers, k.number)
	}
	for _, r := range rows() {
		for _, number := range numbers {
			for _, x := range samples() {
				checkWrite(t, r, number, x, r)
			}
		}
	}
}

// P9.2: Uxl stays, whatever is written and whatever was.
func TestP92Uxl(t *testing.T) {
	for _, was := range samples() {
		for _, x := range samples() {
			got := Write(api.Csrs{Status: was}, 0x100, x).Status
			if got>>32 != 2 {
				t.Errorf("%#x over %#x: %#x", x, was, got)
			}
		}
	}
}

// P9.2: of Ip the bit 1 is written, and the others stay as they were.
func TestP92Ip(t *testing.T) {
	for _, was := range samples() {
		for _, x := range samples() {
			want := was - was&2 + x&2
			if got := Write(api.Csrs{Ip: was}, 0x144, x).Ip; got != want {
				t.Errorf("%#x over %#x: %#x, not %#x", x, was, got, want)
			}
		}
	}
}

// P9.2: of the sixteen values of Satp's highest bits two are taken, with all that is below them.
func TestP92Satp(t *testing.T) {
	for _, was := range []uint64{0, 5, 8<<60 + 0x80007, 1<<60 - 1, 9<<60 + 3} {
		for mode := range uint64(16) {
			for _, below := range []uint64{0, 1, 0x80001, 0xFFFF<<44 + 0x80002, 1<<60 - 1} {
				x, want := mode<<60+below, was
				if mode == 0 || mode == 8 {
					want = x
				}
				if got := Write(api.Csrs{Satp: was}, 0x180, x).Satp; got != want {
					t.Errorf("%#x over %#x: %#x, not %#x", x, was, got, want)
				}
			}
		}
	}
}

func checkLegal(t *testing.T, r, want row) {
	t.Helper()
	got := Legal(r.csrs())
	if rowOf(got) != want {
		t.Errorf("Legal(%#x) = %#x, not %#x", r, rowOf(got), want)
	}
	if Legal(got) != got {
		t.Errorf("Legal twice of %#x: %#x", r, rowOf(Legal(got)))
	}
}

// P9.2: a row of all bits, one of none, one that is legal, and the bits of each field.
func TestP92Legal(t *testing.T) {
	checkLegal(t, filled(ones), row{0x2000C0122, 0x222, ones - 2, 7, ones, ones - 1, ones, ones, 0x22, 0, ones, ones})
	checkLegal(t, row{}, row{2 << 32})
	checkLegal(t, rowOf(Fresh()), rowOf(Fresh()))
	checkLegal(t, kept(true), kept(true))
	for _, r := range rows() {
		checkLegal(t, r, r.legal())
		for field := range r {
			for _, x := range samples() {
				r[field] = x
				checkLegal(t, r, r.legal())
			}
		}
	}
}

// P9.2: Satp is 0 of fourteen of its sixteen kinds.
func TestP92LegalSatp(t *testing.T) {
	for mode := range uint64(16) {
		for _, below := range []uint64{0, 1, 0xFFFF<<44 + 0x80002, 1<<60 - 1} {
			r := kept(true)
			r[atSatp] = mode<<60 + below
			want := r
			if mode != 0 && mode != 8 {
				want[atSatp] = 0
			}
			checkLegal(t, r, want)
		}
	}
}

// P9.4: what is written into a legal row is legal, one write behind another.
func TestP94StaysLegal(t *testing.T) {
	for _, c := range []api.Csrs{Fresh(), kept(true).csrs(), Legal(filled(ones).csrs())} {
		for _, x := range samples() {
			for _, k := range written {
				c = Write(c, k.number, x)
				if Legal(c) != c {
					t.Fatalf("%#x behind a write of %#x into %#x", rowOf(c), x, k.number)
				}
			}
		}
	}
}
