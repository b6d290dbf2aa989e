package pte

import (
	"math"
	"math/big"
	"testing"

	"suzerain/api"
)

const (
	ones = 1<<64 - 1
	// high are the bits 54 to 63 of an entry.
	high = 1<<64 - 1<<54
)

// strangeLevels, strangeKinds and strangePrivs are none, some of them but for bits above the lowest 32.
var (
	strangeLevels = []int{-1, -2, -3, 3, 4, 5, 6, 7, 64, 1 << 32, 1<<32 + 1, 1<<32 + 2, 1 << 61, 1<<61 + 1, math.MinInt, math.MinInt + 1, math.MinInt + 2, math.MaxInt}
	strangeKinds  = []int{-1, -2, 3, 4, 5, 255, 256, 257, 258, 1 << 32, 1<<32 + 1, 1<<32 + 2, math.MinInt, math.MinInt + 1, math.MinInt + 2, math.MaxInt}
	strangePrivs  = []int{-1, 2, 3, 4, 256, 257, 1 << 32, 1<<32 + 1, math.MinInt, math.MinInt + 1, math.MaxInt}
)

// bit is the bit i of x.
func bit(x uint64, i int) bool {
	return x>>i%2 == 1
}

// samples are none, all, each bit alone and each left out, all bits below each one, and numbers with bits all over.
func samples() []uint64 {
	out := []uint64{0, ones, 0x5555555555555555, 0xAAAAAAAAAAAAAAAA, 0x0123456789ABCDEF, 0x7FC0E03456}
	x := uint64(0x9E3779B97F4A7C15)
	for i := range 64 {
		x ^= x << 13
		x ^= x >> 7
		x ^= x << 17
		out = append(out, 1<<i, ^uint64(1<<i), 1<<i-1, x)
	}
	return out
}

// modelMake lays a page and flags bit by bit.
func modelMake(page, flags uint64) uint64 {
	var e uint64
	for i := range 10 {
		if bit(flags, i) {
			e += 1 << i
		}
	}
	for i := range 44 {
		if bit(page, i) {
			e += 1 << (10 + i)
		}
	}
	return e
}

func TestP101Make(t *testing.T) {
	for _, page := range samples() {
		for _, flags := range samples() {
			if got, want := Make(page, flags), modelMake(page, flags); got != want {
				t.Fatalf("Make(%x, %x) is %x, not %x", page, flags, got, want)
			}
		}
	}
	for _, x := range []struct{ page, flags, want uint64 }{
		{0, 0, 0}, {5, 0x43, 5<<10 + 0x43}, {1<<44 - 1, 0, 1<<54 - 1<<10}, {1 << 44, 0, 0}, {1<<44 + 5, 1<<12 + 0xCF, 5<<10 + 0xCF},
		{0, 1<<10 - 1, 1<<10 - 1}, {0, 1 << 10, 0}, {1, 1 << 10, 1 << 10}, {ones, ones, 1<<54 - 1}, {1 << 63, 1 << 63, 0},
	} {
		if got := Make(x.page, x.flags); got != x.want {
			t.Errorf("Make(%x, %x) is %x, not %x", x.page, x.flags, got, x.want)
		}
	}
	for i := 44; i < 64; i++ {
		if e := Make(1<<i, 0); e != 0 {
			t.Errorf("a page of bit %d alone is laid as %x", i, e)
		}
	}
	for i := 10; i < 64; i++ {
		if e := Make(0, 1<<i); e != 0 {
			t.Errorf("flags of bit %d alone are laid as %x", i, e)
		}
	}
}

func TestP101Page(t *testing.T) {
	for _, e := range samples() {
		var want uint64
		for i := 10; i < 54; i++ {
			if bit(e, i) {
				want += 1 << (i - 10)
			}
		}
		if got := Page(e); got != want {
			t.Errorf("Page(%x) is %x, not %x", e, got, want)
		}
		if got := Page(Make(e, ^e)); got != e%(1<<44) {
			t.Errorf("of the page %x comes %x back", e, got)
		}
	}
	if Page(ones) != 1<<44-1 || Page(0) != 0 || Page(1<<9) != 0 || Page(1<<10) != 1 || Page(1<<53) != 1<<43 || Page(1<<54) != 0 {
		t.Error("the edges of a page")
	}
}

// what an entry is, as the chapter says it.
type what struct {
	valid, leaf, table bool
}

func modelWhat(e uint64) what {
	v, r, w, x, u, a, d := bit(e, 0), bit(e, 1), bit(e, 2), bit(e, 3), bit(e, 4), bit(e, 6), bit(e, 7)
	valid := v
	if w && !r {
		valid = false
	}
	for i := 54; i < 64; i++ {
		if bit(e, i) {
			valid = false
		}
	}
	return what{valid, valid && (r || x), valid && !(r || w || x || u || a || d)}
}

// entries have each of the 256 values of the flags, with bits 8 and 9, with and without a page, and with each of the bits 54 to 63.
func entries() []uint64 {
	highs := []uint64{0, high}
	for i := 54; i < 64; i++ {
		highs = append(highs, 1<<i)
	}
	var out []uint64
	for flags := range uint64(1 << 10) {
		for _, page := range []uint64{0, 1 << 10, 1 << 53, 1<<54 - 1<<10} {
			for _, h := range highs {
				out = append(out, flags+page+h)
			}
		}
	}
	return out
}

func TestP101Kinds(t *testing.T) {
	for _, e := range append(entries(), samples()...) {
		if got, want := (what{Valid(e), Leaf(e), Table(e)}), modelWhat(e); got != want {
			t.Fatalf("of %x: %v, not %v", e, got, want)
		}
	}
	for _, x := range []struct {
		e    uint64
		want what
	}{
		{0, what{}},
		{ones, what{}},
		{api.PteV, what{valid: true, table: true}},
		{api.PteV | api.PteG, what{valid: true, table: true}},
		{api.PteV | 3<<8, what{valid: true, table: true}},
		{api.PteV | api.PteU, what{valid: true}},
		{api.PteV | api.PteA, what{valid: true}},
		{api.PteV | api.PteD, what{valid: true}},
		{api.PteV | api.PteR, what{valid: true, leaf: true}},
		{api.PteV | api.PteX, what{valid: true, leaf: true}},
		{api.PteV | api.PteR | api.PteW, what{valid: true, leaf: true}},
		{api.PteV | api.PteW, what{}},
		{api.PteV | api.PteW | api.PteX, what{}},
		{api.PteR | api.PteX, what{}},
		{api.PteV | api.PteR | 1<<53, what{valid: true, leaf: true}},
		{api.PteV | api.PteR | 1<<54, what{}},
		{api.PteV | 1<<63, what{}},
	} {
		if got := (what{Valid(x.e), Leaf(x.e), Table(x.e)}); got != x.want {
			t.Errorf("of %x: %v, not %v", x.e, got, x.want)
		}
	}
}

// pages are multiples of 512 and of 262144, those just beside them, and those of one bit.
func pages() []uint64 {
	out := []uint64{0, 1, 2, 511, 512, 513, 1023, 1024, 1025, 262143, 262144, 262145, 262144 - 512, 262144 + 512, 524287, 524288, 524289, 1<<44 - 1, 1<<44 - 512, 1<<44 - 262144, 1<<44 - 262144 + 1, 1<<44 - 262144 + 512}
	for i := range 44 {
		out = append(out, 1<<i)
	}
	return out
}

func TestP101Aligned(t *testing.T) {
	for _, page := range pages() {
		for _, rest := range []uint64{0, api.PteV, 1<<10 - 1, high, high + 1<<10 - 1} {
			e := page<<10 + rest
			for level, unit := range []uint64{1, 512, 262144} {
				if got, want := Aligned(e, level), page%unit == 0; got != want {
					t.Errorf("Aligned(%x, %d) is %v", e, level, got)
				}
			}
			for _, level := range strangeLevels {
				if Aligned(e, level) {
					t.Errorf("Aligned(%x, %d) is true", e, level)
				}
			}
		}
	}
}

// modelMay is what the chapter says, of an entry that is a Leaf.
func modelMay(e uint64, kind, priv int, sum, mxr bool) bool {
	r, w, x, u, a, d := bit(e, 1), bit(e, 2), bit(e, 3), bit(e, 4), bit(e, 6), bit(e, 7)
	if !modelWhat(e).leaf || !a {
		return false
	}
	kinds := [...]bool{x, r || x && mxr, w && d}
	privs := [...]bool{u, !u || kind != 0 && sum}
	return kinds[kind] && privs[priv]
}

// statusOf has Sum and Mxr as they are asked for, and the other bits as rest has them.
func statusOf(sum, mxr bool, rest uint64) uint64 {
	rest &^= 1<<18 + 1<<19
	if sum {
		rest += 1 << 18
	}
	if mxr {
		rest += 1 << 19
	}
	return rest
}

var bools = []bool{false, true}

func TestP102May(t *testing.T) {
	for flags := range uint64(1 << 10) {
		for _, above := range []uint64{0, 5 << 10, 1<<54 - 1<<10, 1 << 54, 1 << 58, 1 << 63, high} {
			e := flags + above
			for kind := range 3 {
				for priv := range 2 {
					for i := range 4 {
						sum, mxr := bit(uint64(i), 0), bit(uint64(i), 1)
						want := modelMay(e, kind, priv, sum, mxr)
						for _, rest := range []uint64{0, ones, api.Uxl | api.Spp | api.Sie} {
							if got := May(e, kind, priv, statusOf(sum, mxr, rest)); got != want {
								t.Fatalf("May(%x, %d, %d, sum %v, mxr %v) is %v", e, kind, priv, sum, mxr, got)
							}
						}
					}
				}
			}
		}
	}
}

func TestP102Rows(t *testing.T) {
	const all = api.PteV | api.PteR | api.PteW | api.PteX | api.PteA | api.PteD
	const run = api.PteV | api.PteX | api.PteA
	for i, x := range []struct {
		e          uint64
		kind, priv int
		status     uint64
		want       bool
	}{
		{Make(5, api.PteV|api.PteR|api.PteA), api.Load, api.Super, 0, true},
		{Make(5, api.PteV|api.PteR|api.PteA), api.Store, api.Super, 0, false},
		{all, api.Fetch, api.Super, 0, true},
		{all, api.Fetch, api.Super, api.Sum, true},
		{all, api.Load, api.User, 0, false},
		{all, api.Load, api.User, api.Sum, false},
		{all | api.PteU, api.Fetch, api.User, 0, true},
		{all | api.PteU, api.Load, api.Super, 0, false},
		{all | api.PteU, api.Load, api.Super, api.Mxr, false},
		{all | api.PteU, api.Load, api.Super, api.Sum, true},
		{all | api.PteU, api.Store, api.Super, api.Sum, true},
		{all | api.PteU, api.Fetch, api.Super, api.Sum, false},
		{all &^ api.PteD, api.Store, api.Super, 0, false},
		{all &^ api.PteD, api.Load, api.Super, 0, true},
		{all &^ api.PteW, api.Store, api.Super, 0, false},
		{all &^ api.PteA, api.Fetch, api.Super, 0, false},
		{run, api.Load, api.Super, 0, false},
		{run, api.Load, api.Super, api.Mxr, true},
		{run, api.Store, api.Super, api.Mxr, false},
		{api.PteV | api.PteR | api.PteA, api.Fetch, api.Super, api.Mxr, false},
		{api.PteV | api.PteA, api.Load, api.Super, api.Mxr, false},
		{api.PteV | api.PteA | api.PteU, api.Load, api.User, api.Mxr, false},
		{all | 1<<54, api.Load, api.Super, 0, false},
		{all &^ api.PteV, api.Load, api.Super, 0, false},
	} {
		if got := May(x.e, x.kind, x.priv, x.status); got != x.want {
			t.Errorf("%d: May(%x, %d, %d, %x) is %v", i, x.e, x.kind, x.priv, x.status, got)
		}
	}
}

func TestP102Strange(t *testing.T) {
	for flags := range uint64(1 << 8) {
		for _, status := range []uint64{0, api.Sum, api.Mxr, api.Sum | api.Mxr, ones} {
			for _, kind := range strangeKinds {
				for priv := range 2 {
					if May(flags, kind, priv, status) {
						t.Fatalf("May(%x, %d, %d, %x) is true", flags, kind, priv, status)
					}
				}
			}
			for _, priv := range strangePrivs {
				for kind := range 3 {
					if May(flags, kind, priv, status) {
						t.Fatalf("May(%x, %d, %d, %x) is true", flags, kind, priv, status)
					}
				}
				for _, kind := range strangeKinds {
					if May(flags, kind, priv, status) {
						t.Fatalf("May(%x, %d, %d, %x) is true", flags, kind, priv, status)
					}
				}
			}
		}
	}
}

func TestP103Vpn(t *testing.T) {
	for _, va := range samples() {
		for level := range 3 {
			var want uint64
			for i := range 9 {
				if bit(va, 12+9*level+i) {
					want += 1 << i
				}
			}
			if got := Vpn(va, level); got != want {
				t.Errorf("Vpn(%x, %d) is %x, not %x", va, level, got, want)
			}
		}
		for _, level := range strangeLevels {
			if got := Vpn(va, level); got != 0 {
				t.Errorf("Vpn(%x, %d) is %x", va, level, got)
			}
		}
	}
	const va = 0x7FC0E03456
	if Vpn(va, 0) != 3 || Vpn(va, 1) != 7 || Vpn(va, 2) != 0x1FF {
		t.Error(Vpn(va, 0), Vpn(va, 1), Vpn(va, 2))
	}
}

// modelAt goes by great numbers: the page's units of that level, and what va has within one.
func modelAt(e, va uint64, level int) uint64 {
	at := new(big.Int).SetUint64(e)
	at.Rsh(at, 10)
	at.Mod(at, big.NewInt(1<<44))
	at.Mul(at, big.NewInt(4096))
	if level < 0 || level > 2 {
		return at.Uint64()
	}
	unit := big.NewInt([]int64{4096, 4096 * 512, 4096 * 262144}[level])
	at.Div(at, unit)
	at.Mul(at, unit)
	within := new(big.Int).SetUint64(va)
	at.Add(at, within.Mod(within, unit))
	return at.Uint64()
}

func TestP103At(t *testing.T) {
	levels := append([]int{0, 1, 2}, strangeLevels...)
	for _, level := range levels {
		for _, e := range samples() {
			for _, va := range samples() {
				if got, want := At(e, va, level), modelAt(e, va, level); got != want {
					t.Fatalf("At(%x, %x, %d) is %x, not %x", e, va, level, got, want)
				}
			}
		}
		for _, page := range pages() {
			for _, va := range []uint64{0, ones, 0x7FC0E03456, 4095, 4096, 1<<21 - 1, 1 << 21, 1<<30 - 1, 1 << 30} {
				e := Make(page, api.PteV)
				if got, want := At(e, va, level), modelAt(e, va, level); got != want {
					t.Fatalf("At(%x, %x, %d) is %x, not %x", e, va, level, got, want)
				}
			}
		}
	}
}

func TestP103AtRows(t *testing.T) {
	const va = 0x7FC0E03456
	// The page is a multiple of 1 alone: at the levels above, va has its lowest parts in their stead.
	e := Make(0x40201, api.PteV)
	for _, x := range []struct {
		level int
		want  uint64
	}{
		{0, 0x40201456}, {1, 0x40203456}, {2, 0x40E03456}, {3, 0x40201000}, {-1, 0x40201000}, {math.MaxInt, 0x40201000}, {math.MinInt, 0x40201000},
	} {
		if got := At(e, va, x.level); got != x.want {
			t.Errorf("At of level %d is %x, not %x", x.level, got, x.want)
		}
	}
	if At(ones, 0, 0) != 1<<56-4096 || At(ones, ones, 0) != 1<<56-1 || At(ones, 0, 2) != 1<<56-1<<30 {
		t.Error("At of an entry of all bits")
	}
}

func TestP103Canonical(t *testing.T) {
	for _, va := range samples() {
		want := true
		for i := 38; i < 64; i++ {
			if bit(va, i) != bit(va, 38) {
				want = false
			}
		}
		if got := Canonical(va); got != want {
			t.Errorf("Canonical(%x) is %v", va, got)
		}
	}
	for _, x := range []struct {
		va   uint64
		want bool
	}{
		{0, true}, {1<<38 - 1, true}, {1 << 38, false}, {1<<38 + 1, false}, {1<<39 - 1, false}, {1 << 39, false}, {ones - 1<<38, false},
		{1<<64 - 1<<38, true}, {1<<64 - 1<<38 + 1, true}, {ones, true}, {1<<64 - 1<<39, false}, {1<<63 - 1, false}, {1 << 63, false},
	} {
		if got := Canonical(x.va); got != x.want {
			t.Errorf("Canonical(%x) is %v", x.va, got)
		}
	}
	for i := 38; i < 64; i++ {
		if Canonical(1 << i) {
			t.Errorf("bit %d alone is canonical", i)
		}
		if Canonical(^uint64(1 << i)) {
			t.Errorf("all bits but %d are canonical", i)
		}
	}
}

func TestP104Follows(t *testing.T) {
	users, supers := 0, 0
	for _, e := range append(entries(), samples()...) {
		if Leaf(e) && Table(e) {
			t.Fatalf("%x is a Leaf and a Table", e)
		}
		for kind := range 3 {
			for _, mxr := range bools {
				status := statusOf(false, mxr, 0)
				user, super := May(e, kind, api.User, status), May(e, kind, api.Super, status)
				if user && super {
					t.Fatalf("%x lets both, kind %d", e, kind)
				}
				if user {
					users++
				}
				if super {
					supers++
				}
			}
		}
	}
	if users == 0 || supers == 0 {
		t.Error("nobody may anything")
	}
}

// TestP104Call asks that each answer hangs on its arguments alone.
func TestP104Call(t *testing.T) {
	type answer struct {
		make, page, vpn, at     uint64
		what                    what
		aligned, may, canonical bool
	}
	ask := func(e uint64) answer {
		return answer{Make(e, e), Page(e), Vpn(e, 1), At(e, ^e, 1), what{Valid(e), Leaf(e), Table(e)}, Aligned(e, 1), May(e, 1, 1, e), Canonical(e)}
	}
	var first []answer
	for _, e := range samples() {
		first = append(first, ask(e))
	}
	for i, e := range samples() {
		if ask(e) != first[i] {
			t.Errorf("%x is answered another way the second time", e)
		}
	}
}
