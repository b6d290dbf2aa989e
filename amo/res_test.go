package amo

import (
	"math"
	"testing"

	"suzerain/api"
)

// strangers are numbers that no hart has.
var strangers = []int{-1, -8, api.MaxHarts, api.MaxHarts + 1, 1 << 32, -1 << 32, math.MinInt, math.MaxInt}

// lastBlock is the block behind which addresses go round.
const lastBlock = 1<<64 - 8

// holds tells of a row what each hart has.
func holds(t *testing.T, what string, r *Res, want map[int]uint64) {
	t.Helper()
	for hart := range api.MaxHarts {
		block, has := want[hart]
		if at, ok := r.Has(hart); at != block || ok != has {
			t.Errorf("%s: Has(%d) = %#x, %v, not %#x, %v", what, hart, at, ok, block, has)
		}
	}
	for _, hart := range strangers {
		if at, ok := r.Has(hart); at != 0 || ok {
			t.Errorf("%s: Has(%d) = %#x, %v", what, hart, at, ok)
		}
	}
}

// P8.2: none at first; a row is its caller's own.
func TestP82Fresh(t *testing.T) {
	r := Fresh()
	holds(t, "fresh", r, nil)
	for hart := range api.MaxHarts {
		if r.Take(hart, 0) {
			t.Errorf("hart %d took block 0, which nobody had reserved", hart)
		}
	}
	r.Set(0, 16)
	holds(t, "another", Fresh(), nil)
}

// P8.2: the block is that of the address, from a multiple of eight on.
func TestP82Set(t *testing.T) {
	for _, x := range []struct{ at, block uint64 }{
		{0, 0}, {1, 0}, {7, 0}, {8, 8}, {15, 8}, {16, 16}, {20, 16}, {23, 16}, {24, 24},
		{api.Base, api.Base}, {api.Base + 4, api.Base}, {1<<32 - 1, 1<<32 - 8}, {top + 3, top},
		{lastBlock - 1, lastBlock - 8}, {lastBlock, lastBlock}, {ones, lastBlock},
	} {
		for hart := range api.MaxHarts {
			r := Fresh()
			r.Set(hart, x.at)
			holds(t, "set", r, map[int]uint64{hart: x.block})
		}
	}
}

// P8.2: each hart has its own; a second one is in the first one's stead.
func TestP82SetAgain(t *testing.T) {
	r := Fresh()
	want := map[int]uint64{}
	for hart := range api.MaxHarts {
		r.Set(hart, uint64(16*hart+5))
		want[hart] = uint64(16 * hart)
		holds(t, "one more", r, want)
	}
	r.Set(3, 1000)
	want[3] = 1000
	holds(t, "again", r, want)
	if r.Take(3, 48) {
		t.Error("the first one was taken")
	}
	r.Set(3, 48)
	r.Set(3, 1000)
	if !r.Take(3, 1007) {
		t.Error("the second one was not taken")
	}
	r.Set(4, 64)
	r.Set(4, 64)
	if !r.Take(4, 64) || r.Take(4, 64) {
		t.Error("one that is set twice is one")
	}
}

// P8.2: taken once, at any address of its block.
func TestP82Take(t *testing.T) {
	for _, hart := range []int{0, 1, api.MaxHarts - 1} {
		for _, block := range []uint64{0, 16, api.Base, lastBlock} {
			for from := range uint64(8) {
				for at := range uint64(8) {
					r := Fresh()
					r.Set(hart, block+from)
					if !r.Take(hart, block+at) {
						t.Errorf("hart %d set %#x and could not take %#x", hart, block+from, block+at)
					}
					holds(t, "taken", r, nil)
					if r.Take(hart, block+at) {
						t.Errorf("hart %d took %#x a second time", hart, block+at)
					}
				}
			}
		}
	}
}

// P8.2: in another block nothing is taken, and what was set is gone.
func TestP82TakeElsewhere(t *testing.T) {
	for _, block := range []uint64{0, 16, api.Base, lastBlock} {
		for _, at := range []uint64{block - 1, block + 8, block - 8, block + 15, block ^ 1<<32, block ^ top} {
			r := Fresh()
			r.Set(2, block)
			r.Set(3, at)
			if r.Take(2, at) {
				t.Errorf("set %#x, and %#x was taken", block, at)
			}
			if r.Take(2, block) {
				t.Errorf("%#x was still there behind a Take of %#x", block, at)
			}
			holds(t, "elsewhere", r, map[int]uint64{3: at - at%8})
		}
	}
}

// P8.2: Take is of the hart's own, and leaves the others'.
func TestP82TakeOfOthers(t *testing.T) {
	r := Fresh()
	r.Set(0, 16)
	r.Set(1, 16)
	if r.Take(2, 16) {
		t.Error("hart 2 took what it had not set")
	}
	if !r.Take(0, 16) {
		t.Error("hart 0 could not take")
	}
	holds(t, "others", r, map[int]uint64{1: 16})
	if !r.Take(1, 16) {
		t.Error("hart 1 could not take")
	}
}

// P8.2: a hart that is none has none, and nothing is done.
func TestP82Strangers(t *testing.T) {
	for _, hart := range strangers {
		r := Fresh()
		r.Set(hart, 16)
		holds(t, "none set", r, nil)
		if r.Take(hart, 16) || r.Take(hart, 0) {
			t.Errorf("hart %d took", hart)
		}
		want := map[int]uint64{}
		for real := range api.MaxHarts {
			r.Set(real, 16)
			want[real] = 16
		}
		r.Set(hart, 32)
		r.Take(hart, 16)
		r.Stored(hart, 16, 8)
		r.Stored(hart, 0, math.MaxInt)
		holds(t, "nothing is done", r, want)
	}
}

// store is one call of Stored into a block, and whether a byte of it is there.
type store struct {
	name string
	at   uint64
	n    int
	hit  bool
}

func storesAround(block uint64) []store {
	return []store{
		{"the first byte", block, 1, true}, {"the last byte", block + 7, 1, true}, {"one within", block + 3, 1, true},
		{"all of it", block, 8, true}, {"all and more", block - 5, 20, true}, {"one before and behind", block - 1, 10, true},
		{"into its beginning", block - 1, 2, true}, {"from far into its first byte", block - 99, 100, true}, {"out of its end", block + 7, 2, true}, {"from its end far on", block + 7, 1000, true},
		{"just before", block - 1, 1, false}, {"eight before", block - 8, 8, false}, {"many before", block - 1000, 1000, false},
		{"just behind", block + 8, 1, false}, {"eight behind", block + 8, 8, false}, {"many behind", block + 8, 1000, false},
		{"none of it", block, 0, false}, {"none within", block + 3, 0, false}, {"below none", block, -1, false}, {"the least of all", block, math.MinInt, false},
		{"below none, from within", block + 4, -4, false}, {"below none, from behind", block + 8, -1, false},
		{"2^32 on", block + 1<<32, 8, false}, {"2^63 on", block + top, 8, false},
		{"the most, from it on", block, math.MaxInt, true}, {"the most, from its end on", block + 7, math.MaxInt, true}, {"the most, from behind", block + 8, math.MaxInt, false},
		{"the most, to just before", block - math.MaxInt, math.MaxInt, false}, {"the most, to its first", block - math.MaxInt + 1, math.MaxInt, true},
		{"the most less one, to just before", block - math.MaxInt + 1, math.MaxInt - 1, false}, {"the most, round to just before", block + 8 + top, math.MaxInt - 8, false},
		{"the most, from beyond", block + top + 1, math.MaxInt, false}, {"the most, from beyond into it", block + top + 2, math.MaxInt, true},
	}
}

// P8.2, P8.3: another hart's store into a block ends each reservation of it, and no other; its own doesn't. Some of the blocks stand where stores go round.
func TestP82Stored(t *testing.T) {
	for _, block := range []uint64{16, api.Base, 0, 8, lastBlock, lastBlock - 8, top, top - 8} {
		for _, s := range storesAround(block) {
			r := Fresh()
			r.Set(0, block)
			r.Set(1, block+7)
			r.Set(7, block+4)
			want := map[int]uint64{1: block}
			if !s.hit {
				want[0], want[7] = block, block
			}
			r.Stored(1, s.at, s.n)
			holds(t, s.name, r, want)
			for _, hart := range []int{0, 7} {
				if took := r.Take(hart, block); took == s.hit {
					t.Errorf("%s of %#x: hart %d took: %v", s.name, block, hart, took)
				}
			}
			if !r.Take(1, block) {
				t.Errorf("%s of %#x: the hart's own store ended its reservation", s.name, block)
			}
		}
	}
}

// P8.2: a store that goes over several blocks ends what stands in them, and no more; all harts but its own.
func TestP82StoredOver(t *testing.T) {
	for by := range api.MaxHarts {
		r := Fresh()
		want := map[int]uint64{}
		for hart := range api.MaxHarts {
			r.Set(hart, uint64(8*hart))
			if hart == by || hart < 2 || hart > 5 {
				want[hart] = uint64(8 * hart)
			}
		}
		r.Stored(by, 23, 18)
		holds(t, "over", r, want)
	}
}

// P8.2: stores that go round behind 2^64.
func TestP82Round(t *testing.T) {
	for _, x := range []struct {
		at          uint64
		n           int
		first, last bool
	}{
		{ones, 1, false, true}, {ones, 2, true, true}, {lastBlock - 1, 1, false, false}, {lastBlock - 1, 2, false, true},
		{lastBlock - 1, 9, false, true}, {lastBlock - 1, 10, true, true}, {lastBlock, 8, false, true}, {lastBlock, 9, true, true},
		{0, 1, true, false}, {7, 2, true, false}, {8, 8, false, false}, {0, math.MaxInt, true, false}, {top, math.MaxInt, false, true},
		{top + 1, math.MaxInt, false, true}, {top + 2, math.MaxInt, true, true}, {8, math.MaxInt, false, false},
	} {
		r := Fresh()
		r.Set(3, 0)
		r.Set(4, ones)
		r.Stored(0, x.at, x.n)
		want := map[int]uint64{}
		if !x.first {
			want[3] = 0
		}
		if !x.last {
			want[4] = lastBlock
		}
		holds(t, "round", r, want)
	}
}

// P8.2: each small store against each byte of it, one by one.
func TestP82StoredByBytes(t *testing.T) {
	for _, block := range []uint64{0, 16, lastBlock} {
		for back := range uint64(24) {
			for n := range 28 {
				at, hit := block-12+back, false
				for i := range n {
					b := at + uint64(i)
					hit = hit || b-b%8 == block
				}
				r := Fresh()
				r.Set(5, block)
				r.Stored(6, at, n)
				if _, ok := r.Has(5); ok == hit {
					t.Errorf("block %#x, Stored(6, %#x, %d): %v", block, at, n, ok)
				}
			}
		}
	}
}

// P8.2: the example of the chapter, and what Has leaves.
func TestP82Example(t *testing.T) {
	r := Fresh()
	r.Set(0, 16)
	r.Stored(1, 23, 1)
	if r.Take(0, 16) {
		t.Error("taken")
	}
	r.Set(0, 16)
	for range 3 {
		holds(t, "asked", r, map[int]uint64{0: 16})
	}
	if !r.Take(0, 16) {
		t.Error("not taken")
	}
}

// P8.2: a clone goes its own way.
func TestP82Clone(t *testing.T) {
	begin := map[int]uint64{0: 16, 2: 32, 7: 48}
	changes := []struct {
		name string
		do   func(r *Res)
		want map[int]uint64
	}{
		{"set", func(r *Res) { r.Set(0, 64) }, map[int]uint64{0: 64, 2: 32, 7: 48}},
		{"set another", func(r *Res) { r.Set(1, 8) }, map[int]uint64{0: 16, 1: 8, 2: 32, 7: 48}},
		{"take", func(r *Res) { r.Take(2, 32) }, map[int]uint64{0: 16, 7: 48}},
		{"stored", func(r *Res) { r.Stored(3, 16, 64) }, map[int]uint64{}},
	}
	for _, c := range changes {
		for _, first := range []bool{true, false} {
			r := Fresh()
			for hart, block := range begin {
				r.Set(hart, block)
			}
			other := r.Clone()
			holds(t, "clone", other, begin)
			if !first {
				r, other = other, r
			}
			c.do(r)
			holds(t, c.name, r, c.want)
			holds(t, c.name+", the other", other, begin)
		}
	}
	holds(t, "of none", Fresh().Clone(), nil)
}

// P8.3: one reservation at most, whatever is done, against a model that keeps them by hart.
func TestP83Model(t *testing.T) {
	r, model := Fresh(), map[int]uint64{}
	x := uint64(0x2545F4914F6CDD1D)
	draw := func(n uint64) uint64 {
		x ^= x << 13
		x ^= x >> 7
		x ^= x << 17
		return (x >> 20) % n
	}
	for range 20000 {
		// Addresses stand close to where they go round, on both sides.
		hart, at, n := int(draw(10))-1, draw(48)-24, int(draw(14))-2
		real := hart >= 0 && hart < api.MaxHarts
		switch draw(3) {
		case 0:
			r.Set(hart, at)
			if real {
				model[hart] = at - at%8
			}
		case 1:
			block, has := model[hart]
			if got := r.Take(hart, at); got != (has && block == at-at%8) {
				t.Fatalf("Take(%d, %#x) = %v of %v", hart, at, got, model)
			}
			delete(model, hart)
		case 2:
			r.Stored(hart, at, n)
			for i := 0; real && i < n; i++ {
				b := at + uint64(i)
				for other := range api.MaxHarts {
					if block, has := model[other]; other != hart && has && block == b-b%8 {
						delete(model, other)
					}
				}
			}
		}
		holds(t, "model", r, model)
	}
}

// P8.3: a hart's own store, whatever it is of, leaves its reservation.
func TestP83Own(t *testing.T) {
	for hart := range api.MaxHarts {
		r := Fresh()
		r.Set(hart, 16)
		for _, s := range storesAround(16) {
			r.Stored(hart, s.at, s.n)
			holds(t, s.name, r, map[int]uint64{hart: 16})
		}
	}
}
