package mask

import (
	"math"
	"math/bits"
	"slices"
	"testing"
)

const ones = 1<<64 - 1

// dice are numbers with bits all over, the same each time.
type dice uint64

func (d *dice) next() uint64 {
	x := *d
	x ^= x << 13
	x ^= x >> 7
	x ^= x << 17
	*d = x
	return uint64(x)
}

// counts are numbers of harts and, beside them, how many there are then.
func counts() map[int]int {
	out := map[int]int{
		-1: 0, -2: 0, -8: 0, -64: 0, -1 << 32: 0, math.MinInt + 1: 0, math.MinInt: 0,
		9: 8, 10: 8, 16: 8, 63: 8, 64: 8, 65: 8, 1 << 32: 8, 1<<32 + 1: 8, math.MaxInt - 1: 8, math.MaxInt: 8,
	}
	for n := range 9 {
		out[n] = n
	}
	return out
}

// masks are some of each kind: none, all, each bit alone, each bit left out, those below it, and ones with bits all over.
func masks() []uint64 {
	out := []uint64{0, ones, 0x55, 0xAA, 0x5555555555555555, 0xAAAAAAAAAAAAAAAA}
	for k := range 64 {
		out = append(out, 1<<k, ^uint64(1<<k), 1<<k-1, 1<<k|1)
	}
	d := dice(88172645463325252)
	for range 40 {
		out = append(out, d.next(), d.next()&0xFF, d.next()&0xFF)
	}
	return out
}

// bases are those near 0, near each power of two, and near the end.
func bases() []uint64 {
	var out []uint64
	for b := range uint64(80) {
		out = append(out, b, ones-b)
	}
	for k := range 64 {
		out = append(out, 1<<k, 1<<k-1, 1<<k+1, -uint64(1<<k))
	}
	return out
}

// want is what Harts is to answer by the chapter, with each sum told as a carry and a rest.
func want(mask, base uint64, there int) ([]int, bool) {
	var harts []int
	all := base == ones
	for h := range there {
		if all {
			harts = append(harts, h)
		}
	}
	for k := uint64(0); k < 64 && !all; k++ {
		if mask&(1<<k) == 0 {
			continue
		}
		sum, carry := bits.Add64(base, k, 0)
		if carry != 0 || sum >= uint64(there) {
			return nil, false
		}
		harts = append(harts, int(sum))
	}
	return harts, true
}

// check holds Harts against what it is to answer.
func check(t *testing.T, mask, base uint64, n int, harts []int, ok bool) {
	t.Helper()
	if l, yes := Harts(mask, base, n); yes != ok || !slices.Equal(l, harts) {
		t.Errorf("Harts(%#x, %#x, %d) = %v, %v, not %v, %v", mask, base, n, l, yes, harts, ok)
	}
}

// P16.1: told in numbers, the chapter's example ahead.
func TestP161HartsRows(t *testing.T) {
	for _, x := range []struct {
		mask, base uint64
		n          int
		want       []int
		ok         bool
	}{
		{5, 1, 8, []int{1, 3}, true},
		{1, 0, 1, []int{0}, true}, {1, 0, 8, []int{0}, true}, {1, 7, 8, []int{7}, true}, {1, 8, 8, nil, false}, {2, 7, 8, nil, false},
		{0xFF, 0, 8, []int{0, 1, 2, 3, 4, 5, 6, 7}, true}, {0xFF, 0, 7, nil, false}, {0xFF, 1, 8, nil, false}, {0x7F, 1, 8, []int{1, 2, 3, 4, 5, 6, 7}, true},
		{0x1FF, 0, 8, nil, false}, {0x100, 0, 8, nil, false}, {0x81, 0, 8, []int{0, 7}, true}, {0x90, 0, 8, []int{4, 7}, true},
		{3, 2, 4, []int{2, 3}, true}, {3, 3, 4, nil, false}, {3, 2, 3, nil, false}, {1, 2, 3, []int{2}, true}, {1, 3, 3, nil, false},
		{0xFF, 0, 9, []int{0, 1, 2, 3, 4, 5, 6, 7}, true}, {0x1FF, 0, 9, nil, false}, {1, 8, 9, nil, false}, {1, 8, math.MaxInt, nil, false}, {1, 7, math.MaxInt, []int{7}, true},
		{1, 0, 0, nil, false}, {1, 0, -1, nil, false}, {1, 0, math.MinInt, nil, false}, {1 << 63, 0, 8, nil, false},
		{0, 0, 0, nil, true}, {0, 0, 8, nil, true}, {0, 8, 8, nil, true}, {0, 99, 3, nil, true}, {0, ones - 1, 8, nil, true}, {0, 5, -1, nil, true},
		{1, ones - 1, 8, nil, false}, {4, ones - 1, 8, nil, false}, {8, ones - 2, 8, nil, false}, {1 << 63, ones - 62, 8, nil, false}, {1 << 63, 1 << 63, 8, nil, false},
		{0, ones, 3, []int{0, 1, 2}, true}, {ones, ones, 3, []int{0, 1, 2}, true}, {2, ones, 3, []int{0, 1, 2}, true}, {1, ones, 0, nil, true}, {1, ones, -1, nil, true}, {1, ones, 9, []int{0, 1, 2, 3, 4, 5, 6, 7}, true},
	} {
		check(t, x.mask, x.base, x.n, x.want, x.ok)
	}
}

// P16.1: the last base means all harts, whatever the mask, of each number of them.
func TestP161HartsAll(t *testing.T) {
	for n, there := range counts() {
		for _, m := range masks() {
			harts, ok := Harts(m, ones, n)
			if !ok || len(harts) != there {
				t.Fatalf("Harts(%#x, all, %d) = %v, %v", m, n, harts, ok)
			}
			for h, hart := range harts {
				if hart != h {
					t.Errorf("Harts(%#x, all, %d) = %v", m, n, harts)
				}
			}
		}
	}
}

// P16.1: a mask of 0 means none, and is none wrong, whatever the base (but the last).
func TestP161HartsNone(t *testing.T) {
	for n := range counts() {
		for _, base := range bases() {
			if base != ones {
				check(t, 0, base, n, nil, true)
			}
		}
	}
}

// P16.1: one bit, from each base: there, or beyond those that are.
func TestP161HartsOne(t *testing.T) {
	for n, there := range counts() {
		for base := range 80 {
			for k := range 64 {
				if base+k < there {
					check(t, 1<<k, uint64(base), n, []int{base + k}, true)
				} else {
					check(t, 1<<k, uint64(base), n, nil, false)
				}
			}
		}
	}
}

// P16.1: a sum is below n modulo 2^64 only: none and false.
func TestP161HartsRound(t *testing.T) {
	for n := range counts() {
		for below := uint64(2); below <= 64; below++ {
			for k := range uint64(64) {
				check(t, 1<<k, -below, n, nil, false)
				check(t, 1<<k|1, -below, n, nil, false)
			}
			check(t, ones, -below, n, nil, false)
		}
	}
}

// P16.1: harts that are there and one bit beyond them: none and false, in whole.
func TestP161HartsWhole(t *testing.T) {
	for n, there := range counts() {
		for base := range there {
			all := uint64(1)<<(there-base) - 1
			harts, ok := Harts(all, uint64(base), n)
			if !ok || len(harts) != there-base {
				t.Errorf("Harts(%#x, %d, %d) = %v, %v", all, base, n, harts, ok)
			}
			for k := there - base; k < 64; k++ {
				check(t, all|1<<k, uint64(base), n, nil, false)
				check(t, 1|1<<k, uint64(base), n, nil, false)
			}
		}
	}
}

// P16.1: each mask, base and number against a twin.
func TestP161HartsMixed(t *testing.T) {
	for n, there := range counts() {
		for _, base := range bases() {
			for _, m := range masks() {
				harts, ok := want(m, base, there)
				check(t, m, base, n, harts, ok)
			}
		}
		for m := range uint64(1 << 9) {
			for base := range uint64(10) {
				harts, ok := want(m, base, there)
				check(t, m, base, n, harts, ok)
			}
		}
	}
}

// P16.1, R7: what is answered is the caller's own.
func TestP161HartsOwn(t *testing.T) {
	for _, base := range []uint64{0, ones} {
		a, _ := Harts(0xFF, base, 8)
		for i := range a {
			a[i] = -7
		}
		_ = append(a[:0], 9, 9, 9)
		check(t, 0xFF, base, 8, []int{0, 1, 2, 3, 4, 5, 6, 7}, true)
	}
}

// P16.2: whoever is meant is told once, in order, and is one that there is.
func TestP162Once(t *testing.T) {
	for n, there := range counts() {
		for _, base := range append(bases(), ones) {
			for _, m := range masks() {
				last := -1
				harts, _ := Harts(m, base, n)
				for _, hart := range harts {
					if hart <= last || hart >= there {
						t.Fatalf("Harts(%#x, %#x, %d) = %v", m, base, n, harts)
					}
					last = hart
				}
			}
		}
	}
}
