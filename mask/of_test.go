package mask

import (
	"math"
	"slices"
	"testing"
)

// strange are harts that are none.
var strange = []int{-1, -2, -63, -64, -65, -1 << 32, -1 << 62, math.MinInt, math.MinInt + 1, 64, 65, 127, 128, 1 << 32, 1<<32 + 1, 1 << 62, math.MaxInt}

// holds is whether Of of these is that mask.
func holds(t *testing.T, mask uint64, harts ...int) {
	t.Helper()
	if got := Of(harts...); got != mask {
		t.Errorf("Of(%v) = %#x, not %#x", harts, got, mask)
	}
}

// P16.1: told in numbers.
func TestP161OfRows(t *testing.T) {
	holds(t, 0)
	holds(t, 0, []int(nil)...)
	holds(t, 1, 0)
	holds(t, 0xA, 1, 3)
	holds(t, 0xA, 3, 1)
	holds(t, 0xFF, 0, 1, 2, 3, 4, 5, 6, 7)
	holds(t, 0x100, 8)
	holds(t, 1<<63, 63)
	holds(t, 1<<63|9, 0, 3, 3, 64, -1, 63)
}

// P16.1: each hart, alone, twice, and beside others.
func TestP161OfOne(t *testing.T) {
	for h := range 64 {
		holds(t, 1<<h, h)
		holds(t, 1<<h, h, h)
		holds(t, 1<<h, h, h, h)
		for k := range 64 {
			holds(t, 1<<h|1<<k, h, k)
			holds(t, 1<<h|1<<k, k, h, k)
		}
	}
}

// P16.1: whoever is below 0 or above 63 is nothing, alone and amid others.
func TestP161OfStrange(t *testing.T) {
	holds(t, 0, strange...)
	for _, x := range strange {
		holds(t, 0, x)
		holds(t, 0, x, x)
		for h := range 64 {
			holds(t, 1<<h, h, x)
			holds(t, 1<<h, x, h)
			holds(t, 1<<h|1, 0, x, h)
		}
	}
}

// P16.1: in whatever order, all of them are in the mask, and no one else.
func TestP161OfOrder(t *testing.T) {
	d := dice(2463534242)
	for range 2000 {
		var harts []int
		var in [64]bool
		for range d.next() % 90 {
			h := int(d.next()%90) - 13
			harts = append(harts, h)
			if h >= 0 && h < 64 {
				in[h] = true
			}
		}
		got := Of(harts...)
		for h := range 64 {
			if (got>>h&1 == 1) != in[h] {
				t.Fatalf("Of(%v) = %#x: %d", harts, got, h)
			}
		}
		slices.Reverse(harts)
		holds(t, got, harts...)
	}
}

// P16.1, R7: what is handed in stays, and is not kept.
func TestP161OfStays(t *testing.T) {
	harts := []int{5, -1, 2, 99, 2, 0, 77, 78}
	was := slices.Clone(harts)
	holds(t, 0x25, harts[:6]...)
	if !slices.Equal(harts, was) {
		t.Errorf("%v was %v", harts, was)
	}
	harts[0] = 7
	holds(t, 0x85, harts[:6]...)
}

// P16.1: Of of what Harts tells of the base 0 is that mask again.
func TestP161OfHarts(t *testing.T) {
	for n := range 9 {
		for m := range uint64(1) << n {
			harts, ok := Harts(m, 0, n)
			if !ok {
				t.Errorf("Harts(%#x, 0, %d) is not ok", m, n)
			}
			holds(t, m, harts...)
		}
		all, _ := Harts(0, ones, n)
		holds(t, 1<<n-1, all...)
	}
}

// P16.1: Of moved on by the base is the mask that Harts told from that base.
func TestP161OfBase(t *testing.T) {
	for base := range uint64(8) {
		for m := range uint64(1) << (8 - base) {
			harts, ok := Harts(m, base, 8)
			if !ok {
				t.Errorf("Harts(%#x, %d, 8) is not ok", m, base)
			}
			holds(t, m<<base, harts...)
		}
	}
}
