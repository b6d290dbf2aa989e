package base

import (
	"math"
	"slices"
	"testing"

	"suzerain/api"
)

const ones = 1<<64 - 1

// eight are the extensions as the chapter lists them, by numbers that stand on nothing of the program.
func eight() []uint64 {
	return []uint64{0x10, 0x54494D45, 0x735049, 0x52464E43, 0x48534D, 0x53525354, 0x4442434E, 0x504D55}
}

// dice are numbers with bits all over, the same each time.
type dice uint64

func (d *dice) next() uint64 {
	x := *d
	x ^= x << 13
	x ^= x >> 7
	x ^= x << 17
	*d = x
	return uint64(x)
}

// beside are numbers near the eight, and ones far from them, of which some may be one of the eight nonetheless.
func beside() []uint64 {
	out := []uint64{0, 1, 2, 7, 8, 9, 97, ones, ones - 1, 1 << 63, 1<<63 - 1, 1 << 32, 1<<32 - 1, 1<<32 + 1}
	for _, x := range eight() {
		out = append(out, x-1, x+1, -x, ^x, x<<8, x>>8, x<<32, x<<32|x, x|1<<32|1<<63)
		for bit := range 64 {
			out = append(out, x^1<<bit)
		}
	}
	d := dice(88172645463325252)
	for range 200 {
		x := d.next()
		out = append(out, x, x>>32, x>>48, x>>56, x<<32|0x10)
	}
	return out
}

// check holds Call against what it is to answer.
func check(t *testing.T, fn, a0 uint64, e int, n uint64) {
	t.Helper()
	if gotE, gotN := Call(fn, a0); gotE != e || gotN != n {
		t.Errorf("Call(%#x, %#x) = %d, %d, not %d, %d", fn, a0, gotE, gotN, e, n)
	}
}

// P17.1: the eight, in their order, each once.
func TestP171ExtsOrder(t *testing.T) {
	got := Exts()
	if !slices.Equal(got, eight()) {
		t.Fatalf("Exts() = %#x, not %#x", got, eight())
	}
	slices.Sort(got)
	if len(slices.Compact(got)) != 8 {
		t.Error("one stands there twice")
	}
}

// P17.1: and by package api's own names.
func TestP171ExtsNames(t *testing.T) {
	want := []uint64{api.ExtBase, api.ExtTime, api.ExtIpi, api.ExtRfence, api.ExtHsm, api.ExtSrst, api.ExtDbcn, api.ExtPmu}
	if got := Exts(); !slices.Equal(got, want) {
		t.Errorf("Exts() = %#x, not %#x", got, want)
	}
}

// P17.1 and R7: what is written into an answer shows in no other answer, earlier or later, and nowhere else.
func TestP171ExtsOwn(t *testing.T) {
	first, second := Exts(), Exts()
	for i := range first {
		first[i] = 0
	}
	first = append(first[:3], 1, 2, 3, 4, 5, 6, 7)
	if !slices.Equal(second, eight()) {
		t.Errorf("an earlier answer became %#x as another was written into", second)
	}
	third := Exts()
	if !slices.Equal(third, eight()) {
		t.Errorf("Exts() = %#x behind %#x", third, first)
	}
	_ = append(third[:0], 5, 6, 7)
	if Known(5) || Known(0) {
		t.Error("Known of what was written into an answer")
	}
	for _, x := range eight() {
		if !Known(x) {
			t.Errorf("not Known(%#x) behind writing into an answer", x)
		}
		check(t, 3, x, 0, 1)
	}
}

// P17.1: each of the eight is known.
func TestP171KnownEach(t *testing.T) {
	for _, x := range eight() {
		if !Known(x) {
			t.Errorf("not Known(%#x)", x)
		}
	}
}

// P17.1: what is one more or one less, or has one bit turned, 0, and the greatest, are not.
func TestP171KnownBeside(t *testing.T) {
	for _, x := range eight() {
		for _, y := range []uint64{x - 1, x + 1} {
			if Known(y) {
				t.Errorf("Known(%#x)", y)
			}
		}
		for bit := range 64 {
			if y := x ^ 1<<bit; Known(y) {
				t.Errorf("Known(%#x), which is %#x with bit %d turned", y, x, bit)
			}
		}
	}
	for _, y := range []uint64{0, 1, ones, ones - 1, 1 << 32, 1 << 63} {
		if Known(y) {
			t.Errorf("Known(%#x)", y)
		}
	}
}

// P17.1: of many more numbers, what is known is what the list has.
func TestP171KnownMany(t *testing.T) {
	for _, x := range beside() {
		if got, want := Known(x), slices.Contains(eight(), x); got != want {
			t.Errorf("Known(%#x) = %v", x, got)
		}
	}
	for x := range uint64(1 << 12) {
		if Known(x) != (x == 0x10) {
			t.Errorf("Known(%#x) = %v", x, Known(x))
		}
	}
}

// values are what a0 may be where it is to make no odds.
func values() []uint64 {
	return append([]uint64{0, 1, 2, 3, 4, 5, 6, 7, 0x10, 97, 1 << 32, 1 << 63, ones}, eight()...)
}

// P17.2: the calls that tell a number whatever a0 is.
func TestP172CallFixed(t *testing.T) {
	for _, a0 := range values() {
		check(t, 0, a0, 0, 33554432)
		check(t, 1, a0, 0, 97)
		check(t, 2, a0, 0, 1)
		check(t, 4, a0, 0, 0)
		check(t, 5, a0, 0, 0)
		check(t, 6, a0, 0, 0)
	}
}

// P17.2: whether there is an extension, the chapter's example ahead.
func TestP172CallThere(t *testing.T) {
	check(t, 3, 0x10, api.SbiOk, 1)
	for _, x := range eight() {
		check(t, 3, x, 0, 1)
		for _, y := range []uint64{x - 1, x + 1, x + 1<<32, x | 1<<63, x | 0xFFFFFFFF<<32, x << 32} {
			check(t, 3, y, 0, 0)
		}
		for bit := range 64 {
			check(t, 3, x^1<<bit, 0, 0)
		}
	}
	for _, x := range []uint64{0, 1, 3, ones, 1 << 32, 1 << 63} {
		check(t, 3, x, 0, 0)
	}
}

// P17.2: what is beyond the seven is not supported, and tells 0, whatever a0 is.
func TestP172CallBeyond(t *testing.T) {
	for _, a0 := range values() {
		for fn := uint64(7); fn < 300; fn++ {
			check(t, fn, a0, -2, 0)
		}
		for low := range uint64(7) {
			for bit := 3; bit < 64; bit++ {
				check(t, low|1<<bit, a0, -2, 0)
			}
			check(t, low|0xFFFFFFFF<<32, a0, -2, 0)
			check(t, ones-low, a0, -2, 0)
		}
	}
}

// P17.2 and R6: the same is told whenever it is asked.
func TestP172CallAgain(t *testing.T) {
	type told struct {
		e int
		n uint64
	}
	var before []told
	ask := func() (out []told) {
		for fn := range uint64(10) {
			for _, a0 := range values() {
				e, n := Call(fn, a0)
				out = append(out, told{e, n})
			}
		}
		return out
	}
	before = ask()
	d := dice(2463534242)
	for range 1000 {
		Call(d.next()&7, d.next())
		Call(d.next(), d.next())
		Known(d.next())
		Exts()[d.next()&7] = d.next()
		Name(int(d.next()))
	}
	if !slices.Equal(ask(), before) {
		t.Error("something else is told behind other calls")
	}
}

// P17.3: the names, by numbers and by package api's.
func TestP173NameEach(t *testing.T) {
	for _, x := range []struct {
		e, same int
		want    string
	}{
		{0, api.SbiOk, "ok"},
		{-1, api.SbiFailed, "failed"},
		{-2, api.SbiNotSupported, "not-supported"},
		{-3, api.SbiParam, "invalid-param"},
		{-4, api.SbiDenied, "denied"},
		{-5, api.SbiAddress, "invalid-address"},
		{-6, api.SbiAvailable, "already-available"},
		{-7, api.SbiAlreadyStarted, "already-started"},
		{-8, api.SbiAlreadyStopped, "already-stopped"},
	} {
		if got := Name(x.e); got != x.want || Name(x.same) != x.want {
			t.Errorf("Name(%d) = %q, not %q", x.e, got, x.want)
		}
	}
}

// P17.3: none of others.
func TestP173NameNone(t *testing.T) {
	for _, e := range []int{
		1, 2, 3, 4, 5, 6, 7, 8, 9, 80, -9, -10, -11, -12, -16, -255, -256, -257,
		1 << 32, -1 << 32, -1<<32 - 1, -1<<32 + 8, math.MaxInt, math.MaxInt - 1, math.MinInt, math.MinInt + 1, math.MinInt + 8,
	} {
		if got := Name(e); got != "" {
			t.Errorf("Name(%d) = %q", e, got)
		}
	}
}

// P17.3: unlike errors have unlike names, and each has one.
func TestP173NamesUnlike(t *testing.T) {
	held := map[string]int{}
	for e := -8; e <= 0; e++ {
		name := Name(e)
		if other, ok := held[name]; ok || name == "" {
			t.Errorf("Name(%d) = %q, as of %d", e, name, other)
		}
		held[name] = e
	}
}

// P17.4: Exts, Known and Call(3, ..) tell the same.
func TestP174ToldAlike(t *testing.T) {
	exts := Exts()
	for _, x := range append(beside(), exts...) {
		listed := slices.Contains(exts, x)
		e, n := Call(3, x)
		if Known(x) != listed || e != api.SbiOk || n == 1 != listed || n > 1 {
			t.Errorf("%#x: listed %v, Known %v, Call %d, %d", x, listed, Known(x), e, n)
		}
	}
}

// P17.4: nothing else is known: of a great many numbers, as many as the list has.
func TestP174NothingElse(t *testing.T) {
	known := map[uint64]int{}
	for _, x := range append(beside(), eight()...) {
		for near := x - 20; near != x+21; near++ {
			if Known(near) {
				known[near]++
			}
		}
	}
	if len(known) != 8 {
		t.Errorf("%d are known: %v", len(known), known)
	}
}
