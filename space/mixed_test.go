package space

import (
	"bytes"
	"slices"
	"testing"

	"suzerain/api"
	"suzerain/ram"
	"suzerain/walk"
)

// twin does accesses one byte at a time, as the document tells them, with memory and leaves of its own.
type twin struct {
	Space
	c    api.Csrs
	priv int
}

// find is To, of n bytes.
func (o twin) find(kind int, va uint64, n int) (uint64, api.Fault) {
	var at uint64
	var f api.Fault
	if o.T == nil {
		at, f = walk.To(o.M, o.c, o.priv, kind, va)
	} else {
		at, f = o.T.To(o.M, o.c, o.priv, kind, va)
	}
	if !f.Is && !has(o.M, at, n) {
		at, f = 0, noAddress(kind, va)
	}
	return at, f
}

// places are where n bytes are, or the first fault.
func (o twin) places(kind int, va uint64, n int) ([]uint64, api.Fault) {
	if va%uint64(n) == 0 {
		at, f := o.find(kind, va, n)
		if f.Is {
			return nil, f
		}
		return run(at, n), f
	}
	var all []uint64
	for _, one := range run(va, n) {
		at, f := o.find(kind, one, 1)
		if f.Is {
			return nil, f
		}
		all = append(all, at)
	}
	return all, api.Fault{}
}

func (o twin) load(va uint64, n int) (uint64, api.Fault) {
	all, f := o.places(api.Load, va, n)
	return number(image(o.M), all...), f
}

func (o twin) store(va uint64, n int, x uint64) ([]uint64, api.Fault) {
	all, f := o.places(api.Store, va, n)
	for _, at := range all {
		o.M.Load(at, []byte{byte(x % 256)})
		x /= 256
	}
	return all, f
}

func (o twin) fetch(pc uint64) (uint32, api.Fault) {
	at, f := o.find(api.Fetch, pc, 2)
	if f.Is {
		return 0, f
	}
	word := uint32(number(image(o.M), run(at, 2)...))
	if word%4 < 3 {
		return word, f
	}
	if at, f = o.find(api.Fetch, pc+2, 2); f.Is {
		return 0, f
	}
	return word + 65536*uint32(number(image(o.M), run(at, 2)...)), f
}

// source draws numbers below one.
type source uint64

func (s *source) draw(below uint64) uint64 {
	*s = source(mixed(uint64(*s)))
	return uint64(*s) >> 20 % below
}

// crowd is a world of many entries, some of which may not be used, or lead out of memory.
func crowd(t *testing.T, s *source) *ram.Ram {
	t.Helper()
	m := world(t)
	for i := range uint64(512) {
		lay(t, m, i, someEntry(s))
	}
	return m
}

// someEntry leads to the table of the lowest level at times, but not to those above, lest a store there end all that follows.
func someEntry(s *source) uint64 {
	e := entry(first+3+s.draw(worldPages-3), open)
	switch s.draw(12) {
	case 0:
		e = entry(first+2+s.draw(worldPages-2), s.draw(256)|v|a)
	case 1:
		e = entry(first-1+s.draw(2)*(worldPages+1), open)
	}
	return e
}

// someVa is mostly about the end of a page, and now and then about the ends of the addresses that may be.
func someVa(s *source) uint64 {
	va := s.draw(8)*4096 + s.draw(4096)
	if s.draw(3) > 0 {
		va = s.draw(8)*4096 + 4096 - 10 + s.draw(20)
	}
	switch s.draw(12) {
	case 0:
		va -= 4 * 4096
	case 1:
		va += canonicals - 4*4096
	case 2:
		va -= canonicals + 4*4096
	}
	return va
}

// TestP131P135Mixed holds mixed calls against a twin's, with entries that are changed, and leaves that are let go of, now and then.
func TestP131P135Mixed(t *testing.T) {
	for _, most := range mosts {
		src := source(0x9E3779B97F4A7C15)
		m := crowd(t, &src)
		s := with(m, most)
		o := twin{Space: with(m.Clone(), most)}
		good := 0
		for i := range 3000 {
			if src.draw(8) == 0 {
				page, e := src.draw(16)-8, someEntry(&src)
				lay(t, s.M, page, e)
				lay(t, o.M, page, e)
			}
			if s.T != nil && src.draw(16) == 0 {
				all, va := src.draw(2) == 0, someVa(&src)
				s.T.Flush(all, va, true, 0)
				o.T.Flush(all, va, true, 0)
			}
			o.c, o.priv = table(src.draw(4)<<18), int(src.draw(8)/7)
			va, n, x := someVa(&src), widths[src.draw(4)], src.draw(1<<40)*0x1000001
			if src.draw(16) == 0 {
				o.c.Satp = 0
				va = api.Base + 3*4096 + src.draw((worldPages-3)*4096+8)
			}
			if mixedCall(t, s, o, int(src.draw(4)), va, n, x) {
				good++
			}
			if !bytes.Equal(image(s.M), image(o.M)) {
				t.Errorf("memory is another")
			}
			if s.T != nil && (s.T.Misses() != o.T.Misses() || s.T.Len() != o.T.Len()) {
				t.Errorf("%d walks, not %d, %d leaves, not %d", s.T.Misses(), o.T.Misses(), s.T.Len(), o.T.Len())
			}
			if t.Failed() {
				t.Fatalf("most %d, call %d", most, i)
			}
		}
		if good < 1000 || good > 2700 {
			t.Errorf("with %d, %d came to something", most, good)
		}
	}
}

// mixedCall does one call of both, and tells whether it came to something.
func mixedCall(t *testing.T, s Space, o twin, which int, va uint64, n int, x uint64) bool {
	t.Helper()
	var got, want uint64
	var f, fault api.Fault
	switch which {
	case 0:
		kind := int(x % 3)
		got, f = s.To(o.c, o.priv, kind, va, n)
		want, fault = o.find(kind, va, n)
	case 1:
		got, f = s.Load(o.c, o.priv, va, n)
		want, fault = o.load(va, n)
	case 2:
		var all, places []uint64
		all, f = s.Store(o.c, o.priv, va, n, x)
		places, fault = o.store(va, n, x)
		if !slices.Equal(all, places) {
			t.Errorf("Store of %d at %x is %x, not %x", n, va, all, places)
		}
	default:
		var word, other uint32
		word, f = s.Fetch(o.c, o.priv, va)
		other, fault = o.fetch(va)
		got, want = uint64(word), uint64(other)
	}
	if got != want || f != fault {
		t.Errorf("call %d of %d at %x by %d is %x, %+v, not %x, %+v", which, n, va, o.priv, got, f, want, fault)
	}
	return !f.Is
}
