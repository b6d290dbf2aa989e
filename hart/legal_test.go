package hart

import (
	"math"
	"testing"

	"suzerain/api"
)

// P15.1: each part that may not be, alone and all of them.
func TestP151Rows(t *testing.T) {
	zero := api.Hart{C: api.Csrs{Status: uxl}}
	for _, row := range []struct {
		was, want func(h *api.Hart)
	}{
		{func(h *api.Hart) {}, func(h *api.Hart) {}},
		{func(h *api.Hart) { h.X[0] = 1 }, func(h *api.Hart) {}},
		{func(h *api.Hart) { h.X[0] = ones }, func(h *api.Hart) {}},
		{func(h *api.Hart) { h.Pc = 1 }, func(h *api.Hart) {}},
		{func(h *api.Hart) { h.Pc = 3 }, func(h *api.Hart) { h.Pc = 2 }},
		{func(h *api.Hart) { h.Pc = ones }, func(h *api.Hart) { h.Pc = ones - 1 }},
		{func(h *api.Hart) { h.Pc = ones - 1 }, func(h *api.Hart) { h.Pc = ones - 1 }},
		{func(h *api.Hart) { h.Pc = 0x80000006 }, func(h *api.Hart) { h.Pc = 0x80000006 }},
		{func(h *api.Hart) { h.C.Status = 0 }, func(h *api.Hart) {}},
		{func(h *api.Hart) { h.C.Status = ones }, func(h *api.Hart) { h.C.Status = 0x2000C0122 }},
		{func(h *api.Hart) { h.C.Status = 0x1000C0122 }, func(h *api.Hart) { h.C.Status = 0x2000C0122 }},
		{func(h *api.Hart) { h.C.Ie = ones }, func(h *api.Hart) { h.C.Ie = 0x222 }},
		{func(h *api.Hart) { h.C.Tvec = ones }, func(h *api.Hart) { h.C.Tvec = ones - 2 }},
		{func(h *api.Hart) { h.C.Counteren = ones }, func(h *api.Hart) { h.C.Counteren = 7 }},
		{func(h *api.Hart) { h.C.Epc = ones }, func(h *api.Hart) { h.C.Epc = ones - 1 }},
		{func(h *api.Hart) { h.C.Ip = ones }, func(h *api.Hart) { h.C.Ip = 0x22 }},
		{func(h *api.Hart) { h.C.Satp = 9 << 60 }, func(h *api.Hart) {}},
		{func(h *api.Hart) { h.C.Satp = 1<<60 + 5 }, func(h *api.Hart) {}},
		{func(h *api.Hart) { h.C.Satp = ones }, func(h *api.Hart) {}},
		{func(h *api.Hart) { h.C.Satp = 9<<60 - 1 }, func(h *api.Hart) { h.C.Satp = 9<<60 - 1 }},
		{func(h *api.Hart) { h.C.Satp = 1<<60 - 1 }, func(h *api.Hart) { h.C.Satp = 1<<60 - 1 }},
		{func(h *api.Hart) {
			h.X[0], h.Pc, h.Priv = 5, 5, 5
			h.C = api.Csrs{Status: 1, Ie: 1, Tvec: 2, Counteren: 8, Epc: 1, Ip: 1, Satp: 2 << 60}
		}, func(h *api.Hart) { h.Pc = 4 }},
	} {
		was, want := zero, zero
		row.was(&was)
		row.want(&want)
		if got := Legal(was); got != want {
			t.Errorf("Legal of %+v is %+v, not %+v", was, got, want)
		}
		if got := Legal(want); got != want {
			t.Errorf("Legal of the legal %+v is %+v", want, got)
		}
	}
}

// P15.1: who is neither is a user.
func TestP151Priv(t *testing.T) {
	for _, priv := range []int{0, 1, -1, 2, 3, 256, 257, 1 << 32, 1<<32 + 1, math.MinInt, math.MinInt + 1, math.MaxInt} {
		want := user
		if priv == 1 {
			want = super
		}
		h := api.Hart{Priv: priv, Pc: 8, C: api.Csrs{Status: uxl}}
		got := Legal(h)
		h.Priv = want
		if got != h {
			t.Errorf("Legal of the privilege %d is %+v", priv, got)
		}
	}
}

// P15.1: all that may be anything stays, each part alone, and all of them.
func TestP151Stays(t *testing.T) {
	full := api.Hart{Pc: ones - 1, Priv: super, Wait: true, C: api.Csrs{Status: 0x2000C0122, Ie: 0x222, Tvec: ones - 2, Counteren: 7, Scratch: ones, Epc: ones - 1, Cause: ones, Tval: ones, Ip: 0x22, Satp: 9<<60 - 1, Cycle: ones, Instret: ones}}
	for i := 1; i < 32; i++ {
		full.X[i] = ones
		h := api.Hart{C: api.Csrs{Status: uxl}}
		for bit := range 64 {
			h.X[i] = 1 << bit
			if got := Legal(h); got != h {
				t.Errorf("Legal of %+v is %+v", h, got)
			}
		}
	}
	if got := Legal(full); got != full {
		t.Errorf("Legal of %+v is %+v", full, got)
	}
	for bit := range 64 {
		x := uint64(1) << bit
		for _, h := range []api.Hart{
			{C: api.Csrs{Status: uxl, Scratch: x}}, {C: api.Csrs{Status: uxl, Cause: x}}, {C: api.Csrs{Status: uxl, Tval: x}},
			{C: api.Csrs{Status: uxl, Cycle: x}}, {C: api.Csrs{Status: uxl, Instret: x}}, {C: api.Csrs{Status: uxl}, Wait: true},
			{C: api.Csrs{Status: uxl}, Pc: x &^ 1}, {C: api.Csrs{Status: uxl, Epc: x &^ 1}}, {C: api.Csrs{Status: uxl, Tvec: x &^ 2}},
		} {
			if got := Legal(h); got != h {
				t.Errorf("Legal of %+v is %+v", h, got)
			}
		}
	}
}
