package space

import (
	"suzerain/api"
	"suzerain/walk"
)

// reals are the real addresses of n bytes from va on, in order, or none with a fault: all of them are found ahead of the first that is stored, so that a fault leaves memory as it is.
func (s Space) reals(c api.Csrs, priv, kind int, va uint64, n int) ([]uint64, api.Fault) {
	if !isWidth(n) {
		return nil, walk.NoAddress(kind, va)
	}
	to := func(va uint64, n int) (uint64, api.Fault) {
		return s.To(c, priv, kind, va, n)
	}
	if va%uint64(n) == 0 {
		return together(to, va, n)
	}
	return oneByOne(to, va, n)
}

// together finds bytes that lie in one page, so that the first tells where the others are.
func together(to func(uint64, int) (uint64, api.Fault), va uint64, n int) ([]uint64, api.Fault) {
	first, fault := to(va, n)
	if fault.Is {
		return nil, fault
	}
	all := make([]uint64, n)
	for i := range n {
		all[i] = first + uint64(i)
	}
	return all, api.Fault{}
}

// oneByOne finds bytes that may lie in two pages. Behind the first fault no more are asked, as no walk for them may show.
func oneByOne(to func(uint64, int) (uint64, api.Fault), va uint64, n int) ([]uint64, api.Fault) {
	all := make([]uint64, n)
	for i := range n {
		at, fault := to(va+uint64(i), 1)
		if fault.Is {
			return nil, fault
		}
		all[i] = at
	}
	return all, api.Fault{}
}

// isWidth tells whether an access has n bytes.
func isWidth(n int) bool {
	return n == 1 || n == 2 || n == 4 || n == 8
}
