package hsm

import "suzerain/api"

// place is how a hart stands; if it is to go on afresh, also where. It is put down whole at each turn, so that nothing of an earlier one is left.
type place struct {
	stands int
	fresh  bool
	at     api.Go
}

// has tells whether there is such a hart. A number below 0 is, without a sign, beyond each that there is.
func (t *Table) has(hart uint64) bool {
	return hart < uint64(t.many)
}

// place is how that hart stands. One that is none does not run, nor can it be woken: it is as one that is Stopped.
func (t *Table) place(hart int) place {
	if !t.has(uint64(hart)) {
		return place{stands: api.Stopped}
	}
	return t.harts[hart]
}

// turn has a hart stand otherwise, if there is such a one and it stands as it has to, and tells whether it did.
func (t *Table) turn(hart uint64, from int, to place) bool {
	if !t.has(hart) || t.harts[hart].stands != from {
		return false
	}
	t.harts[hart] = to
	return true
}

// leave is what a hart asks for itself, for which it has to run.
func (t *Table) leave(hart int, to place) int {
	if !t.turn(uint64(hart), api.Started, to) {
		return api.SbiFailed
	}
	return api.SbiOk
}
