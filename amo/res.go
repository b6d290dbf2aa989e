package amo

import "suzerain/api"

// blockSize is how many bytes a reservation is of.
const blockSize = 8

// Res is a row of reservations, one place for each hart.
type Res struct {
	places [api.MaxHarts]place
}

// place is a hart's reservation, if it has one: the first address of its block.
type place struct {
	block uint64
	taken bool
}

// Fresh has none.
func Fresh() *Res {
	return &Res{}
}

// Set makes a hart's reservation, in the stead of the one that it has.
func (r *Res) Set(hart int, at uint64) {
	if isHart(hart) {
		r.places[hart] = reserve(at)
	}
}

// Take tells whether a hart has reserved the block of an address. Asking ends the reservation, whatever the answer.
func (r *Res) Take(hart int, at uint64) bool {
	if !isHart(hart) {
		return false
	}
	was := r.places[hart]
	r.places[hart] = place{}
	return was == reserve(at)
}

// Stored ends the other harts' reservations of what a hart stored into.
func (r *Res) Stored(hart int, at uint64, n int) {
	if !isHart(hart) || n < 1 {
		return
	}
	for other, p := range r.places {
		if other != hart && p.taken && meet(p.block, at, uint64(n)) {
			r.places[other] = place{}
		}
	}
}

// Has is the first address of a hart's block.
func (r *Res) Has(hart int) (uint64, bool) {
	if !isHart(hart) {
		return 0, false
	}
	p := r.places[hart]
	return p.block, p.taken
}

// Clone begins the same, and goes its own way.
func (r *Res) Clone() *Res {
	row := *r
	return &row
}

// reserve is a reservation of the block of an address.
func reserve(at uint64) place {
	return place{block: at - at%blockSize, taken: true}
}

// meet tells whether one of n bytes from at on is in a block. What has a byte in common begins in the other or holds its beginning; a distance that goes round serves stores that do.
func meet(block, at, n uint64) bool {
	return at-block < blockSize || block-at < n
}

func isHart(hart int) bool {
	return hart >= 0 && hart < api.MaxHarts
}
