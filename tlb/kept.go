package tlb

import "suzerain/api"

const (
	// offsetBits are those of an address that tell a byte of the smallest leaf; each level above has partBits more.
	offsetBits = 12
	partBits   = 9
)

// kept is a leaf, with the address and the asid that it was put for.
type kept struct {
	va, asid uint64
	leaf     api.Leaf
}

// covers tells whether an address is within the leaf. The shift has no sign, so that a level below those that there are is no panic either.
func (k kept) covers(va uint64) bool {
	return (k.va^va)>>uint(offsetBits+partBits*k.leaf.Level) == 0
}
