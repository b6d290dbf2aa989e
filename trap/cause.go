package trap

import "suzerain/api"

// interruptBit is what Cause has more of an interrupt.
const interruptBit = 1 << 63

// How Tvec says where a trap goes: its lowest bits are no part of the address, and one of them has each interrupt go to a place of its own.
const (
	modeBits   = 3
	eachBit    = 1
	placeBytes = 4
)

// interrupts are those that a supervisor takes, the one that goes ahead first.
var interrupts = [...]int{api.IntSoft, api.IntTimer}

// causeOf is what Cause is. It adds, so that a cause below 0 goes round as any number does.
func causeOf(interrupt bool, cause int) uint64 {
	if interrupt {
		return uint64(cause) + interruptBit
	}
	return uint64(cause)
}

// handler is where a trap goes on.
func handler(tvec uint64, interrupt bool, cause int) uint64 {
	at := tvec &^ modeBits
	if interrupt && tvec&eachBit != 0 {
		at += placeBytes * uint64(cause)
	}
	return at
}

// first is the interrupt that goes ahead of those that are there and wanted.
func first(c api.Csrs) (int, bool) {
	both := c.Ip & c.Ie
	for _, cause := range interrupts {
		if both>>cause&1 != 0 {
			return cause, true
		}
	}
	return 0, false
}

// lets tells whether who runs lets itself be interrupted: a user has no say in it.
func lets(c api.Csrs, priv int) bool {
	switch priv {
	case api.User:
		return true
	case api.Super:
		return c.Status&api.Sie != 0
	}
	return false
}
