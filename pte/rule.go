package pte

import "suzerain/api"

// How many bits the parts of entries and of addresses have.
const (
	flagBits   = 10
	pageBits   = 44
	offsetBits = 12
	partBits   = 9
	levels     = 3
)

// signBit is the highest bit of an address that a table is asked by: those above it are as it is.
const signBit = offsetBits + partBits*levels - 1

// highBits are those of an entry behind its page.
const highBits = 1<<64 - 1<<(flagBits+pageBits)

// rule tells whether an entry is such as it asks for.
type rule func(e uint64) bool

func all(bits uint64) rule {
	return func(e uint64) bool { return e&bits == bits }
}

func some(bits uint64) rule {
	return func(e uint64) bool { return e&bits != 0 }
}

func none(bits uint64) rule {
	return func(e uint64) bool { return e&bits == 0 }
}

// always is of who may do it whatever the entry is.
func always(uint64) bool {
	return true
}

// never is of kinds and privileges that are none.
func never(uint64) bool {
	return false
}

// each tells whether an entry is such as all of them ask for.
func each(e uint64, rules ...rule) bool {
	for _, fits := range rules {
		if !fits(e) {
			return false
		}
	}
	return true
}

// byKind is what a kind of access asks for.
func byKind(kind int, status uint64) rule {
	switch kind {
	case api.Fetch:
		return all(api.PteX)
	case api.Load:
		if status&api.Mxr != 0 {
			return some(api.PteR | api.PteX)
		}
		return all(api.PteR)
	case api.Store:
		return all(api.PteW | api.PteD)
	}
	return never
}

// byPriv is what a privilege asks for.
func byPriv(kind, priv int, status uint64) rule {
	switch priv {
	case api.User:
		return all(api.PteU)
	case api.Super:
		// Sum lets a supervisor reach a user's pages, but never run what stands there.
		if kind != api.Fetch && status&api.Sum != 0 {
			return always
		}
		return none(api.PteU)
	}
	return never
}

func known(level int) bool {
	return level >= 0 && level < levels
}

// low are the lowest n bits of x.
func low(x uint64, n int) uint64 {
	return x & (1<<n - 1)
}
