package alu

import "suzerain/word"

// The kinds of word's Shift.
const (
	shiftLeft = iota
	shiftRight
	shiftRightSigned
)

// The bits of a number, and those of its lower half.
const (
	width     = 64
	halfWidth = 32
)

// work is what two numbers become.
type work func(a, b uint64) uint64

// test is what may hold of two numbers.
type test func(a, b uint64) bool

func sum(a, b uint64) uint64 { return a + b }

func difference(a, b uint64) uint64 { return a - b }

func product(a, b uint64) uint64 { return a * b }

func xor(a, b uint64) uint64 { return a ^ b }

func or(a, b uint64) uint64 { return a | b }

func and(a, b uint64) uint64 { return a & b }

func same(a, b uint64) bool { return a == b }

func less(a, b uint64) bool { return a < b }

func lessSigned(a, b uint64) bool { return int64(a) < int64(b) }

// not holds where a test does not.
func not(t test) test {
	return func(a, b uint64) bool { return !t(a, b) }
}

// flag is 1 where a test holds, and else 0.
func flag(t test) work {
	return func(a, b uint64) uint64 {
		if t(a, b) {
			return 1
		}
		return 0
	}
}

// low is the lower half alone, not signed.
func low(a uint64) uint64 { return a % (1 << halfWidth) }

// lowSigned is the lower half alone, signed.
func lowSigned(a uint64) uint64 { return word.Sext(a, halfWidth) }

// lower makes a work of 64 bits one of 32. It serves those alone whose lower half hangs on no higher half.
func lower(w work) work {
	return func(a, b uint64) uint64 { return lowSigned(w(a, b)) }
}

// shift shifts by one of word's kinds.
func shift(kind int) work {
	return func(a, b uint64) uint64 { return word.Shift(a, int(b%width), kind) }
}

// shift32 reads the lower half first, as a shift to the right would bring down what stands above it.
func shift32(read func(a uint64) uint64, kind int) work {
	return func(a, b uint64) uint64 {
		return lowSigned(word.Shift(read(a), int(b%halfWidth), kind))
	}
}

// high is the high half of a product.
func high(signedA, signedB bool) work {
	return func(a, b uint64) uint64 { return word.High(a, b, signedA, signedB) }
}

// divide is one of word's divisions or rests, signed or not.
func divide(by func(a, b uint64, signed bool) uint64, signed bool) work {
	return func(a, b uint64) uint64 { return by(a, b, signed) }
}
