// Package word is layer 1: numbers of 64 bits, as RISC-V has them: see shared/doc/01-word.md.
package word

import "math/bits"

// The kinds of Shift.
const (
	shiftLeft = iota
	shiftRight
	shiftRightSigned
)

// whole is what registers hold, read by 32 or by 64 bits, signed or not.
type whole interface {
	int32 | uint32 | int64 | uint64
}

// Sext extends a sign: bit bits-1 of x is copied to all bits above it.
func Sext(x uint64, bits int) uint64 {
	if bits < 1 || bits > 63 {
		return x
	}
	spare := uint(64 - bits)
	return uint64(int64(x<<spare) >> spare)
}

// High is the high half of a product.
func High(a, b uint64, signedA, signedB bool) uint64 {
	high, _ := bits.Mul64(a, b)
	// A negative number was read as 2^64 too much, so the product has the other factor 2^64 times too often.
	if signedA && int64(a) < 0 {
		high -= b
	}
	if signedB && int64(b) < 0 {
		high -= a
	}
	return high
}

// Shift shifts x by a number of bits, modulo 64; a kind that is none leaves x as it is.
func Shift(x uint64, by int, kind int) uint64 {
	// The low bits of a number below 0 are that number modulo 64 too.
	n := uint(by) & 63
	switch kind {
	case shiftLeft:
		return x << n
	case shiftRight:
		return x >> n
	case shiftRightSigned:
		return uint64(int64(x) >> n)
	}
	return x
}

// Div divides, rounded to 0.
func Div(a, b uint64, signed bool) uint64 {
	if signed {
		return uint64(quotient(int64(a), int64(b)))
	}
	return quotient(a, b)
}

// Rem is the rest of Div.
func Rem(a, b uint64, signed bool) uint64 {
	if signed {
		return uint64(rest(int64(a), int64(b)))
	}
	return rest(a, b)
}

// Div32 divides numbers of 32 bits; what comes of it is sign-extended, even where the numbers are not signed.
func Div32(a, b uint64, signed bool) uint64 {
	if signed {
		return uint64(quotient(int32(a), int32(b)))
	}
	return Sext(uint64(quotient(uint32(a), uint32(b))), 32)
}

// Rem32 is the rest of Div32.
func Rem32(a, b uint64, signed bool) uint64 {
	if signed {
		return uint64(rest(int32(a), int32(b)))
	}
	return Sext(uint64(rest(uint32(a), uint32(b))), 32)
}

// quotient answers all bits set where b is 0. The least signed number by -1 needs no case: Go's division wraps round to that number.
func quotient[T whole](a, b T) T {
	if b == 0 {
		return ^b
	}
	return a / b
}

// rest answers a where b is 0. The least signed number by -1 leaves 0 in Go too.
func rest[T whole](a, b T) T {
	if b == 0 {
		return a
	}
	return a % b
}
