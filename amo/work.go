package amo

import "suzerain/api"

// work is what stands in memory, of what was found and a register's number.
type work func(old, b uint64) uint64

// works are those of 64 bits.
func works() map[int]work {
	return map[int]work{
		api.OpScd: second, api.OpSwapd: second,
		api.OpAddad: sum, api.OpXorad: xor, api.OpAndad: and, api.OpOrad: or,
		api.OpMinad: smallerSigned, api.OpMaxad: greaterSigned,
		api.OpMinuad: smaller, api.OpMaxuad: greater,
	}
}

func second(_, b uint64) uint64 { return b }

func sum(old, b uint64) uint64 { return old + b }

func xor(old, b uint64) uint64 { return old ^ b }

func and(old, b uint64) uint64 { return old & b }

func or(old, b uint64) uint64 { return old | b }

func smaller(old, b uint64) uint64 { return min(old, b) }

func greater(old, b uint64) uint64 { return max(old, b) }

func smallerSigned(old, b uint64) uint64 { return uint64(min(int64(old), int64(b))) }

func greaterSigned(old, b uint64) uint64 { return uint64(max(int64(old), int64(b))) }
