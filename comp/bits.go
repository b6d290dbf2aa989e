package comp

// get is the number that some bits of a half are, from low on.
func get(h uint16, low, many uint) int {
	return int(h>>low) & (1<<many - 1)
}

// regR and regS are the registers that five bits name.
func regR(h uint16) int { return get(h, 7, 5) }

func regS(h uint16) int { return get(h, 2, 5) }

// shortR and shortS are those that three bits name: 8 to 15 alone.
func shortR(h uint16) int { return get(h, 7, 3) + 8 }

func shortS(h uint16) int { return get(h, 2, 3) + 8 }

// number is made of bits of a half, that of its highest one first. A 0 names a bit 0: the half's own lowest bit is in no number.
func number(h uint16, from ...uint) int64 {
	n := int64(0)
	for _, k := range from {
		n *= 2
		if k != 0 {
			n += int64(get(h, k, 1))
		}
	}
	return n
}

// signed is a number whose highest bit, which is named apart, counts below 0.
func signed(h uint16, sign uint, from ...uint) int64 {
	return number(h, from...) - number(h, sign)<<len(from)
}

// The numbers that several forms share.

func small(h uint16) int64 { return signed(h, 12, 6, 5, 4, 3, 2) }

func shift(h uint16) int64 { return number(h, 12, 6, 5, 4, 3, 2) }

func wordAt(h uint16) int64 { return number(h, 5, 12, 11, 10, 6, 0, 0) }

func doubleAt(h uint16) int64 { return number(h, 6, 5, 12, 11, 10, 0, 0, 0) }

func branchBy(h uint16) int64 { return signed(h, 12, 6, 5, 2, 11, 10, 4, 3, 0) }
