package trap

import "suzerain/api"

// entered is Status behind a trap. It is made bit by bit, not by a write of csr, as that would take from it what else stands there.
func entered(status uint64, priv int) uint64 {
	status = with(status, api.Spie, status&api.Sie != 0)
	status = with(status, api.Sie, false)
	return with(status, api.Spp, priv == api.Super)
}

// left is Status behind a way back, bit by bit too.
func left(status uint64) uint64 {
	status = with(status, api.Sie, status&api.Spie != 0)
	status = with(status, api.Spie, true)
	return with(status, api.Spp, false)
}

// with is a number with a bit set, or not.
func with(x, bit uint64, set bool) uint64 {
	if set {
		return x | bit
	}
	return x &^ bit
}
