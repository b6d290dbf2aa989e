package base

import "suzerain/api"

// names are the errors' names, by their numbers with the sign turned.
var names = [...]string{
	-api.SbiOk:             "ok",
	-api.SbiFailed:         "failed",
	-api.SbiNotSupported:   "not-supported",
	-api.SbiParam:          "invalid-param",
	-api.SbiDenied:         "denied",
	-api.SbiAddress:        "invalid-address",
	-api.SbiAvailable:      "already-available",
	-api.SbiAlreadyStarted: "already-started",
	-api.SbiAlreadyStopped: "already-stopped",
}

// all are the extensions, in the order they are told in. An array is a value: each caller has its own.
func all() [8]uint64 {
	return [...]uint64{
		api.ExtBase,
		api.ExtTime,
		api.ExtIpi,
		api.ExtRfence,
		api.ExtHsm,
		api.ExtSrst,
		api.ExtDbcn,
		api.ExtPmu,
	}
}

func oneIf(yes bool) uint64 {
	if yes {
		return 1
	}
	return 0
}
