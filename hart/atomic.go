package hart

import (
	"suzerain/amo"
	"suzerain/api"
)

func (d *doing) atomic() api.Fault {
	at, fault := d.place()
	if fault.Is {
		return fault
	}
	switch d.Op {
	case api.OpLrw, api.OpLrd:
		return d.reserve(at)
	case api.OpScw, api.OpScd:
		return d.conditional(at)
	}
	return d.exchange(at)
}

// place is the real address that an atomic op works at: unlike that of a load or a store it must be aligned.
func (d *doing) place() (uint64, api.Fault) {
	kind, cause := api.Store, api.CauseAmoAlign
	if d.Op == api.OpLrw || d.Op == api.OpLrd {
		kind, cause = api.Load, api.CauseLoadAlign
	}
	a, n := d.a(), amo.Size(d.Op)
	if a%uint64(n) != 0 {
		return 0, api.Fault{Is: true, Cause: cause, Val: a}
	}
	return d.To(d.C, d.Priv, kind, a, n)
}

func (d *doing) reserve(at uint64) api.Fault {
	d.res.Set(d.id, at)
	return d.tell(amo.Told(d.Op, d.old(at)))
}

func (d *doing) conditional(at uint64) api.Fault {
	if !d.res.Take(d.id, at) {
		return d.tell(1)
	}
	d.put(at, d.b())
	return d.tell(0)
}

func (d *doing) exchange(at uint64) api.Fault {
	old := d.old(at)
	d.put(at, amo.New(d.Op, old, d.b()))
	return d.tell(amo.Told(d.Op, old))
}

// old is what stands at a real address; it was found to be there.
func (d *doing) old(at uint64) uint64 {
	x, _ := d.M.Get(at, amo.Size(d.Op))
	return x
}

// put stores at a real address, and ends what others have reserved there.
func (d *doing) put(at, x uint64) {
	n := amo.Size(d.Op)
	d.M.Put(at, n, x)
	d.res.Stored(d.id, at, n)
}
