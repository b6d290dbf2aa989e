package hsm

import (
	"fmt"
	"testing"

	"suzerain/api"
)

// twin tells by what was called of each hart so far how it stands: a row of what came about, without tables of harts.
type twin struct {
	n    int
	came []event
}

// event is something that came about: "start", "run", "stop", "sleep".
type event struct {
	hart  int
	what  string
	fresh bool
	g     api.Go
}

// last is the last that came about of a hart.
func (w *twin) last(hart int) event {
	for i := len(w.came) - 1; i >= 0; i-- {
		if w.came[i].hart == hart {
			return w.came[i]
		}
	}
	if hart == 0 {
		return event{what: "run"}
	}
	return event{what: "stop"}
}

func (w *twin) status(hart uint64) (int, int) {
	if hart >= uint64(w.n) {
		return -3, 0
	}
	return 0, map[string]int{"run": 0, "stop": 1, "start": 2, "sleep": 4}[w.last(int(hart)).what]
}

func (w *twin) start(hart uint64, g api.Go) int {
	e, n := w.status(hart)
	switch {
	case e != 0:
		return -3
	case n != 1:
		return -6
	}
	w.came = append(w.came, event{int(hart), "start", true, g})
	return 0
}

func (w *twin) leave(hart int, what string, fresh bool, g api.Go) int {
	if hart < 0 || hart >= w.n || w.last(hart).what != "run" {
		return -1
	}
	w.came = append(w.came, event{hart, what, fresh, g})
	return 0
}

func (w *twin) pick(hart int, wakes bool) (api.Go, bool, bool) {
	if hart < 0 || hart >= w.n {
		return api.Go{}, false, false
	}
	was := w.last(hart)
	if was.what == "run" {
		return api.Go{}, false, true
	}
	if was.what == "stop" || was.what == "sleep" && !wakes {
		return api.Go{}, false, false
	}
	w.came = append(w.came, event{hart: hart, what: "run"})
	if was.fresh {
		return was.g, true, true
	}
	return api.Go{}, false, true
}

// both calls the same of both, and tells what was called and whether they told the same.
func both(x *Table, w *twin, d *dice) (string, bool) {
	hart := d.below(w.n+2) - 1
	g := api.Go{Addr: d.next(), Opaque: d.next()}
	flag := d.below(2) == 1
	switch d.below(5) {
	case 0:
		a, b := x.Start(uint64(hart), g), w.start(uint64(hart), g)
		return fmt.Sprintf("Start(%d) = %d, not %d", hart, a, b), a == b
	case 1:
		a, b := x.Stop(hart), w.leave(hart, "stop", false, api.Go{})
		return fmt.Sprintf("Stop(%d) = %d, not %d", hart, a, b), a == b
	case 2:
		a, b := x.Suspend(hart, flag, g), w.leave(hart, "sleep", flag, g)
		return fmt.Sprintf("Suspend(%d, %v) = %d, not %d", hart, flag, a, b), a == b
	}
	g1, fresh1, runs1 := x.Pick(hart, flag)
	g2, fresh2, runs2 := w.pick(hart, flag)
	said := fmt.Sprintf("Pick(%d, %v) = %v, %v, %v, not %v, %v, %v", hart, flag, g1, fresh1, runs1, g2, fresh2, runs2)
	return said, g1 == g2 && fresh1 == fresh2 && runs1 == runs2
}

// stands are the ways of all of them, and beyond.
func stands(x *Table) (out []int) {
	for hart := range uint64(9) {
		e, n := x.Status(hart)
		out = append(out, 100*e+n)
	}
	return out
}

// edge tells whether a hart may go from the one way to the other in one call.
func edge(from, to int) bool {
	switch [2]int{from, to} {
	case [2]int{1, 2}, [2]int{2, 0}, [2]int{0, 1}, [2]int{0, 4}, [2]int{4, 0}:
		return true
	}
	return from == to
}

// P18.1 to P18.4: over long rows of calls each answer is the twin's, one hart at most changes, and along the edges alone.
func TestP184MixedRows(t *testing.T) {
	d := dice(0x9E3779B97F4A7C15)
	for row := range 160 {
		n := row%8 + 1
		x, w := New(n), &twin{n: n}
		for call := range 300 {
			before := stands(x)
			if said, ok := both(x, w, &d); !ok {
				t.Fatalf("row %d, call %d: %s", row, call, said)
			}
			changed := 0
			for hart, now := range stands(x) {
				if now != before[hart] {
					changed++
				}
				if !edge(before[hart], now) {
					t.Fatalf("row %d, call %d: hart %d goes from %d to %d", row, call, hart, before[hart], now)
				}
				if e, want := w.status(uint64(hart)); now != 100*e+want {
					t.Fatalf("row %d, call %d: hart %d stands %d, not %d, %d", row, call, hart, now, e, want)
				}
			}
			if changed > 1 {
				t.Fatalf("row %d, call %d: %d harts change", row, call, changed)
			}
		}
	}
}

// P18.3 and R7: a clone that is made anywhere in a row goes on as one of its own, as its twin does.
func TestP183MixedClones(t *testing.T) {
	d := dice(0x2545F4914F6CDD1D)
	for row := range 60 {
		n := row%8 + 1
		x, w := New(n), &twin{n: n}
		for range d.below(40) {
			both(x, w, &d)
		}
		xs := []*Table{x, x.Clone()}
		ws := []*twin{w, {n: n, came: append([]event(nil), w.came...)}}
		xs, ws = append(xs, xs[1].Clone()), append(ws, &twin{n: n, came: append([]event(nil), w.came...)})
		for call := range 300 {
			i := d.below(3)
			if said, ok := both(xs[i], ws[i], &d); !ok {
				t.Fatalf("row %d, call %d of %d: %s", row, call, i, said)
			}
		}
	}
}

// P18.4: each call of each way of a hart: where it leads, and that it touches its own hart alone.
func TestP184EachEdge(t *testing.T) {
	calls := []struct {
		name string
		do   func(x *Table, hart int)
		to   map[int]int
	}{
		{"Start", func(x *Table, hart int) { x.Start(uint64(hart), place2()) }, map[int]int{1: 2}},
		{"Stop", func(x *Table, hart int) { x.Stop(hart) }, map[int]int{0: 1}},
		{"Suspend", func(x *Table, hart int) { x.Suspend(hart, false, place2()) }, map[int]int{0: 4}},
		{"Suspend fresh", func(x *Table, hart int) { x.Suspend(hart, true, place2()) }, map[int]int{0: 4}},
		{"Pick", func(x *Table, hart int) { x.Pick(hart, false) }, map[int]int{2: 0}},
		{"Pick, wakes", func(x *Table, hart int) { x.Pick(hart, true) }, map[int]int{2: 0, 4: 0}},
		{"Status", func(x *Table, hart int) { x.Status(uint64(hart)) }, nil},
		{"Clone", func(x *Table, hart int) { x.Clone().Stop(hart) }, nil},
	}
	for _, call := range calls {
		for hart := range 4 {
			for _, way := range fourWays() {
				ways := []int{0, 1, 2, 4}
				ways[hart] = way
				x := stand(t, ways...)
				call.do(x, hart)
				if to, turns := call.to[way]; turns {
					ways[hart] = to
				}
				standAs(t, x, ways...)
				if t.Failed() {
					t.Fatalf("%s of hart %d that stands %d", call.name, hart, way)
				}
			}
		}
	}
}

// P18.4: none gets from Stopped to where it runs without being started, however often it is picked.
func TestP184OnlyStarted(t *testing.T) {
	x := New(8)
	for range 50 {
		for hart := range 8 {
			x.Pick(hart, true)
			x.Pick(hart, false)
			if hart > 0 {
				same(t, "Stop", x.Stop(hart), -1)
				same(t, "Suspend", x.Suspend(hart, true, place1()), -1)
			}
		}
	}
	standAs(t, x, 0, 1, 1, 1, 1, 1, 1, 1)
}

// R1: a table that no New made has no hart, and no call of it panics.
func TestR1NoNew(t *testing.T) {
	var x Table
	for _, hart := range []int{-1, 0, 1, 7, 8} {
		x.Status(uint64(hart))
		x.Start(uint64(hart), place1())
		x.Stop(hart)
		x.Suspend(hart, true, place1())
		x.Pick(hart, true)
		x.Clone()
	}
}
