package hsm

import (
	"fmt"
	"math"
	"testing"

	"suzerain/api"
)

const ones = 1<<64 - 1

// dice are numbers with bits all over, the same each time.
type dice uint64

func (d *dice) next() uint64 {
	x := *d
	x ^= x << 13
	x ^= x >> 7
	x ^= x << 17
	*d = x
	return uint64(x)
}

// below is a number of the dice below so many.
func (d *dice) below(n int) int {
	return int(d.next() >> 33 % uint64(n))
}

// place1 and the others are where harts go on: unlike in both numbers.
func place1() api.Go { return api.Go{Addr: 0x80000100, Opaque: 0x1122334455667788} }
func place2() api.Go { return api.Go{Addr: 0x80002222, Opaque: 9} }
func place3() api.Go { return api.Go{Addr: ones, Opaque: 1 << 63} }

// stand has each of the harts stand as it is told; a hart that is Suspended is so not fresh.
func stand(t *testing.T, ways ...int) *Table {
	t.Helper()
	x := New(len(ways))
	for i, way := range ways {
		stood := []int{}
		if i > 0 && way != api.Stopped {
			stood = append(stood, x.Start(uint64(i), place1()))
		}
		if i > 0 && (way == api.Started || way == api.Suspended) {
			x.Pick(i, false)
		}
		switch {
		case way == api.Suspended:
			stood = append(stood, x.Suspend(i, false, place3()))
		case i == 0 && way != api.Started:
			stood = append(stood, x.Stop(0))
		}
		if i == 0 && way == api.StartPending {
			stood = append(stood, x.Start(0, place1()))
		}
		for _, e := range stood {
			if e != 0 {
				t.Fatalf("%v: %d of hart %d", ways, e, i)
			}
		}
	}
	standAs(t, x, ways...)
	return x
}

// standAs holds how each hart stands against what is told.
func standAs(t *testing.T, x *Table, ways ...int) {
	t.Helper()
	if x.Len() != len(ways) {
		t.Errorf("Len() = %d, not %d", x.Len(), len(ways))
	}
	for i, way := range ways {
		if e, n := x.Status(uint64(i)); e != 0 || n != way {
			t.Errorf("Status(%d) = %d, %d, not 0, %d", i, e, n, way)
		}
	}
}

// picked holds a Pick against what it is to answer.
func picked(t *testing.T, x *Table, hart int, wakes bool, g api.Go, fresh, runs bool) {
	t.Helper()
	gotG, gotFresh, gotRuns := x.Pick(hart, wakes)
	if gotG != g || gotFresh != fresh || gotRuns != runs {
		t.Errorf("Pick(%d, %v) = %v, %v, %v, not %v, %v, %v", hart, wakes, gotG, gotFresh, gotRuns, g, fresh, runs)
	}
}

// same holds an error against what it is to be.
func same(t *testing.T, what string, got, want int) {
	t.Helper()
	if got != want {
		t.Errorf("%s = %d, not %d", what, got, want)
	}
}

// noHarts are numbers of none, of a table of so many.
func noHarts(n int) []uint64 {
	out := []uint64{uint64(n), uint64(n) + 1, 8, 9, 255, 256, 1 << 31, 1<<31 - 1, 1<<32 - 1, 1 << 63, 1<<63 - 1, ones, ones - 1}
	for hart := range uint64(n) {
		for bit := 3; bit < 64; bit++ {
			out = append(out, hart|1<<bit)
		}
		out = append(out, hart|0xFFFFFFFF<<32, ones-hart)
	}
	return out
}

// fourWays are the four that a hart can stand in.
func fourWays() []int {
	return []int{api.Started, api.Stopped, api.StartPending, api.Suspended}
}

// P18.1: of 1 to 8 as many; the first is Started, the others are Stopped.
func TestP181New(t *testing.T) {
	for n := 1; n <= 8; n++ {
		ways := []int{0, 1, 1, 1, 1, 1, 1, 1}[:n]
		standAs(t, New(n), ways...)
	}
}

// P18.1: below 1 one, above 8 eight.
func TestP181NewBounds(t *testing.T) {
	for _, n := range []int{0, -1, -2, -8, -9, math.MinInt, math.MinInt + 1, -1 << 32, 1 - 1<<32} {
		standAs(t, New(n), 0)
	}
	for _, n := range []int{9, 10, 16, 255, 256, 257, 1 << 32, 1<<32 + 1, math.MaxInt, math.MaxInt - 1} {
		standAs(t, New(n), 0, 1, 1, 1, 1, 1, 1, 1)
	}
}

// P18.1: the numbers of the four ways, by themselves.
func TestP181StatusNumbers(t *testing.T) {
	x := New(4)
	same(t, "Start(1)", x.Start(1, place1()), 0)
	same(t, "Start(2)", x.Start(2, place1()), 0)
	picked(t, x, 2, false, place1(), true, true)
	same(t, "Suspend(2)", x.Suspend(2, true, place2()), 0)
	for i, want := range []int{0, 2, 4, 1} {
		if e, n := x.Status(uint64(i)); e != 0 || n != want {
			t.Errorf("Status(%d) = %d, %d, not 0, %d", i, e, n, want)
		}
	}
}

// P18.1: each hart of each table, in each way.
func TestP181StatusEach(t *testing.T) {
	for n := 1; n <= 8; n++ {
		for hart := range n {
			for _, way := range fourWays() {
				ways := make([]int, n)
				for i := range ways {
					ways[i] = []int{1, 0, 4, 2}[(i+way)%4]
				}
				ways[hart] = way
				stand(t, ways...)
			}
		}
	}
}

// P18.1: of what is no hart SbiParam and 0, however the harts stand.
func TestP181StatusNone(t *testing.T) {
	for n := 1; n <= 8; n++ {
		for _, way := range fourWays() {
			ways := []int{way, way, way, way, way, way, way, way}[:n]
			x := stand(t, ways...)
			for _, hart := range noHarts(n) {
				if hart < uint64(n) {
					continue
				}
				if e, stands := x.Status(hart); e != -3 || stands != 0 {
					t.Errorf("of %d: Status(%#x) = %d, %d", n, hart, e, stands)
				}
			}
		}
	}
}

// P18.1: to be asked changes nothing.
func TestP181StatusChangesNothing(t *testing.T) {
	x := stand(t, api.StartPending, api.Suspended, api.Stopped, api.Started)
	for range 3 {
		for hart := range uint64(20) {
			x.Status(hart)
		}
		x.Len()
	}
	standAs(t, x, api.StartPending, api.Suspended, api.Stopped, api.Started)
	picked(t, x, 0, false, place1(), true, true)
}

// P18.2: of none SbiParam, and none changes.
func TestP182StartNone(t *testing.T) {
	for n := 1; n <= 8; n++ {
		x := New(n)
		same(t, "Stop(0)", x.Stop(0), 0)
		for _, hart := range noHarts(n) {
			if hart >= uint64(n) {
				same(t, fmt.Sprintf("of %d: Start(%#x)", n, hart), x.Start(hart, place1()), -3)
			}
		}
		standAs(t, x, []int{1, 1, 1, 1, 1, 1, 1, 1}[:n]...)
		same(t, "Start of the last", x.Start(uint64(n-1), place2()), 0)
		picked(t, x, n-1, false, place2(), true, true)
	}
}

// P18.2: one that does not stand Stopped is available already, and stays as it is.
func TestP182StartAvailable(t *testing.T) {
	ways := []int{api.Started, api.StartPending, api.Suspended, api.Started, api.StartPending, api.Suspended, api.Stopped}
	x := stand(t, ways...)
	for range 2 {
		for hart := range uint64(6) {
			same(t, fmt.Sprintf("Start(%d)", hart), x.Start(hart, place2()), -6)
		}
		standAs(t, x, ways...)
	}
	picked(t, x, 0, true, api.Go{}, false, true)
	picked(t, x, 1, true, place1(), true, true)
	picked(t, x, 2, true, api.Go{}, false, true)
	picked(t, x, 3, false, api.Go{}, false, true)
	picked(t, x, 4, false, place1(), true, true)
	picked(t, x, 5, true, api.Go{}, false, true)
}

// P18.2: what is refused leaves one that was suspended fresh as it is, its place among it.
func TestP182StartOfFresh(t *testing.T) {
	x := New(2)
	same(t, "Suspend", x.Suspend(0, true, place3()), 0)
	same(t, "Start", x.Start(0, place2()), -6)
	same(t, "Suspend", x.Suspend(0, false, place2()), -1)
	same(t, "Stop", x.Stop(0), -1)
	standAs(t, x, 4, 1)
	picked(t, x, 0, true, place3(), true, true)
}

// P18.2: one that is Stopped is StartPending then, and the others stay.
func TestP182Start(t *testing.T) {
	for n := 2; n <= 8; n++ {
		for hart := 1; hart < n; hart++ {
			x := New(n)
			ways := []int{0, 1, 1, 1, 1, 1, 1, 1}[:n]
			same(t, "Start", x.Start(uint64(hart), place2()), 0)
			ways[hart] = 2
			standAs(t, x, ways...)
		}
	}
	x := New(1)
	same(t, "Stop(0)", x.Stop(0), 0)
	same(t, "Start(0)", x.Start(0, place2()), 0)
	standAs(t, x, 2)
	picked(t, x, 0, false, place2(), true, true)
}

// P18.2: one that is Started stops, or suspends, and the others stay.
func TestP182StopSuspend(t *testing.T) {
	for hart := range 8 {
		for _, to := range []int{api.Stopped, api.Suspended} {
			for _, fresh := range []bool{false, true} {
				ways := []int{0, 0, 0, 0, 0, 0, 0, 0}
				x := stand(t, ways...)
				if to == api.Stopped {
					same(t, "Stop", x.Stop(hart), 0)
				} else {
					same(t, "Suspend", x.Suspend(hart, fresh, place2()), 0)
				}
				ways[hart] = to
				standAs(t, x, ways...)
			}
		}
	}
}

// P18.2: one that is not Started fails to, and stays as it is, where it goes on among it.
func TestP182StopSuspendNotStarted(t *testing.T) {
	ways := []int{api.Stopped, api.StartPending, api.Suspended, api.Suspended}
	x := stand(t, api.Stopped, api.StartPending, api.Suspended, api.Started)
	same(t, "Suspend(3)", x.Suspend(3, true, place3()), 0)
	for range 2 {
		for hart := range 4 {
			same(t, fmt.Sprintf("Stop(%d)", hart), x.Stop(hart), -1)
			same(t, fmt.Sprintf("Suspend(%d, true)", hart), x.Suspend(hart, true, place2()), -1)
			same(t, fmt.Sprintf("Suspend(%d, false)", hart), x.Suspend(hart, false, place2()), -1)
		}
		standAs(t, x, ways...)
	}
	picked(t, x, 0, true, api.Go{}, false, false)
	picked(t, x, 1, false, place1(), true, true)
	picked(t, x, 2, true, api.Go{}, false, true)
	picked(t, x, 3, true, place3(), true, true)
}

// P18.2: of none they fail too, below 0 as well, and nothing changes.
func TestP182StopSuspendNone(t *testing.T) {
	for n := 1; n <= 8; n++ {
		ways := []int{0, 0, 0, 0, 0, 0, 0, 0}[:n]
		x := stand(t, ways...)
		none := []int{-1, -2, -7, -8, -9, math.MinInt, math.MinInt + 1, math.MaxInt, -1 << 32, -1<<32 + 1, n, n + 1, 8, 9}
		for _, hart := range noHarts(n) {
			none = append(none, int(hart))
		}
		for _, hart := range none {
			if hart >= 0 && hart < n {
				continue
			}
			same(t, fmt.Sprintf("of %d: Stop(%d)", n, hart), x.Stop(hart), -1)
			same(t, fmt.Sprintf("of %d: Suspend(%d, true)", n, hart), x.Suspend(hart, true, place1()), -1)
			same(t, fmt.Sprintf("of %d: Suspend(%d, false)", n, hart), x.Suspend(hart, false, place1()), -1)
		}
		standAs(t, x, ways...)
	}
}

// P18.3: one that is StartPending goes on at its place, whether or not it wakes, and is Started then.
func TestP183PickPending(t *testing.T) {
	for _, wakes := range []bool{false, true} {
		for _, g := range []api.Go{place1(), place2(), place3(), {}, {Addr: 5}, {Opaque: 5}} {
			x := New(3)
			same(t, "Start", x.Start(2, g), 0)
			picked(t, x, 2, wakes, g, true, true)
			standAs(t, x, 0, 1, 0)
			picked(t, x, 2, wakes, api.Go{}, false, true)
			picked(t, x, 2, !wakes, api.Go{}, false, true)
		}
	}
}

// P18.3: one that is Suspended fresh sleeps till it wakes, and goes on at its place, once.
func TestP183PickFresh(t *testing.T) {
	for _, g := range []api.Go{place1(), place2(), place3(), {}, {Addr: 5}, {Opaque: 5}} {
		x := New(2)
		same(t, "Suspend", x.Suspend(0, true, g), 0)
		for range 3 {
			picked(t, x, 0, false, api.Go{}, false, false)
			standAs(t, x, 4, 1)
		}
		picked(t, x, 0, true, g, true, true)
		standAs(t, x, 0, 1)
		picked(t, x, 0, true, api.Go{}, false, true)
		picked(t, x, 0, false, api.Go{}, false, true)
	}
}

// P18.3: one that is Suspended where it was sleeps too, and tells nothing of a place, that it was handed or that it had.
func TestP183PickNotFresh(t *testing.T) {
	x := New(2)
	same(t, "Start", x.Start(1, place1()), 0)
	picked(t, x, 1, false, place1(), true, true)
	for _, g := range []api.Go{{}, place2(), place3()} {
		same(t, "Suspend", x.Suspend(1, false, g), 0)
		for range 3 {
			picked(t, x, 1, false, api.Go{}, false, false)
			standAs(t, x, 0, 4)
		}
		picked(t, x, 1, true, api.Go{}, false, true)
		standAs(t, x, 0, 0)
	}
	same(t, "Suspend fresh", x.Suspend(1, true, place3()), 0)
	picked(t, x, 1, true, place3(), true, true)
	same(t, "Suspend not fresh", x.Suspend(1, false, place2()), 0)
	picked(t, x, 1, true, api.Go{}, false, true)
}

// P18.3: one that is Started runs on, one that is Stopped does not, nor one that is none.
func TestP183PickOthers(t *testing.T) {
	x := New(3)
	same(t, "Start", x.Start(2, place1()), 0)
	picked(t, x, 2, true, place1(), true, true)
	same(t, "Stop", x.Stop(2), 0)
	none := []int{-1, -2, -8, math.MinInt, math.MinInt + 1, math.MaxInt, 3, 4, 8, 1 << 32, 1<<32 + 1, -1 << 32}
	for _, wakes := range []bool{false, true} {
		for range 2 {
			picked(t, x, 0, wakes, api.Go{}, false, true)
			picked(t, x, 1, wakes, api.Go{}, false, false)
			picked(t, x, 2, wakes, api.Go{}, false, false)
			for _, hart := range none {
				picked(t, x, hart, wakes, api.Go{}, false, false)
			}
			standAs(t, x, 0, 1, 1)
		}
	}
}

// P18.3: each goes on at its own place, and at that it was told last.
func TestP183PickOwnPlace(t *testing.T) {
	x := New(8)
	at := func(hart, round int) api.Go {
		return api.Go{Addr: uint64(0x1000*round + hart), Opaque: uint64(0x100*hart + round)}
	}
	for round := 1; round < 4; round++ {
		for hart := 1; hart < 8; hart++ {
			same(t, "Start", x.Start(uint64(hart), at(hart, round)), 0)
		}
		same(t, "Suspend(0)", x.Suspend(0, true, at(0, round)), 0)
		for _, hart := range []int{5, 2, 7, 0, 1, 3, 6, 4} {
			picked(t, x, hart, true, at(hart, round), true, true)
			picked(t, x, hart, true, api.Go{}, false, true)
		}
		for hart := 1; hart < 8; hart++ {
			same(t, "Suspend", x.Suspend(hart, true, at(hart, round+50)), 0)
		}
		for hart := 7; hart >= 1; hart-- {
			picked(t, x, hart, true, at(hart, round+50), true, true)
			same(t, "Stop", x.Stop(hart), 0)
		}
	}
}

// The chapter's example.
func TestP183Example(t *testing.T) {
	x := New(2)
	same(t, "Start(1, g)", x.Start(1, place1()), 0)
	if e, n := x.Status(1); e != 0 || n != 2 {
		t.Errorf("Status(1) = %d, %d", e, n)
	}
	picked(t, x, 1, false, place1(), true, true)
}

// P18.3: a clone stands as what it was made of, and neither sees what is done of the other.
func TestP183Clone(t *testing.T) {
	ways := []int{api.Started, api.Stopped, api.StartPending, api.Suspended, api.Suspended}
	x := stand(t, 0, 1, 2, 4, 0)
	same(t, "Suspend", x.Suspend(4, true, place2()), 0)
	c, d := x.Clone(), x.Clone()
	change := func(x *Table) {
		same(t, "Stop(0)", x.Stop(0), 0)
		same(t, "Start(1)", x.Start(1, place3()), 0)
		picked(t, x, 2, false, place1(), true, true)
		picked(t, x, 3, true, api.Go{}, false, true)
		picked(t, x, 4, true, place2(), true, true)
		standAs(t, x, 1, 2, 0, 0, 0)
	}
	change(x)
	standAs(t, c, ways...)
	standAs(t, d, ways...)
	change(c)
	standAs(t, x, 1, 2, 0, 0, 0)
	standAs(t, d, ways...)
	e := d.Clone()
	change(e)
	standAs(t, d, ways...)
	change(d)
	picked(t, x, 1, false, place3(), true, true)
	picked(t, c, 1, false, place3(), true, true)
}

// P18.3: a clone of each size has that size.
func TestP183CloneLen(t *testing.T) {
	for n := 1; n <= 8; n++ {
		standAs(t, New(n).Clone(), []int{0, 1, 1, 1, 1, 1, 1, 1}[:n]...)
	}
}
