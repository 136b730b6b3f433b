package convert

import (
	"fmt"
	"slices"
	"testing"

	"pintle/api"
	"pintle/area"
	"pintle/device"
	"pintle/image"
	"pintle/slots"
)

// model is what an image should know, by another reading of the chapter.
type model struct {
	s     slots.Super
	state image.State
}

// fits is the error of a conversion.
func (x model) fits(t *testing.T, goal int) api.Errno {
	t.Helper()
	if x.s.Goal > 0 {
		return api.ErrBusy
	}
	if goal+x.s.Version != 3 || goal < 1 || goal > 2 {
		return api.ErrArg
	}
	for _, e := range x.state.Log {
		if e.Kind == api.Swap && goal == 1 {
			return api.ErrLevel
		}
	}
	if len(snapBytes(goal, x.state.Snap)) > 64*x.s.Snap || len(records(t, goal, x.state.Log)) > 64*x.s.Log {
		return api.ErrFull
	}
	return api.OK
}

// steps is the Supers of a conversion from where it stands on; nothing, if there is none.
func (x model) steps() []model {
	var l []model
	for x.s.Goal != 0 {
		if x.s.Step == 3 {
			x.s = turned(x.s)
		} else {
			x.s.Step++
		}
		l = append(l, x)
	}
	return l
}

// attempt is a call, the error that it is to have with no crash, and what may be kept behind it, the last being all of it.
type attempt struct {
	name string
	call doing
	want api.Errno
	to   []model
}

// drawn is what a course draws: below a number.
type drawn func(most int) int

// next is a call.
func (draw drawn) next(t *testing.T, x model, term uint64) attempt {
	t.Helper()
	goal := 1 + draw(2)
	if draw(8) == 0 {
		goal = draw(6) - 1
	}
	begun := x
	begun.s.Goal, begun.s.Step = goal, 1
	none := api.OK
	if x.s.Goal == 0 {
		none = api.ErrNone
	}
	switch draw(10) {
	case 0, 1:
		return attempt{"Begin", beginning(goal), x.fits(t, goal), []model{begun}}
	case 2:
		a := attempt{"Run", running(goal), x.fits(t, goal), nil}
		if a.want == api.OK {
			a.to = append([]model{begun}, begun.steps()...)
		}
		return a
	case 3, 4:
		a := attempt{"Step", Step, none, nil}
		if none == api.OK {
			a.to = x.steps()[:1]
		}
		return a
	case 5:
		return attempt{"Resume", Resume, api.OK, append([]model{x}, x.steps()...)}
	case 6:
		if draw(2) == 0 {
			x.s.Goal, x.s.Step = 0, 0
			return attempt{"Abort", Abort, none, []model{x}}
		}
	}
	return draw.other(t, x, term)
}

// changing is a call of chapter 12, as one of this layer.
func changing(call func(m *image.Image) api.Errno) doing {
	return func(m *image.Image) (*image.Image, api.Errno) {
		if e := call(m); e != api.OK {
			return nil, e
		}
		return m, api.OK
	}
}

// other is a call that changes the state.
func (draw drawn) other(t *testing.T, x model, term uint64) attempt {
	t.Helper()
	want := api.OK
	if x.s.Goal != 0 {
		want = api.ErrBusy
	}
	if draw(4) == 0 {
		h := slots.Hard{Term: term, Vote: draw(8), Commit: uint64(draw(400))}
		x.state.Hard = h
		return attempt{"SetHard", changing(func(m *image.Image) api.Errno { return m.SetHard(h) }), want, []model{x}}
	}
	snap := area.Snap{Index: x.state.Snap.Index + uint64(draw(5)), Term: term, Data: mixed(draw(64*x.s.Snap - 27))}
	if draw(3) == 0 {
		snap.Data = mixed(64*x.s.Snap - 26 + draw(3)) // at the edge of what has room
	}
	var l []api.Entry
	for k := range draw(1 + x.s.Log/2) {
		e := noop(term, snap.Index+uint64(k)+1)
		if draw(3) == 0 {
			e = write(term, e.Index, mixed(draw(65)))
		}
		if x.s.Version == 2 && draw(25) == 0 {
			e = swap(term, e.Index)
		}
		l = append(l, e)
	}
	if len(records(t, x.s.Version, l)) > 64*x.s.Log || len(snapBytes(x.s.Version, snap)) > 64*x.s.Snap {
		l, snap.Data = nil, ""
	}
	x.state.Snap, x.state.Log = snap, l
	x.s.Area, x.s.Half = 1-x.s.Area, 1-x.s.Half
	return attempt{"Lay", changing(func(m *image.Image) api.Errno { return m.Lay(snap, l) }), want, []model{x}}
}

// course is so many calls, with crashes between, held against the model; it tells how often each error came, of each call.
func course(t *testing.T, draw drawn, s slots.Super, calls int) map[string]int {
	t.Helper()
	x := model{s: s}
	m := mounted(t, s, x.state)
	told := map[string]int{}
	for k := range calls {
		a := draw.next(t, x, uint64(k+3))
		d := m.Device()
		d.Arm(draw(40) - 20)
		n, e := a.call(m)
		told[fmt.Sprint(a.name, " ", e)]++
		crash := e == api.ErrCrash && d.Crashed()
		if e != a.want && !crash || (n != nil) != (e == api.OK) {
			t.Fatalf("call %d, %s: error %d, not %d", k, a.name, e, a.want)
		}
		if crash {
			m = comesBack(t, draw, d)
			x = matched(t, m, append(a.to, x))
		} else if e == api.OK {
			m, x = n, a.to[len(a.to)-1]
		}
		m.Device().Arm(-1)
		knows(t, fmt.Sprint("call ", k, ", ", a.name), m, x.s, x.state)
		for goal := range 4 {
			if got, want := Fits(m, goal), x.fits(t, goal); got != want {
				t.Errorf("call %d, %s: Fits(%d) is %d, not %d", k, a.name, goal, got, want)
			}
		}
		if t.Failed() {
			t.FailNow()
		}
	}
	keeps(t, "in the end", m.Device(), x.s, x.state)
	return told
}

// comesBack is the image of a device that has crashed, of which some is lost, and which crashes further while it is mounted.
func comesBack(t *testing.T, draw drawn, d *device.Device) *image.Image {
	t.Helper()
	for {
		d = d.After(slices.DeleteFunc(d.Waiting(), func(int) bool { return draw(2) == 0 }))
		d.Arm(draw(8) - 4)
		m, e := image.Mount(d)
		if e == api.OK {
			return m
		}
		if e != api.ErrCrash {
			t.Fatalf("Mount is %d", e)
		}
	}
}

// matched is which of these it is that the image knows.
func matched(t *testing.T, m *image.Image, all []model) model {
	t.Helper()
	for _, x := range all {
		if m.Super() == x.s && same(m.State(), x.state) {
			return x
		}
	}
	t.Fatalf("behind a crash there is %v\n%s", m.Super(), tell(m.State()))
	return model{}
}

// P13.1 to P13.3: long courses of calls and crashes.
func TestCourse(t *testing.T) {
	told := map[string]int{}
	for k, s := range supers() {
		n := uint32(k)
		draw := func(most int) int {
			n = n*1664525 + 1013904223
			return int(n>>8) % most
		}
		s.Snap, s.Log = 1+k%3, 6+k
		for name, times := range course(t, draw, s, 1500) {
			told[name] += times
		}
	}
	for _, name := range []string{
		"Begin 0", "Begin 1", "Begin 4", "Begin 7", "Begin 8", "Begin 10",
		"Run 0", "Run 1", "Run 4", "Run 7", "Run 8", "Run 10",
		"Step 0", "Step 6", "Step 7", "Resume 0", "Resume 7", "Abort 0", "Abort 6", "Abort 7",
		"Lay 0", "Lay 7", "Lay 10", "SetHard 0", "SetHard 7", "SetHard 10",
	} {
		if told[name] < 15 {
			t.Errorf("%s came %d times", name, told[name])
		}
	}
}

// FuzzCourse: as of TestCourse, with what is drawn told by the bytes.
func FuzzCourse(f *testing.F) {
	f.Add([]byte{})
	f.Add([]byte(mixed(300)))
	f.Fuzz(func(t *testing.T, b []byte) {
		draw := func(most int) int {
			if len(b) == 0 {
				return most - 1 // which crashes no more
			}
			n := int(b[0]) % most
			b = b[1:]
			return n
		}
		s := slots.Super{Version: 1 + draw(2), Snap: 1 + draw(2), Log: 2 + draw(9), Area: draw(2), Half: draw(2)}
		course(t, draw, s, min(60, len(b)))
	})
}
