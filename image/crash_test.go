package image

import (
	"fmt"
	"slices"
	"testing"

	"pintle/api"
	"pintle/area"
	"pintle/device"
	"pintle/slots"
	"pintle/wal"
)

// some is all ways to choose some of these; of many, such that of each two neither, either, and both are in one.
func some(l []int) [][]int {
	if len(l) > 6 {
		var out [][]int
		for from := range len(l) {
			for to := from; to <= len(l); to++ {
				out = append(out, l[from:to], slices.Concat(l[:from], l[to:]))
			}
		}
		return out
	}
	all := [][]int{nil}
	for _, n := range l {
		for _, chosen := range slices.Clone(all) {
			all = append(all, append(slices.Clone(chosen), n))
		}
	}
	return all
}

// change is a call, and what is kept behind it, by the number of its entries that were kept if it may be some; the last is all of it.
type change struct {
	name string
	call func(m *Image) api.Errno
	to   []State
}

// changes are some that may be done to that state.
func changes(state State) []change {
	base, last := state.Snap.Index, state.Snap.Index+uint64(len(state.Log))
	h := slots.Hard{Term: 99, Vote: 5, Commit: last}
	hard := state
	hard.Hard = h
	snap := area.Snap{Index: last + 1, Term: 50, Data: mixed(90)}
	laid := State{Hard: state.Hard, Snap: snap, Log: []api.Entry{write(50, last+2, "laid"), noop(51, last+3)}}
	compacted := State{Hard: state.Hard, Snap: snap}
	behind := State{Hard: state.Hard, Snap: area.Snap{Index: base + 1, Term: 1, Data: "behind"}, Log: state.Log[1:]}
	list := []change{
		{"SetHard", func(m *Image) api.Errno { return m.SetHard(h) }, []State{hard}},
		{"Lay", func(m *Image) api.Errno { return m.Lay(laid.Snap, laid.Log) }, []State{laid}},
		{"Compact of all", func(m *Image) api.Errno { return m.Compact(snap) }, []State{compacted}},
		{"Compact of one", func(m *Image) api.Errno { return m.Compact(behind.Snap) }, []State{behind}},
	}
	for _, l := range [][]api.Entry{
		{noop(9, last+1)},
		{write(9, last+1, mixed(64)), noop(9, last+2)},
		{noop(8, last+1), write(9, last+2, "two"), noop(9, last+3)},
		{noop(9, base+1), noop(9, base+2)},
		{noop(9, last), write(9, last+1, mixed(30)), noop(9, last+2)},
	} {
		c := change{"Append", func(m *Image) api.Errno { return m.Append(l) }, nil}
		for k := range len(l) {
			next := state
			next.Log = append(slices.Clone(state.Log[:l[0].Index-base-1]), l[:k+1]...)
			c.to = append(c.to, next)
		}
		list = append(list, c)
	}
	return list
}

// goesOn asks whether what is found is all that counts: nothing that was left behind it comes back.
func goesOn(t *testing.T, what string, m *Image) {
	t.Helper()
	state, s := m.State(), m.Super()
	for k := range 2 {
		state.Log = append(state.Log, noop(uint64(200+k), state.Snap.Index+uint64(len(state.Log))+1))
		e := m.Append(state.Log[len(state.Log)-1:])
		if e == api.ErrFull {
			return
		}
		if e != api.OK {
			t.Errorf("%s: Append behind it is %d", what, e)
		}
		keeps(t, what+", appended", m.Device(), s, state)
	}
}

// P12.5: behind a crash in each step of each call, whichever sectors are lost, the state is the old one or the new one, or, of Append, that with its first entries.
func TestCrash(t *testing.T) {
	found := map[string]int{}
	for _, s := range []slots.Super{{Version: 1, Snap: 2, Log: 10}, {Version: 2, Snap: 2, Log: 5, Area: 1}, {Version: 1, Snap: 3, Log: 12, Area: 1, Half: 1}, {Version: 2, Snap: 2, Log: 6, Half: 1}} {
		for _, state := range []State{
			{Log: []api.Entry{noop(1, 1)}},
			{Hard: slots.Hard{Term: 3, Vote: 2, Commit: 1}, Snap: area.Snap{Index: 7, Term: 1, Data: mixed(80)}, Log: []api.Entry{noop(1, 8), write(2, 9, "nine")}},
		} {
			for _, c := range changes(state) {
				for step := 0; ; step++ {
					m := mounted(t, s, state)
					m.Device().Arm(step)
					e := c.call(m)
					if e == api.OK {
						break
					}
					if e != api.ErrCrash {
						t.Fatalf("%s: error %d", c.name, e)
					}
					knows(t, c.name, m, s, state)
					for _, lost := range some(m.Device().Waiting()) {
						what := fmt.Sprint(c.name, ", a crash in step ", step, ", lost ", lost)
						n := mount(t, m.Device().After(lost))
						k := slices.IndexFunc(c.to, func(x State) bool { return same(x, n.State()) })
						if k < 0 && !same(state, n.State()) {
							t.Errorf("%s: State is\n%s", what, tell(n.State()))
						}
						found[fmt.Sprint(c.name, " ", k)]++
						goesOn(t, what, n)
					}
				}
			}
		}
	}
	for _, one := range []string{"SetHard -1", "SetHard 0", "Lay -1", "Lay 0", "Compact of all 0", "Compact of one 0", "Append -1", "Append 0", "Append 1", "Append 2"} {
		if found[one] == 0 {
			t.Errorf("no crash leads to %s", one)
		}
	}
}

// P12.5: what is done is kept, however much is lost behind it.
func TestDone(t *testing.T) {
	for _, s := range []slots.Super{{Version: 1, Snap: 2, Log: 12}, {Version: 2, Snap: 2, Log: 8, Area: 1, Half: 1}} {
		state := State{Snap: area.Snap{Index: 7, Term: 1, Data: "seven"}, Log: []api.Entry{noop(1, 8), write(2, 9, "nine")}}
		for _, c := range changes(state) {
			m := mounted(t, s, state)
			if e := c.call(m); e != api.OK {
				t.Errorf("%s: error %d", c.name, e)
			}
			want := c.to[len(c.to)-1]
			knows(t, c.name, m, m.Super(), want)
			keeps(t, c.name, m.Device(), m.Super(), want)
			goesOn(t, c.name, m)
		}
	}
}

// P12.5: a crash of Mount, in each step, whichever sectors are lost, changes nothing of what is kept; and another one behind it.
func TestMountCrash(t *testing.T) {
	for _, s := range []slots.Super{{Version: 1, Snap: 1, Log: 9}, {Version: 2, Snap: 1, Log: 6, Half: 1}} {
		for _, state := range []State{{}, {Log: []api.Entry{noop(1, 1), write(1, 2, "two")}}} {
			p := usual(t, s, state)
			left := records(t, s.Version, []api.Entry{write(2, 9, mixed(64)), noop(2, 10)})
			if s.Version == 1 {
				left = null(64) + left // as if its first sector were lost
			} else {
				left = left[:3] + null(61) + left
			}
			p.half[s.Half] += left
			mountCrash(t, made(t, p.bytes()), s, state, 2)
		}
	}
}

// mountCrash asks it of a device that keeps that, so many crashes deep.
func mountCrash(t *testing.T, d *device.Device, s slots.Super, state State, deep int) {
	t.Helper()
	for step := 0; ; step++ {
		x := d.After(nil)
		x.Arm(step)
		m, e := Mount(x)
		if e == api.OK {
			x.Arm(-1)
			knows(t, "mounted", m, s, state)
			goesOn(t, "mounted", m)
			return
		}
		if m != nil || e != api.ErrCrash {
			t.Errorf("Mount is %v, %d", m, e)
		}
		if deep == 0 {
			continue
		}
		for _, lost := range some(x.Waiting()) {
			mountCrash(t, x.After(lost), s, state, deep-1)
		}
	}
}

// model is what an image should know, by another reading of the chapter.
type model struct {
	s     slots.Super
	state State
	used  int
}

// appended is the model with more entries; false, if they may not be appended.
func (x model) appended(l []api.Entry) (model, bool) {
	log := slices.Clone(x.state.Log)
	for _, e := range l {
		if e.Index <= x.state.Snap.Index {
			return x, false
		}
		at := e.Index - x.state.Snap.Index - 1
		if at > uint64(len(log)) {
			return x, false
		}
		log = append(log[:at], e)
	}
	x.state.Log = log
	return x, true
}

// laid is the model with that in the place of all; false, if it may not be.
func (x model) laid(s area.Snap, l []api.Entry) (model, bool) {
	if s.Index < x.state.Snap.Index {
		return x, false
	}
	for k, e := range l {
		if e.Index != s.Index+uint64(k)+1 {
			return x, false
		}
	}
	x.s.Area, x.s.Half = 1-x.s.Area, 1-x.s.Half
	x.state.Snap, x.state.Log = s, l
	return x, true
}

// behind is the log that stays.
func (x model) behind(s area.Snap) []api.Entry {
	known := x.state.Snap.Index == s.Index && x.state.Snap.Term == s.Term
	var l []api.Entry
	for _, e := range x.state.Log {
		if e.Index > s.Index {
			l = append(l, e)
		}
		known = known || e.Index == s.Index && e.Term == s.Term
	}
	if !known {
		return nil
	}
	return l
}

// attempt is a call, the error that it is to have with no crash, and what may be kept behind it, the last being all of it.
type attempt struct {
	call func(m *Image) api.Errno
	want api.Errno
	to   []model
}

// drawn is what a course draws: below a number.
type drawn func(most int) int

// entries is some, about the end of that log.
func (draw drawn) entries(state State, term uint64) []api.Entry {
	l := make([]api.Entry, draw(4))
	next := state.Snap.Index + uint64(len(state.Log)) + 1
	if next > 0 && draw(3) == 0 {
		next -= min(next, uint64(draw(4)))
	}
	for k := range l {
		l[k] = noop(term, next+uint64(k))
		if draw(3) == 0 {
			l[k] = write(term, next+uint64(k), mixed(draw(65)))
		}
	}
	if len(l) > 0 && draw(12) == 0 {
		l[draw(len(l))].Index += uint64(draw(3))
	}
	return l
}

// next is a call.
func (draw drawn) next(t *testing.T, x model, term uint64) attempt {
	switch kind := draw(8); {
	case kind == 0:
		h := slots.Hard{Term: term, Vote: draw(9), Commit: uint64(draw(400))}
		call := func(m *Image) api.Errno { return m.SetHard(h) }
		if h.Vote > 7 {
			return attempt{call, api.ErrArg, nil}
		}
		x.state.Hard = h
		return attempt{call, api.OK, []model{x}}
	case kind <= 4:
		return appending(t, x, draw.entries(x.state, term))
	}
	s := area.Snap{Index: x.state.Snap.Index + uint64(draw(6)), Term: term - uint64(draw(3)), Data: mixed(draw(130))}
	if k := draw(6); k < len(x.state.Log) {
		s.Index, s.Term = x.state.Log[k].Index, x.state.Log[k].Term
	}
	if draw(9) == 0 {
		s.Index -= min(s.Index, 2)
	}
	if draw(2) == 0 {
		return overlaying(t, x, s, x.behind(s), func(m *Image) api.Errno { return m.Compact(s) })
	}
	l := draw.entries(State{Snap: s}, term)
	return overlaying(t, x, s, l, func(m *Image) api.Errno { return m.Lay(s, l) })
}

// appending is an Append.
func appending(t *testing.T, x model, l []api.Entry) attempt {
	a := attempt{call: func(m *Image) api.Errno { return m.Append(l) }, want: api.ErrArg}
	for k := range len(l) + 1 {
		next, ok := x.appended(l[:k])
		if !ok {
			return attempt{a.call, api.ErrArg, nil}
		}
		next.used += len(records(t, x.s.Version, l[:k]))
		a.to = append(a.to, next)
	}
	a.want = api.OK
	if a.to[len(l)].used > 64*x.s.Log {
		a.want = api.ErrFull
	}
	return a
}

// overlaying is a Lay, or what does the same.
func overlaying(t *testing.T, x model, s area.Snap, l []api.Entry, call func(m *Image) api.Errno) attempt {
	next, ok := x.laid(s, l)
	if !ok {
		return attempt{call, api.ErrArg, nil}
	}
	next.used = len(records(t, x.s.Version, l))
	if next.used > 64*x.s.Log || len(snapBytes(x.s.Version, s)) > 64*x.s.Snap {
		return attempt{call, api.ErrFull, nil}
	}
	return attempt{call, api.OK, []model{next}}
}

// course is so many calls, with crashes between, held against the model; it tells how often each error came.
func course(t *testing.T, draw drawn, s slots.Super, calls int) map[api.Errno]int {
	t.Helper()
	x := model{s: s}
	m := mounted(t, s, x.state)
	told := map[api.Errno]int{}
	for k := range calls {
		a := draw.next(t, x, uint64(k+3))
		m.Device().Arm(draw(24) - 6)
		e := a.call(m)
		told[e]++
		crash := e == api.ErrCrash && m.Device().Crashed()
		if e != a.want && !crash {
			t.Fatalf("call %d: error %d, not %d", k, e, a.want)
		}
		if crash {
			knows(t, "a crash", m, x.s, x.state)
			m = comesBack(t, draw, m.Device())
			x = found(t, m, append(a.to, x))
		} else if e == api.OK {
			x = a.to[len(a.to)-1]
		}
		m.Device().Arm(-1)
		knows(t, fmt.Sprint("call ", k), m, x.s, x.state)
		if t.Failed() {
			t.FailNow()
		}
	}
	keeps(t, "in the end", m.Device(), x.s, x.state)
	return told
}

// comesBack is the image of a device that has crashed, of which some is lost, and which crashes further while it is mounted.
func comesBack(t *testing.T, draw drawn, d *device.Device) *Image {
	t.Helper()
	for {
		d = d.After(slices.DeleteFunc(d.Waiting(), func(int) bool { return draw(2) == 0 }))
		d.Arm(draw(8) - 4)
		m, e := Mount(d)
		if e == api.OK {
			return m
		}
		if e != api.ErrCrash {
			t.Fatalf("Mount is %d", e)
		}
	}
}

// found is which of these it is that the image knows; of the same ones it takes as many bytes as the device tells.
func found(t *testing.T, m *Image, all []model) model {
	t.Helper()
	for _, x := range all {
		if m.Super() == x.s && same(m.State(), x.state) {
			at := 4 + 2*x.s.Snap + x.s.Half*x.s.Log
			_, x.used, _ = wal.Read(m.Device(), wal.Region{At: at, Many: x.s.Log, Version: x.s.Version})
			return x
		}
	}
	t.Fatalf("behind a crash State is\n%s", tell(m.State()))
	return model{}
}

// P12.3, P12.4, P12.5: long courses of calls and crashes.
func TestCourse(t *testing.T) {
	for k, s := range supers() {
		n := uint32(k)
		draw := func(most int) int {
			n = n*1664525 + 1013904223
			return int(n>>8) % most
		}
		s.Snap, s.Log = 2, 6+k
		told := course(t, draw, s, 2500)
		for _, e := range []api.Errno{api.OK, api.ErrArg, api.ErrFull, api.ErrCrash} {
			if told[e] < 50 {
				t.Errorf("error %d came %d times", e, told[e])
			}
		}
	}
}

// FuzzCourse: as of TestCourse, with what is drawn told by the bytes.
func FuzzCourse(f *testing.F) {
	f.Add([]byte{})
	f.Add([]byte(mixed(300)))
	f.Fuzz(func(t *testing.T, b []byte) {
		draw := func(most int) int {
			if len(b) == 0 {
				return most - 1 // which crashes no more
			}
			n := int(b[0]) % most
			b = b[1:]
			return n
		}
		s := slots.Super{Version: 1 + draw(2), Snap: 1 + draw(2), Log: 3 + draw(8), Area: draw(2), Half: draw(2)}
		course(t, draw, s, min(60, len(b)))
	})
}
