package convert

import (
	"fmt"
	"math"
	"testing"

	"pintle/api"
	"pintle/area"
	"pintle/image"
	"pintle/slots"
)

// wrong are numbers that are no version.
func wrong() []int {
	return []int{math.MinInt, -1 << 32, -2, -1, 0, 3, 4, 9, 16, 17, 18, 161, 162, 256, 257, 258, 1 << 32, 1<<32 + 1, 1<<32 + 2, math.MaxInt - 1, math.MaxInt}
}

// fits asks whether Fits answers that, and nothing is written, nor asked of the device; and, of an error, whether Begin and Run answer it, too.
func fits(t *testing.T, what string, m *image.Image, goal int, want api.Errno) {
	t.Helper()
	s, state := m.Super(), m.State()
	idle(t, what, m.Device(), func() {
		if e := Fits(m, goal); e != want {
			t.Errorf("%s: Fits(%v, %d) is %d, not %d", what, s, goal, e, want)
		}
	})
	knows(t, what, m, s, state)
	if want != api.OK {
		refuses(t, what+", Begin", m, beginning(goal), want)
		refuses(t, what+", Run", m, running(goal), want)
	}
}

// fitsAlike is fits, also of a device that has crashed.
func fitsAlike(t *testing.T, what string, m *image.Image, goal int, want api.Errno) {
	t.Helper()
	fits(t, what, m, goal, want)
	crashed(m.Device())
	fits(t, what+", crashed", m, goal, want)
}

// P13.1: to the other version, if there is room.
func TestFits(t *testing.T) {
	for _, s := range supers() {
		for _, state := range states() {
			fitsAlike(t, "fits", mounted(t, s, state), 3-s.Version, api.OK)
		}
	}
	for version := 1; version <= 2; version++ {
		s := slots.Super{Version: version, Snap: 1, Log: 2 * len(kinds())}
		fitsAlike(t, "all kinds", mounted(t, s, image.State{Log: kinds()}), 3-version, api.OK)
	}
}

// P13.1: ErrArg, if goal is no version, or the one that there is, whatever else is wrong.
func TestFitsNoGoal(t *testing.T) {
	for _, s := range supers() {
		for _, state := range states() {
			m := mounted(t, s, state)
			for _, goal := range append(wrong(), s.Version) {
				fits(t, "no goal", m, goal, api.ErrArg)
			}
			crashed(m.Device())
			for _, goal := range append(wrong(), s.Version) {
				fits(t, "no goal, crashed", m, goal, api.ErrArg)
			}
		}
	}
	full := mounted(t, slots.Super{Version: 2, Snap: 1, Log: 1}, image.State{Snap: area.Snap{Data: mixed(56)}, Log: []api.Entry{swap(1, 1)}})
	for _, goal := range append(wrong(), 2) {
		fits(t, "no goal, of level 2, and full", full, goal, api.ErrArg)
	}
}

// P13.1: ErrBusy, if a conversion is under way, ahead of all else.
func TestFitsBusy(t *testing.T) {
	for _, s := range supers() {
		for s.Goal = 1; s.Goal <= 2; s.Goal++ {
			for s.Step = range 10 {
				m := mounted(t, s, states()[2])
				for _, goal := range append(wrong(), 1, 2) {
					fits(t, "busy", m, goal, api.ErrBusy)
				}
			}
		}
	}
	full := slots.Super{Version: 2, Snap: 1, Log: 1, Goal: 1, Step: 1}
	m := mounted(t, full, image.State{Snap: area.Snap{Data: mixed(56)}, Log: []api.Entry{swap(1, 1)}})
	fitsAlike(t, "busy, of level 2, and full", m, 1, api.ErrBusy)
}

// P13.1: ErrLevel, if the log has an entry of level 2, wherever it stands, ahead of ErrFull; what was cut does not count.
func TestFitsLevel(t *testing.T) {
	for _, log := range []int{3, 20} {
		s := slots.Super{Version: 2, Snap: 1, Log: log}
		for at := range 5 {
			var l []api.Entry
			for k := range uint64(5) {
				l = append(l, noop(1, k+1))
			}
			l[at] = swap(1, uint64(at+1))
			m := mounted(t, s, image.State{Log: l})
			fitsAlike(t, "of level 2", m, 1, api.ErrLevel)
			fits(t, "of level 2", mounted(t, s, image.State{Log: l}), 2, api.ErrArg)
		}
	}
	s := slots.Super{Version: 2, Snap: 1, Log: 3}
	snap := area.Snap{Data: mixed(50)}
	fits(t, "of level 2, and no room for the Snap", mounted(t, s, image.State{Snap: snap, Log: []api.Entry{swap(1, 1)}}), 1, api.ErrLevel)
	m := mounted(t, s, image.State{Log: []api.Entry{noop(1, 1), swap(1, 2)}})
	if e := m.Append([]api.Entry{noop(2, 2)}); e != api.OK {
		t.Fatal(e)
	}
	fits(t, "it was cut", m, 1, api.ErrFull)
	if e := m.Append([]api.Entry{noop(3, 1)}); e != api.OK {
		t.Fatal(e)
	}
	fits(t, "it was cut", m, 1, api.OK)
	fits(t, "it was cut, mounted", mount(t, m.Device().After(nil)), 1, api.OK)
	fits(t, "a text as that of an entry", mounted(t, s, image.State{Snap: area.Snap{Data: "\x01\x0b"}}), 1, api.OK)
}

// P13.1: ErrFull, if the Snap has no room in that version, to the byte.
func TestFitsSnap(t *testing.T) {
	for sectors := 1; sectors <= 5; sectors++ {
		s := slots.Super{Version: 2, Snap: sectors, Log: 2}
		for _, c := range []struct {
			data int
			want api.Errno
		}{{0, api.OK}, {64*sectors - 26, api.OK}, {64*sectors - 25, api.OK}, {64*sectors - 24, api.ErrFull}, {64*sectors - 9, api.ErrFull}} {
			state := image.State{Snap: area.Snap{Index: 1, Term: 1, Data: mixed(c.data)}}
			fitsAlike(t, fmt.Sprint("a Snap of ", c.data), mounted(t, s, state), 1, c.want)
			s.Area, s.Half = 1-s.Area, 1-s.Half
		}
	}
	// Of version 2 a Snap is longer than of version 1, if its numbers are that great.
	for _, c := range []struct {
		sectors, data int
		index, term   uint64
		want          api.Errno
	}{
		{1, 39, ones, ones, api.ErrFull}, {1, 38, ones, ones, api.OK}, {1, 39, ones >> 1, ones, api.OK}, {1, 39, ones, ones >> 1, api.OK},
		{3, 167, ones, ones, api.ErrFull}, {3, 166, ones, ones, api.ErrFull}, {3, 165, ones, ones, api.OK}, {3, 167, 1, 1, api.OK},
		{256, 64*256 - 25, ones, 1<<56 - 1, api.OK}, {256, 64*256 - 25, ones, 1 << 56, api.ErrFull}, {256, 64*256 - 25, 1<<63 - 1, 1 << 62, api.OK},
	} {
		s := slots.Super{Version: 1, Snap: c.sectors, Log: 2}
		state := image.State{Snap: area.Snap{Index: c.index, Term: c.term, Data: mixed(c.data)}}
		fitsAlike(t, fmt.Sprint("a Snap ", c), mounted(t, s, state), 2, c.want)
	}
	s := slots.Super{Version: 1, Snap: 257, Log: 1}
	fits(t, "the greatest Snap", mounted(t, s, image.State{Snap: area.Snap{Data: mixed(api.MaxBytes)}}), 2, api.OK)
	s = slots.Super{Version: 2, Snap: 257, Log: 1}
	fits(t, "the greatest Snap", mounted(t, s, image.State{Snap: area.Snap{Data: mixed(api.MaxBytes)}}), 1, api.OK)
}

// P13.1: ErrFull, if the log has no room in that version, to the sector.
func TestFitsLog(t *testing.T) {
	for many := range 9 {
		var l []api.Entry
		for k := range uint64(many) {
			l = append(l, noop(1, k+1))
		}
		for log := 1; log <= 18; log++ {
			s := slots.Super{Version: 2, Snap: 1, Log: log, Area: log % 2, Half: log / 2 % 2}
			if len(records(t, 2, l)) > 64*log {
				continue
			}
			want := api.OK
			if 2*many > log {
				want = api.ErrFull
			}
			fitsAlike(t, fmt.Sprint("a log of ", many, " in ", log), mounted(t, s, image.State{Log: l}), 1, want)
		}
	}
	for many := range 5 {
		var l []api.Entry
		for k := range uint64(many) {
			l = append(l, api.Entry{Term: ones - 9 + k, Index: k + 1, Kind: api.Write, Client: ones, Seq: ones, Block: 1<<32 - 1, Data: mixed(64)})
		}
		s := slots.Super{Version: 1, Snap: 1, Log: max(1, 2*many)}
		fitsAlike(t, "a log of the greatest", mounted(t, s, image.State{Log: l}), 2, api.OK)
	}
}

// P13.1: what was cut of the log needs no room.
func TestFitsCut(t *testing.T) {
	s := slots.Super{Version: 2, Snap: 1, Log: 2}
	m := mounted(t, s, image.State{})
	for k := range uint64(6) {
		if e := m.Append([]api.Entry{noop(k+1, 1)}); e != api.OK {
			t.Fatal(e)
		}
		fits(t, "cut", m, 1, api.OK)
	}
	x, e := Run(m, 1)
	if e != api.OK {
		t.Fatal(e)
	}
	knows(t, "cut", x, slots.Super{Version: 1, Snap: 1, Log: 2, Area: 1, Half: 1}, image.State{Log: []api.Entry{noop(6, 1)}})
}

// begun is the Super with that Goal and Step.
func begun(s slots.Super, goal, step int) slots.Super {
	s.Goal, s.Step = goal, step
	return s
}

// turned is the Super behind the last step.
func turned(s slots.Super) slots.Super {
	s.Version, s.Area, s.Half = s.Goal, 1-s.Area, 1-s.Half
	return begun(s, 0, 0)
}

// stepping is the deeds of the step that the Super tells, if it is written as the gen-th one behind it.
func stepping(t *testing.T, s slots.Super, state image.State, gen uint64) []deed {
	t.Helper()
	var l []deed
	switch s.Step {
	case 1:
		l = append(laying(4+(1-s.Area)*s.Snap, s.Snap, snapBytes(s.Goal, state.Snap)), flush)
	case 2:
		l = append(laying(4+2*s.Snap+(1-s.Half)*s.Log, s.Log, records(t, s.Goal, state.Log)), flush)
	case 3:
		l = holding(2, 2, hardBody(s.Goal, state.Hard))
		return append(l, holding(0, gen, superBody(turned(s)))...)
	}
	return append(l, holding(0, gen, superBody(begun(s, s.Goal, s.Step+1)))...)
}

// resuming is the deeds of the steps that are left.
func resuming(t *testing.T, s slots.Super, state image.State, gen uint64) []deed {
	t.Helper()
	var l []deed
	for ; s.Step <= 3; s.Step++ {
		l = append(l, stepping(t, s, state, gen)...)
		gen++
	}
	return l
}

// P13.2: Begin writes the Super, with the Goal, and Step 1, and nothing else.
func TestBegin(t *testing.T) {
	for _, s := range supers() {
		for _, state := range states() {
			next := begun(s, 3-s.Version, 1)
			does(t, "Begin", usual(t, s, state).bytes(), beginning(next.Goal), holding(0, 2, superBody(next)), next, state)
		}
	}
}

// P13.2: Step does what its number says, with that version, where what counts is not, and nothing else.
func TestStep(t *testing.T) {
	for _, s := range supers() {
		for _, state := range states() {
			for step := 1; step <= 2; step++ {
				now := begun(s, 3-s.Version, step)
				does(t, fmt.Sprint("step ", step), usual(t, now, state).bytes(), Step, stepping(t, now, state, 2), begun(s, now.Goal, step+1), state)
			}
			now := begun(s, 3-s.Version, 3)
			p := usual(t, now, state)
			p.area[1-s.Area], p.half[1-s.Half] = snapBytes(now.Goal, state.Snap), records(t, now.Goal, state.Log)
			does(t, "step 3", p.bytes(), Step, stepping(t, now, state, 2), turned(now), state)
		}
	}
}

// P13.2: a Goal that is the Version is gone to likewise.
func TestStepSame(t *testing.T) {
	for _, s := range supers() {
		for _, state := range states() {
			s = begun(s, s.Version, 1)
			does(t, "the same", usual(t, s, state).bytes(), Resume, resuming(t, s, state, 2), turned(s), state)
		}
	}
}

// P13.2: ErrNone, if nothing is under way; ErrArg of a Step that is none; both ahead of the device's error.
func TestStepRefused(t *testing.T) {
	for _, s := range supers() {
		for _, state := range states()[:3] {
			m := mounted(t, s, state)
			refuses(t, "nothing to do", m, Step, api.ErrNone)
			refuses(t, "nothing to abort", m, Abort, api.ErrNone)
			crashed(m.Device())
			refuses(t, "nothing to do, crashed", m, Step, api.ErrNone)
			refuses(t, "nothing to abort, crashed", m, Abort, api.ErrNone)
			for goal := 1; goal <= 2; goal++ {
				for _, step := range []int{0, 4, 5, 6, 7, 8, 9} {
					m := mounted(t, begun(s, goal, step), state)
					refuses(t, "no step", m, Step, api.ErrArg)
					refuses(t, "no step, Resume", m, Resume, api.ErrArg)
					crashed(m.Device())
					refuses(t, "no step, crashed", m, Step, api.ErrArg)
				}
				for step := 1; step <= 3; step++ {
					m := mounted(t, begun(s, goal, step), state)
					crashed(m.Device())
					refuses(t, "crashed", m, Step, api.ErrCrash)
					refuses(t, "crashed, Resume", m, Resume, api.ErrCrash)
					refuses(t, "crashed, Abort", m, Abort, api.ErrCrash)
				}
			}
			m = mounted(t, s, state)
			crashed(m.Device())
			refuses(t, "crashed, Begin", m, beginning(3-s.Version), api.ErrCrash)
			refuses(t, "crashed, Run", m, running(3-s.Version), api.ErrCrash)
		}
	}
}

// P13.2: a conversion that was begun by hand, and does not fit: the error of what is written, ahead of writing.
func TestStepNoRoom(t *testing.T) {
	s := slots.Super{Version: 2, Snap: 1, Log: 3, Goal: 1}
	level := image.State{Log: []api.Entry{swap(1, 1)}}
	long := image.State{Log: []api.Entry{noop(1, 1), noop(1, 2)}}
	wide := image.State{Snap: area.Snap{Data: mixed(50)}}
	refuses(t, "no room for the Snap", mounted(t, begun(s, 1, 1), wide), Step, api.ErrFull)
	refuses(t, "no room for the log", mounted(t, begun(s, 1, 2), long), Step, api.ErrFull)
	refuses(t, "of level 2", mounted(t, begun(s, 1, 2), level), Step, api.ErrArg)
	refuses(t, "no room for the Snap, Resume", mounted(t, begun(s, 1, 1), wide), Resume, api.ErrFull)
	refuses(t, "no room for the log, Resume", mounted(t, begun(s, 1, 2), long), Resume, api.ErrFull)
	refuses(t, "of level 2, Resume", mounted(t, begun(s, 1, 2), level), Resume, api.ErrArg)
	m := mounted(t, begun(s, 1, 1), long)
	if x, e := Resume(m); x != nil || e != api.ErrFull {
		t.Errorf("Resume is %v, %d", x, e)
	}
	keeps(t, "up to the first error", m.Device(), begun(s, 1, 2), long)
}

// P13.2: a device that no Super, or no Hard, can be written to any more: the error, and what stood ahead of it is done.
func TestLastGen(t *testing.T) {
	for _, s := range supers() {
		state := states()[2]
		goal := 3 - s.Version
		p := usual(t, s, state)
		p.super = held(ones, superBody(s))
		refuses(t, "the last gen, Begin", mount(t, made(t, p.bytes())), beginning(goal), api.ErrFull)
		for step := range 10 {
			p.super = held(ones, superBody(begun(s, goal, step)))
			refuses(t, "the last gen, Abort", mount(t, made(t, p.bytes())), Abort, api.ErrFull)
		}
		for step := 1; step <= 3; step++ {
			now := begun(s, goal, step)
			p.super = held(ones, superBody(now))
			m := mount(t, made(t, p.bytes()))
			deeds := stepping(t, now, state, 2)
			want, _ := after(m.Device(), deeds[:len(deeds)-2])
			if x, e := Step(m); x != nil || e != api.ErrFull {
				t.Errorf("the last gen: Step is %v, %d", x, e)
			}
			holds(t, "the last gen", m.Device(), want)
			keeps(t, "the last gen", m.Device(), now, state)
		}
		last := begun(s, goal, 3)
		p.super, p.hard = held(1, superBody(last)), held(ones, hardBody(s.Version, state.Hard))
		refuses(t, "the last gen of the Hard", mount(t, made(t, p.bytes())), Step, api.ErrFull)
	}
}

// P13.2: Abort writes the Super, with no Goal and no Step, and nothing else, whatever the Step.
func TestAbort(t *testing.T) {
	for _, s := range supers() {
		for _, state := range states() {
			for goal := 1; goal <= 2; goal++ {
				for step := range 10 {
					was := begun(s, goal, step)
					does(t, "Abort", usual(t, was, state).bytes(), Abort, holding(0, 2, superBody(s)), s, state)
				}
			}
		}
	}
}

// P13.2: behind Abort all may be done again that might ahead of Begin, and a conversion may begin anew.
func TestAbortGoesOn(t *testing.T) {
	for _, s := range supers() {
		state := states()[2]
		for steps := range 3 {
			m, e := Begin(mounted(t, s, state), 3-s.Version)
			for range steps {
				m, e = Step(m)
			}
			if m, e = Abort(m); e != api.OK {
				t.Fatal(e)
			}
			next := state
			next.Hard.Term, next.Snap = 77, area.Snap{Index: 1, Term: 1, Data: "one"}
			next.Log = []api.Entry{state.Log[1]}
			for k, e := range []api.Errno{m.SetHard(next.Hard), m.Compact(next.Snap)} {
				if e != api.OK {
					t.Errorf("call %d behind Abort: %d", k, e)
				}
			}
			s := s
			s.Area, s.Half = 1-s.Area, 1-s.Half
			knows(t, "behind Abort", m, s, next)
			if m, e = Run(m, 3-s.Version); e != api.OK {
				t.Fatal(e)
			}
			knows(t, "anew", m, turned(begun(s, 3-s.Version, 1)), next)
		}
	}
}

// P13.2: Resume does what is left, from each step on; m itself is told, if nothing is.
func TestResume(t *testing.T) {
	for _, s := range supers() {
		for _, state := range states() {
			m := mounted(t, s, state)
			for range 2 {
				idle(t, "Resume of nothing", m.Device(), func() {
					if x, e := Resume(m); x != m || e != api.OK {
						t.Errorf("Resume of nothing is %v, %d", x, e)
					}
				})
				knows(t, "Resume of nothing", m, s, state)
				crashed(m.Device())
			}
			for step := 1; step <= 3; step++ {
				now := begun(s, 3-s.Version, step)
				p := usual(t, now, state)
				if step > 1 {
					p.area[1-s.Area] = snapBytes(now.Goal, state.Snap)
				}
				if step > 2 {
					p.half[1-s.Half] = records(t, now.Goal, state.Log)
				}
				does(t, "Resume", p.bytes(), Resume, resuming(t, now, state, 2), turned(now), state)
			}
		}
	}
}

// P13.2: Run is Begin, and all steps.
func TestRun(t *testing.T) {
	for _, s := range supers() {
		for _, state := range states() {
			next := begun(s, 3-s.Version, 1)
			deeds := append(holding(0, 2, superBody(next)), resuming(t, next, state, 3)...)
			does(t, "Run", usual(t, s, state).bytes(), running(next.Goal), deeds, turned(next), state)
		}
	}
}

// P13.2: the image is the one that Mount finds: what stands behind the log is wiped, entries that are there count, and if there is none, it is Mount's error.
func TestMounted(t *testing.T) {
	for _, s := range supers() {
		state := states()[2]
		goal := 3 - s.Version
		for name, c := range map[string]struct {
			was  slots.Super
			call doing
			next slots.Super
		}{
			"Begin":  {s, beginning(goal), begun(s, goal, 1)},
			"step 1": {begun(s, goal, 1), Step, begun(s, goal, 2)},
			"step 2": {begun(s, goal, 2), Step, begun(s, goal, 3)},
			"Abort":  {begun(s, goal, 2), Abort, s},
		} {
			at := 4 + 2*s.Snap + s.Half*s.Log
			used := records(t, s.Version, state.Log)
			last := at + len(used)/64
			keep := used[len(used)/64*64:]

			m := mounted(t, c.was, state)
			m.Device().Write(last, keep+"junk")
			x, e := c.call(m)
			if e != api.OK {
				t.Fatal(name, e)
			}
			knows(t, name+", junk", x, c.next, state)
			if got, _ := x.Device().Read(last); got != keep+null(64-len(keep)) || len(x.Device().Waiting()) != 0 {
				t.Errorf("%s: junk is %q behind the log, and %v wait", name, got, x.Device().Waiting())
			}

			m = mounted(t, c.was, state)
			more := []api.Entry{noop(9, 3)}
			b := keep + records(t, s.Version, more)
			for k := 0; 64*k < len(b); k++ {
				m.Device().Write(last+k, b[64*k:min(64*k+64, len(b))])
			}
			found := state
			found.Log = append(found.Log[:2:2], more...)
			if x, e = c.call(m); e != api.OK {
				t.Fatal(name, e)
			}
			knows(t, name+", more", x, c.next, found)
			knows(t, name+", more, handed in", m, c.was, state)

			m = mounted(t, c.was, state)
			m.Device().Write(4+s.Area*s.Snap, "no Snap")
			if x, e = c.call(m); x != nil || e != api.ErrForm {
				t.Errorf("%s: no Snap: %v, %d", name, x, e)
			}
			if got, _, e := slots.Load(m.Device()); got != c.next || e != api.OK {
				t.Errorf("%s: no Snap: the Super is %v, %d", name, got, e)
			}
		}
	}
}

// P13.2: step 3 over an area or a half that no step ahead wrote has Mount's error, or finds what is there.
func TestTurnMounted(t *testing.T) {
	for _, s := range supers() {
		state := states()[2]
		s = begun(s, 3-s.Version, 3)
		good := usual(t, s, state)
		good.area[1-s.Area], good.half[1-s.Half] = snapBytes(s.Goal, state.Snap), records(t, s.Goal, state.Log)
		for name, spoil := range map[string]func(p *parts){
			"no Snap":                  func(p *parts) { p.area[1-s.Area] = mixed(64) },
			"a Snap of the version":    func(p *parts) { p.area[1-s.Area] = snapBytes(s.Version, state.Snap) },
			"a log from elsewhere":     func(p *parts) { p.half[1-s.Half] = records(t, s.Goal, state.Log[1:]) },
			"a Snap with another base": func(p *parts) { p.area[1-s.Area] = snapBytes(s.Goal, area.Snap{Index: 7}) },
		} {
			p := good
			spoil(&p)
			m := mount(t, made(t, p.bytes()))
			if x, e := Step(m); x != nil || e != api.ErrForm {
				t.Errorf("%s: %v, %d", name, x, e)
			}
		}
		p := good
		p.area[1-s.Area], p.half[1-s.Half] = snapBytes(s.Goal, area.Snap{Data: "another"}), "junk"
		x, e := Step(mount(t, made(t, p.bytes())))
		if e != api.OK {
			t.Fatal(e)
		}
		knows(t, "another", x, turned(s), image.State{Hard: state.Hard, Snap: area.Snap{Data: "another"}})
		if b := x.Device().Image(); b[64*(4+2*s.Snap+(1-s.Half)*s.Log):][:64] != null(64) {
			t.Errorf("junk is not wiped")
		}
	}
}

// P13.2: what is done is of what the image knows, and what it tells does not hang on it any more.
func TestOwn(t *testing.T) {
	s := slots.Super{Version: 1, Snap: 2, Log: 8}
	state := states()[2]
	m := mounted(t, s, state)
	x, _ := Begin(m, 2)
	y, _ := Begin(m, 2)
	knows(t, "handed in", m, s, state)
	z, e := Step(x)
	if e != api.OK {
		t.Fatal(e)
	}
	knows(t, "begun", x, begun(s, 2, 1), state)
	knows(t, "begun again", y, begun(s, 2, 1), state)
	knows(t, "behind a step", z, begun(s, 2, 2), state)
	if z, e = Step(x); e != api.OK {
		t.Fatal(e)
	}
	knows(t, "the same step again", z, begun(s, 2, 2), state)
	if z, e = Abort(x); e != api.OK {
		t.Fatal(e)
	}
	knows(t, "aborted", z, s, state)
}

// P12.3, P12.4, P13.2: while it is under way, nothing else may be done to the image; behind it all may.
func TestBusy(t *testing.T) {
	for _, s := range supers() {
		state := states()[2]
		m, e := Begin(mounted(t, s, state), 3-s.Version)
		for e == api.OK && m.Super().Goal != 0 {
			m.Device().Arm(0)
			for k, e := range []api.Errno{m.SetHard(slots.Hard{}), m.Append(nil), m.Lay(state.Snap, nil), m.Compact(state.Snap)} {
				if e != api.ErrBusy {
					t.Errorf("call %d: %d", k, e)
				}
			}
			m.Device().Arm(-1)
			m, e = Step(m)
		}
		if e != api.OK {
			t.Fatal(e)
		}
		state.Log = append(state.Log, noop(5, 3))
		state.Hard.Commit = 3
		for k, e := range []api.Errno{m.Append(state.Log[2:]), m.SetHard(state.Hard)} {
			if e != api.OK {
				t.Errorf("call %d: %d", k, e)
			}
		}
		keeps(t, "behind it", m.Device(), turned(begun(s, 3-s.Version, 1)), state)
	}
}
