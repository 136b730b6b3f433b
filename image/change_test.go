package image

import (
	"fmt"
	"math"
	"slices"
	"testing"

	"pintle/api"
	"pintle/area"
	"pintle/device"
	"pintle/slots"
)

// starts makes an image of what is kept, for a call that is done to it.
func starts(t *testing.T, s slots.Super, state State, call func(m *Image) api.Errno) func() (*device.Device, func() api.Errno) {
	t.Helper()
	return func() (*device.Device, func() api.Errno) {
		m := mounted(t, s, state)
		return m.Device(), func() api.Errno {
			e := call(m)
			if e != api.OK {
				knows(t, "a crash", m, s, state)
			}
			return e
		}
	}
}

// busy asks whether the call is refused while a conversion is under way, ahead of all else.
func busy(t *testing.T, what string, call func(m *Image) api.Errno) {
	t.Helper()
	for _, s := range supers() {
		for goal := 1; goal <= 2; goal++ {
			for _, step := range []int{0, 1, 2, 3, 9} {
				s.Goal, s.Step = goal, step
				m := mounted(t, s, states()[2])
				refuses(t, what+", busy", m, func() api.Errno { return call(m) }, api.ErrBusy)
				crashed(m.Device())
				refuses(t, what+", busy, crashed", m, func() api.Errno { return call(m) }, api.ErrBusy)
			}
		}
	}
}

// hards are some that may be.
func hards() []slots.Hard {
	return []slots.Hard{{}, {Term: 1}, {Vote: 7}, {Commit: 1}, {Term: 300, Vote: 3, Commit: 1 << 50}, {Term: ones, Vote: 7, Commit: ones}}
}

// P12.3: SetHard writes it, of the Version, where the older one is; it is known then.
func TestSetHard(t *testing.T) {
	for _, s := range supers() {
		for _, state := range states() {
			for _, h := range hards() {
				call := func(m *Image) api.Errno { return m.SetHard(h) }
				does(t, "SetHard", starts(t, s, state, call), holding(2, 2, hardBody(s.Version, h))...)
				m := mounted(t, s, state)
				if e := m.SetHard(h); e != api.OK {
					t.Errorf("SetHard(%v) is %d", h, e)
				}
				next := state
				next.Hard = h
				knows(t, "SetHard", m, s, next)
				keeps(t, "SetHard", m.Device(), s, next)
			}
		}
	}
}

// P12.3: one behind the other.
func TestSetHards(t *testing.T) {
	for version := 1; version <= 2; version++ {
		s := slots.Super{Version: version, Snap: 1, Log: 2}
		state := State{}
		m := mounted(t, s, state)
		for k := range uint64(20) {
			state.Hard = slots.Hard{Term: k, Vote: int(k % 8), Commit: 2 * k}
			m.SetHard(state.Hard)
			knows(t, "one behind the other", m, s, state)
			keeps(t, "one behind the other", m.Device(), s, state)
		}
	}
}

// P12.3: no such Vote, ahead of the device's error; ErrBusy ahead of that.
func TestSetHardRefused(t *testing.T) {
	for _, vote := range []int{math.MinInt, -256, -1, 8, 9, 255, 256, 263, 1 << 32, math.MaxInt} {
		h := slots.Hard{Term: 1, Vote: vote}
		call := func(m *Image) api.Errno { return m.SetHard(h) }
		for _, s := range supers() {
			m := mounted(t, s, states()[1])
			refuses(t, "no Vote", m, func() api.Errno { return call(m) }, api.ErrArg)
			crashed(m.Device())
			refuses(t, "no Vote, crashed", m, func() api.Errno { return call(m) }, api.ErrArg)
		}
		busy(t, "no Vote", call)
	}
	busy(t, "SetHard", func(m *Image) api.Errno { return m.SetHard(slots.Hard{Term: 1}) })
	m := mounted(t, supers()[0], states()[1])
	crashed(m.Device())
	refuses(t, "crashed", m, func() api.Errno { return m.SetHard(slots.Hard{}) }, api.ErrCrash)
}

// adding is the deeds of records that are added at that place of the half from at on.
func adding(at int, was, more string) []deed {
	if more == "" {
		return []deed{flush}
	}
	first := len(was) / 64
	s := was[64*first:] + more
	return append(laying(at+first, (len(s)+63)/64, s), flush)
}

// halfAt is where the half that counts begins.
func halfAt(s slots.Super) int { return 4 + 2*s.Snap + s.Half*s.Log }

// appends are entries that may be appended to each of states that has a place more, by the Index of the Snap, and how many entries of the log stay.
func appends(state State) []struct {
	l    []api.Entry
	stay int
} {
	type choice = struct {
		l    []api.Entry
		stay int
	}
	base, many := state.Snap.Index, uint64(len(state.Log))
	list := []choice{{nil, len(state.Log)}, {[]api.Entry{}, len(state.Log)}}
	for from := range many + 1 {
		next := base + from + 1
		if next == 0 {
			continue // there is no Index more
		}
		list = append(list,
			choice{[]api.Entry{noop(400, next)}, int(from)},
			choice{[]api.Entry{write(400, next, mixed(64))}, int(from)})
		if next < ones {
			list = append(list, choice{[]api.Entry{noop(400, next), write(401, next+1, "more")}, int(from)})
		}
	}
	return list
}

// P12.3: Append adds the entries behind what stands in the half, and flushes; the log is what Join tells then.
func TestAppend(t *testing.T) {
	for _, s := range supers() {
		for _, state := range states() {
			for _, c := range appends(state) {
				was, more := records(t, s.Version, state.Log), records(t, s.Version, c.l)
				call := func(m *Image) api.Errno { return m.Append(c.l) }
				m := mounted(t, s, state)
				if len(was)+len(more) > 64*s.Log {
					refuses(t, "no room", m, func() api.Errno { return call(m) }, api.ErrFull)
					continue
				}
				does(t, "Append", starts(t, s, state, call), adding(halfAt(s), was, more)...)
				if e := call(m); e != api.OK {
					t.Errorf("Append(%v) is %d", c.l, e)
				}
				next := state
				next.Log = append(slices.Clone(state.Log[:c.stay]), c.l...)
				knows(t, "Append", m, s, next)
				keeps(t, "Append", m.Device(), s, next)
			}
		}
	}
}

// P12.3: what waits for another reason is flushed, too, whether there are entries or not.
func TestAppendFlush(t *testing.T) {
	for _, l := range [][]api.Entry{nil, {}, {noop(1, 1)}} {
		m := mounted(t, slots.Super{Version: 1, Snap: 1, Log: 2}, State{})
		m.Device().Write(9, "waits")
		if e := m.Append(l); e != api.OK || len(m.Device().Waiting()) != 0 {
			t.Errorf("Append(%v) is %d, and %v wait", l, e, m.Device().Waiting())
		}
		m = mounted(t, slots.Super{Version: 1, Snap: 1, Log: 2}, State{})
		crashed(m.Device())
		refuses(t, "crashed", m, func() api.Errno { return m.Append(l) }, api.ErrCrash)
	}
}

// P12.3: entries may be appended one behind the other until there is no room; each half has room up to its last byte.
func TestAppendEdge(t *testing.T) {
	for version := 1; version <= 2; version++ {
		for log := 1; log <= 7; log++ {
			s := slots.Super{Version: version, Snap: 1, Log: log, Half: log % 2}
			state := State{}
			m := mounted(t, s, state)
			for k := uint64(1); ; k++ {
				l := append(slices.Clone(state.Log), write(1, k, mixed(int(k*k)%65)))
				if len(records(t, version, l)) > 64*log {
					refuses(t, "no room", m, func() api.Errno { return m.Append(l[k-1:]) }, api.ErrFull)
					break
				}
				state.Log = l
				if e := m.Append(l[k-1:]); e != api.OK {
					t.Errorf("Append of %d is %d", k, e)
				}
				knows(t, "up to the edge", m, s, state)
				keeps(t, "up to the edge", m.Device(), s, state)
			}
			left := 64*log - len(records(t, version, state.Log))
			if version == 2 && left > 24 && left < 80 {
				fill := write(1, uint64(len(state.Log)+1), "")
				fill.Data = mixed(left - len(records(t, 2, []api.Entry{write(1, fill.Index, "x")})) + 1)
				if len(records(t, 2, []api.Entry{fill})) != left {
					t.Fatal("it is not just full")
				}
				if e := m.Append([]api.Entry{fill}); e != api.OK {
					t.Errorf("Append up to the last byte is %d", e)
				}
				refuses(t, "full", m, func() api.Errno { return m.Append([]api.Entry{noop(1, 1)}) }, api.ErrFull)
			}
		}
	}
}

// P12.3: entries that take the places of others stand behind these, and need room.
func TestAppendOver(t *testing.T) {
	for version := 1; version <= 2; version++ {
		for _, remount := range []bool{false, true} {
			s := slots.Super{Version: version, Snap: 1, Log: 8}
			m := mounted(t, s, State{Log: []api.Entry{noop(1, 1), noop(1, 2)}})
			kept := []api.Entry{noop(1, 1), noop(1, 2)}
			for k := uint64(2); ; k++ {
				kept = append(kept, noop(k, 1), noop(k, 2))
				next := kept[len(kept)-2:]
				if remount {
					m = mount(t, m.Device().After(nil))
				}
				if len(records(t, version, kept)) > 64*8 {
					refuses(t, "no room", m, func() api.Errno { return m.Append(next) }, api.ErrFull)
					break
				}
				if e := m.Append(next); e != api.OK {
					t.Fatalf("Append of %v is %d", next, e)
				}
				knows(t, "over", m, s, State{Log: next})
				keeps(t, "over", m.Device(), s, State{Log: next})
			}
		}
	}
}

// P12.3: ErrArg, if Join is false, or an entry may not be, ahead of ErrFull, and of the device's error; ErrBusy ahead of that.
func TestAppendRefused(t *testing.T) {
	swap := api.Entry{Term: 2, Index: 7, Kind: api.Swap, Client: 1, Data: "a", Old: "b"}
	long := slices.Repeat([]api.Entry{write(1, 6, mixed(64))}, 30)
	state := State{Snap: area.Snap{Index: 4, Term: 1}, Log: []api.Entry{noop(1, 5), noop(1, 6)}}
	for _, l := range [][]api.Entry{
		{noop(1, 8)}, {noop(1, 9)}, {noop(1, ones)}, {noop(1, 4)}, {noop(1, 3)}, {noop(1, 0)}, {noop(1, 1)}, {{}},
		{noop(1, 7), noop(1, 9)}, {noop(1, 7), noop(1, 4)}, {noop(1, 5), noop(1, 7)}, {noop(1, 6), noop(1, 5), noop(1, 7)}, {noop(1, 7), {}},
		{noop(0, 7)}, {{Term: 1, Index: 7, Kind: 12}}, {{Term: 1, Index: 7, Kind: -1}}, {{Term: 1, Index: 7, Node: 1}}, {write(1, 7, mixed(65))}, {noop(1, 7), noop(0, 8)},
		append(slices.Clone(long), noop(1, 8)), append(slices.Clone(long), noop(0, 6)), append([]api.Entry{noop(0, 6)}, long...),
	} {
		for _, s := range supers() {
			m := mounted(t, s, state)
			refuses(t, fmt.Sprint("no Append of ", l), m, func() api.Errno { return m.Append(l) }, api.ErrArg)
			crashed(m.Device())
			refuses(t, fmt.Sprint("no Append of ", l, ", crashed"), m, func() api.Errno { return m.Append(l) }, api.ErrArg)
		}
	}
	for _, s := range supers() {
		m := mounted(t, s, state)
		refuses(t, "full", m, func() api.Errno { return m.Append(long) }, api.ErrFull)
		if s.Version == 1 {
			refuses(t, "of level 2", m, func() api.Errno { return m.Append([]api.Entry{swap}) }, api.ErrArg)
			refuses(t, "of level 2, too many", m, func() api.Errno { return m.Append(append(slices.Clone(long), swap)) }, api.ErrArg)
		} else if e := m.Append([]api.Entry{swap}); e != api.OK {
			t.Errorf("of level 2: error %d", e)
		}
		crashed(m.Device())
		refuses(t, "full, crashed", m, func() api.Errno { return m.Append(long) }, api.ErrFull)
	}
	for _, l := range [][]api.Entry{nil, {noop(1, 3)}, {noop(1, 9)}, long, {noop(0, 3)}} {
		busy(t, "Append", func(m *Image) api.Errno { return m.Append(l) })
	}
}

// P12.3: behind the last Index there is none.
func TestAppendLast(t *testing.T) {
	for _, s := range supers() {
		m := mounted(t, s, State{Snap: area.Snap{Index: ones - 1, Term: 1}})
		refuses(t, "two", m, func() api.Errno { return m.Append([]api.Entry{noop(1, ones), noop(1, 0)}) }, api.ErrArg)
		refuses(t, "one round", m, func() api.Errno { return m.Append([]api.Entry{noop(1, ones), noop(1, 1)}) }, api.ErrArg)
		if e := m.Append([]api.Entry{noop(1, ones)}); e != api.OK {
			t.Errorf("Append of the last one is %d", e)
		}
		refuses(t, "behind the last", m, func() api.Errno { return m.Append([]api.Entry{noop(1, 0)}) }, api.ErrArg)
		refuses(t, "behind the last", m, func() api.Errno { return m.Append([]api.Entry{noop(1, 1)}) }, api.ErrArg)
		knows(t, "the last", m, s, State{Snap: area.Snap{Index: ones - 1, Term: 1}, Log: []api.Entry{noop(1, ones)}})
	}
}

// handed asks whether a call leaves the list that is handed in, and what stands behind it, and keeps none of it.
func handed(t *testing.T, what string, m *Image, l []api.Entry, call func(l []api.Entry) api.Errno) {
	t.Helper()
	mine := append(slices.Clone(l), noop(77, 77), noop(78, 78))
	was := slices.Clone(mine)
	if e := call(mine[:len(l)]); e != api.OK {
		t.Errorf("%s: error %d", what, e)
	}
	if !slices.Equal(mine, was) {
		t.Errorf("%s: it writes into what was handed in", what)
	}
	state := m.State()
	state.Log = slices.Clone(state.Log)
	for k := range mine {
		mine[k] = noop(79, 79)
	}
	knows(t, what, m, m.Super(), state)
}

// P3: nothing that is handed in is written into, or kept.
func TestHanded(t *testing.T) {
	for _, s := range supers() {
		m := mounted(t, s, State{Log: []api.Entry{noop(1, 1)}})
		handed(t, "Append", m, []api.Entry{noop(2, 2)}, m.Append)
		handed(t, "Append over", m, []api.Entry{noop(3, 1)}, m.Append)
		handed(t, "Lay", m, []api.Entry{noop(4, 4), noop(4, 5)}, func(l []api.Entry) api.Errno { return m.Lay(area.Snap{Index: 3}, l) })
		handed(t, "Lay of none", m, nil, func(l []api.Entry) api.Errno { return m.Lay(area.Snap{Index: 3}, l) })
	}
}

// P3: a State that was told stays, whatever is done behind it, and shares nothing with a later one.
func TestStateStays(t *testing.T) {
	for _, s := range supers() {
		m := mounted(t, s, State{Log: []api.Entry{noop(1, 1), noop(1, 2)}})
		a := m.State()
		m.Append([]api.Entry{noop(2, 2)})
		b := m.State()
		m.Compact(area.Snap{Index: 1, Term: 1})
		m.Append([]api.Entry{noop(3, 2)})
		if a.Log[1] != noop(1, 2) || b.Log[1] != noop(2, 2) || !apart(a.Log, b.Log) || !apart(b.Log, m.State().Log) {
			t.Errorf("a State changes: %v, %v", a, b)
		}
	}
}

// lays are what may be laid in the place of that.
func lays(state State) []State {
	base := state.Snap.Index
	list := []State{
		{Snap: area.Snap{Index: base, Term: 9, Data: "other"}},
		{Snap: area.Snap{Index: base}},
		{Snap: area.Snap{Index: ones, Term: 3, Data: "last"}},
	}
	if base < ones {
		list = append(list, State{Snap: area.Snap{Index: ones - 1, Data: "last but one"}, Log: []api.Entry{noop(7, ones)}})
	}
	if base < ones-9 {
		list = append(list,
			State{Snap: area.Snap{Index: base, Term: 9, Data: "a"}, Log: []api.Entry{noop(7, base+1)}},
			State{Snap: area.Snap{Index: base + 1, Term: 9, Data: mixed(39)}, Log: []api.Entry{write(400, base+2, mixed(64)), noop(401, base+3)}},
			State{Snap: area.Snap{Index: base + 5, Term: 9, Data: null(30)}, Log: []api.Entry{write(400, base+6, "x"), noop(401, base+7), write(402, base+8, "")}})
	}
	for k := range list {
		list[k].Hard = state.Hard
	}
	return list
}

// laidOut is the deeds of Lay: the Snap to the other area, the log to the other half, a Flush, and the Super that tells them.
func laidOut(t *testing.T, s slots.Super, next State) []deed {
	t.Helper()
	s.Area, s.Half = 1-s.Area, 1-s.Half
	deeds := laying(4+s.Area*s.Snap, s.Snap, snapBytes(s.Version, next.Snap))
	deeds = append(deeds, laying(halfAt(s), s.Log, records(t, s.Version, next.Log))...)
	deeds = append(deeds, flush)
	return append(deeds, holding(0, 2, superBody(s))...)
}

// laid asks whether a call does what Lay of that does, and what the image knows then.
func laid(t *testing.T, what string, s slots.Super, state, next State, call func(m *Image) api.Errno) {
	t.Helper()
	does(t, what, starts(t, s, state, call), laidOut(t, s, next)...)
	m := mounted(t, s, state)
	if e := call(m); e != api.OK {
		t.Errorf("%s: error %d", what, e)
	}
	s.Area, s.Half = 1-s.Area, 1-s.Half
	knows(t, what, m, s, next)
	keeps(t, what, m.Device(), s, next)
}

// P12.4: Lay writes the Snap to the other area and the log to the other half, and then that these count.
func TestLay(t *testing.T) {
	for _, s := range supers() {
		for _, state := range states() {
			for _, next := range lays(state) {
				laid(t, "Lay", s, state, next, func(m *Image) api.Errno { return m.Lay(next.Snap, next.Log) })
			}
		}
	}
}

// P12.4: one behind the other, with entries appended between.
func TestLays(t *testing.T) {
	for _, s := range supers() {
		m := mounted(t, s, State{Hard: slots.Hard{Vote: 3}})
		for k := range uint64(9) {
			next := State{Hard: slots.Hard{Vote: 3}, Snap: area.Snap{Index: 3 * k, Term: k, Data: mixed(int(k))}, Log: []api.Entry{write(k+1, 3*k+1, "one")}}
			if e := m.Lay(next.Snap, next.Log); e != api.OK {
				t.Errorf("Lay is %d", e)
			}
			s.Area, s.Half = 1-s.Area, 1-s.Half
			knows(t, "laid", m, s, next)
			keeps(t, "laid", m.Device(), s, next)
			next.Log = append(next.Log, noop(k+2, 3*k+2))
			if e := m.Append(next.Log[1:]); e != api.OK {
				t.Errorf("Append is %d", e)
			}
			knows(t, "appended", m, s, next)
			keeps(t, "appended", m.Device(), s, next)
		}
	}
}

// P12.4: ErrArg, ahead of ErrFull, and of the device's error; ErrBusy ahead of that.
func TestLayRefused(t *testing.T) {
	long := area.Snap{Index: 9, Data: mixed(api.MaxBytes + 1)}
	full := area.Snap{Index: 9, Data: mixed(64 * 3)}
	many := slices.Repeat([]api.Entry{write(1, 10, mixed(64))}, 30)
	state := State{Snap: area.Snap{Index: 5, Term: 2, Data: "five"}, Log: []api.Entry{noop(2, 6)}}
	for k, c := range []struct {
		s area.Snap
		l []api.Entry
	}{
		{long, nil}, {long, []api.Entry{noop(1, 10)}}, {area.Snap{Index: 5, Data: mixed(1 << 20)}, nil},
		{area.Snap{Index: 4, Term: 2}, nil}, {area.Snap{}, nil}, {area.Snap{Index: 4, Term: 2}, []api.Entry{noop(1, 5)}}, {area.Snap{Index: 4, Data: mixed(200)}, nil},
		{area.Snap{Index: 5}, []api.Entry{noop(1, 7)}}, {area.Snap{Index: 5}, []api.Entry{noop(1, 5)}}, {area.Snap{Index: 5}, []api.Entry{noop(1, 0)}}, {area.Snap{Index: 5}, []api.Entry{noop(1, 1)}},
		{area.Snap{Index: 5}, []api.Entry{noop(1, 6), noop(1, 8)}}, {area.Snap{Index: 5}, []api.Entry{noop(1, 6), noop(1, 5)}}, {area.Snap{Index: 5}, []api.Entry{{}}},
		{area.Snap{Index: 5}, []api.Entry{noop(1, 6), noop(1, 6)}}, {area.Snap{Index: 5}, []api.Entry{noop(1, 6), noop(1, 7), noop(2, 6)}}, {area.Snap{Index: 5}, []api.Entry{noop(1, 6), noop(1, 7), noop(2, 7)}},
		{area.Snap{Index: 5}, []api.Entry{noop(1, 6), noop(2, 6), noop(1, 7)}},
		{area.Snap{Index: ones}, []api.Entry{noop(1, 0)}}, {area.Snap{Index: ones}, []api.Entry{noop(1, 1)}}, {area.Snap{Index: ones}, []api.Entry{noop(1, ones)}},
		{full, []api.Entry{noop(1, 9)}}, {full, many}, {area.Snap{Index: 9}, many},
	} {
		for _, s := range supers() {
			m := mounted(t, s, state)
			refuses(t, fmt.Sprint("no Lay ", k), m, func() api.Errno { return m.Lay(c.s, c.l) }, api.ErrArg)
			crashed(m.Device())
			refuses(t, fmt.Sprint("no Lay, crashed ", k), m, func() api.Errno { return m.Lay(c.s, c.l) }, api.ErrArg)
		}
		busy(t, "Lay", func(m *Image) api.Errno { return m.Lay(c.s, c.l) })
	}
	busy(t, "Lay", func(m *Image) api.Errno { return m.Lay(area.Snap{Index: 9}, nil) })
	for _, s := range supers() {
		m := mounted(t, s, state)
		refuses(t, "no room for the Snap", m, func() api.Errno { return m.Lay(full, nil) }, api.ErrFull)
		refuses(t, "no room for the Snap, and an entry that is not right", m, func() api.Errno { return m.Lay(full, []api.Entry{noop(0, 10)}) }, api.ErrFull)
		crashed(m.Device())
		refuses(t, "crashed", m, func() api.Errno { return m.Lay(area.Snap{Index: 9}, nil) }, api.ErrCrash)
		refuses(t, "no room, crashed", m, func() api.Errno { return m.Lay(full, nil) }, api.ErrFull)
	}
}

// P12.4: with a log that has no Records, or no room, the Snap is written to the other area already, which does not count.
func TestLayNoFill(t *testing.T) {
	state := State{Hard: slots.Hard{Term: 8}, Snap: area.Snap{Index: 5, Term: 2, Data: "five"}, Log: []api.Entry{noop(2, 6)}}
	for _, s := range supers() {
		var many []api.Entry
		for k := range 64 {
			many = append(many, write(1, uint64(10+k), mixed(64)))
		}
		for _, c := range []struct {
			l    []api.Entry
			want api.Errno
		}{{many, api.ErrFull}, {[]api.Entry{noop(0, 10)}, api.ErrArg}, {append(slices.Clone(many), noop(0, 74)), api.ErrArg}, {[]api.Entry{{Term: 1, Index: 10, Kind: 12}}, api.ErrArg}} {
			m := mounted(t, s, state)
			snap := area.Snap{Index: 9, Term: 3, Data: "nine"}
			was := []byte(m.Device().Image())
			if e := m.Lay(snap, c.l); e != c.want {
				t.Errorf("Lay is %d, not %d", e, c.want)
			}
			at := 4 + (1-s.Area)*s.Snap
			var waits []int
			for _, x := range laying(at, s.Snap, snapBytes(s.Version, snap)) {
				copy(was[64*x.at:], x.s)
				waits = append(waits, x.at)
			}
			holds(t, "no Fill", m.Device(), string(was), waits...)
			knows(t, "no Fill", m, s, state)
			keeps(t, "no Fill", m.Device(), s, state)
			keeps(t, "no Fill, and none lost", m.Device().After(nil), s, state)
			next := state
			next.Log = []api.Entry{noop(2, 6), noop(2, 7)}
			if e := m.Append(next.Log[1:]); e != api.OK {
				t.Errorf("Append behind it is %d", e)
			}
			keeps(t, "appended", m.Device(), s, next)
		}
	}
	m := mounted(t, slots.Super{Version: 1, Snap: 2, Log: 4}, state)
	if e := m.Lay(area.Snap{Index: 9}, []api.Entry{{Term: 1, Index: 10, Kind: api.Swap, Client: 1}}); e != api.ErrArg {
		t.Errorf("of level 2: Lay is %d", e)
	}
}

// P12.4: a Snap, and a log, that have just room, and a byte more.
func TestLayEdge(t *testing.T) {
	for version := 1; version <= 2; version++ {
		for snap := 1; snap <= 4; snap++ {
			s := slots.Super{Version: version, Snap: snap, Log: 6}
			data := mixed(64*snap - 8)
			for len(snapBytes(version, area.Snap{Index: 1, Term: 2, Data: data})) > 64*snap {
				data = data[1:]
			}
			m := mounted(t, s, State{})
			refuses(t, "a byte too many", m, func() api.Errno { return m.Lay(area.Snap{Index: 1, Term: 2, Data: data + "x"}, nil) }, api.ErrFull)
			var l []api.Entry
			for len(records(t, version, append(l, write(1, uint64(len(l)+2), "a")))) <= 64*6 {
				l = append(l, write(1, uint64(len(l)+2), "a"))
			}
			if left := 64*6 - len(records(t, version, l)); version == 2 {
				l[0].Data = mixed(1 + left)
			}
			if len(records(t, version, l)) != 64*6 {
				t.Fatal("it is not just full")
			}
			next := State{Snap: area.Snap{Index: 1, Term: 2, Data: data}, Log: l}
			laid(t, "just room", s, State{}, next, func(m *Image) api.Errno { return m.Lay(next.Snap, next.Log) })
			m.Lay(next.Snap, next.Log)
			refuses(t, "no room more", m, func() api.Errno { return m.Append([]api.Entry{noop(9, uint64(len(l)+2))}) }, api.ErrFull)
		}
	}
}

// P12.4: Compact keeps the log behind its Index, if what it stands for is known to be the same.
func TestCompact(t *testing.T) {
	a, b, c := noop(3, 6), write(3, 7, "b"), noop(4, 8)
	log := []api.Entry{a, b, c}
	for _, s := range supers() {
		state := State{Hard: slots.Hard{Commit: 6}, Snap: area.Snap{Index: 5, Term: 2, Data: "five"}, Log: log}
		for _, x := range []struct {
			index, term uint64
			stays       []api.Entry
		}{
			{5, 2, log}, {5, 1, nil}, {5, 3, nil}, {5, 0, nil}, {5, 2 + 1<<32, nil},
			{6, 3, []api.Entry{b, c}}, {6, 2, nil}, {6, 4, nil}, {6, 3 + 1<<32, nil},
			{7, 3, []api.Entry{c}}, {7, 4, nil}, {8, 4, nil}, {8, 3, nil}, {9, 4, nil}, {9, 5, nil}, {ones, 4, nil}, {ones, ones, nil},
		} {
			next := State{Hard: state.Hard, Snap: area.Snap{Index: x.index, Term: x.term, Data: "next"}, Log: x.stays}
			laid(t, fmt.Sprint("Compact ", x.index, " ", x.term), s, state, next, func(m *Image) api.Errno { return m.Compact(next.Snap) })
		}
	}
}

// P12.4: of a log of nothing nothing stays.
func TestCompactNone(t *testing.T) {
	for _, s := range supers() {
		for _, index := range []uint64{0, 5, ones} {
			state := State{Snap: area.Snap{Index: index, Term: 2}}
			for _, snap := range []area.Snap{{Index: index, Term: 2, Data: "a"}, {Index: index, Term: 3}, {Index: ones, Term: 2}} {
				laid(t, "Compact of none", s, state, State{Snap: snap}, func(m *Image) api.Errno { return m.Compact(snap) })
			}
		}
	}
}

// P12.4: what Compact keeps of entries that took the places of others stands there once.
func TestCompactOver(t *testing.T) {
	for _, s := range supers() {
		m := mounted(t, s, State{Log: []api.Entry{noop(1, 1)}})
		for _, l := range [][]api.Entry{{noop(2, 1)}, {noop(3, 2)}} {
			if e := m.Append(l); e != api.OK {
				t.Fatal(e)
			}
		}
		if e := m.Compact(area.Snap{Index: 1, Term: 2, Data: "one"}); e != api.OK {
			t.Fatal(e)
		}
		s.Area, s.Half = 1-s.Area, 1-s.Half
		next := State{Snap: area.Snap{Index: 1, Term: 2, Data: "one"}, Log: []api.Entry{noop(3, 2)}}
		keeps(t, "over", m.Device(), s, next)
		m.Append([]api.Entry{noop(3, 3), noop(3, 4)})
		next.Log = []api.Entry{noop(3, 2), noop(3, 3), noop(3, 4)}
		knows(t, "over, appended", m, s, next)
		keeps(t, "over, appended", m.Device(), s, next)
	}
}

// P12.4: the errors of Lay, in their order.
func TestCompactRefused(t *testing.T) {
	state := State{Snap: area.Snap{Index: 5, Term: 2, Data: "five"}, Log: []api.Entry{noop(2, 6)}}
	wrong := []area.Snap{{}, {Index: 4, Term: 2}, {Index: 4, Data: mixed(300)}, {Index: 6, Term: 2, Data: mixed(api.MaxBytes + 1)}}
	for _, s := range supers() {
		for _, dead := range []bool{false, true} {
			m := mounted(t, s, state)
			if dead {
				crashed(m.Device())
				refuses(t, "crashed", m, func() api.Errno { return m.Compact(area.Snap{Index: 6, Term: 2}) }, api.ErrCrash)
			}
			for _, snap := range wrong {
				refuses(t, "no Compact", m, func() api.Errno { return m.Compact(snap) }, api.ErrArg)
			}
			refuses(t, "no room", m, func() api.Errno { return m.Compact(area.Snap{Index: 6, Term: 2, Data: mixed(300)}) }, api.ErrFull)
		}
	}
	for _, snap := range append(wrong, area.Snap{Index: 6, Term: 2}, area.Snap{Index: 9, Data: mixed(300)}) {
		busy(t, "Compact", func(m *Image) api.Errno { return m.Compact(snap) })
	}
}
