package convert

import (
	"fmt"
	"slices"
	"testing"

	"pintle/api"
	"pintle/area"
	"pintle/device"
	"pintle/image"
	"pintle/slots"
)

// some is all ways to choose some of these; of many, such that of each two neither, either, and both are in one.
func some(l []int) [][]int {
	if len(l) > 6 {
		var out [][]int
		for from := range len(l) {
			for to := from; to <= len(l); to++ {
				out = append(out, l[from:to], slices.Concat(l[:from], l[to:]))
			}
		}
		return out
	}
	all := [][]int{nil}
	for _, n := range l {
		for _, chosen := range slices.Clone(all) {
			all = append(all, append(slices.Clone(chosen), n))
		}
	}
	return all
}

// way is a call, what the device holds ahead of it, and what it may hold behind it; the last is where all was done.
type way struct {
	name string
	was  slots.Super
	call doing
	to   []slots.Super
}

// ways are all calls that change something, of a Super with no Goal.
func ways(s slots.Super) []way {
	goal := 3 - s.Version
	at := []slots.Super{begun(s, goal, 1), begun(s, goal, 2), begun(s, goal, 3), turned(begun(s, goal, 3))}
	l := []way{
		{"Begin", s, beginning(goal), at[:1]},
		{"Run", s, running(goal), at},
	}
	for k := range 3 {
		l = append(l,
			way{fmt.Sprint("step ", k+1), at[k], Step, at[k+1 : k+2]},
			way{fmt.Sprint("Resume of ", k+1), at[k], Resume, at[k+1:]},
			way{fmt.Sprint("Abort of ", k+1), at[k], Abort, []slots.Super{s}})
	}
	return l
}

// reached is the image of a device that keeps that, with the steps ahead of the Super's done.
func reached(t *testing.T, s slots.Super, state image.State) *image.Image {
	t.Helper()
	p := usual(t, s, state)
	if s.Step > 1 {
		p.area[1-s.Area] = snapBytes(s.Goal, state.Snap)
	}
	if s.Step > 2 {
		p.half[1-s.Half] = records(t, s.Goal, state.Log)
	}
	return mount(t, made(t, p.bytes()))
}

// P13.3: behind a crash in each step of each call, whichever sectors are lost, the state stays, and it can be gone on with, taken back, and done anew.
func TestCrash(t *testing.T) {
	found := map[string]int{}
	for k, s := range supers() {
		state := states()[1+k%3]
		for _, w := range ways(s) {
			for step := 0; ; step++ {
				m := reached(t, w.was, state)
				m.Device().Arm(step)
				x, e := w.call(m)
				if e == api.OK {
					m.Device().Arm(-1)
					knows(t, w.name, x, w.to[len(w.to)-1], state)
					break
				}
				if x != nil || e != api.ErrCrash {
					t.Fatalf("%s: %v, error %d", w.name, x, e)
				}
				for _, lost := range some(m.Device().Waiting()) {
					what := fmt.Sprint(w.name, ", a crash in step ", step, ", lost ", lost)
					n := mount(t, m.Device().After(lost))
					k := slices.Index(append(slices.Clone(w.to), w.was), n.Super())
					if k < 0 || !same(n.State(), state) {
						t.Errorf("%s: the device keeps %v\n%s", what, n.Super(), tell(n.State()))
					}
					found[fmt.Sprint(w.name, " ", k)]++
					goesOn(t, what, n, s, state)
				}
			}
		}
	}
	for _, w := range ways(supers()[0]) {
		for k := range len(w.to) + 1 {
			if found[fmt.Sprint(w.name, " ", k)] == 0 {
				t.Errorf("no crash in %s leads to %d", w.name, k)
			}
		}
	}
}

// goesOn asks whether what is under way may be done, or taken back; s is the Super that it began with.
func goesOn(t *testing.T, what string, m *image.Image, s slots.Super, state image.State) {
	t.Helper()
	bytes, now := m.Device().Image(), m.Super()
	end := now
	if now.Goal != 0 {
		end = turned(begun(s, now.Goal, 3))
		x, e := Abort(mount(t, made(t, bytes)))
		if e != api.OK {
			t.Fatalf("%s: Abort is %d", what, e)
		}
		keeps(t, what+", aborted", x.Device(), s, state)
	}
	x, e := Resume(m)
	if e != api.OK {
		t.Fatalf("%s: Resume is %d", what, e)
	}
	keeps(t, what+", resumed", x.Device(), end, state)
}

// hardVersion is of which version the Hard is that the device has.
func hardVersion(t *testing.T, d *device.Device) int {
	t.Helper()
	newest, version := uint64(0), 0
	for at := 2; at < 4; at++ {
		b, _ := d.Read(at)
		gen := uint64(0)
		for _, c := range []byte(b[4:12]) {
			gen = gen<<8 | uint64(c)
		}
		if gen > newest {
			newest, version = gen, int(b[13])-16
		}
	}
	return version
}

// P13.3: whatever calls, crashes and losses come one behind the other, however often, what is kept stays the same.
func TestAllWays(t *testing.T) {
	for version := 1; version <= 2; version++ {
		s := slots.Super{Version: version, Snap: 1, Log: 2, Half: version - 1}
		state := image.State{Hard: slots.Hard{Term: 9, Vote: 4, Commit: 6}, Snap: area.Snap{Index: 5, Term: 2, Data: "five"}, Log: []api.Entry{write(3, 6, mixed(60))}}
		begin := anew(usual(t, s, state).bytes())
		seen := map[string]bool{begin: true}
		count := map[slots.Super]int{}
		for list := []string{begin}; len(list) > 0; {
			b := list[0]
			list = list[1:]
			m := mount(t, made(t, b))
			if !same(m.State(), state) {
				t.Fatalf("the device keeps %v\n%s", m.Super(), tell(m.State()))
			}
			count[m.Super()]++
			for _, x := range behind(t, b, m.Super()) {
				if x = anew(x); !seen[x] {
					seen[x] = true
					list = append(list, x)
				}
			}
		}
		if len(count) != 8 || len(seen) < 100 {
			t.Errorf("%d devices, of %d Supers: %v", len(seen), len(count), count)
		}
	}
}

// anew is the bytes of a device, with the gens in the first sectors as small as may be: as else there is no end of them.
func anew(bytes string) string {
	out := ""
	for at := 0; at < 4; at += 2 {
		a, b := bytes[64*at:64*at+64], bytes[64*at+64:64*at+128]
		for _, x := range [][2]string{{a, b}, {b, a}} {
			gen := uint64(1)
			if x[0][4:12] > x[1][4:12] {
				gen = 2
			}
			if x[0][4:12] == null(8) {
				out += x[0]
			} else {
				out += held(gen, x[0][13:13+x[0][12]])
			}
		}
	}
	return out + bytes[256:]
}

// behind is what a device of these bytes may have behind each call, and behind a crash in each step of it, with each loss.
func behind(t *testing.T, bytes string, s slots.Super) []string {
	t.Helper()
	var l []string
	calls := []doing{Step, Abort}
	if s.Goal == 0 {
		calls = []doing{beginning(3 - s.Version)}
	}
	for _, call := range calls {
		for step := 0; ; step++ {
			m := mount(t, made(t, bytes))
			m.Device().Arm(step)
			_, e := call(m)
			if e != api.OK && e != api.ErrCrash {
				t.Fatalf("error %d of %v", e, s)
			}
			for _, lost := range some(m.Device().Waiting()) {
				l = append(l, m.Device().After(lost).Image())
			}
			if e == api.OK {
				break
			}
		}
	}
	return l
}

// P13.3: a Run that crashes, a Resume of what is left that crashes, and so on, in each step: in the end it is done.
func TestCrashAndCrash(t *testing.T) {
	for _, s := range []slots.Super{{Version: 1, Snap: 1, Log: 5, Area: 1}, {Version: 2, Snap: 2, Log: 4, Half: 1}} {
		state := states()[2]
		goal := 3 - s.Version
		for first := range 40 {
			for later := range 16 {
				for _, all := range []bool{false, true} {
					d := mounted(t, s, state).Device()
					d.Arm(first)
					m, e := Run(mount(t, d), goal)
					for crashes := 0; e != api.OK; crashes++ {
						if e != api.ErrCrash || crashes > 40 {
							t.Fatalf("error %d behind %d crashes", e, crashes)
						}
						var lost []int
						if all {
							lost = d.Waiting()
						}
						d = d.After(lost)
						x := mount(t, d)
						if !same(x.State(), state) {
							t.Fatalf("behind %d crashes State is\n%s", crashes, tell(x.State()))
						}
						// Each time a step more, as a step that never gets done is never done.
						d.Arm(later + crashes)
						if x.Super().Goal == 0 && x.Super().Version == s.Version {
							m, e = Run(x, goal)
						} else {
							m, e = Resume(x)
						}
					}
					d.Arm(-1)
					keeps(t, "in the end", m.Device(), turned(begun(s, goal, 3)), state)
				}
			}
		}
	}
}

// P13.3: converted, and back, it is the same: also what counts of the device's bytes; nothing that counts is of the other version.
func TestThereAndBack(t *testing.T) {
	for _, s := range supers() {
		for _, state := range states() {
			m := mounted(t, s, state)
			was := counting(m)
			for k := range 5 {
				for _, goal := range []int{3 - s.Version, s.Version} {
					next := turned(begun(m.Super(), goal, 3))
					x, e := Run(m, goal)
					if e != api.OK {
						t.Fatal(e)
					}
					m = x
					knows(t, fmt.Sprint("run ", k), m, next, state)
					keeps(t, fmt.Sprint("run ", k), m.Device(), next, state)
					if v := hardVersion(t, m.Device()); v != goal {
						t.Errorf("the Hard is of version %d, not of %d", v, goal)
					}
				}
				if m.Super() != s || counting(m) != was {
					t.Errorf("converted, and back, it is\n%x\nand was\n%x", counting(m), was)
				}
			}
		}
	}
	s := slots.Super{Version: 1, Snap: 1, Log: 2 * len(kinds())}
	m := mounted(t, s, image.State{Log: kinds()})
	for k := range 6 {
		x, e := Run(m, 2-k%2)
		if e != api.OK {
			t.Fatal(e)
		}
		m = x
		if !same(m.State(), image.State{Log: kinds()}) {
			t.Errorf("the log is %v", m.State().Log)
		}
	}
}

// counting is the bytes of the area and the half that count.
func counting(m *image.Image) string {
	s, b := m.Super(), m.Device().Image()
	from, to := 4+s.Area*s.Snap, 4+2*s.Snap+s.Half*s.Log
	return b[64*from:64*(from+s.Snap)] + b[64*to:64*(to+s.Log)]
}

// T3: where it can't be converted nothing is written; and what was appended behind it is there.
func TestNotConverted(t *testing.T) {
	s := slots.Super{Version: 2, Snap: 1, Log: 4}
	for name, state := range map[string]image.State{
		"of level 2": {Log: []api.Entry{noop(1, 1), swap(1, 2)}},
		"long":       {Log: []api.Entry{noop(1, 1), noop(1, 2), noop(1, 3)}},
		"wide":       {Snap: area.Snap{Data: mixed(50)}},
	} {
		m := mounted(t, s, state)
		bytes := m.Device().Image()
		for _, call := range []doing{running(1), beginning(1)} {
			call(m)
			holds(t, name, m.Device(), bytes)
		}
		next := state
		next.Log = append(slices.Clone(state.Log), noop(7, uint64(len(state.Log)+1)))
		if e := m.Append(next.Log[len(state.Log):]); e != api.OK {
			t.Error(name, e)
		}
		keeps(t, name, m.Device(), s, next)
	}
}
