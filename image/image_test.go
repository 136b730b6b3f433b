package image

import (
	"encoding/binary"
	"fmt"
	"hash/crc32"
	"math"
	"slices"
	"strings"
	"testing"
	"unsafe"

	"pintle/api"
	"pintle/area"
	"pintle/device"
	"pintle/frame"
	"pintle/slots"
)

// ones is the greatest number.
const ones = math.MaxUint64

// mixed is a text of n bytes, of which none is 0.
func mixed(n int) string {
	b := make([]byte, n)
	for k := range b {
		b[k] = byte(1 + k*7%255)
	}
	return string(b)
}

// null is so many bytes 0.
func null(n int) string { return strings.Repeat("\x00", n) }

// char is one byte.
func char(n int) string { return string([]byte{byte(n)}) }

// summed is the sum of s, ahead of s.
func summed(s string) string {
	sum := crc32.Checksum([]byte(s), crc32.MakeTable(crc32.Castagnoli))
	return string(binary.BigEndian.AppendUint32(nil, sum)) + s
}

// held is a sector of those two that hold one thing.
func held(gen uint64, body string) string {
	s := string(binary.BigEndian.AppendUint64(nil, gen)) + char(len(body)) + body
	return summed(s + null(60-len(s)))
}

// numbers is them as the version has them: of version 1 each as so many bytes.
func numbers(version int, ns []uint64, sizes ...int) string {
	var b []byte
	for k, n := range ns {
		if version == 2 {
			b = binary.AppendUvarint(b, n)
		} else {
			b = append(b, binary.BigEndian.AppendUint64(nil, n)[8-sizes[k]:]...)
		}
	}
	return string(b)
}

// superBody is the bytes of the Super.
func superBody(s slots.Super) string {
	ns := []uint64{uint64(s.Snap), uint64(s.Log), uint64(s.Area), uint64(s.Half), uint64(s.Goal), uint64(s.Step)}
	return char(s.Version) + numbers(s.Version, ns, 2, 2, 1, 1, 1, 1)
}

// hardBody is the bytes of the Hard.
func hardBody(version int, h slots.Hard) string {
	return char(16+version) + numbers(version, []uint64{h.Term, uint64(h.Vote), h.Commit}, 8, 1, 8)
}

// snapBytes is the Snap in its frame.
func snapBytes(version int, s area.Snap) string {
	body := numbers(version, []uint64{s.Index, s.Term}, 8, 8) + s.Data
	head := char(160+version) + numbers(version, []uint64{uint64(len(body))}, 4)
	sum := crc32.Checksum([]byte(head+body), crc32.MakeTable(crc32.Castagnoli))
	return head + string(binary.BigEndian.AppendUint32(nil, sum)) + body
}

// records is the entries as they stand in a half.
func records(t *testing.T, version int, l []api.Entry) string {
	t.Helper()
	out := ""
	for _, e := range l {
		s, ok := frame.PutEntry(version, e)
		if !ok {
			t.Fatalf("no frame of %v", e)
		}
		out += s
		if version == 1 {
			out += null((64 - len(out)%64) % 64)
		}
	}
	return out
}

// made is a device of these bytes, all flushed.
func made(t *testing.T, image string) *device.Device {
	t.Helper()
	d, e := device.Of(image)
	if e != api.OK {
		t.Fatal(e)
	}
	return d
}

// noisy is a device of so many sectors, of which no byte is 0.
func noisy(t *testing.T, sectors int) *device.Device {
	t.Helper()
	return made(t, mixed(64*sectors))
}

// crashed is the device, once it has crashed.
func crashed(d *device.Device) *device.Device {
	d.Arm(0)
	d.Flush()
	return d
}

// parts is what a device has: of super and hard what stands in the first sectors, of the others the bytes they begin with.
type parts struct {
	s           slots.Super
	super, hard string
	area, half  [2]string
}

// usual is the parts of a device that keeps that, where the Super tells, and junk where it does not.
func usual(t *testing.T, s slots.Super, state State) parts {
	t.Helper()
	p := parts{s: s, super: held(1, superBody(s)), hard: held(1, hardBody(s.Version, state.Hard))}
	p.area[s.Area], p.area[1-s.Area] = snapBytes(s.Version, state.Snap), mixed(64*s.Snap)
	p.half[s.Half], p.half[1-s.Half] = records(t, s.Version, state.Log), mixed(64*s.Log)
	return p
}

// bytes is the bytes of such a device, of just so many sectors as it needs.
func (p parts) bytes() string {
	pad := func(s string, sectors int) string { return s + null(64*sectors-len(s)) }
	return pad(p.super, 2) + pad(p.hard, 2) +
		pad(p.area[0], p.s.Snap) + pad(p.area[1], p.s.Snap) + pad(p.half[0], p.s.Log) + pad(p.half[1], p.s.Log)
}

// mounted is the image of a device that keeps that.
func mounted(t *testing.T, s slots.Super, state State) *Image {
	t.Helper()
	return mount(t, made(t, usual(t, s, state).bytes()))
}

// mount is the image of the device.
func mount(t *testing.T, d *device.Device) *Image {
	t.Helper()
	m, e := Mount(d)
	if e != api.OK || m == nil {
		t.Fatalf("Mount is %v, %d", m, e)
	}
	return m
}

// same says whether both are the same.
func same(a, b State) bool {
	return a.Hard == b.Hard && a.Snap == b.Snap && slices.Equal(a.Log, b.Log)
}

// tell is a State, as long as people can read.
func tell(s State) string {
	data := s.Snap.Data
	s.Snap.Data = ""
	return fmt.Sprintf("%v with %d bytes %.40q", s, len(data), data)
}

// knows asks whether that is what the image tells.
func knows(t *testing.T, what string, m *Image, s slots.Super, state State) {
	t.Helper()
	if got := m.State(); !same(got, state) {
		t.Errorf("%s: State is\n%s\nand should be\n%s", what, tell(got), tell(state))
	}
	if got := m.Super(); got != s {
		t.Errorf("%s: Super is %v, not %v", what, got, s)
	}
}

// keeps asks whether that is what the device keeps, whatever waits is lost.
func keeps(t *testing.T, what string, d *device.Device, s slots.Super, state State) {
	t.Helper()
	knows(t, what+", mounted", mount(t, d.After(d.Waiting())), s, state)
}

// holds asks whether the device's bytes are these, and these sectors wait.
func holds(t *testing.T, what string, d *device.Device, image string, waits ...int) {
	t.Helper()
	got := d.Image()
	for at := 0; got != image && at < len(image); at += 64 {
		if got[at:at+64] != image[at:at+64] {
			t.Errorf("%s: sector %d has\n%x\nand should have\n%x", what, at/64, got[at:at+64], image[at:at+64])
		}
	}
	if got := d.Waiting(); !slices.Equal(got, waits) {
		t.Errorf("%s: %v wait, and not %v", what, got, waits)
	}
}

// idle asks whether a call leaves the device as it was, and takes no step in it.
func idle(t *testing.T, what string, d *device.Device, call func()) {
	t.Helper()
	image, waits, was := d.Image(), d.Waiting(), d.Crashed()
	if !was {
		d.Arm(0)
	}
	call()
	holds(t, what, d, image, waits...)
	if d.Crashed() != was {
		t.Errorf("%s: it takes a step", what)
	}
	d.Arm(-1)
}

// refuses asks whether the call answers that error, takes no step, and the image stays.
func refuses(t *testing.T, what string, m *Image, call func() api.Errno, want api.Errno) {
	t.Helper()
	s, state := m.Super(), m.State()
	idle(t, what, m.Device(), func() {
		if e := call(); e != want {
			t.Errorf("%s: error %d, not %d", what, e, want)
		}
	})
	knows(t, what, m, s, state)
}

// deed is a sector that is written; or, of at below 0, a Flush.
type deed struct {
	at int
	s  string
}

// flush is a Flush.
var flush = deed{at: -1}

// laying is the deeds of so many sectors, from at on, that are s, and bytes 0.
func laying(at, many int, s string) []deed {
	s += null(64*many - len(s))
	var l []deed
	for k := range many {
		l = append(l, deed{at + k, s[64*k : 64*k+64]})
	}
	return l
}

// holding is the deeds of one thing in the two sectors from at on, the gen-th there.
func holding(at int, gen uint64, body string) []deed {
	return []deed{{at + int(1-gen%2), held(gen, body)}, flush}
}

// does asks whether a call does just these deeds, in their order, up to where the device crashes; start makes what it is done to anew.
func does(t *testing.T, what string, start func() (*device.Device, func() api.Errno), deeds ...deed) {
	t.Helper()
	for done := range len(deeds) + 1 {
		d, call := start()
		image := []byte(d.Image())
		waits := map[int]bool{}
		for _, x := range deeds[:done] {
			if x.at < 0 {
				clear(waits)
				continue
			}
			waits[x.at] = true
			copy(image[64*x.at:64*x.at+64], x.s)
		}
		var rising []int
		for at := range d.Sectors() {
			if waits[at] {
				rising = append(rising, at)
			}
		}
		want := api.ErrCrash
		if done == len(deeds) {
			want = api.OK
		}
		d.Arm(done)
		if e := call(); e != want {
			t.Errorf("%s: with a crash behind %d steps error %d, not %d", what, done, e, want)
		}
		holds(t, fmt.Sprintf("%s, behind %d steps", what, done), d, string(image), rising...)
	}
}

// supers are some of both versions, that tell each area and each half.
func supers() []slots.Super {
	var l []slots.Super
	for version := 1; version <= 2; version++ {
		for which := range 4 {
			l = append(l,
				slots.Super{Version: version, Snap: 1, Log: 6, Area: which % 2, Half: which / 2},
				slots.Super{Version: version, Snap: 3, Log: 8, Area: which % 2, Half: which / 2})
		}
	}
	return l
}

// noop is the least entry.
func noop(term, index uint64) api.Entry { return api.Entry{Term: term, Index: index} }

// write is a greater one.
func write(term, index uint64, data string) api.Entry {
	return api.Entry{Term: term, Index: index, Kind: api.Write, Client: 3, Seq: index, Block: 5, Data: data}
}

// states are some that each of supers has room for.
func states() []State {
	return []State{
		{},
		{Hard: slots.Hard{Term: 3, Vote: 2, Commit: 1}, Log: []api.Entry{noop(1, 1)}},
		{Hard: slots.Hard{Vote: 7}, Snap: area.Snap{Term: 4, Data: "none yet"}, Log: []api.Entry{noop(1, 1), write(2, 2, "ab")}},
		{Hard: slots.Hard{Term: ones, Commit: ones}, Snap: area.Snap{Index: 300, Term: 2, Data: mixed(39)}, Log: []api.Entry{write(2, 301, mixed(64)), noop(3, 302), write(300, 303, "\x00")}},
		{Snap: area.Snap{Index: ones, Term: ones, Data: null(20)}},
		{Snap: area.Snap{Index: ones - 2, Term: 7}, Log: []api.Entry{noop(8, ones-1), noop(9, ones)}},
	}
}

// P12.1: from First on area 0, area 1, half 0, half 1.
func TestPlaces(t *testing.T) {
	for _, snap := range []int{1, 2, 3, 500, 999, 1000} {
		for _, log := range []int{1, 2, 7, 500, 999, 1000} {
			for k := range 16 {
				s := slots.Super{Version: 1 + k%2, Snap: snap, Log: log, Area: k / 2 % 2, Half: k / 4 % 2, Goal: k / 8, Step: k / 8}
				got := [4]int{AreaAt(s, 0), AreaAt(s, 1), HalfAt(s, 0), HalfAt(s, 1)}
				if want := [4]int{4, 4 + snap, 4 + 2*snap, 4 + 2*snap + log}; got != want {
					t.Errorf("%v: the parts begin at %v, not at %v", s, got, want)
				}
			}
		}
	}
}

// P12.1: a part that is none is nowhere, and no place wraps.
func TestNoPlaces(t *testing.T) {
	s := slots.Super{Version: 1, Snap: 2, Log: 6}
	for _, which := range []int{math.MinInt, -1 << 32, -2, -1, 2, 3, 4, 1 << 32, 1<<32 + 1, 1 << 62, 1 << 63 >> 1, math.MaxInt} {
		if a, b := AreaAt(s, which), HalfAt(s, which); a != 0 || b != 0 {
			t.Errorf("part %d begins at %d, %d", which, a, b)
		}
	}
	for _, n := range []int{math.MinInt, -1 << 62, -1, 1 << 32, 1 << 61, 1 << 62, 1<<62 + 1, math.MaxInt - 4, math.MaxInt} {
		for which := range 2 {
			for _, s := range []slots.Super{{Version: 1, Snap: n, Log: 6}, {Version: 1, Snap: 2, Log: n}, {Version: 1, Snap: n, Log: n}} {
				if a, b := AreaAt(s, which), HalfAt(s, which); a != 0 || b != 0 {
					t.Errorf("%v: part %d begins at %d, %d", s, which, a, b)
				}
			}
		}
	}
}

// P12.1: ErrArg, if the Super is not right, or there are too few sectors, ahead of the device's error.
func TestNoFormat(t *testing.T) {
	wrong := []int{math.MinInt, -1 << 32, -1, 0, 1001, 4096, 65536, 65537, 1 << 32, 1<<32 + 1, 1 << 61, 1 << 62, math.MaxInt}
	var cases [][3]int
	for _, n := range wrong {
		cases = append(cases, [3]int{1, n, 1}, [3]int{1, 1, n}, [3]int{2, n, n}, [3]int{1, n, 1000}, [3]int{2, 1000, n})
	}
	for _, version := range []int{math.MinInt, -1, 0, 3, 16, 17, 161, 256, 257, 1<<32 + 1, math.MaxInt} {
		cases = append(cases, [3]int{version, 1, 1}, [3]int{version, 0, 0}, [3]int{version, 2, 6})
	}
	for _, sectors := range []int{1, 4, 40, api.MaxSectors} {
		for _, d := range []*device.Device{noisy(t, sectors), crashed(noisy(t, sectors))} {
			for _, c := range cases {
				noFormat(t, d, c[0], c[1], c[2])
			}
		}
	}
	for version := 1; version <= 2; version++ {
		for _, c := range [][2]int{{1, 1}, {1, 2}, {2, 1}, {3, 9}, {40, 50}, {1000, 1000}} {
			need := 4 + 2*(c[0]+c[1])
			for _, sectors := range []int{1, 3, 4, need - 2, need - 1} {
				noFormat(t, noisy(t, sectors), version, c[0], c[1])
				noFormat(t, crashed(noisy(t, sectors)), version, c[0], c[1])
			}
		}
	}
}

// noFormat asks whether Format answers ErrArg, and changes nothing.
func noFormat(t *testing.T, d *device.Device, version, snap, log int) {
	t.Helper()
	idle(t, "no Format", d, func() {
		if e := Format(d, version, snap, log); e != api.ErrArg {
			t.Errorf("Format(%d sectors, %d, %d, %d) is %d", d.Sectors(), version, snap, log, e)
		}
	})
}

// P12.1: what Format does, in its order, whatever the device had, and nothing else.
func TestFormat(t *testing.T) {
	for version := 1; version <= 2; version++ {
		for _, c := range [][2]int{{1, 1}, {2, 6}, {5, 3}} {
			for _, more := range []int{0, 1, 9} {
				s := slots.Super{Version: version, Snap: c[0], Log: c[1]}
				start := func() (*device.Device, func() api.Errno) {
					d := noisy(t, 4+2*(c[0]+c[1])+more)
					return d, func() api.Errno { return Format(d, version, c[0], c[1]) }
				}
				deeds := formatting(s, 1)
				does(t, "Format", start, deeds...)
				d, call := start()
				call()
				keeps(t, "Format", d, s, State{})
			}
		}
	}
}

// formatting is what Format does, if it is the gen-th thing that is written to the first sectors.
func formatting(s slots.Super, gen uint64) []deed {
	deeds := laying(4, s.Snap, snapBytes(s.Version, area.Snap{}))
	deeds = append(deeds, laying(4+2*s.Snap, s.Log, "")...)
	deeds = append(deeds, flush)
	deeds = append(deeds, holding(2, gen, hardBody(s.Version, slots.Hard{}))...)
	return append(deeds, holding(0, gen, superBody(s))...)
}

// P12.1: a device that kept something keeps nothing then; the first sectors are written as they are always.
func TestFormatAgain(t *testing.T) {
	for _, was := range supers() {
		for _, state := range states() {
			for version := 1; version <= 2; version++ {
				s := slots.Super{Version: version, Snap: 2, Log: 3}
				start := func() (*device.Device, func() api.Errno) {
					d := made(t, usual(t, was, state).bytes())
					return d, func() api.Errno { return Format(d, version, 2, 3) }
				}
				does(t, "again", start, formatting(s, 2)...)
				d, call := start()
				call()
				keeps(t, "again", d, s, State{})
			}
		}
	}
}

// P12.1: a device whose bytes, sums among them, are written out.
func TestFormatKnown(t *testing.T) {
	for version, want := range map[int][3]string{
		1: {
			"\x66\xfc\x80\xa8\x00\x00\x00\x00\x00\x00\x00\x01\x09\x01\x00\x01\x00\x02\x00\x00\x00\x00",
			"\x19\xfc\x70\xc1\x00\x00\x00\x00\x00\x00\x00\x01\x12\x11",
			"\xa1\x00\x00\x00\x10\x12\xb4\x7e\x4e",
		},
		2: {
			"\xf9\x77\x2b\xae\x00\x00\x00\x00\x00\x00\x00\x01\x07\x02\x01\x02",
			"\xe7\x82\x8f\x6e\x00\x00\x00\x00\x00\x00\x00\x01\x04\x12",
			"\xa2\x02\x3d\xea\xe7\xff",
		},
	} {
		d := made(t, null(64*10))
		if e := Format(d, version, 1, 2); e != api.OK {
			t.Fatal(e)
		}
		image := ""
		for _, at := range []int{0, 2, 4} {
			s := want[at/2]
			image += s + null(64-len(s))
			if at < 4 {
				image += null(64)
			}
		}
		holds(t, "known", d, image+null(64*5))
	}
}

// P12.1: the least device that there may be, and the greatest.
func TestFormatEdges(t *testing.T) {
	for version := 1; version <= 2; version++ {
		for _, c := range [][2]int{{1, 1}, {1, 1000}, {1000, 1}, {1000, 1000}} {
			need := 4 + 2*(c[0]+c[1])
			for _, sectors := range []int{need, need + 1, api.MaxSectors} {
				d := noisy(t, sectors)
				if e := Format(d, version, c[0], c[1]); e != api.OK {
					t.Errorf("Format(%d sectors, %d, %v) is %d", sectors, version, c, e)
				}
				keeps(t, "edges", d, slots.Super{Version: version, Snap: c[0], Log: c[1]}, State{})
			}
		}
	}
}

// noMount asks whether Mount answers that error, and nothing beside it, and changes nothing.
func noMount(t *testing.T, what string, d *device.Device, want api.Errno) {
	t.Helper()
	idle(t, what, d, func() {
		if m, e := Mount(d); m != nil || e != want {
			t.Errorf("%s: Mount is %v, %d; it should be error %d", what, m, e, want)
		}
	})
}

// P12.2: what the device keeps where the Super tells is found, whatever stands in the other area and half.
func TestMount(t *testing.T) {
	for _, s := range supers() {
		for _, state := range states() {
			for _, more := range []int{0, 1, 7} {
				d := made(t, usual(t, s, state).bytes()+mixed(64*more))
				idle(t, "mount", d, func() {
					m := mount(t, d)
					knows(t, "mount", m, s, state)
					if m.Device() != d {
						t.Errorf("Device is another one")
					}
				})
			}
		}
	}
}

// P12.2: it is mounted while a conversion is under way, too, whatever the step.
func TestMountGoal(t *testing.T) {
	for _, s := range supers() {
		for goal := 1; goal <= 2; goal++ {
			for step := range 10 {
				s.Goal, s.Step = goal, step
				for _, state := range states() {
					d := made(t, usual(t, s, state).bytes())
					idle(t, "goal", d, func() { knows(t, "goal", mount(t, d), s, state) })
				}
			}
		}
	}
}

// P12.2: the Hard counts, of whichever version it is, and that of nothing, if none was set.
func TestMountHard(t *testing.T) {
	for _, s := range supers() {
		for _, state := range states() {
			p := usual(t, s, state)
			p.hard = held(5, hardBody(3-s.Version, state.Hard))
			knows(t, "of the other version", mount(t, made(t, p.bytes())), s, state)
			p.hard, state.Hard = "", slots.Hard{}
			knows(t, "no Hard", mount(t, made(t, p.bytes())), s, state)
		}
	}
}

// P12.2: the error of Load, ahead of what else is wrong.
func TestMountNoLoad(t *testing.T) {
	noMount(t, "one sector", made(t, null(64)), api.ErrBounds)
	for _, sectors := range []int{2, 4, 40, api.MaxSectors} {
		noMount(t, "new", made(t, null(64*sectors)), api.ErrNone)
		noMount(t, "noise", noisy(t, sectors), api.ErrNone)
		noMount(t, "crashed", crashed(noisy(t, sectors)), api.ErrCrash)
	}
	for _, s := range supers() {
		p := usual(t, s, states()[2])
		b := p.bytes()
		noMount(t, "crashed", crashed(made(t, b)), api.ErrCrash)
		noMount(t, "a sector too few", made(t, b[:len(b)-64]), api.ErrForm)
		noMount(t, "no Super", made(t, null(128)+b[128:]), api.ErrNone)
		p.super = held(1, "none")
		noMount(t, "another Super", made(t, p.bytes()), api.ErrForm)
		p.super = held(1, superBody(slots.Super{Version: s.Version, Snap: s.Snap, Log: s.Log, Step: 1}))
		noMount(t, "a Super that is not right", made(t, p.bytes()), api.ErrForm)
		p = usual(t, s, states()[2])
		p.hard = held(1, "none")
		noMount(t, "another Hard", made(t, p.bytes()), api.ErrForm)
	}
}

// P12.2: ErrForm, if the area has no Snap, or one of another version; nothing is wiped then.
func TestMountNoSnap(t *testing.T) {
	for _, s := range supers() {
		for _, state := range states() {
			p := usual(t, s, state)
			snap := p.area[s.Area]
			for _, b := range []string{"", mixed(64 * s.Snap), "\x00" + snap, snap[:len(snap)-1] + "~", snapBytes(3-s.Version, state.Snap), snapBytes(3, state.Snap)} {
				if len(b) > 64*s.Snap {
					b = b[:64*s.Snap]
				}
				p.area[s.Area] = b
				noMount(t, "no Snap", made(t, p.bytes()), api.ErrForm)
				p.half[s.Half] = mixed(64 * s.Log)
				noMount(t, "no Snap, and junk", made(t, p.bytes()), api.ErrForm)
			}
		}
	}
}

// P12.2: ErrForm, if the log does not begin behind the Snap, or leaves a place out; nothing is wiped then.
func TestMountNoLog(t *testing.T) {
	for _, s := range supers() {
		for _, c := range []struct {
			base uint64
			l    []uint64
		}{
			{0, []uint64{2}}, {0, []uint64{300}}, {0, []uint64{1, 3}}, {0, []uint64{1, 2, 4}}, {0, []uint64{1, 2, ones}}, {0, []uint64{2, 1}}, {0, []uint64{1, 3, 2}}, {0, []uint64{1, 2, 1, 3}},
			{5, []uint64{1}}, {5, []uint64{4}}, {5, []uint64{5}}, {5, []uint64{5, 6}}, {5, []uint64{7}}, {5, []uint64{6, 5}}, {5, []uint64{6, 7, 5}}, {5, []uint64{6, 8}}, {5, []uint64{6, 7, 6, 8}},
			{ones, []uint64{1}}, {ones, []uint64{ones}}, {ones - 1, []uint64{ones, 1}}, {ones - 1, []uint64{ones - 1, ones}}, {ones - 1, []uint64{1}},
		} {
			state := State{Snap: area.Snap{Index: c.base, Term: 1}}
			for _, index := range c.l {
				state.Log = append(state.Log, noop(2, index))
			}
			if s.Log < 2*len(state.Log) && s.Version == 1 {
				continue // no room
			}
			p := usual(t, s, state)
			noMount(t, "no log", made(t, p.bytes()), api.ErrForm)
			if len(p.half[s.Half]) < 64*s.Log-4 {
				p.half[s.Half] += "junk"
				noMount(t, "no log, and junk", made(t, p.bytes()), api.ErrForm)
			}
		}
	}
}

// P12.2: the log is what Join told, of entries that take the places of others.
func TestMountJoin(t *testing.T) {
	for _, s := range supers() {
		snap := area.Snap{Index: 5, Term: 1, Data: "five"}
		for _, c := range []struct{ kept, log []api.Entry }{
			{[]api.Entry{noop(2, 6), noop(3, 6)}, []api.Entry{noop(3, 6)}},
			{[]api.Entry{noop(2, 6), noop(2, 7), noop(3, 7)}, []api.Entry{noop(2, 6), noop(3, 7)}},
			{[]api.Entry{noop(2, 6), noop(2, 7), noop(3, 6)}, []api.Entry{noop(3, 6)}},
			{[]api.Entry{noop(2, 6), noop(2, 6), noop(2, 6)}, []api.Entry{noop(2, 6)}},
			{[]api.Entry{noop(2, 6), noop(3, 6), noop(3, 7)}, []api.Entry{noop(3, 6), noop(3, 7)}},
		} {
			b := usual(t, s, State{Snap: snap, Log: c.kept}).bytes()
			idle(t, "join", made(t, b), func() { knows(t, "join", mount(t, made(t, b)), s, State{Snap: snap, Log: c.log}) })
		}
	}
}

// P12.2: what stands behind the log is wiped, and flushed, and nothing beside it.
func TestMountWipe(t *testing.T) {
	for _, s := range supers() {
		for _, state := range states() {
			p := usual(t, s, state)
			clean := p.bytes()
			log := p.half[s.Half]
			room := 64*s.Log - len(log)
			if room == 0 {
				continue
			}
			for _, junk := range []string{"\x01", "junk", mixed(room), null(room-1) + "\x01", null(70) + "\x01", records(t, 3-s.Version, []api.Entry{noop(2, 1)})} {
				if len(junk) > room {
					continue
				}
				p.half[s.Half] = log + junk
				start := func() (*device.Device, func() api.Errno) {
					d := made(t, p.bytes())
					return d, func() api.Errno {
						m, e := Mount(d)
						if e == api.OK {
							knows(t, "wiped", m, s, state)
						} else if m != nil {
							t.Errorf("beside error %d Mount tells an image", e)
						}
						return e
					}
				}
				does(t, "wipe", start, wiping(4+2*s.Snap+s.Half*s.Log, log+junk, len(log))...)
				d, call := start()
				call()
				holds(t, "wiped", d, clean)
			}
		}
	}
}

// wiping is the deeds of wiping what is not 0 from used on, in the sectors from at on that are s.
func wiping(at int, s string, used int) []deed {
	var l []deed
	for k := used / 64; 64*k < len(s); k++ {
		has := s[64*k : min(64*k+64, len(s))]
		stays := has[:max(0, used-64*k)]
		if strings.Trim(has[len(stays):], "\x00") != "" {
			l = append(l, deed{at + k, stays + null(64-len(stays))})
		}
	}
	return append(l, flush)
}

// P12.2: records of the other version are none, and wiped.
func TestMountOtherLog(t *testing.T) {
	for _, s := range supers() {
		p := usual(t, s, states()[2])
		p.half[s.Half] = records(t, 3-s.Version, states()[2].Log)
		state := states()[2]
		state.Log = nil
		knows(t, "other log", mount(t, made(t, p.bytes())), s, state)
	}
}

// P3: State is new memory each time.
func TestStateNew(t *testing.T) {
	for _, s := range supers() {
		state := states()[3]
		m := mounted(t, s, state)
		a, b := m.State(), m.State()
		a.Log[1] = noop(9, 9)
		for k := range a.Log[:cap(a.Log)] {
			a.Log[:cap(a.Log)][k] = noop(9, 9)
		}
		if !same(b, state) {
			t.Errorf("two States share their logs")
		}
		knows(t, "new", m, s, state)
		if e := m.Append([]api.Entry{noop(300, 303)}); s.Version == 2 && e != api.OK {
			t.Error(e)
		}
		if !same(b, state) {
			t.Errorf("a State changes with the image")
		}
	}
}

// apart says whether both lists share no memory.
func apart(a, b []api.Entry) bool {
	return cap(a) == 0 || cap(b) == 0 || unsafe.SliceData(a) != unsafe.SliceData(b)
}
