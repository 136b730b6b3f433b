package convert

import (
	"encoding/binary"
	"fmt"
	"hash/crc32"
	"math"
	"slices"
	"strings"
	"testing"

	"pintle/api"
	"pintle/area"
	"pintle/device"
	"pintle/frame"
	"pintle/image"
	"pintle/slots"
)

// ones is the greatest number.
const ones = math.MaxUint64

// mixed is a text of n bytes, of which none is 0.
func mixed(n int) string {
	b := make([]byte, n)
	for k := range b {
		b[k] = byte(1 + k*7%255)
	}
	return string(b)
}

// null is so many bytes 0.
func null(n int) string { return strings.Repeat("\x00", n) }

// char is one byte.
func char(n int) string { return string([]byte{byte(n)}) }

// sum is the four bytes of the sum of s.
func sum(s string) string {
	n := crc32.Checksum([]byte(s), crc32.MakeTable(crc32.Castagnoli))
	return string(binary.BigEndian.AppendUint32(nil, n))
}

// held is a sector of those two that hold one thing.
func held(gen uint64, body string) string {
	s := string(binary.BigEndian.AppendUint64(nil, gen)) + char(len(body)) + body
	s += null(60 - len(s))
	return sum(s) + s
}

// numbers is them as the version has them: of version 1 each as so many bytes.
func numbers(version int, ns []uint64, sizes ...int) string {
	var b []byte
	for k, n := range ns {
		if version == 2 {
			b = binary.AppendUvarint(b, n)
		} else {
			b = append(b, binary.BigEndian.AppendUint64(nil, n)[8-sizes[k]:]...)
		}
	}
	return string(b)
}

// superBody is the bytes of the Super.
func superBody(s slots.Super) string {
	ns := []uint64{uint64(s.Snap), uint64(s.Log), uint64(s.Area), uint64(s.Half), uint64(s.Goal), uint64(s.Step)}
	return char(s.Version) + numbers(s.Version, ns, 2, 2, 1, 1, 1, 1)
}

// hardBody is the bytes of the Hard.
func hardBody(version int, h slots.Hard) string {
	return char(16+version) + numbers(version, []uint64{h.Term, uint64(h.Vote), h.Commit}, 8, 1, 8)
}

// snapBytes is the Snap in its frame.
func snapBytes(version int, s area.Snap) string {
	body := numbers(version, []uint64{s.Index, s.Term}, 8, 8) + s.Data
	head := char(160+version) + numbers(version, []uint64{uint64(len(body))}, 4)
	return head + sum(head+body) + body
}

// records is the entries as they stand in a half.
func records(t *testing.T, version int, l []api.Entry) string {
	t.Helper()
	out := ""
	for _, e := range l {
		s, ok := frame.PutEntry(version, e)
		if !ok {
			t.Fatalf("no frame of %v", e)
		}
		out += s
		if version == 1 {
			out += null((64 - len(out)%64) % 64)
		}
	}
	return out
}

// made is a device of these bytes, all flushed.
func made(t *testing.T, bytes string) *device.Device {
	t.Helper()
	d, e := device.Of(bytes)
	if e != api.OK {
		t.Fatal(e)
	}
	return d
}

// crashed is the device, once it has crashed.
func crashed(d *device.Device) *device.Device {
	d.Arm(0)
	d.Flush()
	return d
}

// parts is what a device has: of super and hard what stands in the first sectors, of the others the bytes they begin with.
type parts struct {
	s           slots.Super
	super, hard string
	area, half  [2]string
}

// usual is the parts of a device that keeps that, where the Super tells, and junk where it does not.
func usual(t *testing.T, s slots.Super, state image.State) parts {
	t.Helper()
	p := parts{s: s, super: held(1, superBody(s)), hard: held(1, hardBody(s.Version, state.Hard))}
	p.area[s.Area], p.area[1-s.Area] = snapBytes(s.Version, state.Snap), mixed(64*s.Snap)
	p.half[s.Half], p.half[1-s.Half] = records(t, s.Version, state.Log), mixed(64*s.Log)
	return p
}

// bytes is the bytes of such a device, of just so many sectors as it needs.
func (p parts) bytes() string {
	pad := func(s string, sectors int) string { return s + null(64*sectors-len(s)) }
	return pad(p.super, 2) + pad(p.hard, 2) +
		pad(p.area[0], p.s.Snap) + pad(p.area[1], p.s.Snap) + pad(p.half[0], p.s.Log) + pad(p.half[1], p.s.Log)
}

// mounted is the image of a device that keeps that.
func mounted(t *testing.T, s slots.Super, state image.State) *image.Image {
	t.Helper()
	return mount(t, made(t, usual(t, s, state).bytes()))
}

// mount is the image of the device.
func mount(t *testing.T, d *device.Device) *image.Image {
	t.Helper()
	m, e := image.Mount(d)
	if e != api.OK || m == nil {
		t.Fatalf("Mount is %v, %d", m, e)
	}
	return m
}

// same says whether both are the same.
func same(a, b image.State) bool {
	return a.Hard == b.Hard && a.Snap == b.Snap && slices.Equal(a.Log, b.Log)
}

// tell is a State, as long as people can read.
func tell(s image.State) string {
	data := s.Snap.Data
	s.Snap.Data = ""
	return fmt.Sprintf("%v with %d bytes %.40q", s, len(data), data)
}

// knows asks whether that is what the image tells.
func knows(t *testing.T, what string, m *image.Image, s slots.Super, state image.State) {
	t.Helper()
	if got := m.State(); !same(got, state) {
		t.Errorf("%s: State is\n%s\nand should be\n%s", what, tell(got), tell(state))
	}
	if got := m.Super(); got != s {
		t.Errorf("%s: Super is %v, not %v", what, got, s)
	}
}

// keeps asks whether that is what the device keeps, whatever waits is lost.
func keeps(t *testing.T, what string, d *device.Device, s slots.Super, state image.State) {
	t.Helper()
	knows(t, what+", mounted", mount(t, d.After(d.Waiting())), s, state)
}

// holds asks whether the device's bytes are these, and these sectors wait.
func holds(t *testing.T, what string, d *device.Device, bytes string, waits ...int) {
	t.Helper()
	got := d.Image()
	for at := 0; got != bytes && at < len(bytes); at += 64 {
		if got[at:at+64] != bytes[at:at+64] {
			t.Errorf("%s: sector %d has\n%x\nand should have\n%x", what, at/64, got[at:at+64], bytes[at:at+64])
		}
	}
	if got := d.Waiting(); !slices.Equal(got, waits) {
		t.Errorf("%s: %v wait, and not %v", what, got, waits)
	}
}

// idle asks whether a call leaves the device as it was, and takes no step in it.
func idle(t *testing.T, what string, d *device.Device, call func()) {
	t.Helper()
	bytes, waits, was := d.Image(), d.Waiting(), d.Crashed()
	if !was {
		d.Arm(0)
	}
	call()
	holds(t, what, d, bytes, waits...)
	if d.Crashed() != was {
		t.Errorf("%s: it takes a step", what)
	}
	d.Arm(-1)
}

// doing is a call of this layer that answers an image.
type doing func(m *image.Image) (*image.Image, api.Errno)

// beginning is Begin to that version.
func beginning(goal int) doing {
	return func(m *image.Image) (*image.Image, api.Errno) { return Begin(m, goal) }
}

// running is Run to that version.
func running(goal int) doing {
	return func(m *image.Image) (*image.Image, api.Errno) { return Run(m, goal) }
}

// refuses asks whether the call answers that error, and no image, takes no step, and the image handed in stays.
func refuses(t *testing.T, what string, m *image.Image, call doing, want api.Errno) {
	t.Helper()
	s, state := m.Super(), m.State()
	idle(t, what, m.Device(), func() {
		if x, e := call(m); x != nil || e != want {
			t.Errorf("%s: %v, error %d, not %d", what, x, e, want)
		}
	})
	knows(t, what, m, s, state)
}

// deed is a sector that is written; or, of at below 0, a Flush.
type deed struct {
	at int
	s  string
}

// flush is a Flush.
var flush = deed{at: -1}

// laying is the deeds of so many sectors, from at on, that are s, and bytes 0.
func laying(at, many int, s string) []deed {
	s += null(64*many - len(s))
	var l []deed
	for k := range many {
		l = append(l, deed{at + k, s[64*k : 64*k+64]})
	}
	return l
}

// holding is the deeds of one thing in the two sectors from at on, the gen-th there.
func holding(at int, gen uint64, body string) []deed {
	return []deed{{at + int(1-gen%2), held(gen, body)}, flush}
}

// after is what the device has, and which sectors wait, behind these deeds.
func after(d *device.Device, deeds []deed) (string, []int) {
	bytes := []byte(d.Image())
	waits := map[int]bool{}
	for _, x := range deeds {
		if x.at < 0 {
			clear(waits)
			continue
		}
		waits[x.at] = true
		copy(bytes[64*x.at:64*x.at+64], x.s)
	}
	var rising []int
	for at := range d.Sectors() {
		if waits[at] {
			rising = append(rising, at)
		}
	}
	return string(bytes), rising
}

// does asks whether the call does just these deeds, in their order, up to where the device crashes, and tells the image behind them.
func does(t *testing.T, what string, bytes string, call doing, deeds []deed, s slots.Super, state image.State) {
	t.Helper()
	for done := range len(deeds) + 1 {
		m := mount(t, made(t, bytes))
		d, was := m.Device(), m.Super()
		image, waits := after(d, deeds[:done])
		d.Arm(done)
		x, e := call(m)
		if done == len(deeds) {
			if e != api.OK || x == nil {
				t.Fatalf("%s: %v, error %d", what, x, e)
			}
			knows(t, what, x, s, state)
			keeps(t, what, d, s, state)
			if x.Device() != d || x == m {
				t.Errorf("%s: the image is of another device, or what was handed in", what)
			}
		} else if x != nil || e != api.ErrCrash {
			t.Errorf("%s: with a crash behind %d steps %v, error %d", what, done, x, e)
		}
		holds(t, fmt.Sprintf("%s, behind %d steps", what, done), d, image, waits...)
		knows(t, what+", handed in", m, was, state)
	}
}

// supers are some of both versions, that tell each area and each half.
func supers() []slots.Super {
	var l []slots.Super
	for version := 1; version <= 2; version++ {
		for which := range 4 {
			l = append(l,
				slots.Super{Version: version, Snap: 1, Log: 6, Area: which % 2, Half: which / 2},
				slots.Super{Version: version, Snap: 3, Log: 8, Area: which % 2, Half: which / 2})
		}
	}
	return l
}

// noop is the least entry.
func noop(term, index uint64) api.Entry { return api.Entry{Term: term, Index: index} }

// write is a greater one.
func write(term, index uint64, data string) api.Entry {
	return api.Entry{Term: term, Index: index, Kind: api.Write, Client: 3, Seq: index, Block: 5, Data: data}
}

// swap is one of level 2.
func swap(term, index uint64) api.Entry {
	return api.Entry{Term: term, Index: index, Kind: api.Swap, Client: 1, Data: "a", Old: "b"}
}

// kinds is an entry of each kind of level 1, one behind the other.
func kinds() []api.Entry {
	return []api.Entry{
		{Term: 1, Index: 1},
		{Term: 1, Index: 2, Kind: api.Write, Client: ones, Seq: ones, Block: 1<<32 - 1, Data: mixed(64)},
		{Term: 1, Index: 3, Kind: api.Trim, Client: 2, Seq: 1, Block: 3, Many: 4},
		{Term: 1, Index: 4, Kind: api.Resize, Client: 2, Seq: 2, Many: 128},
		{Term: 1, Index: 5, Kind: api.Open, Client: 9},
		{Term: 1, Index: 6, Kind: api.Add, Node: 7},
		{Term: 1, Index: 7, Kind: api.Remove, Node: 1},
		{Term: 1, Index: 8, Kind: api.Register, Node: 3, Level: 2},
		{Term: 1, Index: 9, Kind: api.Upgrade},
		{Term: 1, Index: 10, Kind: api.Lower},
		{Term: ones, Index: 11, Kind: api.Finalise},
	}
}

// states are some that each of supers has room for, in both versions.
func states() []image.State {
	return []image.State{
		{},
		{Hard: slots.Hard{Term: 3, Vote: 2, Commit: 1}, Log: []api.Entry{noop(1, 1)}},
		{Hard: slots.Hard{Vote: 7}, Snap: area.Snap{Term: 4, Data: "none yet"}, Log: []api.Entry{noop(1, 1), write(2, 2, "ab")}},
		{Hard: slots.Hard{Term: ones, Commit: ones}, Snap: area.Snap{Index: 300, Term: 2, Data: mixed(39)}, Log: []api.Entry{write(2, 301, mixed(64)), noop(3, 302), write(300, 303, "\x00")}},
		{Snap: area.Snap{Index: ones, Term: ones, Data: null(20)}},
		{Snap: area.Snap{Index: ones - 2, Term: 7}, Log: []api.Entry{noop(8, ones-1), noop(9, ones)}},
	}
}
