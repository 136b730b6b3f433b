package wal

import (
	"math"
	"slices"
	"strings"
	"testing"

	"pintle/api"
	"pintle/device"
)

// made is a device of these bytes, all flushed.
func made(t *testing.T, image string) *device.Device {
	t.Helper()
	d, e := device.Of(image)
	if e != api.OK {
		t.Fatal(e)
	}
	return d
}

// noisy is a device of so many sectors, of which no byte is 0.
func noisy(t *testing.T, sectors int) *device.Device {
	t.Helper()
	return made(t, mixed(64*sectors))
}

// crashed is the device, once it has crashed.
func crashed(d *device.Device) *device.Device {
	d.Arm(0)
	d.Flush()
	return d
}

// holds asks whether the device's bytes are these, and these sectors wait.
func holds(t *testing.T, what string, d *device.Device, image string, waits ...int) {
	t.Helper()
	if got := d.Image(); got != image {
		t.Errorf("%s: the device has\n%x\nand should have\n%x", what, got, image)
	}
	if got := d.Waiting(); !slices.Equal(got, waits) {
		t.Errorf("%s: %v wait, and not %v", what, got, waits)
	}
}

// idle asks whether a call leaves the device as it was, and takes no step in it.
func idle(t *testing.T, what string, d *device.Device, call func()) {
	t.Helper()
	image, waits, was := d.Image(), d.Waiting(), d.Crashed()
	if !was {
		d.Arm(0)
	}
	call()
	holds(t, what, d, image, waits...)
	if d.Crashed() != was {
		t.Errorf("%s: it takes a step", what)
	}
	d.Arm(-1)
}

// reads asks whether that is read, and the device left as it is.
func reads(t *testing.T, what string, d *device.Device, r Region, l []api.Entry, used int) {
	t.Helper()
	idle(t, what, d, func() {
		if got, n, e := Read(d, r); !slices.Equal(got, l) || n != used || e != api.OK {
			t.Errorf("%s: Read of %v is %d entries, %d, %d; it should be %d, %d", what, r, len(got), n, e, len(l), used)
		}
	})
}

// noRead asks whether Read answers that error, and nothing beside it.
func noRead(t *testing.T, what string, d *device.Device, r Region, want api.Errno) {
	t.Helper()
	idle(t, what, d, func() {
		if got, n, e := Read(d, r); len(got) != 0 || n != 0 || e != want {
			t.Errorf("%s: Read of %v is %v, %d, %d; it should be error %d", what, r, got, n, e, want)
		}
	})
}

// adds asks whether Add answers where they end.
func adds(t *testing.T, what string, d *device.Device, r Region, used int, l []api.Entry, want int) {
	t.Helper()
	if n, e := Add(d, r, used, l); n != want || e != api.OK {
		t.Errorf("%s: Add to %v from %d on is %d, %d; it should be %d", what, r, used, n, e, want)
	}
}

// noAdd asks whether Add answers that error, and changes nothing.
func noAdd(t *testing.T, what string, d *device.Device, r Region, used int, l []api.Entry, want api.Errno) {
	t.Helper()
	idle(t, what, d, func() {
		if n, e := Add(d, r, used, l); n != 0 || e != want {
			t.Errorf("%s: Add to %v from %d on is %d, %d; it should be error %d", what, r, used, n, e, want)
		}
	})
}

// noFill asks whether Fill answers that error, and changes nothing.
func noFill(t *testing.T, what string, d *device.Device, r Region, l []api.Entry, want api.Errno) {
	t.Helper()
	idle(t, what, d, func() {
		if e := Fill(d, r, l); e != want {
			t.Errorf("%s: Fill of %v is %d; it should be error %d", what, r, e, want)
		}
	})
}

// wipesNone asks whether Wipe answers that, and takes no step in the device.
func wipesNone(t *testing.T, what string, d *device.Device, r Region, used int, want api.Errno) {
	t.Helper()
	idle(t, what, d, func() {
		if e := Wipe(d, r, used); e != want {
			t.Errorf("%s: Wipe of %v from %d on is %d, not %d", what, r, used, e, want)
		}
	})
}

// laid is the image with s from that place on, and behind it bytes 0 up to the end of the sector.
func laid(image string, place int, s string) string {
	s += null((64 - (place+len(s))%64) % 64)
	return image[:place] + s + image[place+len(s):]
}

// span is the numbers from one up to the other, but not that.
func span(from, to int) []int {
	var l []int
	for k := from; k < to; k++ {
		l = append(l, k)
	}
	return l
}

// noRegions are regions that a device of so many sectors has not.
func noRegions(sectors int) []Region {
	l := []Region{
		{0, sectors + 1, 1}, {1, sectors, 1}, {sectors, 1, 1}, {sectors - 1, 2, 1}, {sectors + 1, 1, 1}, {0, 0, 1}, {0, -1, 1}, {sectors, 0, 1}, {sectors + 1, -1, 1},
		{-1, 1, 1}, {-1, 2, 1}, {-1, sectors + 1, 1}, {math.MinInt, 1, 1}, {0, math.MinInt, 1}, {math.MinInt, math.MinInt, 1}, {0, math.MaxInt, 1}, {1, math.MaxInt, 1},
		{math.MaxInt, 1, 1}, {math.MaxInt, math.MaxInt, 1}, {math.MaxInt, math.MinInt, 1}, {math.MinInt, math.MaxInt, 1}, {math.MaxInt, 2, 1}, {1 << 32, 1, 1}, {0, 1 << 32, 1}, {0, 1<<58 + 1, 1},
	}
	for _, r := range slices.Clone(l) {
		l = append(l, Region{r.At, r.Many, 2})
	}
	for _, version := range noVersions {
		l = append(l, Region{0, 1, version}, Region{0, sectors, version})
	}
	return l
}

// P10.3: ErrArg, if the device has no such Region, ahead of all else.
func TestNoRegion(t *testing.T) {
	for _, sectors := range []int{1, 4} {
		for _, d := range []*device.Device{noisy(t, sectors), crashed(noisy(t, sectors))} {
			for _, r := range noRegions(sectors) {
				noRead(t, "no region", d, r, api.ErrArg)
				for _, l := range [][]api.Entry{nil, {noop(1, 1)}, {{}}, slices.Repeat([]api.Entry{noop(1, 1)}, 100)} {
					noAdd(t, "no region", d, r, 0, l, api.ErrArg)
					noFill(t, "no region", d, r, l, api.ErrArg)
				}
				for _, used := range []int{0, 1, 64, -1} {
					wipesNone(t, "no region", d, r, used, api.ErrArg)
				}
			}
		}
	}
}

// P10.3: a Region may be all of a device, of the least and the greatest one too, and any part of it.
func TestRegion(t *testing.T) {
	for _, sectors := range []int{1, 2, 5, api.MaxSectors} {
		for _, from := range []int{0, 1, sectors / 2, sectors - 1} {
			for _, to := range []int{from + 1, sectors} {
				if from >= sectors {
					continue
				}
				image := null(64*sectors-1) + "\x01"
				d := made(t, image)
				r := Region{from, to - from, 2}
				reads(t, "empty", d, r, nil, 0)
				adds(t, "empty", d, r, 0, []api.Entry{noop(1, 1)}, 11)
				reads(t, "one", d, r, []api.Entry{noop(1, 1)}, 11)
				image = laid(image, 64*from, recorded(t, 2, []api.Entry{noop(1, 1)}))
				holds(t, "one", d, image, from)
			}
		}
	}
}

// P10.3: what is read is what stands in the Region's sectors, and in no other.
func TestRead(t *testing.T) {
	for version := 1; version <= 2; version++ {
		l := []api.Entry{write(1, 64), noop(1, 2), write(3, 64), noop(1, 4)}
		s, ends := spelled(t, version, l)
		room := (len(s) + 63) / 64
		for from := range 3 {
			d := made(t, laid(mixed(64*(from+room+2)), 64*from, s))
			for many := 1; many <= room+2; many++ {
				whole, used := 0, 0
				for k, end := range ends {
					if end <= 64*many {
						whole, used = k+1, end
					}
				}
				reads(t, "some", d, Region{from, many, version}, l[:whole], used)
			}
			reads(t, "the other version", d, Region{from, room, 3 - version}, nil, 0)
			reads(t, "one too far", d, Region{from + 1, room, version}, nil, 0)
		}
	}
}

// P10.3: what waits is read, too.
func TestReadWaiting(t *testing.T) {
	d := made(t, null(640))
	d.Write(3, recorded(t, 2, []api.Entry{noop(1, 1)}))
	reads(t, "waiting", d, Region{3, 2, 2}, []api.Entry{noop(1, 1)}, 11)
}

// P10.3: the device's error.
func TestReadCrashed(t *testing.T) {
	for version := 1; version <= 2; version++ {
		d := made(t, laid(null(640), 0, recorded(t, version, []api.Entry{noop(1, 1)})))
		noRead(t, "crashed", crashed(d), Region{0, 10, version}, api.ErrCrash)
	}
}

// P10.3: each sector that has some of them is written; what stands ahead in the first one stays; behind the last one it is bytes 0.
func TestAdd(t *testing.T) {
	for version := 1; version <= 2; version++ {
		for _, l := range [][]api.Entry{{noop(1, 1)}, {write(1, 64)}, {noop(1, 1), write(2, 1)}, {write(1, 64), write(2, 60), noop(3, 3)}} {
			s := recorded(t, version, l)
			for _, from := range []int{0, 2} {
				for used := 0; used <= 200; used++ {
					if version == 1 && used%64 != 0 {
						continue
					}
					d := noisy(t, 20)
					place := 64*from + used
					adds(t, "some", d, Region{from, 15, version}, used, l, used+len(s))
					holds(t, "some", d, laid(mixed(64*20), place, s), span(place/64, (place+len(s)+63)/64)...)
				}
			}
		}
	}
}

// P10.3: no sector has any of none: nothing is written, nor read.
func TestAddNone(t *testing.T) {
	for _, l := range [][]api.Entry{nil, {}} {
		for version := 1; version <= 2; version++ {
			for used := range 3*64 + 1 {
				if version == 1 && used%64 != 0 {
					continue
				}
				for _, d := range []*device.Device{noisy(t, 4), crashed(noisy(t, 4))} {
					idle(t, "none", d, func() { adds(t, "none", d, Region{1, 3, version}, used, l, used) })
				}
			}
		}
	}
}

// P10.3: ErrArg, if used is not 0 to the Region's size (of version 1 a multiple of Sector), ahead of ErrFull, and of the device's error.
func TestAddNoPlace(t *testing.T) {
	some := [][]api.Entry{nil, {noop(1, 1)}, {{}}, slices.Repeat([]api.Entry{noop(1, 1)}, 100)}
	for _, d := range []*device.Device{noisy(t, 5), crashed(noisy(t, 5))} {
		for _, l := range some {
			for version := 1; version <= 2; version++ {
				for _, used := range []int{math.MinInt, -64, -1, 193, 256, 320, 1 << 32, math.MaxInt - 63, math.MaxInt} {
					noAdd(t, "no place", d, Region{1, 3, version}, used, l, api.ErrArg)
				}
			}
			for used := range 192 {
				if used%64 != 0 {
					noAdd(t, "no multiple", d, Region{1, 3, 1}, used, l, api.ErrArg)
				}
			}
		}
	}
}

// P10.3: ErrArg, if l has no Records, ahead of ErrFull, and of the device's error.
func TestAddNoRecords(t *testing.T) {
	full := slices.Repeat([]api.Entry{noop(1, 1)}, 100)
	for _, d := range []*device.Device{noisy(t, 5), crashed(noisy(t, 5))} {
		for version := 1; version <= 2; version++ {
			for _, bad := range wrongs() {
				for _, used := range []int{0, 64, 192} {
					noAdd(t, "wrong", d, Region{1, 3, version}, used, []api.Entry{bad}, api.ErrArg)
					noAdd(t, "wrong", d, Region{1, 3, version}, used, append(full, bad), api.ErrArg)
				}
				noFill(t, "wrong", d, Region{1, 3, version}, []api.Entry{bad}, api.ErrArg)
				noFill(t, "wrong", d, Region{1, 3, version}, append(full, bad), api.ErrArg)
			}
		}
		noAdd(t, "a Swap", d, Region{1, 3, 1}, 0, []api.Entry{swap(1)}, api.ErrArg)
		noFill(t, "a Swap", d, Region{1, 3, 1}, []api.Entry{swap(1)}, api.ErrArg)
	}
	d := noisy(t, 5)
	s := recorded(t, 2, []api.Entry{swap(1)})
	adds(t, "a Swap", d, Region{1, 3, 2}, 0, []api.Entry{swap(1)}, len(s))
}

// P10.3: ErrFull, if they end behind the Region, ahead of the device's error; they may end where it does.
func TestAddFull(t *testing.T) {
	for version := 1; version <= 2; version++ {
		l := []api.Entry{write(1, 30), noop(1, 2)}
		s := recorded(t, version, l)
		grain := []int{1: 64, 2: 1}[version]
		for many := (len(s) + 63) / 64; many <= 6; many++ {
			r := Region{1, many, version}
			fits := 64*many - len(s)
			for used := fits + grain; used <= 64*many; used += grain {
				noAdd(t, "full", noisy(t, 8), r, used, l, api.ErrFull)
				noAdd(t, "full", crashed(noisy(t, 8)), r, used, l, api.ErrFull)
			}
			d := noisy(t, 8)
			adds(t, "just full", d, r, fits, l, 64*many)
			holds(t, "just full", d, laid(mixed(64*8), 64+fits, s), span(1+fits/64, 1+many)...)
		}
	}
}

// P10.3: the first error of the device, and 0; the sectors are written rising, and those ahead of a crash were.
func TestAddCrash(t *testing.T) {
	for version := 1; version <= 2; version++ {
		l := []api.Entry{write(1, 64), write(2, 64), write(3, 64)}
		for _, used := range []int{0, 64, 64 + 37*(version-1)} {
			s := recorded(t, version, l)
			first, end := 1+used/64, 1+(used+len(s)+63)/64
			all := laid(mixed(64*14), 64+used, s)
			for step := range end - first + 1 {
				d := noisy(t, 14)
				d.Arm(step)
				n, e := Add(d, Region{1, 12, version}, used, l)
				if step == end-first {
					if n != used+len(s) || e != api.OK || d.Crashed() {
						t.Errorf("Add is %d, %d", n, e)
					}
				} else if n != 0 || e != api.ErrCrash {
					t.Errorf("a crash in step %d: Add is %d, %d", step, n, e)
				}
				done := 64 * (first + step)
				holds(t, "a crash", d, all[:done]+mixed(64 * 14)[done:], span(first, first+step)...)
			}
			noAdd(t, "crashed", crashed(noisy(t, 14)), Region{1, 12, version}, used, l, api.ErrCrash)
		}
	}
}

// P10.3: it is not flushed.
func TestAddWaits(t *testing.T) {
	for version := 1; version <= 2; version++ {
		d := noisy(t, 9)
		Add(d, Region{1, 8, version}, 64, []api.Entry{write(1, 64)})
		Fill(d, Region{5, 3, version}, []api.Entry{write(1, 64)})
		if image := d.After(d.Waiting()).Image(); image != mixed(64*9) {
			t.Errorf("of version %d some was flushed", version)
		}
	}
}

// P10.3: Fill writes all sectors of the Region: the entries, and behind them bytes 0.
func TestFill(t *testing.T) {
	for version := 1; version <= 2; version++ {
		for _, l := range [][]api.Entry{nil, {}, {noop(1, 1)}, {write(1, 64), write(2, 60), noop(3, 3)}, {noop(1, 1), write(2, 1)}} {
			s := recorded(t, version, l)
			for from := range 3 {
				for many := max(1, (len(s)+63)/64); many <= 8; many++ {
					d := noisy(t, 12)
					r := Region{from, many, version}
					if e := Fill(d, r, l); e != api.OK {
						t.Errorf("Fill of %v is %d", r, e)
					}
					holds(t, "filled", d, laid(mixed(64*12), 64*from, s+null(64*many-len(s))), span(from, from+many)...)
					reads(t, "filled", d, r, l, len(s))
				}
			}
		}
	}
}

// P10.3: ErrFull, if they end behind the Region, ahead of the device's error.
func TestFillFull(t *testing.T) {
	for version := 1; version <= 2; version++ {
		l := []api.Entry{write(1, 64), write(2, 64), write(3, 64)}
		room := (len(recorded(t, version, l)) + 63) / 64
		for many := 1; many < room; many++ {
			noFill(t, "full", noisy(t, 9), Region{1, many, version}, l, api.ErrFull)
			noFill(t, "full", crashed(noisy(t, 9)), Region{1, many, version}, l, api.ErrFull)
		}
	}
	var l []api.Entry
	for len(recorded(t, 2, l)) < 128 {
		l = append(l, noop(1, 1))
	}
	noFill(t, "some bytes too many", noisy(t, 3), Region{0, 2, 2}, l, api.ErrFull)
}

// P10.3: the first error of the device; the sectors are written rising.
func TestFillCrash(t *testing.T) {
	for version := 1; version <= 2; version++ {
		l := []api.Entry{write(1, 64)}
		all := laid(mixed(64*9), 64, recorded(t, version, l)+null(64*6-len(recorded(t, version, l))))
		for step := range 7 {
			d := noisy(t, 9)
			d.Arm(step)
			e := Fill(d, Region{1, 6, version}, l)
			if (e == api.OK) != (step == 6) || (step < 6 && e != api.ErrCrash) {
				t.Errorf("a crash in step %d: Fill is %d", step, e)
			}
			done := 64 * (1 + step)
			holds(t, "a crash", d, all[:done]+mixed(64 * 9)[done:], span(1, 1+step)...)
		}
		noFill(t, "crashed", crashed(noisy(t, 9)), Region{1, 6, version}, l, api.ErrCrash)
	}
}

// P10.3: all behind used is bytes 0, and flushed; all else stays.
func TestWipe(t *testing.T) {
	for version := 1; version <= 2; version++ {
		for _, r := range []Region{{0, 1, version}, {1, 3, version}, {2, 4, version}} {
			for used := range 64 * r.Many {
				d := noisy(t, 6)
				if e := Wipe(d, r, used); e != api.OK {
					t.Errorf("Wipe of %v from %d on is %d", r, used, e)
				}
				from, to := 64*r.At+used, 64*(r.At+r.Many)
				holds(t, "wiped", d, mixed(64 * 6)[:from]+null(to-from)+mixed(64 * 6)[to:])
				wipesNone(t, "wiped twice", d, r, used, api.OK)
			}
			wipesNone(t, "from its end on", noisy(t, 6), r, 64*r.Many, api.OK)
			wipesNone(t, "from its end on, crashed", crashed(noisy(t, 6)), r, 64*r.Many, api.OK)
		}
	}
}

// P10.3: a sector that is bytes 0 is not written; one of which any byte is not, is.
func TestWipeSome(t *testing.T) {
	r := Region{1, 4, 2}
	for used := range 64*4 + 1 {
		for spot := range 64 * 6 {
			b := []byte(null(64 * 6))
			b[spot] = 1
			d := made(t, string(b))
			if spot < 64+used || spot >= 64*5 {
				wipesNone(t, "nothing to wipe", d, r, used, api.OK)
				continue
			}
			d.Arm(2) // just one is written, and flushed
			if e := Wipe(d, r, used); e != api.OK {
				t.Errorf("Wipe from %d on of a byte at %d is %d", used, spot, e)
			}
			holds(t, "a byte", d, null(64*6))
		}
	}
}

// P10.3: those that are not all 0 are written rising, then it is flushed: the first error.
func TestWipeCrash(t *testing.T) {
	for version := 1; version <= 2; version++ {
		for _, used := range []int{0, 5, 63, 64, 65, 70, 128} {
			was := mixed(64*3) + null(64) + mixed(64*4)
			r := Region{1, 6, version}
			var dirty []int
			for k := 1 + used/64; k < 7; k++ {
				if k != 3 {
					dirty = append(dirty, k)
				}
			}
			for step := range len(dirty) + 2 {
				d := made(t, was)
				d.Arm(step)
				e := Wipe(d, r, used)
				want := was
				for _, k := range dirty[:min(step, len(dirty))] {
					from := max(64*k, 64+used)
					want = want[:from] + null(64*(k+1)-from) + want[64*(k+1):]
				}
				if step > len(dirty) {
					if e != api.OK {
						t.Errorf("Wipe from %d on is %d", used, e)
					}
					holds(t, "no crash", d, want)
					continue
				}
				if e != api.ErrCrash {
					t.Errorf("a crash in step %d: Wipe from %d on is %d", step, used, e)
				}
				holds(t, "a crash", d, want, dirty[:step]...)
			}
		}
	}
}

// P10.3: the device's error; of a Region that has no sector behind used there is none.
func TestWipeCrashed(t *testing.T) {
	for version := 1; version <= 2; version++ {
		for used := range 64 * 3 {
			wipesNone(t, "crashed", crashed(noisy(t, 5)), Region{1, 3, version}, used, api.ErrCrash)
			wipesNone(t, "crashed, bytes 0", crashed(made(t, null(320))), Region{1, 3, version}, used, api.ErrCrash)
		}
	}
}

// P10.3: ErrArg, if used is not 0 to the Region's size, ahead of the device's error.
func TestWipeNoPlace(t *testing.T) {
	for _, d := range []*device.Device{noisy(t, 5), crashed(noisy(t, 5))} {
		for version := 1; version <= 2; version++ {
			for _, used := range []int{math.MinInt, -64, -1, 193, 194, 256, 320, 1 << 32, math.MaxInt} {
				wipesNone(t, "no place", d, Region{1, 3, version}, used, api.ErrArg)
			}
		}
	}
}

// some is all ways to choose some of these.
func some(l []int) [][]int {
	all := [][]int{nil}
	for _, n := range l {
		for _, chosen := range slices.Clone(all) {
			all = append(all, append(slices.Clone(chosen), n))
		}
	}
	return all
}

// keeps asks whether at least so many of the entries are read, from the first one on, and nothing else.
func keeps(t *testing.T, what string, d *device.Device, r Region, l []api.Entry, least int) int {
	t.Helper()
	got, used, e := Read(d, r)
	if e != api.OK || len(got) < least || len(got) > len(l) || !slices.Equal(got, l[:min(len(got), len(l))]) {
		t.Fatalf("%s: Read is %v, %d, of which %d should be there", what, got, e, least)
	}
	if used != len(recorded(t, r.Version, got)) {
		t.Fatalf("%s: they end at %d", what, used)
	}
	return len(got)
}

// P10.4: what was added, and flushed, is read, whichever step crashes, and whatever is lost behind it.
func TestKept(t *testing.T) {
	for version := 1; version <= 2; version++ {
		l := []api.Entry{write(1, 20), noop(1, 2), write(3, 64), write(4, 64), noop(1, 5)}
		r := Region{1, 12, version}
		for first := range len(l) {
			for step := range 9 {
				d := made(t, null(64*14))
				used, _ := Add(d, r, 0, l[:first])
				d.Flush()
				d.Arm(step)
				Add(d, r, used, l[first:])
				for _, lost := range some(d.Waiting()) {
					back := d.After(lost)
					many := keeps(t, "a crash", back, r, l, first)
					if len(lost) == 0 && !d.Crashed() && many < len(l) {
						t.Errorf("nothing was lost, and %d entries are read", many)
					}
					goesOn(t, back, r, l[:many])
				}
			}
		}
	}
}

// goesOn asks whether, wiped and added to, the region has just what it had and what was added, also when that is lost.
func goesOn(t *testing.T, d *device.Device, r Region, l []api.Entry) {
	t.Helper()
	used := len(recorded(t, r.Version, l))
	if e := Wipe(d, r, used); e != api.OK {
		t.Fatal(e)
	}
	reads(t, "wiped", d, r, l, used)
	more := []api.Entry{noop(9, 90)}
	adds(t, "wiped", d, r, used, more, used+len(recorded(t, r.Version, more)))
	keeps(t, "lost", d.After(d.Waiting()), r, l, len(l))
	keeps(t, "not lost", d.After(nil), r, slices.Concat(l, more), len(l)+1)
}

// P10.4: a long course of entries, flushes, crashes and losses.
func TestCourse(t *testing.T) {
	for version := 1; version <= 2; version++ {
		r := Region{2, 30, version}
		d := made(t, mixed(128)+null(64*30)+mixed(64))
		var l []api.Entry
		used, flushed, n := 0, 0, uint32(1)
		draw := func(most int) int {
			n = n*1664525 + 1013904223
			return int(n>>8) % most
		}
		for range 3000 {
			var more []api.Entry
			for range 1 + draw(3) {
				more = append(more, write(uint64(len(l)+len(more)+1), draw(65)))
			}
			d.Arm(draw(12))
			end, e := Add(d, r, used, more)
			if e == api.ErrFull {
				d.Arm(-1)
				Fill(d, r, nil)
				d.Flush()
				l, used, flushed = nil, 0, 0
				continue
			}
			l = append(l, more...)
			used = end
			if e == api.OK && draw(2) == 0 && d.Flush() == api.OK {
				flushed = len(l)
			}
			if !d.Crashed() {
				continue
			}
			d = d.After(slices.DeleteFunc(d.Waiting(), func(int) bool { return draw(3) == 0 }))
			l = l[:keeps(t, "course", d, r, l, flushed)]
			used, flushed = len(recorded(t, version, l)), len(l)
			if e := Wipe(d, r, used); e != api.OK {
				t.Fatal(e)
			}
			reads(t, "course", d, r, l, used)
		}
		if image := d.Image(); !strings.HasPrefix(image, mixed(128)) || !strings.HasSuffix(image, mixed(64)) {
			t.Error("what stands beside the region was written")
		}
	}
}
