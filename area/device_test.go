package area

import (
	"math"
	"slices"
	"strings"
	"testing"

	"pintle/api"
	"pintle/device"
)

// made is a device of these bytes, all flushed.
func made(t *testing.T, image string) *device.Device {
	t.Helper()
	d, e := device.Of(image)
	if e != api.OK {
		t.Fatal(e)
	}
	return d
}

// noisy is a device of so many sectors, of which no byte is 0.
func noisy(t *testing.T, sectors int) *device.Device {
	t.Helper()
	return made(t, mixed(64*sectors))
}

// crashed is the device, once it has crashed.
func crashed(d *device.Device) *device.Device {
	d.Arm(0)
	d.Flush()
	return d
}

// filled is what so many sectors have, if they have just the Snap.
func filled(version, many int, s Snap) string {
	b := spelled(version, s)
	return b + null(64*many-len(b))
}

// need is how many sectors the Snap needs at least.
func need(version int, s Snap) int { return (len(spelled(version, s)) + 63) / 64 }

// laid is the image with s from that sector on.
func laid(image string, at int, s string) string {
	return image[:64*at] + s + image[64*at+len(s):]
}

// span is the numbers from one up to the other, but not that.
func span(from, to int) []int {
	var l []int
	for k := from; k < to; k++ {
		l = append(l, k)
	}
	return l
}

// holds asks whether the device's bytes are these, and these sectors wait.
func holds(t *testing.T, what string, d *device.Device, image string, waits ...int) {
	t.Helper()
	if got := d.Image(); got != image {
		t.Errorf("%s: the device has\n%.2000x\nand should have\n%.2000x", what, got, image)
	}
	if got := d.Waiting(); !slices.Equal(got, waits) {
		t.Errorf("%s: %v wait, and not %v", what, got, waits)
	}
}

// idle asks whether a call leaves the device as it was, and takes no step in it.
func idle(t *testing.T, what string, d *device.Device, call func()) {
	t.Helper()
	image, waits, was := d.Image(), d.Waiting(), d.Crashed()
	if !was {
		d.Arm(0)
	}
	call()
	holds(t, what, d, image, waits...)
	if d.Crashed() != was {
		t.Errorf("%s: it takes a step", what)
	}
	d.Arm(-1)
}

// reads asks whether that is read, and the device left as it is.
func reads(t *testing.T, what string, d *device.Device, at, many int, s Snap, version int) {
	t.Helper()
	idle(t, what, d, func() {
		if got, v, e := Read(d, at, many); got != s || v != version || e != api.OK {
			t.Errorf("%s: Read of %d, %d is %s, %d, %d; it should be %s, %d", what, at, many, tell(got), v, e, tell(s), version)
		}
	})
}

// noRead asks whether Read answers that error, and nothing beside it.
func noRead(t *testing.T, what string, d *device.Device, at, many int, want api.Errno) {
	t.Helper()
	idle(t, what, d, func() {
		if got, v, e := Read(d, at, many); got != (Snap{}) || v != 0 || e != want {
			t.Errorf("%s: Read of %d, %d is %s, %d, %d; it should be error %d", what, at, many, tell(got), v, e, want)
		}
	})
}

// writes asks whether Write is done.
func writes(t *testing.T, what string, d *device.Device, at, many, version int, s Snap) {
	t.Helper()
	if e := Write(d, at, many, version, s); e != api.OK {
		t.Errorf("%s: Write to %d, %d is %d", what, at, many, e)
	}
}

// noWrite asks whether Write answers that error, and changes nothing.
func noWrite(t *testing.T, what string, d *device.Device, at, many, version int, s Snap, want api.Errno) {
	t.Helper()
	idle(t, what, d, func() {
		if e := Write(d, at, many, version, s); e != want {
			t.Errorf("%s: Write to %d, %d is %d; it should be error %d", what, at, many, e, want)
		}
	})
}

// place is some sectors, at least by what was asked for.
type place struct{ at, many int }

// noPlaces are such as a device of so many sectors has not.
func noPlaces(sectors int) []place {
	return []place{
		{0, sectors + 1}, {1, sectors}, {sectors, 1}, {sectors - 1, 2}, {sectors + 1, 1}, {0, 0}, {0, -1}, {1, 0}, {sectors, 0}, {sectors + 1, -1}, {sectors + 1, 0},
		{-1, 0}, {-1, 1}, {-1, 2}, {-1, sectors + 1}, {math.MinInt, 1}, {0, math.MinInt}, {math.MinInt, math.MinInt}, {0, math.MaxInt}, {1, math.MaxInt},
		{math.MaxInt, 1}, {math.MaxInt, math.MaxInt}, {math.MaxInt, math.MinInt}, {math.MinInt, math.MaxInt}, {math.MaxInt, 2}, {1 << 32, 1}, {0, 1 << 32}, {0, 1 << 58}, {0, 1<<58 + 1}, {1 << 58, 1},
	}
}

// few are Snaps of a sector, of some, and of more than most devices have.
func few() []Snap {
	return []Snap{{}, {300, 2, "ab"}, {1, 2, mixed(100)}, {ones, ones, mixed(64 * 4)}, {1, 2, mixed(most)}}
}

// P11.2: ErrArg, if there are no such sectors, ahead of all else.
func TestNoPlace(t *testing.T) {
	for _, sectors := range []int{1, 4} {
		for _, d := range []*device.Device{noisy(t, sectors), crashed(noisy(t, sectors)), made(t, filled(1, sectors, Snap{1, 2, "ab"}))} {
			for _, p := range noPlaces(sectors) {
				noRead(t, "no place", d, p.at, p.many, api.ErrArg)
				for version := range 4 {
					for _, s := range few() {
						noWrite(t, "no place", d, p.at, p.many, version, s, api.ErrArg)
					}
				}
			}
		}
	}
}

// P11.2: ErrArg, if it can't be put, ahead of ErrFull, and of the device's error.
func TestWriteNoPut(t *testing.T) {
	for _, d := range []*device.Device{noisy(t, 300), crashed(noisy(t, 300))} {
		for _, many := range []int{1, 2, 299} {
			for _, version := range noVersions {
				for _, s := range few() {
					noWrite(t, "no version", d, 1, many, version, s, api.ErrArg)
				}
			}
			for version := 1; version <= 2; version++ {
				noWrite(t, "too long", d, 1, many, version, Snap{1, 2, mixed(most + 1)}, api.ErrArg)
				noWrite(t, "far too long", d, 1, many, version, Snap{1, 2, mixed(1 << 20)}, api.ErrArg)
			}
		}
	}
}

// P11.2: ErrFull, if it has no Room, ahead of the device's error.
func TestWriteFull(t *testing.T) {
	for version := 1; version <= 2; version++ {
		for _, s := range []Snap{{1, 2, mixed(64)}, {1, 2, mixed(300)}, {ones, ones, mixed(most)}} {
			for many := 1; many < need(version, s); many++ {
				noWrite(t, "full", noisy(t, need(version, s)+1), 1, many, version, s, api.ErrFull)
				noWrite(t, "full, crashed", crashed(noisy(t, need(version, s)+1)), 1, many, version, s, api.ErrFull)
			}
		}
	}
}

// P11.2: each of the sectors is written, and no other: its bytes, and bytes 0 behind them; they are not flushed. P11.3: it is read.
func TestWrite(t *testing.T) {
	const sectors = 12
	for version := 1; version <= 2; version++ {
		for n := range 400 {
			s := Snap{300, ones, mixed(n)}
			least := need(version, s)
			for _, at := range []int{0, 1, 3} {
				for _, many := range []int{least, least + 1, sectors - at} {
					d := noisy(t, sectors)
					d.Arm(many) // just so many steps
					writes(t, "some", d, at, many, version, s)
					d.Arm(-1)
					holds(t, "some", d, laid(mixed(64*sectors), at, filled(version, many, s)), span(at, at+many)...)
					reads(t, "some", d, at, many, s, version)
					holds(t, "lost", d.After(span(0, sectors)), mixed(64*sectors))
				}
			}
		}
	}
}

// P11.2: the sectors may be all that a device has, of the least and the greatest one too, and its last ones.
func TestWriteAll(t *testing.T) {
	for version := 1; version <= 2; version++ {
		for _, sectors := range []int{1, 2, 5, api.MaxSectors} {
			for _, many := range []int{1, sectors/2 + 1, sectors} {
				at := sectors - many
				for _, s := range few() {
					d := noisy(t, sectors)
					if many < need(version, s) {
						noWrite(t, "full", d, at, many, version, s, api.ErrFull)
						continue
					}
					writes(t, "to the end", d, at, many, version, s)
					holds(t, "to the end", d, laid(mixed(64*sectors), at, filled(version, many, s)), span(at, sectors)...)
					reads(t, "to the end", d, at, many, s, version)
				}
			}
		}
	}
}

// P11.2: just as many bytes as the sectors have may be written, and not one more.
func TestWriteEdge(t *testing.T) {
	for many := 1; many <= 20; many++ {
		for _, c := range []struct{ version, head int }{{1, 25}, {2, 8}, {2, 9}} {
			s := Snap{1, 2, mixed(64*many - c.head)}
			if len(spelled(c.version, s)) != 64*many {
				continue // its length takes a byte more, or less
			}
			d := noisy(t, many+2)
			writes(t, "just full", d, 1, many, c.version, s)
			holds(t, "just full", d, laid(mixed(64*(many+2)), 1, spelled(c.version, s)), span(1, 1+many)...)
			reads(t, "just full", d, 1, many, s, c.version)
			s.Data += "x"
			noWrite(t, "a byte too many", noisy(t, many+2), 1, many, c.version, s, api.ErrFull)
		}
	}
}

// P11.2: the sectors are written rising, up to the first error of the device.
func TestWriteCrash(t *testing.T) {
	for version := 1; version <= 2; version++ {
		for _, s := range []Snap{{300, 2, "ab"}, {1, 2, mixed(200)}} {
			for at := range 3 {
				const many = 6
				all := laid(mixed(64*10), at, filled(version, many, s))
				for step := range many {
					d := noisy(t, 10)
					d.Arm(step)
					if e := Write(d, at, many, version, s); e != api.ErrCrash {
						t.Errorf("a crash in step %d: Write is %d", step, e)
					}
					done := 64 * (at + step)
					holds(t, "a crash", d, all[:done]+mixed(64 * 10)[done:], span(at, at+step)...)
				}
				noWrite(t, "crashed", crashed(noisy(t, 10)), at, many, version, s, api.ErrCrash)
			}
		}
	}
}

// P11.2: the device's error, ahead of ErrForm.
func TestReadCrashed(t *testing.T) {
	for version := 1; version <= 2; version++ {
		d := made(t, null(64*3)+filled(version, 4, Snap{1, 2, "ab"}))
		reads(t, "not crashed", d, 3, 4, Snap{1, 2, "ab"}, version)
		crashed(d)
		noRead(t, "crashed", d, 3, 4, api.ErrCrash)
		noRead(t, "crashed, none there", d, 0, 3, api.ErrCrash)
	}
}

// P11.2: ErrForm, if the sectors begin with none, or end ahead of its end.
func TestReadForm(t *testing.T) {
	noRead(t, "bytes 0", made(t, null(64*4)), 0, 4, api.ErrForm)
	noRead(t, "others", noisy(t, 4), 0, 4, api.ErrForm)
	for version := 1; version <= 2; version++ {
		s := Snap{300, 2, mixed(250)}
		least := need(version, s)
		d := made(t, laid(mixed(64*12), 3, filled(version, least, s)))
		for at := range 12 {
			for many := 1; many <= 12-at; many++ {
				if at == 3 && many >= least {
					reads(t, "there", d, at, many, s, version)
				} else {
					noRead(t, "not there", d, at, many, api.ErrForm)
				}
			}
		}
		for _, b := range []string{framed(version, ""), framed(version, "\x80"), framed(3, null(16)), framed(version, pair(version, 1, 2)+mixed(most+1)), "\x00" + spelled(version, s)} {
			b += null(64*300 - len(b))
			noRead(t, "none", made(t, b), 0, 300, api.ErrForm)
		}
	}
}

// P11.2: what waits is read, too.
func TestReadWaiting(t *testing.T) {
	for version := 1; version <= 2; version++ {
		s := Snap{300, 2, mixed(100)}
		b := filled(version, 2, s)
		d := made(t, null(64*5))
		d.Write(3, b[64:])
		noRead(t, "the first one is not there", d, 2, 3, api.ErrForm)
		d.Write(2, b[:64])
		reads(t, "waiting", d, 2, 3, s, version)
	}
}

// P11.3: what was written, and flushed, is read, whatever stood there, of either version, and whatever waits beside it is lost.
func TestKept(t *testing.T) {
	d := noisy(t, 600)
	for k, s := range snaps() {
		version := 1 + k%2
		at := []int{1, 301}[k/2%2]
		writes(t, "one behind the other", d, at, 290, version, s)
		d.Flush()
		Write(d, 302-at, 290, 3-version, Snap{9, 9, "other"})
		d = d.After(span(0, 600))
		reads(t, "one behind the other", d, at, 290, s, version)
	}
}

// some is all ways to choose some of these.
func some(l []int) [][]int {
	all := [][]int{nil}
	for _, n := range l {
		for _, chosen := range slices.Clone(all) {
			all = append(all, append(slices.Clone(chosen), n))
		}
	}
	return all
}

// P11.3: whichever sectors of it are lost, it is read whole, or that which stood there, or none.
func TestLost(t *testing.T) {
	old, now := Snap{1, 2, mixed(90)}, Snap{3, 4, strings.Repeat("new", 50)}
	for version := 1; version <= 2; version++ {
		for was := 1; was <= 2; was++ {
			for step := range 6 {
				d := made(t, mixed(64)+filled(was, 5, old)+mixed(64))
				d.Arm(step)
				Write(d, 1, 5, version, now)
				for _, lost := range some(d.Waiting()) {
					back := d.After(lost)
					s, v, e := Read(back, 1, 5)
					isOld := s == old && v == was && e == api.OK
					isNow := s == now && v == version && e == api.OK
					isNone := s == Snap{} && v == 0 && e == api.ErrForm
					if !isOld && !isNow && !isNone || len(lost) == step && !isOld || step == 5 && len(lost) == 0 && !isNow {
						t.Errorf("a crash in step %d, %v lost: Read is %s, %d, %d", step, lost, tell(s), v, e)
					}
				}
			}
		}
	}
}

// P11.2: a long course of writes, flushes, crashes and losses, beside which nothing is touched.
func TestCourse(t *testing.T) {
	d := noisy(t, 40)
	n := uint32(1)
	draw := func(most int) int {
		n = n*1664525 + 1013904223
		return int(n>>8) % most
	}
	image := []byte(d.Image())
	crashes, full := 0, 0
	for k := range 5000 {
		at, version := draw(40), 1+draw(2)
		many := 1 + draw(40-at)
		s := Snap{uint64(k), ones >> draw(64), mixed(draw(900))}
		armed := draw(60) - 20
		d.Arm(armed)
		e := Write(d, at, many, version, s)
		want, done := api.OK, many
		switch {
		case need(version, s) > many:
			want, done = api.ErrFull, 0
			full++
		case 0 <= armed && armed < many:
			want, done = api.ErrCrash, armed
			crashes++
		}
		if e != want {
			t.Fatalf("at %d: Write is %d, not %d", k, e, want)
		}
		if done > 0 {
			copy(image[64*at:], filled(version, many, s)[:64*done])
		}
		holds(t, "course", d, string(image), d.Waiting()...)
		if e == api.ErrCrash {
			noRead(t, "course", d, at, many, api.ErrCrash)
			d = d.After(slices.DeleteFunc(d.Waiting(), func(int) bool { return draw(2) == 0 }))
			image = []byte(d.Image())
		} else if e == api.OK {
			reads(t, "course", d, at, many, s, version)
		}
		if draw(4) == 0 {
			d.Arm(-1)
			d.Flush()
		}
	}
	if crashes < 500 || full < 500 {
		t.Errorf("%d crashes, %d full", crashes, full)
	}
}
