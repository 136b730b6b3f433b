package slots

import (
	"math"
	"slices"
	"strings"
	"testing"

	"pintle/api"
	"pintle/device"
	"pintle/super"
)

// fresh is a device of so many sectors.
func fresh(t *testing.T, sectors int) *device.Device {
	t.Helper()
	d, e := device.New(sectors)
	if e != api.OK {
		t.Fatal(e)
	}
	return d
}

// laid is a device of so many sectors that has these bodies, if they are any, as its Super and its Hard.
func laid(t *testing.T, sectors int, bodies ...string) *device.Device {
	t.Helper()
	d := fresh(t, sectors)
	for k, body := range bodies {
		if body == "" {
			continue
		}
		if e := super.Write(d, 2*k, body); e != api.OK {
			t.Fatal(e)
		}
	}
	return d
}

// crashed is the device, once it has crashed.
func crashed(d *device.Device) *device.Device {
	d.Arm(0)
	d.Flush()
	return d
}

// loads asks whether that is loaded.
func loads(t *testing.T, what string, d *device.Device, s Super, h Hard) {
	t.Helper()
	if x, y, e := Load(d); x != s || y != h || e != api.OK {
		t.Errorf("%s: Load is %v, %v, %d; it should be %v, %v", what, x, y, e, s, h)
	}
}

// refuses asks whether Load answers that error, and nothing beside it.
func refuses(t *testing.T, what string, d *device.Device, want api.Errno) {
	t.Helper()
	if x, y, e := Load(d); x != (Super{}) || y != (Hard{}) || e != want {
		t.Errorf("%s: Load is %v, %v, %d; it should be error %d", what, x, y, e, want)
	}
}

// unchanged asks whether a call answers that error, and changes nothing; an armed device takes no step in it.
func unchanged(t *testing.T, what string, d *device.Device, call func() api.Errno, want api.Errno) {
	t.Helper()
	image, waits, was := d.Image(), d.Waiting(), d.Crashed()
	if !was {
		d.Arm(0)
	}
	if e := call(); e != want {
		t.Errorf("%s: error %d, not %d", what, e, want)
	}
	if d.Image() != image || !slices.Equal(d.Waiting(), waits) || d.Crashed() != was {
		t.Errorf("%s: it has changed what it refused", what)
	}
	d.Arm(-1)
}

// small is a Super that asks for 10 sectors.
var small = Super{Version: 1, Snap: 1, Log: 2, Area: 1}

// hards are some that may be.
func hards() []Hard {
	return []Hard{{}, {1, 0, 0}, {0, 7, 0}, {0, 0, 1}, {300, 7, 1}, {1 << 40, 3, 1 << 50}, {ones, 7, ones}}
}

// P9.3: what stands there is loaded, of either version, whichever the other one has.
func TestLoad(t *testing.T) {
	for _, s := range some() {
		for version := 1; version <= 2; version++ {
			for _, h := range hards() {
				loads(t, "both", laid(t, Sectors(s), spellSuper(s), spellHard(version, h)), s, h)
			}
		}
		loads(t, "no Hard", laid(t, Sectors(s), spellSuper(s)), s, Hard{})
	}
}

// P9.3: the newer one of both sectors counts.
func TestLoadNewer(t *testing.T) {
	d := fresh(t, 4004)
	for k, s := range append(some(), some()...) {
		h := Hard{uint64(k), k % 8, uint64(2 * k)}
		super.Write(d, 0, spellSuper(s))
		super.Write(d, 2, spellHard(1+k%2, h))
		loads(t, "newer", d, s, h)
	}
}

// P9.3: the error of Read of a Super, ahead of all that is wrong with the Hard.
func TestLoadNoSuper(t *testing.T) {
	refuses(t, "one sector", fresh(t, 1), api.ErrBounds)
	for n := 2; n <= 10; n++ {
		refuses(t, "empty", fresh(t, n), api.ErrNone)
	}
	hard := spellHard(1, Hard{1, 1, 1})
	refuses(t, "a Hard alone", laid(t, 10, "", hard), api.ErrNone)
	refuses(t, "junk for a Hard alone", laid(t, 10, "", "junk"), api.ErrNone)
	for _, bodies := range [][]string{{}, {spellSuper(small)}, {spellSuper(small), hard}, {spellSuper(small), "junk"}, {"junk", hard}, {"", hard}} {
		refuses(t, "crashed", crashed(laid(t, 10, bodies...)), api.ErrCrash)
	}
	refuses(t, "one sector, crashed", crashed(fresh(t, 1)), api.ErrCrash)
}

// P9.3: ErrForm, if what stands there is no Super, whatever the Hard is.
func TestLoadBadSuper(t *testing.T) {
	good := spellSuper(small)
	for what, bad := range map[string]string{
		"junk": "junk", "cut": good[:8], "a byte more": good + "\x00", "not right": spellSuper(Super{Version: 1, Snap: 1, Log: 1, Step: 1}),
		"of version 3": "\x03" + good[1:], "a Hard": spellHard(1, Hard{}), "a byte 0": "\x00", "long": strings.Repeat("x", 51),
	} {
		for _, hard := range []string{"", "junk", spellHard(1, Hard{1, 1, 1})} {
			refuses(t, what, laid(t, 10, bad, hard), api.ErrForm)
		}
	}
	d := fresh(t, 10)
	super.Write(d, SuperAt, "")
	refuses(t, "nothing for a Super", d, api.ErrForm)
	refuses(t, "a newer one that is none", laidTwice(t, good, "junk"), api.ErrForm)
}

// laidTwice is a device that has two bodies, the second one newer, as its Super.
func laidTwice(t *testing.T, older, newer string) *device.Device {
	t.Helper()
	d := laid(t, 10, older)
	if e := super.Write(d, SuperAt, newer); e != api.OK {
		t.Fatal(e)
	}
	return d
}

// P9.3: ErrForm, if the device has fewer sectors than the Super asks for; it may have more.
func TestLoadSectors(t *testing.T) {
	for _, s := range some() {
		n := Sectors(s)
		for _, hard := range []string{"", spellHard(2, Hard{4, 5, 6})} {
			h := Hard{}
			if hard != "" {
				h = Hard{4, 5, 6}
			}
			loads(t, "just enough", laid(t, n, spellSuper(s), hard), s, h)
			loads(t, "one more", laid(t, n+1, spellSuper(s), hard), s, h)
			loads(t, "all that may be", laid(t, api.MaxSectors, spellSuper(s), hard), s, h)
			for _, few := range []int{4, 7, n / 2, n - 2, n - 1} {
				if few >= 4 {
					refuses(t, "too few", laid(t, few, spellSuper(s), hard), api.ErrForm)
				}
			}
		}
	}
	// The Super's sectors, and none of a Hard.
	for n := 2; n <= 3; n++ {
		refuses(t, "no room for a Hard", laid(t, n, spellSuper(small)), api.ErrForm)
	}
}

// P9.3: ErrForm, if what stands there is no Hard.
func TestLoadBadHard(t *testing.T) {
	good := spellHard(1, Hard{300, 7, 1})
	for what, bad := range map[string]string{
		"junk": "junk", "cut": good[:17], "a byte more": good + "\x00", "Vote 8": spellHard(2, Hard{300, 8, 1}),
		"of version 3": "\x13" + good[1:], "of no version": "\x10" + good[1:], "a Super": spellSuper(small), "a byte 0": "\x00", "long": strings.Repeat("x", 51),
	} {
		refuses(t, what, laid(t, 10, spellSuper(small), bad), api.ErrForm)
	}
	d := laid(t, 10, spellSuper(small), good)
	super.Write(d, HardAt, "")
	refuses(t, "nothing for a Hard", d, api.ErrForm)
}

// P9.3: sectors of a Hard that hold nothing are as if it had never been set.
func TestLoadTornHard(t *testing.T) {
	d := laid(t, 10, spellSuper(small), spellHard(1, Hard{300, 7, 1}))
	for _, s := range []string{"x", strings.Repeat("\xff", 64), strings.Repeat("\x00", 64)} {
		d.Write(HardAt, s)
		d.Write(HardAt+1, s)
		loads(t, "torn", d, small, Hard{})
	}
}

// P9.3: Load changes nothing, and is no step to crash in; what waits is loaded too.
func TestLoadChangesNothing(t *testing.T) {
	d := laid(t, 10, spellSuper(small), spellHard(1, Hard{300, 7, 1}))
	sector, _ := super.Put(9, spellHard(2, Hard{301, 0, 1}))
	d.Write(HardAt, sector)
	d.Write(7, "waits")
	image := d.Image()
	d.Arm(0)
	for range 3 {
		loads(t, "waiting", d, small, Hard{301, 0, 1})
	}
	if d.Image() != image || !slices.Equal(d.Waiting(), []int{HardAt, 7}) || d.Crashed() {
		t.Error("Load has changed the device")
	}
}

// P9.3: SetSuper and SetHard are Write of the bytes, to their own sectors.
func TestSetWrites(t *testing.T) {
	for _, s := range some() {
		for version := 1; version <= 2; version++ {
			for _, h := range hards() {
				got, want := fresh(t, 10), fresh(t, 10)
				for _, d := range []*device.Device{got, want} {
					d.Write(HardAt-1, "waits")
					d.Write(5, "waits")
				}
				for range 3 {
					if a, b := SetSuper(got, s), SetHard(got, version, h); a != api.OK || b != api.OK {
						t.Errorf("SetSuper(%v), SetHard(%d, %v) are %d, %d", s, version, h, a, b)
					}
					super.Write(want, 0, spellSuper(s))
					super.Write(want, 2, spellHard(version, h))
					if got.Image() != want.Image() || len(got.Waiting()) > 0 {
						t.Errorf("SetSuper(%v), SetHard(%d, %v) make %x", s, version, h, got.Image())
					}
				}
			}
		}
	}
}

// P9.3: one Write and one Flush of the device each.
func TestSetSteps(t *testing.T) {
	for _, set := range []func(*device.Device) api.Errno{
		func(d *device.Device) api.Errno { return SetSuper(d, small) },
		func(d *device.Device) api.Errno { return SetHard(d, 1, Hard{1, 1, 1}) },
	} {
		for after := range 4 {
			d := laid(t, 10, spellSuper(small), spellHard(2, Hard{}))
			d.Arm(after)
			if e := set(d); (e == api.OK) != (after >= 2) || e != api.OK && e != api.ErrCrash {
				t.Errorf("armed with %d: error %d", after, e)
			}
			if waits := len(d.Waiting()); (waits == 1) != (after == 1) {
				t.Errorf("armed with %d: %d wait", after, waits)
			}
			if after == 3 && (d.Write(0, "x") != api.OK || d.Flush() != api.ErrCrash) {
				t.Error("it has taken more than two steps")
			}
		}
	}
}

// P9.3: ErrArg, if it can't be put, ahead of the device's errors; nothing has changed.
func TestSetErrArg(t *testing.T) {
	devices := func() []*device.Device {
		return []*device.Device{fresh(t, 1), fresh(t, 3), fresh(t, 10), crashed(fresh(t, 10)), laid(t, 10, spellSuper(small), spellHard(1, Hard{1, 1, 1})), full(t)}
	}
	for _, was := range some() {
		s := was
		for _, f := range fields(&s) {
			for _, n := range []int{math.MinInt, f.low - 1, f.high + 1, math.MaxInt} {
				*f.at = n
				for _, d := range devices() {
					unchanged(t, "SetSuper", d, func() api.Errno { return SetSuper(d, s) }, api.ErrArg)
				}
				s = was
			}
		}
	}
	for _, d := range devices() {
		unchanged(t, "SetSuper of nothing", d, func() api.Errno { return SetSuper(d, Super{}) }, api.ErrArg)
		unchanged(t, "a Step of no Goal", d, func() api.Errno { return SetSuper(d, Super{Version: 1, Snap: 1, Log: 1, Step: 1}) }, api.ErrArg)
		for _, version := range append([]int{0, 3}, beyond...) {
			unchanged(t, "SetHard of no version", d, func() api.Errno { return SetHard(d, version, Hard{1, 1, 1}) }, api.ErrArg)
		}
		for _, vote := range append([]int{8}, beyond...) {
			for version := 1; version <= 2; version++ {
				unchanged(t, "SetHard of no Vote", d, func() api.Errno { return SetHard(d, version, Hard{1, vote, 1}) }, api.ErrArg)
			}
		}
	}
}

// full is a device whose sectors of a Super and of a Hard have the greatest gen.
func full(t *testing.T) *device.Device {
	t.Helper()
	d := fresh(t, 10)
	for at, body := range map[int]string{SuperAt: spellSuper(small), HardAt + 1: spellHard(1, Hard{1, 1, 1})} {
		sector, _ := super.Put(ones, body)
		d.Write(at, sector)
	}
	d.Flush()
	return d
}

// P9.3: the errors of Write.
func TestSetErrors(t *testing.T) {
	for _, c := range []struct {
		what        string
		d           *device.Device
		super, hard api.Errno
	}{
		{"one sector", fresh(t, 1), api.ErrBounds, api.ErrBounds},
		{"one sector, crashed", crashed(fresh(t, 1)), api.ErrCrash, api.ErrCrash},
		{"crashed", crashed(laid(t, 10, spellSuper(small))), api.ErrCrash, api.ErrCrash},
		{"of the greatest gen", full(t), api.ErrFull, api.ErrFull},
	} {
		unchanged(t, c.what, c.d, func() api.Errno { return SetSuper(c.d, small) }, c.super)
		unchanged(t, c.what, c.d, func() api.Errno { return SetHard(c.d, 1, Hard{1, 1, 1}) }, c.hard)
	}
	loads(t, "of the greatest gen", full(t), small, Hard{1, 1, 1})
	for n := 2; n <= 3; n++ {
		d := fresh(t, n)
		unchanged(t, "no sectors of a Hard", d, func() api.Errno { return SetHard(d, 1, Hard{}) }, api.ErrBounds)
		if e := SetSuper(d, small); e != api.OK {
			t.Errorf("%d sectors: SetSuper is %d", n, e)
		}
	}
}

// P9.3: a Super that asks for more sectors than the device has can be set; it is Load that refuses it.
func TestSetTooMany(t *testing.T) {
	d := laid(t, 10, spellSuper(small))
	big := small
	big.Log = 3
	if e := SetSuper(d, big); e != api.OK {
		t.Error(e)
	}
	refuses(t, "too many", d, api.ErrForm)
	if e := SetSuper(d, small); e != api.OK {
		t.Error(e)
	}
	loads(t, "taken back", d, small, Hard{})
}

// P9.3: what stood there need not be such a thing, nor be right, to be set anew.
func TestSetAnew(t *testing.T) {
	d := laid(t, 10, "junk", "junk")
	refuses(t, "junk", d, api.ErrForm)
	SetSuper(d, small)
	refuses(t, "junk for a Hard", d, api.ErrForm)
	SetHard(d, 2, Hard{300, 7, 1})
	loads(t, "anew", d, small, Hard{300, 7, 1})
}

// P9.4: what was set is loaded, and outlives any loss; the one does not touch the other.
func TestSetLoad(t *testing.T) {
	d := fresh(t, 4004)
	now := Hard{}
	for _, s := range some() {
		for k, h := range hards() {
			if e := SetSuper(d, s); e != api.OK {
				t.Fatal(e)
			}
			loads(t, "a Super set", d, s, now)
			if e := SetHard(d, 1+k%2, h); e != api.OK {
				t.Fatal(e)
			}
			now = h
			loads(t, "a Hard set", d, s, now)
			loads(t, "all lost that waits", d.After([]int{0, 1, 2, 3}), s, now)
		}
	}
}

// course is a long row of numbers that are always the same.
type course uint32

func (c *course) draw(n int) int {
	*c = *c*1664525 + 1013904223
	return int(*c>>8) % n
}

// P9.4: a long course of Supers and Hards, crashes and losses: what was set is loaded, or what was under way.
func TestCourse(t *testing.T) {
	c := course(1)
	d := fresh(t, 44)
	SetSuper(d, small)
	s, h := small, Hard{}
	crashes := 0
	for k := range 20000 {
		d.Arm(c.draw(6) - 1)
		nextS, nextH, e := s, h, api.OK
		if c.draw(2) == 0 {
			nextS = Super{1 + c.draw(2), 1 + c.draw(10), 1 + c.draw(10), c.draw(2), c.draw(2), 1 + c.draw(2), c.draw(10)}
			e = SetSuper(d, nextS)
		} else {
			nextH = Hard{uint64(k), c.draw(8), ones >> c.draw(64)}
			e = SetHard(d, 1+c.draw(2), nextH)
		}
		if e == api.ErrCrash {
			crashes++
			refuses(t, "crashed", d, api.ErrCrash)
			set := c.draw(16)
			d = d.After(slices.DeleteFunc([]int{0, 1, 2, 3}, func(at int) bool { return set>>at&1 == 0 }))
			if x, y, e := Load(d); e != api.OK || (x != s || y != h) && (x != nextS || y != nextH) {
				t.Fatalf("at %d: Load is %v, %v, %d", k, x, y, e)
			}
			s, h, _ = Load(d)
			continue
		}
		s, h = nextS, nextH
		if x, y, l := Load(d); e != api.OK || x != s || y != h || l != api.OK {
			t.Fatalf("at %d: set %d, Load is %v, %v, %d", k, e, x, y, l)
		}
	}
	if crashes < 1000 {
		t.Errorf("%d crashes", crashes)
	}
}
