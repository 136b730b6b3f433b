package super

import (
	"math"
	"slices"
	"strings"
	"testing"

	"pintle/api"
	"pintle/device"
)

// made is a device of these sectors, all flushed.
func made(t *testing.T, sectors ...string) *device.Device {
	t.Helper()
	var image strings.Builder
	for _, s := range sectors {
		image.WriteString(s + zeros(api.Sector-len(s)))
	}
	d, e := device.Of(image.String())
	if e != api.OK {
		t.Fatal(e)
	}
	return d
}

// crashed is a device of these sectors that has crashed.
func crashed(t *testing.T, sectors ...string) *device.Device {
	t.Helper()
	d := made(t, sectors...)
	d.Arm(0)
	d.Flush()
	return d
}

// reads asks whether that is read.
func reads(t *testing.T, what string, d *device.Device, at int, body string, gen uint64, which int) {
	t.Helper()
	if b, g, w, e := Read(d, at); b != body || g != gen || w != which || e != api.OK {
		t.Errorf("%s: Read(%d) is %q, %d, %d, %d; it should be %q, %d, %d", what, at, b, g, w, e, body, gen, which)
	}
}

// refuses asks whether Read answers that error, and nothing beside it.
func refuses(t *testing.T, what string, d *device.Device, at int, want api.Errno) {
	t.Helper()
	if b, g, w, e := Read(d, at); b != "" || g != 0 || w != 0 || e != want {
		t.Errorf("%s: Read(%d) is %q, %d, %d, %d; it should be error %d", what, at, b, g, w, e, want)
	}
}

// refusesWrite asks whether Write answers that error, and changes nothing; an armed device takes no step in it.
func refusesWrite(t *testing.T, what string, d *device.Device, at int, body string, want api.Errno) {
	t.Helper()
	image, waits, was := d.Image(), d.Waiting(), d.Crashed()
	if !was {
		d.Arm(0)
	}
	if e := Write(d, at, body); e != want {
		t.Errorf("%s: Write(%d) is %d, not %d", what, at, e, want)
	}
	if d.Image() != image || !slices.Equal(d.Waiting(), waits) || d.Crashed() != was {
		t.Errorf("%s: Write(%d) has changed what it refused", what, at)
	}
	d.Arm(-1)
}

// noSectors are places at which there are not two sectors of a device of so many, though some have one.
func noSectors(sectors int) []int {
	return []int{math.MinInt, math.MinInt + 1, -1 << 32, -2, -1, sectors - 1, sectors, sectors + 1, api.MaxSectors - 1, api.MaxSectors, 1 << 32, math.MaxInt - 1, math.MaxInt}
}

// junk are sectors that hold nothing.
func junk() map[string]string {
	turned := []byte(holding(9, "nine"))
	turned[20] ^= 1
	return map[string]string{
		"bytes 0":    zeros(64),
		"bytes ff":   strings.Repeat("\xff", 64),
		"bytes":      mixed(64),
		"one turned": string(turned),
		"gen 0":      sealed(head(0, 2) + "ab" + zeros(49)),
		"too long":   sealed(head(9, 52) + mixed(51)),
		"not 0":      sealed(head(9, 2) + "abc" + zeros(48)),
	}
}

// P8.2: the one with the greater gen; of the same the first.
func TestRead(t *testing.T) {
	for _, c := range []struct {
		a, b uint64
		want int
	}{
		{1, 2, 1}, {2, 1, 0}, {1, 1, 0}, {255, 256, 1}, {256, 255, 0}, {1, 256, 1}, {256, 1, 0},
		{1<<32 - 1, 1 << 32, 1}, {1 << 32, 1<<32 - 1, 0}, {1<<63 - 1, 1 << 63, 1}, {1 << 63, 1<<63 - 1, 0}, {1, 1 << 63, 1}, {1 << 63, 1, 0},
		{ones - 1, ones, 1}, {ones, ones - 1, 0}, {ones, 1, 0}, {1, ones, 1}, {ones, ones, 0},
	} {
		for at := range 3 {
			sectors := slices.Repeat([]string{holding(ones, "not this")}, 5)
			sectors[at], sectors[at+1] = holding(c.a, "first"), holding(c.b, "second")
			body, gen := "first", c.a
			if c.want == 1 {
				body, gen = "second", c.b
			}
			reads(t, "both", made(t, sectors...), at, body, gen, c.want)
		}
	}
}

// P8.2: it is the gen that counts, not the body, nor its length.
func TestReadBodies(t *testing.T) {
	for _, body := range bodies() {
		reads(t, "second newer", made(t, holding(3, mixed(51)), holding(4, body)), 0, body, 4, 1)
		reads(t, "first newer", made(t, holding(4, body), holding(3, mixed(51))), 0, body, 4, 0)
		reads(t, "of the same gen", made(t, holding(4, body), holding(4, "other")), 0, body, 4, 0)
	}
}

// P8.2: a sector that holds nothing does not count, whatever it has.
func TestReadOne(t *testing.T) {
	for what, bad := range junk() {
		for _, gen := range gens {
			reads(t, what, made(t, holding(gen, "one"), bad), 0, "one", gen, 0)
			reads(t, what, made(t, bad, holding(gen, "one")), 0, "one", gen, 1)
		}
	}
}

// P8.2: ErrNone, if none is.
func TestReadNone(t *testing.T) {
	for what, a := range junk() {
		for _, b := range junk() {
			d := made(t, holding(1, "ahead"), a, b, holding(1, "behind"))
			refuses(t, what, d, 1, api.ErrNone)
			if e := Write(d, 1, "x"); e != api.OK {
				t.Errorf("%s: Write is %d", what, e)
			}
			reads(t, what, d, 1, "x", 1, 0)
			if s, _ := d.Read(2); s != b {
				t.Errorf("%s: the second sector is written", what)
			}
		}
	}
}

// P8.2: the device's error, ahead of ErrNone, and of what stands in the other sector.
func TestReadErrors(t *testing.T) {
	for n := 1; n <= 4; n++ {
		full := slices.Repeat([]string{holding(5, "five")}, n)
		for _, at := range noSectors(n) {
			refuses(t, "empty", made(t, make([]string, n)...), at, api.ErrBounds)
			refuses(t, "full", made(t, full...), at, api.ErrBounds)
			refuses(t, "crashed", crashed(t, full...), at, api.ErrCrash)
		}
		for at := range n {
			refuses(t, "crashed", crashed(t, full...), at, api.ErrCrash)
		}
	}
}

// P8.2: the last two sectors of the longest device.
func TestLastSectors(t *testing.T) {
	d, _ := device.New(api.MaxSectors)
	at := api.MaxSectors - 2
	refuses(t, "empty", d, at, api.ErrNone)
	for k := range 3 {
		if e := Write(d, at, "x"); e != api.OK {
			t.Fatal(e)
		}
		reads(t, "written", d, at, "x", uint64(k+1), k%2)
	}
	refuses(t, "one sector", d, at+1, api.ErrBounds)
	refusesWrite(t, "one sector", d, at+1, "y", api.ErrBounds)
}

// P8.2: what waits is read too; Read changes nothing, and is no step to crash in.
func TestReadChangesNothing(t *testing.T) {
	d := made(t, holding(3, "three"), "", "x")
	d.Write(1, holding(4, "four"))
	d.Arm(0)
	image := d.Image()
	for range 5 {
		reads(t, "waiting", d, 0, "four", 4, 1)
		refuses(t, "behind", d, 2, api.ErrBounds)
	}
	if d.Image() != image || !slices.Equal(d.Waiting(), []int{1}) || d.Crashed() {
		t.Error("Read has changed the device")
	}
}

// P8.2: the other one of both is written, with a gen one more, and flushed; nothing else is touched.
func TestWrite(t *testing.T) {
	for _, c := range []struct {
		a, b  uint64
		other int
		gen   uint64
	}{
		{1, 2, 0, 3}, {2, 1, 1, 3}, {1, 1, 1, 2}, {7, 0, 1, 8}, {0, 7, 0, 8}, {0, 0, 0, 1}, {1, 100, 0, 101}, {100, 1, 1, 101},
		{255, 0, 1, 256}, {1<<32 - 1, 1, 1, 1 << 32}, {1, 1 << 63, 0, 1<<63 + 1}, {ones - 1, 1, 1, ones}, {1, ones - 1, 0, ones},
	} {
		for _, body := range bodies() {
			sectors := []string{mixed(64), "", "", mixed(63) + "x"}
			for k, gen := range []uint64{c.a, c.b} {
				sectors[1+k] = zeros(64)
				if gen > 0 {
					sectors[1+k] = holding(gen, "old")
				}
			}
			d := made(t, sectors...)
			if e := Write(d, 1, body); e != api.OK {
				t.Errorf("Write is %d", e)
			}
			sectors[1+c.other] = holding(c.gen, body)
			if d.Image() != strings.Join(sectors, "") || len(d.Waiting()) > 0 || d.Crashed() {
				t.Errorf("gens %d, %d: Write(%q) makes %x", c.a, c.b, body, d.Image())
			}
			reads(t, "written", d, 1, body, c.gen, c.other)
		}
	}
}

// P8.2: one behind the other, the sectors take turns.
func TestWriteTurns(t *testing.T) {
	d := made(t, "", "", "")
	for k, body := range bodies() {
		if e := Write(d, 1, body); e != api.OK {
			t.Fatal(e)
		}
		reads(t, "in turns", d, 1, body, uint64(k+1), k%2)
		if len(d.Waiting()) > 0 {
			t.Error("it waits")
		}
	}
	if s, _ := d.Read(0); s != zeros(64) {
		t.Error("the sector ahead is written")
	}
}

// P8.2: two things on one device, each in its own two sectors.
func TestWriteTwo(t *testing.T) {
	d := made(t, make([]string, 4)...)
	for k := range 7 {
		for _, at := range []int{0, 2} {
			for range 1 + at/2 {
				if e := Write(d, at, strings.Repeat("x", k+at)); e != api.OK {
					t.Fatal(e)
				}
			}
		}
		reads(t, "the first", d, 0, strings.Repeat("x", k), uint64(k+1), k%2)
		reads(t, "the second", d, 2, strings.Repeat("x", k+2), uint64(2*k+2), 1)
	}
}

// P8.2: one Write and one Flush of the device, and the error of that in which it crashes.
func TestWriteSteps(t *testing.T) {
	for _, old := range [][]string{{"", ""}, {holding(1, "a"), ""}, {holding(1, "a"), holding(2, "b")}} {
		for after := range 4 {
			d := made(t, append(slices.Clone(old), "")...)
			was := d.Image()
			d.Write(2, "waits")
			d.Arm(after)
			e := Write(d, 0, "new")
			if (e == api.OK) != (after >= 2) || e != api.OK && e != api.ErrCrash || d.Crashed() != (after < 2) {
				t.Errorf("armed with %d: Write is %d, crashed %v", after, e, d.Crashed())
			}
			// Its write waits ahead of the flush, and what waited beside it is flushed along.
			if written := d.Image()[:128] != was[:128]; written != (after > 0) {
				t.Errorf("armed with %d: written is %v", after, written)
			}
			if waits := len(d.Waiting()); waits != []int{1, 2, 0, 0}[after] {
				t.Errorf("armed with %d: %d wait", after, waits)
			}
			if after == 3 && (d.Write(0, "x") != api.OK || d.Flush() != api.ErrCrash) {
				t.Error("Write has taken more than two steps")
			}
		}
	}
}

// P8.2: ErrLong ahead of all else; then the error of Read; then ErrFull; nothing has changed.
func TestWriteErrors(t *testing.T) {
	full := []string{holding(ones, "full"), holding(3, "old")}
	for _, n := range []int{52, 53, 64, 65, 256, 256 + 51, 16384} {
		for _, at := range append(noSectors(2), 0) {
			refusesWrite(t, "too long", made(t, holding(1, "a"), ""), at, mixed(n), api.ErrLong)
			refusesWrite(t, "too long, empty", made(t, "", ""), at, mixed(n), api.ErrLong)
			refusesWrite(t, "too long, full", made(t, full...), at, mixed(n), api.ErrLong)
			refusesWrite(t, "too long, crashed", crashed(t, full...), at, mixed(n), api.ErrLong)
		}
	}
	for _, n := range []int{0, 1, 51} {
		for _, at := range noSectors(2) {
			refusesWrite(t, "no sectors", made(t, holding(1, "a"), ""), at, mixed(n), api.ErrBounds)
			refusesWrite(t, "no sectors, empty", made(t, "", ""), at, mixed(n), api.ErrBounds)
			refusesWrite(t, "no sectors, full", made(t, full...), at, mixed(n), api.ErrBounds)
			refusesWrite(t, "no sectors, crashed", crashed(t, full...), at, mixed(n), api.ErrCrash)
		}
		refusesWrite(t, "crashed", crashed(t, holding(1, "a"), ""), 0, mixed(n), api.ErrCrash)
		refusesWrite(t, "crashed, empty", crashed(t, "", ""), 0, mixed(n), api.ErrCrash)
		refusesWrite(t, "crashed, full", crashed(t, full...), 0, mixed(n), api.ErrCrash)
		refusesWrite(t, "full", made(t, full...), 0, mixed(n), api.ErrFull)
	}
	d := made(t, holding(1, "a"), "")
	d.Write(1, "waits")
	refusesWrite(t, "too long, one waits", d, 0, mixed(52), api.ErrLong)
	refusesWrite(t, "no sectors, one waits", d, 1, "x", api.ErrBounds)
}

// P8.2: ErrFull, if the gen that is read is 2^64 - 1, wherever it stands; the last gen may be written.
func TestWriteFull(t *testing.T) {
	for what, other := range junk() {
		refusesWrite(t, what, made(t, holding(ones, "full"), other), 0, "x", api.ErrFull)
		refusesWrite(t, what, made(t, other, holding(ones, "full")), 0, "x", api.ErrFull)
	}
	refusesWrite(t, "both", made(t, holding(ones, "full"), holding(ones, "full")), 0, "x", api.ErrFull)
	refusesWrite(t, "second", made(t, holding(1, "a"), holding(ones, "full")), 0, "x", api.ErrFull)
	d := made(t, holding(ones-1, "last but one"), "")
	if e := Write(d, 0, "last"); e != api.OK {
		t.Error(e)
	}
	reads(t, "the last gen", d, 0, "last", ones, 1)
	refusesWrite(t, "behind the last gen", d, 0, "x", api.ErrFull)
	reads(t, "refused", d, 0, "last", ones, 1)
}

// lossesOf is all lists of those of n sectors that may be lost.
func lossesOf(n int) [][]int {
	var list [][]int
	for set := range 1 << n {
		var lost []int
		for at := range n {
			if set>>at&1 == 1 {
				lost = append(lost, at)
			}
		}
		list = append(list, lost)
	}
	return list
}

// P8.3: wherever it crashes, whatever is lost, the old body or the new one is there, and it can be gone on with.
func TestCrash(t *testing.T) {
	for _, old := range [][]string{
		{holding(1, "old"), zeros(64)}, {zeros(64), holding(1, "old")}, {holding(2, "old"), holding(1, "older")}, {holding(1, "older"), holding(2, "old")},
		{holding(2, "old"), mixed(64)}, {mixed(64), holding(2, "old")}, {holding(2, "old"), holding(2, "same")}, {holding(ones-1, "old"), zeros(64)},
	} {
		for after := range 3 {
			for _, lost := range lossesOf(2) {
				d := made(t, old...)
				_, gen, which, _ := Read(d, 0)
				d.Arm(after)
				e := Write(d, 0, "new")
				x := d.After(lost)
				body, now, at, _ := Read(x, 0)
				isOld := body == "old" && now == gen && at == which
				isNew := body == "new" && now == gen+1 && at == 1-which
				if !isOld && !isNew || e == api.OK && !isNew || after == 0 && !isOld {
					t.Errorf("armed with %d, %v lost: %q, %d, %d", after, lost, body, now, at)
				}
				if now == ones {
					continue
				}
				if e := Write(x, 0, "next"); e != api.OK {
					t.Errorf("behind it: %d", e)
				}
				reads(t, "behind it", x.After(lost), 0, "next", now+1, 1-at)
			}
		}
	}
}

// P8.3: where there was nothing, there is nothing, or the new body.
func TestCrashFirst(t *testing.T) {
	for after := range 3 {
		for _, lost := range lossesOf(2) {
			d := made(t, "", "")
			d.Arm(after)
			e := Write(d, 0, "new")
			body, gen, which, r := Read(d.After(lost), 0)
			isNone := r == api.ErrNone && e == api.ErrCrash
			isNew := body == "new" && gen == 1 && which == 0 && r == api.OK
			if !isNone && !isNew || after == 0 && !isNone {
				t.Errorf("armed with %d, %v lost: %q, %d, %d, %d", after, lost, body, gen, which, r)
			}
		}
	}
}

// course is a long row of numbers that are always the same.
type course uint32

func (c *course) draw(n int) int {
	*c = *c*1664525 + 1013904223
	return int(*c>>8) % n
}

// P8.2, P8.3: a long course of writes, crashes and losses, on two things of one device.
func TestCourse(t *testing.T) {
	c := course(1)
	d := made(t, make([]string, 5)...)
	now := map[int]string{}
	losses := lossesOf(5)
	crashes := 0
	for k := range 20000 {
		at, body := 1+2*c.draw(2), mixed(c.draw(54))
		d.Arm(c.draw(6) - 1)
		e := Write(d, at, body)
		if want := len(body) > 51; want != (e == api.ErrLong) {
			t.Fatalf("at %d: Write of %d bytes is %d", k, len(body), e)
		}
		if e == api.ErrCrash {
			crashes++
			d = d.After(losses[c.draw(len(losses))])
			if got, _, _, _ := Read(d, at); got == body {
				now[at] = body
			}
		}
		if e == api.OK {
			now[at] = body
		}
		for _, at := range []int{1, 3} {
			got, _, _, e := Read(d, at)
			want, there := now[at]
			if got != want || there != (e == api.OK) || !there && e != api.ErrNone {
				t.Fatalf("at %d: Read(%d) is %q, %d, not %q", k, at, got, e, want)
			}
		}
		if s, _ := d.Read(0); s != zeros(64) {
			t.Fatalf("at %d: the sector ahead is written", k)
		}
	}
	if crashes < 1000 {
		t.Errorf("%d crashes", crashes)
	}
}
