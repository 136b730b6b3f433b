package device

import (
	"math"
	"slices"
	"strings"
	"testing"
	"unsafe"

	"pintle/api"
)

// made is a device of so many sectors.
func made(t *testing.T, sectors int) *Device {
	t.Helper()
	d, e := New(sectors)
	if d == nil || e != api.OK {
		t.Fatalf("New(%d) is %v, %d", sectors, d, e)
	}
	return d
}

// full is s, with bytes 0 behind it up to a sector's end.
func full(s string) string {
	return s + strings.Repeat("\x00", api.Sector-len(s))
}

// write writes, and flush flushes, where nothing is to go wrong.
func write(t *testing.T, d *Device, at int, s string) {
	t.Helper()
	if e := d.Write(at, s); e != api.OK {
		t.Fatalf("Write(%d, %q) is %d", at, s, e)
	}
}

func flush(t *testing.T, d *Device) {
	t.Helper()
	if e := d.Flush(); e != api.OK {
		t.Fatalf("Flush is %d", e)
	}
}

// has tells whether the sectors of a device are these, each with bytes 0 behind it, and its image too.
func has(t *testing.T, what string, d *Device, want ...string) {
	t.Helper()
	if d.Sectors() != len(want) {
		t.Fatalf("%s: %d sectors, not %d", what, d.Sectors(), len(want))
	}
	for at, w := range want {
		got, e := d.Read(at)
		if d.Crashed() {
			got, e = d.Image()[at*api.Sector:][:api.Sector], api.OK
		}
		if got != full(w) || e != api.OK {
			t.Errorf("%s: Read(%d) is %q, %d, not %q", what, at, got, e, w)
		}
		want[at] = full(w)
	}
	if got := d.Image(); got != strings.Join(want, "") {
		t.Errorf("%s: Image is %q, not %q", what, got, want)
	}
}

// waiting tells whether these sectors wait.
func waiting(t *testing.T, what string, d *Device, want ...int) {
	t.Helper()
	if got := d.Waiting(); !slices.Equal(got, want) {
		t.Errorf("%s: %v wait, not %v", what, got, want)
	}
}

// fresh tells whether a device has not crashed, is not armed, and has nothing that waits. It writes and flushes.
func fresh(t *testing.T, what string, d *Device) {
	t.Helper()
	if d.Crashed() {
		t.Errorf("%s: it has crashed", what)
	}
	waiting(t, what, d)
	for range 50 {
		s, _ := d.Read(0)
		write(t, d, 0, s)
		flush(t, d)
	}
}

// crashed tells whether a device answers as one that has crashed.
func crashed(t *testing.T, what string, d *Device) {
	t.Helper()
	if !d.Crashed() {
		t.Errorf("%s: it has not crashed", what)
	}
	image, waits := d.Image(), d.Waiting()
	for _, at := range []int{math.MinInt, -1, 0, d.Sectors() - 1, d.Sectors(), math.MaxInt} {
		for _, s := range []string{"", "x", strings.Repeat("x", api.Sector), strings.Repeat("x", api.Sector+1)} {
			if e := d.Write(at, s); e != api.ErrCrash {
				t.Errorf("%s: Write(%d) of %d bytes is %d", what, at, len(s), e)
			}
		}
		if s, e := d.Read(at); s != "" || e != api.ErrCrash {
			t.Errorf("%s: Read(%d) is %q, %d", what, at, s, e)
		}
	}
	if e := d.Flush(); e != api.ErrCrash {
		t.Errorf("%s: Flush is %d", what, e)
	}
	if d.Image() != image || !slices.Equal(d.Waiting(), waits) {
		t.Errorf("%s: what is refused has changed it", what)
	}
}

// P3.1: a device has 1 to MaxSectors sectors.
func TestNew(t *testing.T) {
	for _, n := range []int{1, 2, 3, 100, api.MaxSectors - 1, api.MaxSectors} {
		d := made(t, n)
		has(t, "new", d, make([]string, n)...)
		fresh(t, "new", d)
	}
	for _, n := range []int{math.MinInt, -api.MaxSectors, -1, 0, api.MaxSectors + 1, 1 << 40, math.MaxInt} {
		if d, e := New(n); d != nil || e != api.ErrArg {
			t.Errorf("New(%d) is %v, %d", n, d, e)
		}
	}
}

// P3.1: what was written last is read, with bytes 0 behind it, whether it is flushed or not.
func TestWrite(t *testing.T) {
	whole := strings.Repeat("\xff", api.Sector)
	for _, s := range []string{"", "\x00", "a", "a\x00b", "\u00e9\u65e5", "\xff\xfe", whole[1:], whole} {
		for _, ahead := range []string{"", "z", whole} {
			for at := range 3 {
				want := make([]string, 3)
				want[at] = s
				d := made(t, 3)
				write(t, d, at, ahead)
				write(t, d, at, s)
				has(t, "written", d, slices.Clone(want)...)
				flush(t, d)
				has(t, "flushed", d, slices.Clone(want)...)
				write(t, d, at, ahead)
				flush(t, d)
				write(t, d, at, s)
				has(t, "written over what was flushed", d, slices.Clone(want)...)
			}
		}
	}
}

// P3.1: a place that is none, and a text that is too long, in this order; nothing changes.
func TestRefuses(t *testing.T) {
	d := made(t, 3)
	for at, s := range []string{"a", "b", "c"} {
		write(t, d, at, s)
	}
	flush(t, d)
	write(t, d, 1, "B")
	long := strings.Repeat("x", api.Sector+1)
	for _, at := range []int{math.MinInt, -64, -3, -1, 3, 4, 64, api.MaxSectors, 1 << 32, math.MaxInt} {
		for _, s := range []string{"", "x", long} {
			if e := d.Write(at, s); e != api.ErrBounds {
				t.Errorf("Write(%d) of %d bytes is %d", at, len(s), e)
			}
		}
		if s, e := d.Read(at); s != "" || e != api.ErrBounds {
			t.Errorf("Read(%d) is %q, %d", at, s, e)
		}
	}
	for at := range 3 {
		for _, s := range []string{long, strings.Repeat("x", 2*api.Sector), strings.Repeat("\x00", api.Sector+1)} {
			if e := d.Write(at, s); e != api.ErrLong {
				t.Errorf("Write(%d) of %d bytes is %d", at, len(s), e)
			}
		}
	}
	has(t, "refused", d, "a", "B", "c")
	waiting(t, "refused", d, 1)
	fresh(t, "refused", d.After(nil))
}

// P3.1: what was written waits till Flush, each sector once, rising.
func TestWaiting(t *testing.T) {
	d := made(t, 100)
	waiting(t, "new", d)
	flush(t, d)
	waiting(t, "flushed", d)
	var want []int
	for k := range 50 {
		at := k * 37 % 100
		write(t, d, at, "x")
		write(t, d, at, "y")
		want = append(want, at)
		slices.Sort(want)
		waiting(t, "written", d, want...)
	}
	flush(t, d)
	waiting(t, "flushed", d)
	write(t, d, 7, "")
	write(t, d, 3, "")
	waiting(t, "written anew", d, 3, 7)
}

// P3.1: what is written as it stood waits too.
func TestWaitingOfTheSame(t *testing.T) {
	d := made(t, 2)
	write(t, d, 1, "")
	waiting(t, "of bytes 0", d, 1)
	flush(t, d)
	write(t, d, 0, "a")
	flush(t, d)
	write(t, d, 0, "a")
	waiting(t, "of what stood", d, 0)
	write(t, d, 0, "b")
	write(t, d, 0, "a")
	waiting(t, "of what stood again", d, 0)
}

// P3.2: it crashes in the Write or Flush behind so many, and not ahead of it.
func TestArm(t *testing.T) {
	for after := range 9 {
		for kinds := range 1 << (after + 1) {
			d := made(t, 2)
			d.Arm(after)
			for k := range after {
				if kinds>>k&1 == 0 {
					write(t, d, 0, string(rune('a'+k)))
				} else {
					flush(t, d)
				}
				if d.Crashed() {
					t.Fatalf("armed with %d, it has crashed at %d", after, k)
				}
			}
			e := api.OK
			if kinds>>after == 0 {
				e = d.Write(1, "x")
			} else {
				e = d.Flush()
			}
			if e != api.ErrCrash {
				t.Errorf("armed with %d: %d", after, e)
			}
			crashed(t, "armed", d)
		}
	}
}

// P3.2: the Write in which it crashes is not done.
func TestCrashInWrite(t *testing.T) {
	d := made(t, 3)
	write(t, d, 0, "a")
	write(t, d, 1, "b")
	flush(t, d)
	write(t, d, 0, "A")
	d.Arm(0)
	for _, at := range []int{0, 1, 2} {
		if e := d.Write(at, "x"); e != api.ErrCrash {
			t.Errorf("Write(%d) is %d", at, e)
		}
	}
	has(t, "crashed", d, "A", "b", "")
	waiting(t, "crashed", d, 0)
	has(t, "nothing lost", d.After(nil), "A", "b", "")
	has(t, "lost", d.After([]int{0, 1, 2}), "a", "b", "")
}

// P3.2: the Flush in which it crashes is not done: what waited may be lost.
func TestCrashInFlush(t *testing.T) {
	d := made(t, 3)
	write(t, d, 0, "a")
	flush(t, d)
	write(t, d, 0, "A")
	write(t, d, 2, "C")
	d.Arm(0)
	if e := d.Flush(); e != api.ErrCrash {
		t.Errorf("Flush is %d", e)
	}
	has(t, "crashed", d, "A", "", "C")
	waiting(t, "crashed", d, 0, 2)
	has(t, "nothing lost", d.After(nil), "A", "", "C")
	has(t, "lost", d.After([]int{0, 2}), "a", "", "")
}

// P3.2: what is refused, what is read, and the other calls do not count.
func TestArmCounts(t *testing.T) {
	for after := range 3 {
		d := made(t, 2)
		d.Arm(after)
		for k := range after {
			for range 5 {
				if e := d.Write(-1, ""); e != api.ErrBounds {
					t.Errorf("ahead of the first sector: %d", e)
				}
				if e := d.Write(2, ""); e != api.ErrBounds {
					t.Errorf("behind the last sector: %d", e)
				}
				if e := d.Write(0, strings.Repeat("x", 65)); e != api.ErrLong {
					t.Errorf("too long: %d", e)
				}
				d.Read(0)
				d.Read(9)
				d.Waiting()
				d.Image()
				d.Sectors()
				d.Crashed()
				d.After([]int{0})
			}
			write(t, d, k%2, "x")
		}
		d.Write(2, "")
		d.Write(0, strings.Repeat("x", 65))
		if d.Crashed() {
			t.Errorf("armed with %d, it has crashed in what is refused", after)
		}
		if e := d.Flush(); e != api.ErrCrash {
			t.Errorf("armed with %d: %d", after, e)
		}
	}
}

// P3.2: armed with a number below 0 it crashes in none; armed anew it counts anew.
func TestArmAnew(t *testing.T) {
	for _, after := range []int{math.MinInt, -2, -1, 100, 1 << 40, math.MaxInt} {
		d := made(t, 1)
		d.Arm(0)
		d.Arm(after)
		for range 50 {
			write(t, d, 0, "x")
			flush(t, d)
		}
	}
	d := made(t, 1)
	d.Arm(5)
	write(t, d, 0, "a")
	d.Arm(1)
	write(t, d, 0, "b")
	if e := d.Write(0, "c"); e != api.ErrCrash {
		t.Errorf("armed anew: %d", e)
	}
	d = made(t, 1)
	d.Arm(0)
	d.Arm(2)
	flush(t, d)
	write(t, d, 0, "a")
	if e := d.Flush(); e != api.ErrCrash {
		t.Errorf("armed for later: %d", e)
	}
}

// P3.2: who has crashed stays so, however it is armed.
func TestStaysCrashed(t *testing.T) {
	d := made(t, 2)
	write(t, d, 1, "b")
	d.Arm(0)
	d.Flush()
	for _, after := range []int{-1, 0, 1, 5} {
		crashed(t, "ahead of it", d)
		d.Arm(after)
		crashed(t, "armed", d)
	}
	has(t, "crashed", d, "", "b")
	waiting(t, "crashed", d, 1)
	fresh(t, "after", d.After(nil))
}

// P3.2: what was lost has what it had when it was flushed last, not what was written between, nor ahead.
func TestAfter(t *testing.T) {
	d := made(t, 4)
	for _, s := range []string{"1", "2"} {
		write(t, d, 0, "a"+s)
		write(t, d, 1, "b"+s)
		flush(t, d)
	}
	for _, s := range []string{"3", "4"} {
		write(t, d, 0, "a"+s)
		write(t, d, 2, "c"+s)
	}
	for _, c := range []struct {
		lost []int
		want []string
	}{
		{nil, []string{"a4", "b2", "c4", ""}},
		{[]int{}, []string{"a4", "b2", "c4", ""}},
		{[]int{0}, []string{"a2", "b2", "c4", ""}},
		{[]int{2}, []string{"a4", "b2", "", ""}},
		{[]int{0, 2}, []string{"a2", "b2", "", ""}},
		{[]int{2, 0}, []string{"a2", "b2", "", ""}},
		{[]int{2, 2, 0, 0, 2}, []string{"a2", "b2", "", ""}},
		{[]int{1, 3}, []string{"a4", "b2", "c4", ""}},
		{[]int{3, 2, 1, 0}, []string{"a2", "b2", "", ""}},
		{[]int{math.MinInt, -1, 4, 64, math.MaxInt}, []string{"a4", "b2", "c4", ""}},
		{[]int{-1, 0, 99}, []string{"a2", "b2", "c4", ""}},
	} {
		lost := slices.Clone(c.lost)
		a := d.After(lost)
		if !slices.Equal(lost, c.lost) {
			t.Errorf("After has written into what it was handed: %v", lost)
		}
		has(t, "after", a, c.want...)
		fresh(t, "after", a)
		has(t, "ahead", d, "a4", "b2", "c4", "")
		waiting(t, "ahead", d, 0, 2)
	}
}

// P3.2: After is another device, that is not armed; what is done to one is not seen of the other.
func TestAfterIsAnother(t *testing.T) {
	d := made(t, 2)
	write(t, d, 0, "a")
	flush(t, d)
	write(t, d, 1, "b")
	d.Arm(0)
	a := d.After(nil)
	write(t, a, 0, "x")
	flush(t, a)
	write(t, a, 1, "y")
	has(t, "after", a, "x", "y")
	waiting(t, "after", a, 1)
	has(t, "ahead", d, "a", "b")
	waiting(t, "ahead", d, 1)
	if e := d.Write(0, "z"); e != api.ErrCrash {
		t.Errorf("it is armed still: %d", e)
	}
	if a.Crashed() {
		t.Error("the other one has crashed")
	}
	b := made(t, 2)
	write(t, b, 0, "a")
	a = b.After(nil)
	write(t, b, 0, "p")
	flush(t, b)
	write(t, b, 1, "q")
	has(t, "after", a, "a", "")
	waiting(t, "after", a)
}

// P3.2: what is lost behind a first crash has what stood there then.
func TestAfterTwice(t *testing.T) {
	d := made(t, 3)
	write(t, d, 0, "a")
	write(t, d, 1, "b")
	d = d.After([]int{1})
	write(t, d, 0, "A")
	write(t, d, 1, "B")
	has(t, "all lost", d.After([]int{0, 1, 2}), "a", "", "")
	has(t, "one lost", d.After([]int{0}), "a", "B", "")
	d.Arm(0)
	d.Flush()
	has(t, "crashed, all lost", d.After([]int{0, 1, 2}).After([]int{0, 1, 2}), "a", "", "")
}

// P3.3: the bytes as they would be read, also of a device that has crashed.
func TestImage(t *testing.T) {
	d := made(t, 3)
	write(t, d, 0, "a")
	write(t, d, 2, strings.Repeat("c", api.Sector))
	flush(t, d)
	write(t, d, 1, "b")
	write(t, d, 0, "A")
	want := full("A") + full("b") + strings.Repeat("c", api.Sector)
	if got := d.Image(); got != want {
		t.Errorf("Image is %q", got)
	}
	d.Arm(0)
	d.Write(2, "x")
	if got := d.Image(); got != want {
		t.Errorf("Image of what has crashed is %q", got)
	}
	waiting(t, "crashed", d, 0, 1)
}

// P3.3: a device of an image, where nothing waits.
func TestOf(t *testing.T) {
	for _, n := range []int{1, 2, 3, api.MaxSectors} {
		b := make([]byte, n*api.Sector)
		for k := range b {
			b[k] = byte(k*7 + k/api.Sector)
		}
		d, e := Of(string(b))
		if e != api.OK || d.Sectors() != n || d.Image() != string(b) {
			t.Fatalf("Of %d sectors: %d", n, e)
		}
		for at := range n {
			if s, e := d.Read(at); s != string(b[at*api.Sector:][:api.Sector]) || e != api.OK {
				t.Errorf("Of %d sectors: Read(%d) is %q, %d", n, at, s, e)
			}
		}
		fresh(t, "of an image", d)
		write(t, d, n-1, "x")
		waiting(t, "written", d, n-1)
		if got := d.After([]int{n - 1}).Image(); got != string(b) {
			t.Error("what was lost does not have what the image had")
		}
	}
}

// P3.3: bytes that are no image.
func TestOfRefuses(t *testing.T) {
	for _, n := range []int{0, 1, api.Sector - 1, api.Sector + 1, 2*api.Sector - 1, api.Sector*api.MaxSectors - 1, api.Sector*api.MaxSectors + 1, api.Sector * (api.MaxSectors + 1), 2 * api.Sector * api.MaxSectors} {
		if d, e := Of(strings.Repeat("x", n)); d != nil || e != api.ErrArg {
			t.Errorf("Of %d bytes is %v, %d", n, d, e)
		}
	}
}

// P3.3: what has an image is that device, but that nothing waits.
func TestOfImage(t *testing.T) {
	d := made(t, 3)
	write(t, d, 1, "b")
	flush(t, d)
	write(t, d, 0, "a")
	d.Arm(0)
	d.Flush()
	x, e := Of(d.Image())
	if e != api.OK {
		t.Fatal(e)
	}
	has(t, "of an image", x, "a", "b", "")
	fresh(t, "of an image", x)
	has(t, "all lost", x.After([]int{0, 1, 2}), "a", "b", "")
}

// P3.4: what was flushed is never lost, wherever it crashes, whatever is lost.
func TestFlushedIsNeverLost(t *testing.T) {
	const sectors = 3
	for after := range 12 {
		d := made(t, sectors)
		d.Arm(after)
		kept, written := make([]string, sectors), make([]string, sectors)
		for k := 0; ; k++ {
			if k%4 == 3 {
				if d.Flush() != api.OK {
					break
				}
				copy(kept, written)
				continue
			}
			at, s := k%sectors, string(rune('a'+k))
			if d.Write(at, s) != api.OK {
				break
			}
			written[at] = s
		}
		for set := range 1 << sectors {
			want := slices.Clone(written)
			var lost []int
			for at := range sectors {
				if set>>at&1 == 1 {
					want[at] = kept[at]
					lost = append(lost, at)
				}
			}
			has(t, "after", d.After(lost), want...)
		}
	}
}

// plain is a device as the chapter tells it, in lists alone.
type plain struct {
	now, last []string
	waits     []bool
	left      int
	crashed   bool
}

// step is whether a Write that is not refused, or a Flush, is done.
func (p *plain) step() bool {
	if p.left == 0 {
		p.crashed = true
	}
	p.left--
	return !p.crashed
}

func (p *plain) write(at int, s string) api.Errno {
	switch {
	case p.crashed:
		return api.ErrCrash
	case at < 0 || at >= len(p.now):
		return api.ErrBounds
	case len(s) > api.Sector:
		return api.ErrLong
	case !p.step():
		return api.ErrCrash
	}
	p.now[at], p.waits[at] = s, true
	return api.OK
}

func (p *plain) flush() api.Errno {
	if p.crashed || !p.step() {
		return api.ErrCrash
	}
	copy(p.last, p.now)
	clear(p.waits)
	return api.OK
}

func (p *plain) after(lost []int) *plain {
	now := slices.Clone(p.now)
	for at := range now {
		if p.waits[at] && slices.Contains(lost, at) {
			now[at] = p.last[at]
		}
	}
	return &plain{now: now, last: slices.Clone(now), waits: make([]bool, len(now)), left: -1}
}

// P3.1 to P3.4: a long course of all calls, held against a device that is told in lists.
func TestCourse(t *testing.T) {
	const sectors = 6
	x := uint32(1)
	draw := func(n int) int {
		x = x*1664525 + 1013904223
		return int(x>>8) % n
	}
	d := made(t, sectors)
	p := &plain{now: make([]string, sectors), last: make([]string, sectors), waits: make([]bool, sectors), left: -1}
	for k := range 20000 {
		var got, want api.Errno
		switch draw(12) {
		default:
			at, s := draw(sectors+2)-1, strings.Repeat(string(rune('a'+draw(26))), draw(api.Sector+2))
			got, want = d.Write(at, s), p.write(at, s)
		case 0, 1:
			got, want = d.Flush(), p.flush()
		case 2:
			after := draw(20) - 4
			d.Arm(after)
			p.left = after
		case 3:
			var lost []int
			for range draw(5) {
				lost = append(lost, draw(sectors+2)-1)
			}
			d, p = d.After(lost), p.after(lost)
		}
		var waits []int
		for at, w := range p.waits {
			if w {
				waits = append(waits, at)
			}
		}
		if got != want || d.Crashed() != p.crashed {
			t.Fatalf("at %d: %d, crashed %v, not %d, %v", k, got, d.Crashed(), want, p.crashed)
		}
		has(t, "in the course", d, slices.Clone(p.now)...)
		waiting(t, "in the course", d, waits...)
	}
}

// The rules that hold everywhere: an answer is new memory, its spare room too.
func TestNewMemory(t *testing.T) {
	d := made(t, 4)
	s := strings.Repeat("s", api.Sector)
	write(t, d, 1, s)
	write(t, d, 2, s)
	a, _ := d.Read(1)
	b, _ := d.Read(1)
	if unsafe.StringData(a) == unsafe.StringData(s) || unsafe.StringData(a) == unsafe.StringData(b) {
		t.Error("Read answers what it was handed, or what it answered")
	}
	l := d.Waiting()
	for k := range l[:cap(l)] {
		l[:cap(l)][k] = 99
	}
	waiting(t, "written into", d, 1, 2)
	image := d.Image()
	x, _ := Of(image)
	if unsafe.StringData(x.Image()) == unsafe.StringData(image) {
		t.Error("Image answers what Of was handed")
	}
}

func BenchmarkWriteFlush(b *testing.B) {
	d, _ := New(api.MaxSectors)
	for k := range b.N {
		d.Write(k%api.MaxSectors, "x")
		d.Flush()
	}
}
