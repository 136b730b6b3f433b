package frame

import (
	"encoding/binary"
	"hash/crc32"
	"math"
	"strings"
	"testing"
	"unsafe"
)

// ones is the greatest number.
const ones = math.MaxUint64

// uvar is a number as the library spells it out.
func uvar(n uint64) string { return string(binary.AppendUvarint(nil, n)) }

// four is the lowest four bytes of a number, the highest first, as the library spells them out.
func four(n uint64) string { return string(binary.BigEndian.AppendUint32(nil, uint32(n))) }

// sumOf is the sum's four bytes, by the library.
func sumOf(s string) string {
	return four(uint64(crc32.Checksum([]byte(s), crc32.MakeTable(crc32.Castagnoli))))
}

// sealed is a head, the sum, and the body, whatever the head says.
func sealed(head, body string) string { return head + sumOf(head+body) + body }

// framed is the frame that the chapter asks for, spelt out by the library, however long the body.
func framed(version int, body string) string {
	if version == 1 {
		return sealed("\xa1"+four(uint64(len(body))), body)
	}
	return sealed("\xa2"+uvar(uint64(len(body))), body)
}

// mixed is a text of n bytes in which all bytes come up, of no plain order.
func mixed(n int) string {
	b := make([]byte, n)
	x := uint32(n) + 1
	for k := range b {
		x = x*1664525 + 1013904223
		b[k] = byte(x >> 24)
	}
	return string(b)
}

// long is a number as n groups of seven bits, more than there need be.
func long(number uint64, n int) string {
	b := make([]byte, n)
	for k := range b {
		b[k] = byte(number) | 0x80
		number >>= 7
	}
	b[n-1] &^= 0x80
	return string(b)
}

// versions are those that there are.
var versions = []int{1, 2}

// noVersions are some that are none: below, above, and such as are one in their lowest bits.
var noVersions = []int{math.MinInt, -161, -160, -2, -1, 0, 3, 4, 95, 96, 161, 162, 255, 256, 257, 258, 1<<16 + 1, 1<<32 + 1, 1<<32 + 2, math.MinInt + 1, math.MaxInt}

// smallBodies are bodies at which the length is as it is told by a byte more, and others.
func smallBodies() []string {
	list := []string{"", "\x00", "\xff", "hi", "\xa1", "\xa2\x00", "\u00e9", strings.Repeat("\x00", 130), strings.Repeat("\xff", 130)}
	for _, n := range []int{3, 63, 64, 126, 127, 128, 129, 255, 256, 257} {
		list = append(list, mixed(n))
	}
	return append(list, framed(1, "hi"), framed(2, "hi"))
}

// bodies are small ones, and great ones up to the greatest that there may be.
func bodies() []string {
	list := smallBodies()
	for _, n := range []int{16383, 16384, 16385, 65535, 65536, most - 1, most} {
		list = append(list, mixed(n))
	}
	return list
}

// hasNext asks whether s begins with that frame.
func hasNext(t *testing.T, s string, version int, body string, size int) {
	t.Helper()
	if v, b, n, ok := Next(s); v != version || b != body || n != size || !ok {
		t.Errorf("Next of %.80x is %d, %.80x, %d, %v; it should be %d, %.80x, %d", s, v, b, n, ok, version, body, size)
	}
}

// noNext asks whether s begins with no frame, and is none.
func noNext(t *testing.T, what, s string) {
	t.Helper()
	if v, b, n, ok := Next(s); v != 0 || b != "" || n != 0 || ok {
		t.Errorf("%s: Next of %.80x is %d, %.80x, %d, %v", what, s, v, b, n, ok)
	}
	noFrame(t, what, s)
}

// noFrame asks whether s is no frame, as a whole.
func noFrame(t *testing.T, what, s string) {
	t.Helper()
	if v, b, ok := Unpack(s); v != 0 || b != "" || ok {
		t.Errorf("%s: Unpack of %.80x is %d, %.80x, %v", what, s, v, b, ok)
	}
}

// P7.1: frames whose bytes, sums among them, are written out.
func TestPackKnown(t *testing.T) {
	for _, c := range []struct {
		version    int
		body, want string
	}{
		{1, "", "\xa1\x00\x00\x00\x00" + "\x08\x69\x79\x92"},
		{2, "", "\xa2\x00" + "\x52\x6c\x5e\xc7"},
		{1, "123456789", "\xa1\x00\x00\x00\x09" + "\xc9\xcd\xdd\xdc" + "123456789"},
		{2, "123456789", "\xa2\x09" + "\x08\xcd\x39\x78" + "123456789"},
	} {
		if s, ok := Pack(c.version, c.body); s != c.want || !ok {
			t.Errorf("Pack(%d, %q) is %x, %v, not %x", c.version, c.body, s, ok, c.want)
		}
	}
}

// P7.1: the byte, the length, the sum, the body, of each version, up to the longest body.
func TestPack(t *testing.T) {
	for _, version := range versions {
		for _, body := range bodies() {
			if s, ok := Pack(version, body); s != framed(version, body) || !ok {
				t.Errorf("Pack(%d, %d bytes) is %.40x, %v, not %.40x", version, len(body), s, ok, framed(version, body))
			}
		}
	}
}

// P7.1: no such version, or too long a body.
func TestPackRefuses(t *testing.T) {
	for _, version := range noVersions {
		for _, body := range []string{"", "hi", mixed(300)} {
			if s, ok := Pack(version, body); s != "" || ok {
				t.Errorf("Pack(%d) is %.80x, %v", version, s, ok)
			}
		}
	}
	for _, version := range append(noVersions, versions...) {
		for _, n := range []int{most + 1, most + 2, 2 * most, 1 << 24} {
			if s, ok := Pack(version, strings.Repeat("x", n)); s != "" || ok {
				t.Errorf("Pack(%d, %d bytes) is of %d bytes, %v", version, n, len(s), ok)
			}
		}
	}
}

// P7.1: what was packed, from the beginning on, whatever stands behind it; and as a whole, where nothing does.
func TestNext(t *testing.T) {
	for _, version := range versions {
		for _, body := range bodies() {
			s := framed(version, body)
			hasNext(t, s, version, body, len(s))
			if v, b, ok := Unpack(s); v != version || b != body || !ok {
				t.Errorf("Unpack of %.80x is %d, %.80x, %v", s, v, b, ok)
			}
			for _, behind := range []string{"\x00", "x", "\xff", "\xa1", "more", s, framed(3-version, "more")} {
				hasNext(t, s+behind, version, body, len(s))
				noFrame(t, "with more behind", s+behind)
			}
		}
	}
}

// P7.1: frames one behind the other.
func TestNextAfterNext(t *testing.T) {
	var s string
	list := bodies()
	for at, body := range list {
		s += framed(1+at%2, body)
	}
	for at, body := range list {
		size := len(framed(1+at%2, body))
		hasNext(t, s, 1+at%2, body, size)
		s = s[size:]
	}
	noNext(t, "at the end", s)
}

// P7.1: too few bytes.
func TestNextCut(t *testing.T) {
	for _, version := range versions {
		for _, body := range smallBodies() {
			s := framed(version, body)
			for cut := range s {
				noNext(t, "cut", s[:cut])
				if v, b, _, ok := Next(s[cut+1:]); ok && !strings.HasPrefix(s[cut+1:], framed(v, b)) {
					t.Errorf("cut ahead by %d: Next of %x is %d, %x", cut+1, s[cut+1:], v, b)
				}
			}
		}
		s := framed(version, mixed(most))
		for _, cut := range []int{4, 5, 8, 9, 10, 1000, most, len(s) - 1} {
			noNext(t, "cut", s[:cut])
		}
	}
}

// P7.1: a bit, or a byte, that is another one.
func TestNextTurned(t *testing.T) {
	for _, version := range versions {
		for _, body := range smallBodies() {
			s := framed(version, body)
			for k := range s {
				for bit := range 8 {
					b := []byte(s)
					b[k] ^= 1 << bit
					noNext(t, "turned", string(b))
					noNext(t, "turned, with more behind", string(b)+strings.Repeat("\x00", 300))
				}
				b := []byte(s)
				b[k] ^= 0xff
				noNext(t, "turned", string(b))
			}
		}
	}
}

// P7.1: another byte ahead, though the sum is right.
func TestNextMark(t *testing.T) {
	for mark := range 256 {
		if mark == 0xa1 || mark == 0xa2 {
			continue
		}
		for _, length := range []string{four(2), uvar(2)} {
			noNext(t, "another byte ahead", sealed(string([]byte{byte(mark)})+length, "hi"))
		}
	}
	noNext(t, "nothing", "")
	noNext(t, "no byte ahead", sealed(four(2), "hi"))
	noNext(t, "no byte ahead", sealed(uvar(2), "hi"))
}

// P7.1: a length that is another one, though the sum is right.
func TestNextLength(t *testing.T) {
	for _, n := range []uint64{0, 1, 299, 301, 1 << 8, 1 << 14, 1 << 16, most, most + 1, most + 300, 1 << 21, 1<<31 - 1, 1 << 31, 1<<32 - 1} {
		noFrame(t, "another length", sealed("\xa1"+four(n), mixed(300)))
		if n > 300 {
			noNext(t, "too long a length", sealed("\xa1"+four(n), mixed(300)))
		}
	}
	for _, n := range []uint64{0, 1, 299, 301, 1 << 7, 1 << 14, most, most + 1, most + 300, 1 << 31, 1 << 32, 1<<32 + 300, math.MaxInt, 1 << 63, 1<<63 + 300, ones - 299, ones} {
		noFrame(t, "another length", sealed("\xa2"+uvar(n), mixed(300)))
		if n > 300 {
			noNext(t, "too long a length", sealed("\xa2"+uvar(n), mixed(300)))
		}
	}
	// As version 1 tells it in version 2, and the other way round.
	for _, n := range []int{1, 2, 127, 128, 300, 1 << 16} {
		noNext(t, "the other's length", sealed("\xa1"+uvar(uint64(n)), mixed(n)))
		noNext(t, "the other's length", sealed("\xa2"+four(uint64(n)), mixed(n)))
	}
}

// P7.1: a length of version 2 that is written longer than it need be, or has more than 64 bits.
func TestNextLongLength(t *testing.T) {
	for _, body := range []string{"", "hi", mixed(127), mixed(128), mixed(300)} {
		least := len(uvar(uint64(len(body))))
		for n := least + 1; n < 12; n++ {
			noNext(t, "longer than it need be", sealed("\xa2"+long(uint64(len(body)), n), body))
		}
	}
	noNext(t, "more than 64 bits", sealed("\xa2"+strings.Repeat("\x80", 9)+"\x02", ""))
	noNext(t, "more than 64 bits", sealed("\xa2\x82"+strings.Repeat("\x80", 8)+"\x02", "hi"))
	noNext(t, "no end", sealed("\xa2"+strings.Repeat("\x80", 20), "hi"))
}

// P7.1: a body that is too long, though all of it is there, and the sum is right.
func TestNextTooLong(t *testing.T) {
	for _, version := range versions {
		for _, n := range []int{most + 1, most + 2, 2 * most, 1 << 24} {
			s := framed(version, strings.Repeat("x", n))
			noNext(t, "too long", s)
			noNext(t, "too long, with more behind", s+"more")
		}
	}
}

// P7.1: the sum is of what stands ahead of it, and of the body, and of nothing else; and its highest byte goes first.
func TestNextSum(t *testing.T) {
	for _, head := range []string{"\xa1\x00\x00\x00\x02", "\xa2\x02"} {
		right := sumOf(head + "hi")
		turned := string([]byte{right[3], right[2], right[1], right[0]})
		for _, sum := range []string{"\x00\x00\x00\x00", "\xff\xff\xff\xff", sumOf("hi"), sumOf(head), sumOf(head[1:] + "hi"), sumOf(head[:1] + "hi"), sumOf("hi" + head), sumOf(head + "hi\x00"), sumOf(head + "hi" + "more"), turned} {
			noNext(t, "another sum", head+sum+"hi")
			noNext(t, "another sum", head+sum+"hi"+"more")
		}
		noNext(t, "the sum behind", head+"hi"+right)
	}
}

// P7.4: a frame of one version, its first byte that of the other.
func TestNextOtherVersion(t *testing.T) {
	for _, body := range smallBodies() {
		for _, version := range versions {
			s := framed(version, body)
			noNext(t, "the other's first byte", string([]byte{s[0] ^ 3})+s[1:])
		}
	}
}

// nextOf is the frame that s begins with, read by the library.
func nextOf(s string) (version int, body string, ok bool) {
	for _, version := range versions {
		for _, at := range []int{5, 2, 3, 4} {
			if len(s) < at+4 || s[0] != byte(160+version) {
				continue
			}
			var n uint64
			if version == 1 {
				n = uint64(binary.BigEndian.Uint32([]byte(s[1:5])))
			} else {
				n, _ = binary.Uvarint([]byte(s[1:at]))
			}
			if n > most || n > uint64(len(s)-at-4) {
				continue
			}
			body := s[at+4 : at+4+int(n)]
			if strings.HasPrefix(s, framed(version, body)) {
				return version, body, true
			}
		}
	}
	return 0, "", false
}

// nextIsPut asks whether what is read of s is as the library reads it, and is packed so.
func nextIsPut(t *testing.T, s string) {
	t.Helper()
	version, body, ok := nextOf(s)
	if !ok {
		noNext(t, "held against another reading", s)
		return
	}
	p, ok := Pack(version, body)
	if !ok || !strings.HasPrefix(s, p) {
		t.Errorf("of %x is read %x, which is packed %x, %v", s, body, p, ok)
	}
	hasNext(t, s, version, body, len(p))
	v, b, ok := Unpack(s)
	if whole := len(p) == len(s); ok != whole || whole && (v != version || b != body) {
		t.Errorf("Unpack of %x is %d, %x, %v", s, v, b, ok)
	}
}

// P7.1: heads of a few bytes, the sum right wherever it may stand.
func TestNextIsPut(t *testing.T) {
	for _, mark := range []string{"\xa0", "\xa1", "\xa2", "\xa3", "\x01", "\x02"} {
		for n := range 6 * 6 * 6 * 6 * 6 {
			if t.Failed() {
				return
			}
			head := mark
			for range 5 {
				head += []string{"", "\x00", "\x01", "\x02", "\x80", "\x81"}[n%6]
				n /= 6
			}
			for _, body := range []string{"", "a", "\x00\x00"} {
				nextIsPut(t, sealed(head, body))
			}
		}
	}
}

// Of any bytes what is read is packed so; and nothing panics.
func FuzzNext(f *testing.F) {
	for _, body := range smallBodies() {
		for _, version := range versions {
			f.Add(framed(version, body))
			f.Add(framed(version, body) + "more")
		}
	}
	f.Fuzz(nextIsPut)
}

// within says whether part stands in the memory of s.
func within(part, s string) bool {
	at, from := uintptr(unsafe.Pointer(unsafe.StringData(part))), uintptr(unsafe.Pointer(unsafe.StringData(s)))
	return part != "" && from <= at && at < from+uintptr(len(s))
}

// The rules that hold everywhere: what is answered shares no memory with what was handed in.
func TestNewMemory(t *testing.T) {
	for _, version := range versions {
		s := framed(version, mixed(300))
		if _, body, _, _ := Next(s); within(body, s) {
			t.Error("the body of Next is a part of what was handed in")
		}
		if _, body, _ := Unpack(s); within(body, s) {
			t.Error("the body of Unpack is a part of what was handed in")
		}
	}
}

// Next takes no longer where much stands behind the frame.
func TestNextOfMuch(t *testing.T) {
	s := framed(1, "hi") + strings.Repeat("\x00", 1<<26)
	for range 1000 {
		hasNext(t, s, 1, "hi", 11)
	}
}

func BenchmarkPack(b *testing.B) {
	body := mixed(110)
	for range b.N {
		Pack(2, body)
	}
}

func BenchmarkNext(b *testing.B) {
	s := framed(2, mixed(110))
	for range b.N {
		Next(s)
	}
}
