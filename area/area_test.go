package area

import (
	"encoding/binary"
	"fmt"
	"hash/crc32"
	"math"
	"strings"
	"testing"
	"unsafe"
)

// ones is the greatest number.
const ones = math.MaxUint64

// most is how many bytes Data may have.
const most = 16384

// noVersions are numbers that are no version.
var noVersions = []int{math.MinInt, -161, -1, 0, 3, 16, 160, 161, 162, 255, 256, 257, 258, 1 << 32, 1<<32 + 1, 1<<32 + 2, math.MaxInt}

// numbers are at the edges of what takes a byte more, and others.
var numbers = []uint64{0, 1, 2, 127, 128, 255, 256, 300, 16383, 16384, 1<<32 - 1, 1 << 32, 1<<56 - 1, 1 << 56, 0x0102030405060708, 1<<63 - 1, 1 << 63, ones - 1, ones}

// mixed is a text of n bytes, of which none is 0.
func mixed(n int) string {
	b := make([]byte, n)
	for k := range b {
		b[k] = byte(1 + k*7%255)
	}
	return string(b)
}

// null is so many bytes 0.
func null(n int) string { return strings.Repeat("\x00", n) }

// framed is a frame of the version, spelled out by the library, whatever the body.
func framed(version int, body string) string {
	head := []byte{byte(160 + version)}
	if version == 1 {
		head = binary.BigEndian.AppendUint32(head, uint32(len(body)))
	} else {
		head = binary.AppendUvarint(head, uint64(len(body)))
	}
	sum := crc32.Checksum([]byte(string(head)+body), crc32.MakeTable(crc32.Castagnoli))
	return string(binary.BigEndian.AppendUint32(head, sum)) + body
}

// pair is the two numbers as the version has them, spelled out by the library.
func pair(version int, index, term uint64) string {
	if version == 1 {
		return string(binary.BigEndian.AppendUint64(binary.BigEndian.AppendUint64(nil, index), term))
	}
	return string(binary.AppendUvarint(binary.AppendUvarint(nil, index), term))
}

// spelled is the bytes that the chapter asks for, whatever the Snap.
func spelled(version int, s Snap) string {
	return framed(version, pair(version, s.Index, s.Term)+s.Data)
}

// long is a number as n groups of seven bits, more than there need be.
func long(number uint64, n int) string {
	b := make([]byte, n)
	for k := range b {
		b[k] = byte(number) | 0x80
		number >>= 7
	}
	b[n-1] &^= 0x80
	return string(b)
}

// datas are texts of lengths about the edges, and such as begin and end with bytes 0, or look like frames.
func datas() []string {
	l := []string{"\x00", "\x00\x00a", "a\x00\x00", "\xff", "\u00e9", null(64), null(most), strings.Repeat("\xff", 64), "\xa1", "\xa2\x00", spelled(1, Snap{1, 2, "ab"}), spelled(2, Snap{1, 2, "ab"})}
	for n := range 200 {
		l = append(l, mixed(n))
	}
	for _, n := range []int{255, 256, 257, 4095, 4096, most - 65, most - 64, most - 1, most} {
		l = append(l, mixed(n))
	}
	return l
}

// snaps are some that may be.
func snaps() []Snap {
	var l []Snap
	for _, data := range datas() {
		l = append(l, Snap{Data: data}, Snap{300, 2, data}, Snap{ones, ones, data})
	}
	for _, index := range numbers {
		for _, term := range numbers {
			l = append(l, Snap{index, term, ""}, Snap{index, term, "ab"})
		}
	}
	return l
}

// tell is a Snap, as long as people can read.
func tell(s Snap) string {
	return fmt.Sprintf("{%d %d %d bytes %.60q}", s.Index, s.Term, len(s.Data), s.Data)
}

// gets asks whether that is what b begins with.
func gets(t *testing.T, what, b string, s Snap, version int) {
	t.Helper()
	if got, v, ok := Get(b); got != s || v != version || !ok {
		t.Errorf("%s: Get(%.100x) is %s, %d, %v; it should be %s, %d", what, b, tell(got), v, ok, tell(s), version)
	}
}

// getsNone asks whether b begins with none.
func getsNone(t *testing.T, what, b string) {
	t.Helper()
	if got, v, ok := Get(b); got != (Snap{}) || v != 0 || ok {
		t.Errorf("%s: Get(%.100x) is %s, %d, %v", what, b, tell(got), v, ok)
	}
}

// P11.1: Snaps whose bytes, sums among them, are written out.
func TestPutKnown(t *testing.T) {
	for _, c := range []struct {
		version int
		s       Snap
		want    string
	}{
		{1, Snap{}, "\xa1\x00\x00\x00\x10" + "\x12\xb4\x7e\x4e" + null(16)},
		{2, Snap{}, "\xa2\x02" + "\x3d\xea\xe7\xff" + "\x00\x00"},
		{1, Snap{300, 2, "ab"}, "\xa1\x00\x00\x00\x12" + "\x7c\x0a\xc0\xdc" + "\x00\x00\x00\x00\x00\x00\x01\x2c" + "\x00\x00\x00\x00\x00\x00\x00\x02" + "ab"},
		{2, Snap{300, 2, "ab"}, "\xa2\x05" + "\x4d\x2b\x18\x98" + "\xac\x02" + "\x02" + "ab"},
	} {
		if b, ok := Put(c.version, c.s); b != c.want || !ok {
			t.Errorf("Put(%d, %s) is %x, %v, not %x", c.version, tell(c.s), b, ok, c.want)
		}
		gets(t, "known", c.want, c.s, c.version)
	}
}

// P11.1: the frame of Index, Term and Data; and what was put is got, whatever stands behind it.
func TestPutGet(t *testing.T) {
	for _, s := range snaps() {
		for version := 1; version <= 2; version++ {
			b, ok := Put(version, s)
			if b != spelled(version, s) || !ok {
				t.Errorf("Put(%d, %s) is %.100x, %v", version, tell(s), b, ok)
			}
			gets(t, "put", b, s, version)
			for _, behind := range []string{"\x00", null(100), "more", spelled(1, Snap{4, 5, "x"}), spelled(2, Snap{4, 5, "x"}), b} {
				gets(t, "more behind", b+behind, s, version)
			}
		}
	}
}

// P11.1: a version that is none.
func TestNoVersion(t *testing.T) {
	for _, version := range noVersions {
		for _, s := range []Snap{{}, {1, 2, "ab"}, {ones, ones, mixed(most)}, {1, 2, mixed(most + 1)}} {
			if b, ok := Put(version, s); b != "" || ok {
				t.Errorf("Put(%d, %s) is %.100x, %v", version, tell(s), b, ok)
			}
			for _, many := range []int{1, 1000, 4096, math.MaxInt} {
				if Room(version, many, s) {
					t.Errorf("Room(%d, %d, %s)", version, many, tell(s))
				}
			}
		}
	}
}

// P11.1: Data above MaxBytes bytes.
func TestTooLong(t *testing.T) {
	for version := 1; version <= 2; version++ {
		for _, n := range []int{most + 1, most + 2, most + 64, 2 * most, 1 << 16, 1 << 20, 1<<20 + 1} {
			for _, s := range []Snap{{0, 0, mixed(n)}, {1, 2, null(n)}} {
				if b, ok := Put(version, s); b != "" || ok {
					t.Errorf("Put(%d, %d bytes) is %.100x, %v", version, n, b, ok)
				}
				for _, many := range []int{1, 1000, 1 << 20, math.MaxInt} {
					if Room(version, many, s) {
						t.Errorf("Room(%d, %d, %d bytes)", version, many, n)
					}
				}
			}
		}
	}
}

// P11.1: a frame whose Data is above MaxBytes bytes is none that may be put.
func TestGetTooLong(t *testing.T) {
	for version := 1; version <= 2; version++ {
		gets(t, "as long as may be", spelled(version, Snap{1, 2, mixed(most)}), Snap{1, 2, mixed(most)}, version)
		for _, n := range []int{most + 1, most + 2, 2 * most, 1 << 19} {
			getsNone(t, "too long", spelled(version, Snap{1, 2, mixed(n)}))
		}
	}
}

// P11.1: a frame that has no Index and Term.
func TestGetShortBody(t *testing.T) {
	for n := range 16 {
		getsNone(t, "version 1, too short", framed(1, mixed(n)))
		getsNone(t, "version 1, too short", framed(1, null(n)))
		getsNone(t, "version 1, too short, more behind", framed(1, null(n))+null(40))
	}
	gets(t, "just long enough", framed(1, null(16)), Snap{}, 1)
	gets(t, "just long enough", framed(2, null(2)), Snap{}, 2)
	for _, body := range []string{"", "\x00", "\x80", "\x01\x80", "\x80\x80", "\xac\x02", "\x00\xac", strings.Repeat("\xff", 9), "\x01" + strings.Repeat("\xff", 9)} {
		getsNone(t, "version 2, too short", framed(2, body))
		getsNone(t, "version 2, too short, more behind", framed(2, body)+"\x01\x01")
	}
}

// P11.1: of version 2 a number that is put otherwise than Put puts it is none.
func TestGetLongNumber(t *testing.T) {
	for _, n := range []uint64{0, 1, 127, 128, 300, 1 << 62} {
		least := len(binary.AppendUvarint(nil, n))
		for size := least + 1; size <= 12; size++ {
			getsNone(t, "a longer Index", framed(2, long(n, size)+"\x02ab"))
			getsNone(t, "a longer Term", framed(2, "\x02"+long(n, size)+"ab"))
		}
		gets(t, "as short as may be", framed(2, long(n, least)+"\x02ab"), Snap{n, 2, "ab"}, 2)
		gets(t, "as short as may be", framed(2, "\x02"+long(n, least)+"ab"), Snap{2, n, "ab"}, 2)
	}
	above := strings.Repeat("\xff", 9)
	getsNone(t, "an Index of more than 64 bits", framed(2, above+"\x02"+"\x02ab"))
	getsNone(t, "a Term of more than 64 bits", framed(2, "\x02"+above+"\x02"+"ab"))
	gets(t, "of 64 bits", framed(2, above+"\x01"+above+"\x01ab"), Snap{ones, ones, "ab"}, 2)
}

// P11.1: it is b's beginning that is asked for, and all of the frame.
func TestGetCut(t *testing.T) {
	getsNone(t, "nothing", "")
	getsNone(t, "bytes 0", null(64))
	getsNone(t, "others", mixed(64))
	for version := 1; version <= 2; version++ {
		b := spelled(version, Snap{300, 2, mixed(80)})
		for n := range b {
			getsNone(t, "cut", b[:n])
			if n > 0 {
				getsNone(t, "its end alone", b[n:])
			}
		}
		getsNone(t, "a byte ahead", "\x00"+b)
		getsNone(t, "a sector ahead", null(64)+b)
	}
}

// P11.1: a bit that is turned is found.
func TestGetTurned(t *testing.T) {
	for version := 1; version <= 2; version++ {
		s := Snap{300, 2, mixed(50)}
		b := spelled(version, s)
		for bit := range 8 * len(b) {
			turned := []byte(b)
			turned[bit/8] ^= 1 << (bit % 8)
			getsNone(t, "turned", string(turned))
			getsNone(t, "turned, more behind", string(turned)+null(300))
		}
	}
}

// P11.1: bytes of the one version's Snap in a frame of the other, and of no version.
func TestGetOtherVersion(t *testing.T) {
	gets(t, "numbers of version 1 in version 2", framed(2, pair(1, 3, 4)), Snap{0, 0, null(5) + "\x03" + null(7) + "\x04"}, 2)
	getsNone(t, "numbers of version 2 in version 1", framed(1, pair(2, 3, 4)))
	gets(t, "numbers of version 2 in version 1", framed(1, pair(2, 3, 4)+null(13)+"\x05ab"), Snap{3<<56 + 4<<48, 5, "ab"}, 1)
	for _, version := range []int{0, 3, 16} {
		getsNone(t, "no version", framed(version, pair(1, 3, 4)))
		getsNone(t, "no version", framed(version, pair(2, 3, 4)))
	}
}

// P11.1: has Put at most so many times Sector bytes?
func TestRoom(t *testing.T) {
	for _, s := range snaps() {
		for version := 1; version <= 2; version++ {
			size := len(spelled(version, s))
			least := 0
			for 64*least < size {
				least++
			}
			for _, many := range []int{1, 2, least, least + 1, least + 2, 1000, 4096, 1 << 31, 1 << 57, 1<<58 - 1, 1 << 58, 1<<58 + 1, 1 << 62, math.MaxInt} {
				if Room(version, many, s) != (many >= least) {
					t.Errorf("Room(%d, %d, ..) of %d bytes", version, many, size)
				}
			}
			for _, many := range []int{least - 1, 0, -1, -2, -1 << 31, -1 << 57, -1<<57 + 1, -1 << 58, -1<<58 + 1, math.MinInt + 1, math.MinInt} {
				if Room(version, many, s) {
					t.Errorf("Room(%d, %d, ..) of %d bytes", version, many, size)
				}
			}
		}
	}
}

// P11.1: Snaps of just as many bytes as some sectors have, and of one more.
func TestRoomEdge(t *testing.T) {
	for many := 1; many <= 20; many++ {
		for _, c := range []struct{ version, head int }{{1, 25}, {2, 8}, {2, 9}} {
			s := Snap{1, 2, mixed(64*many - c.head)}
			if c.version == 2 && len(spelled(2, s)) != 64*many {
				continue // its length takes a byte more, or less
			}
			if !Room(c.version, many, s) {
				t.Errorf("of version %d %d sectors have no room for %d bytes", c.version, many, len(spelled(c.version, s)))
			}
			s.Data += "x"
			if Room(c.version, many, s) {
				t.Errorf("of version %d %d sectors have room for %d bytes", c.version, many, len(spelled(c.version, s)))
			}
		}
	}
}

// within says whether a text is a part of the other.
func within(s, of string) bool {
	from := uintptr(unsafe.Pointer(unsafe.StringData(of)))
	at := uintptr(unsafe.Pointer(unsafe.StringData(s)))
	return from <= at && at < from+uintptr(len(of))
}

// The rules that hold everywhere: what is answered shares no memory with what was handed in.
func TestNewMemory(t *testing.T) {
	for version := 1; version <= 2; version++ {
		s := Snap{300, 2, mixed(200)}
		b, _ := Put(version, s)
		if within(s.Data, b) {
			t.Errorf("Put(%d, ..) answers its argument", version)
		}
		if got, _, _ := Get(b); within(got.Data, b) {
			t.Errorf("Get of version %d answers a part of its argument", version)
		}
	}
}

// plain is Get by another way: by the library, where numbers are as short as may be if they are spelled so again.
func plain(b string) (s Snap, version int, ok bool) {
	if len(b) == 0 {
		return
	}
	size, ahead := 0, 5
	switch b[0] {
	case 0xa1:
		if version = 1; len(b) < 5 {
			return Snap{}, 0, false
		}
		size = int(binary.BigEndian.Uint32([]byte(b[1:5])))
	case 0xa2:
		version = 2
		n, used := binary.Uvarint([]byte(b[1:]))
		if used <= 0 || n > 1<<20 {
			return Snap{}, 0, false
		}
		size, ahead = int(n), 1+used
	default:
		return
	}
	end := ahead + 4 + size
	if end > len(b) || framed(version, b[ahead+4:end]) != b[:end] {
		return Snap{}, 0, false
	}
	body := b[ahead+4 : end]
	if version == 1 {
		if size < 16 {
			return Snap{}, 0, false
		}
		s.Index, s.Term = binary.BigEndian.Uint64([]byte(body)), binary.BigEndian.Uint64([]byte(body[8:]))
	} else {
		n := 0
		if s.Index, n = binary.Uvarint([]byte(body)); n <= 0 {
			return Snap{}, 0, false
		}
		m := 0
		if s.Term, m = binary.Uvarint([]byte(body[n:])); m <= 0 {
			return Snap{}, 0, false
		}
	}
	numbers := pair(version, s.Index, s.Term)
	if !strings.HasPrefix(body, numbers) || size-len(numbers) > most {
		return Snap{}, 0, false
	}
	s.Data = body[len(numbers):]
	return s, version, true
}

// asks holds Get of the bytes against the other way, and what was got against what is put.
func asks(t *testing.T, b string) {
	t.Helper()
	s, version, ok := plain(b)
	if got, v, o := Get(b); got != s || v != version || o != ok {
		t.Errorf("Get(%x) is %s, %d, %v; it should be %s, %d, %v", b, tell(got), v, o, tell(s), version, ok)
	}
	if again, put := Put(version, s); ok && (!put || !strings.HasPrefix(b, again)) {
		t.Errorf("%x was got as %s, and is put as %x", b, tell(s), again)
	}
}

// P11.1: of all bodies of up to two bytes, and with other bytes ahead, what is got is what was put so.
func TestGetAll(t *testing.T) {
	for x := range 256 {
		for y := range 256 {
			body := string([]byte{byte(x), byte(y)})
			for _, body := range []string{body[:1], body, body + "\x01", "\x80" + body, "\xff" + body, body + body} {
				asks(t, framed(2, body))
			}
			asks(t, framed(1, body+null(13)+body))
			asks(t, framed(1, body+null(14)+body))
		}
	}
}

// Of any bytes what is got is what the document says; and nothing panics.
func FuzzGet(f *testing.F) {
	f.Add("")
	f.Add("\x00\x00")
	f.Add(pair(1, 300, 2) + "ab")
	f.Add(pair(2, 300, 2) + "ab")
	f.Add(spelled(1, Snap{1, 2, "ab"}) + "junk")
	f.Add(spelled(2, Snap{1, 2, "ab"}) + "junk")
	f.Fuzz(func(t *testing.T, b string) {
		for _, b := range []string{b, framed(1, b), framed(2, b), framed(1, b) + b, framed(2, b) + b} {
			asks(t, b)
		}
	})
}
