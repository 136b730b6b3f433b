package super

import (
	"encoding/binary"
	"hash/crc32"
	"math"
	"strings"
	"testing"
	"unsafe"

	"pintle/api"
)

// ones is the greatest gen.
const ones = math.MaxUint64

// gens are some that may be: at the edges of each byte, and others.
var gens = []uint64{1, 2, 127, 128, 255, 256, 258, 65535, 65536, 1<<32 - 1, 1 << 32, 0x0102030405060708, 1<<63 - 1, 1 << 63, ones - 1, ones}

// sealed is a text with the library's sum ahead of it, whatever the text is.
func sealed(s string) string {
	sum := crc32.Checksum([]byte(s), crc32.MakeTable(crc32.Castagnoli))
	return string(binary.BigEndian.AppendUint32(nil, sum)) + s
}

// head is a gen and a length, spelt out by the library, however right they are.
func head(gen uint64, length int) string {
	return string(binary.BigEndian.AppendUint64(nil, gen)) + string([]byte{byte(length)})
}

// zeros is so many bytes 0.
func zeros(n int) string { return strings.Repeat("\x00", n) }

// holding is the sector that the chapter asks for, spelt out by the library.
func holding(gen uint64, body string) string {
	return sealed(head(gen, len(body)) + body + zeros(51-len(body)))
}

// mixed is a text of n bytes of no plain order.
func mixed(n int) string {
	b := make([]byte, n)
	x := uint32(n) + 1
	for k := range b {
		x = x*1664525 + 1013904223
		b[k] = byte(x >> 24)
	}
	return string(b)
}

// bodies are of all lengths that may be, and such as begin and end with bytes 0, or look like a sector's parts.
func bodies() []string {
	list := []string{"\x00", "\x00\x00", "a\x00", "\x00a", "a\x00\x00", "\xff", "\u00e9", zeros(50), zeros(51), strings.Repeat("\xff", 51), head(1, 0), holding(1, "")[:51]}
	for n := range 52 {
		list = append(list, mixed(n))
	}
	return list
}

// holds asks whether a sector holds that.
func holds(t *testing.T, sector string, gen uint64, body string) {
	t.Helper()
	if g, b, ok := Get(sector); g != gen || b != body || !ok {
		t.Errorf("Get(%x) is %d, %q, %v; it should be %d, %q", sector, g, b, ok, gen, body)
	}
}

// holdsNone asks whether a sector holds nothing.
func holdsNone(t *testing.T, what, sector string) {
	t.Helper()
	if g, b, ok := Get(sector); g != 0 || b != "" || ok {
		t.Errorf("%s: Get(%x) is %d, %q, %v", what, sector, g, b, ok)
	}
}

// P8.1: a body fills a sector with the sum, the gen and the length.
func TestRoom(t *testing.T) {
	if Room != 51 || Room+sumSize+genSize+lengthSize != api.Sector {
		t.Error(Room)
	}
}

// P8.1: sectors whose bytes, sums among them, are written out.
func TestPutKnown(t *testing.T) {
	for _, c := range []struct {
		gen  uint64
		body string
		want string
	}{
		{1, "", "\x93\x06\xf6\x5b" + "\x00\x00\x00\x00\x00\x00\x00\x01" + "\x00"},
		{258, "ab", "\xda\x07\x72\x40" + "\x00\x00\x00\x00\x00\x00\x01\x02" + "\x02" + "ab"},
		{0x0102030405060708, "123456789", "\xf9\x81\x56\x65" + "\x01\x02\x03\x04\x05\x06\x07\x08" + "\x09" + "123456789"},
		{ones, rising(51), "\x8d\x76\xf6\x75" + "\xff\xff\xff\xff\xff\xff\xff\xff" + "\x33" + rising(51)},
	} {
		want := c.want + zeros(64-len(c.want))
		if s, ok := Put(c.gen, c.body); s != want || !ok {
			t.Errorf("Put(%d, %q) is %x, %v, not %x", c.gen, c.body, s, ok, want)
		}
		holds(t, want, c.gen, c.body)
	}
}

// rising is the bytes from 1 to n.
func rising(n int) string {
	b := make([]byte, n)
	for k := range b {
		b[k] = byte(k + 1)
	}
	return string(b)
}

// P8.1: Sector bytes: the sum, the gen, the length, the body, bytes 0; and what was put is got.
func TestPutGet(t *testing.T) {
	for _, gen := range gens {
		for _, body := range bodies() {
			s, ok := Put(gen, body)
			if s != holding(gen, body) || len(s) != api.Sector || !ok {
				t.Errorf("Put(%d, %q) is %x, %v", gen, body, s, ok)
			}
			holds(t, s, gen, body)
		}
	}
}

// P8.1: gen 0, or a body above Room bytes.
func TestPutRefuses(t *testing.T) {
	for _, body := range append(bodies(), mixed(52), mixed(300)) {
		if s, ok := Put(0, body); s != "" || ok {
			t.Errorf("Put(0, %q) is %x, %v", body, s, ok)
		}
	}
	for _, gen := range gens {
		for _, n := range []int{52, 53, 63, 64, 65, 255, 256, 257, 256 + 51, 16384} {
			if s, ok := Put(gen, mixed(n)); s != "" || ok {
				t.Errorf("Put(%d, %d bytes) is %x, %v", gen, n, s, ok)
			}
		}
	}
}

// P8.1: a sector is got whole, with nothing behind it.
func TestGetLengths(t *testing.T) {
	holdsNone(t, "nothing", "")
	for _, body := range []string{"", "ab", "ab\x00", mixed(51)} {
		s := holding(7, body)
		for n := range s {
			holdsNone(t, "too short", s[:n])
			holdsNone(t, "its end alone", s[len(s)-n:])
		}
		holdsNone(t, "a byte 0 more", s+"\x00")
		holdsNone(t, "a byte more", s+"x")
		holdsNone(t, "a byte ahead", "\x00"+s)
		holdsNone(t, "twice", s+s)
		holdsNone(t, "a long one", s+zeros(100000))
		// Right, but for how many bytes 0 there are.
		rest := s[4:]
		holdsNone(t, "sealed, one more", sealed(rest+"\x00"))
		holdsNone(t, "sealed, a sector more", sealed(rest+zeros(64)))
		for n := range rest {
			holdsNone(t, "sealed, too short", sealed(rest[:n]))
		}
	}
}

// P8.1: bytes that are all the same are no sector.
func TestGetPlain(t *testing.T) {
	for b := range 256 {
		for _, n := range []int{1, 4, 12, 13, 63, 64, 65} {
			holdsNone(t, "plain", strings.Repeat(string([]byte{byte(b)}), n))
		}
	}
}

// P8.1: one bit, or one byte, that is another.
func TestGetTurned(t *testing.T) {
	for _, body := range []string{"", "ab", mixed(30), zeros(51), mixed(51)} {
		s := holding(258, body)
		for k := range 8 * len(s) {
			b := []byte(s)
			b[k/8] ^= 1 << (k % 8)
			holdsNone(t, "a bit turned", string(b))
		}
		for k := range s {
			for by := 1; by < 256; by++ {
				b := []byte(s)
				b[k] += byte(by)
				holdsNone(t, "another byte", string(b))
			}
		}
	}
}

// P8.1: of the right sum, but such as Put does not put.
func TestGetSealed(t *testing.T) {
	for _, body := range bodies() {
		holdsNone(t, "gen 0", sealed(head(0, len(body))+body+zeros(51-len(body))))
	}
	for _, rest := range []string{zeros(51), mixed(51), strings.Repeat("\xff", 51)} {
		for n := 52; n < 256; n++ {
			holdsNone(t, "too long a body", sealed(head(3, n)+rest))
		}
	}
	for n := range 51 {
		for at := n; at < 51; at++ {
			b := []byte(mixed(n) + zeros(51-n))
			b[at] = 1
			holdsNone(t, "not 0 behind it", sealed(head(3, n)+string(b)))
		}
	}
}

// P8.1: another sum, or one that stands elsewhere.
func TestGetSums(t *testing.T) {
	rest := head(3, 2) + "ab" + zeros(49)
	s := sealed(rest)
	table := crc32.MakeTable(crc32.Castagnoli)
	four := func(sum uint32) string { return string(binary.BigEndian.AppendUint32(nil, sum)) }
	for what, bad := range map[string]string{
		"the lowest byte first":  string(binary.LittleEndian.AppendUint32(nil, binary.BigEndian.Uint32([]byte(s)))) + rest,
		"no sum":                 zeros(4) + rest,
		"behind":                 rest + s[:4],
		"of another polynomial":  four(crc32.ChecksumIEEE([]byte(rest))) + rest,
		"of the body alone":      four(crc32.Checksum([]byte("ab"), table)) + rest,
		"without the bytes 0":    four(crc32.Checksum([]byte(rest[:11]), table)) + rest,
		"without the gen":        four(crc32.Checksum([]byte(rest[8:]), table)) + rest,
		"bits turned":            four(^binary.BigEndian.Uint32([]byte(s))) + rest,
		"the gen's lowest first": sealed("\x03" + zeros(7) + "\x34" + "ab" + zeros(49)),
		"of another sector":      holding(4, "ab")[:4] + rest,
	} {
		holdsNone(t, what, bad)
	}
	holds(t, s, 3, "ab")
}

// P8.1: the bytes of a body are bytes, not runes.
func TestBytes(t *testing.T) {
	for _, body := range []string{"\x80", "\xc3", "\xed\xa0\x80", "\xff\xfe", strings.Repeat("\u00e9", 25)} {
		s, ok := Put(9, body)
		if !ok || s[12] != byte(len(body)) {
			t.Errorf("Put(9, %q) is %x, %v", body, s, ok)
		}
		holds(t, s, 9, body)
	}
	if s, ok := Put(9, strings.Repeat("\u00e9", 26)); s != "" || ok {
		t.Errorf("26 runes of 52 bytes: %x, %v", s, ok)
	}
}

// The rules that hold everywhere: an answer shares no memory with what was handed in.
func TestNewMemory(t *testing.T) {
	body := mixed(51)
	s, _ := Put(5, body)
	if again, _ := Put(5, body); unsafe.StringData(again) == unsafe.StringData(s) {
		t.Error("Put answers what it answered")
	}
	_, got, _ := Get(s)
	if at, from := uintptr(unsafe.Pointer(unsafe.StringData(got))), uintptr(unsafe.Pointer(unsafe.StringData(s))); at >= from && at < from+uintptr(len(s)) {
		t.Error("Get answers a part of its argument")
	}
}

// P8.1: what is got is what was put so, and nothing else, of any bytes.
func FuzzGet(f *testing.F) {
	f.Add("")
	f.Add(holding(1, ""))
	f.Add(holding(ones, mixed(51)))
	f.Add(sealed(head(0, 2) + "ab" + zeros(49)))
	f.Add(sealed(head(1, 52) + mixed(51)))
	f.Fuzz(func(t *testing.T, s string) {
		// As it is, and with a right sum, so that what stands behind one is asked too.
		for _, sector := range []string{s, sealed(s)} {
			gen, body, ok := Get(sector)
			if !ok && (gen != 0 || body != "") {
				t.Errorf("Get(%x) is %d, %q, %v", sector, gen, body, ok)
			}
			if ok && (gen == 0 || len(body) > 51 || holding(gen, body) != sector) {
				t.Errorf("Get(%x) is %d, %q", sector, gen, body)
			}
		}
	})
}
