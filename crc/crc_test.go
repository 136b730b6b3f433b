package crc

import (
	"hash/crc32"
	"strings"
	"testing"
	"unsafe"
)

// The values of RFC 3720, B.4, and some that are in common use.
var known = []struct {
	s   string
	sum uint32
}{
	{"", 0},
	{"a", 0xc1d04330},
	{"123456789", 0xe3069283},
	{"The quick brown fox jumps over the lazy dog", 0x22620404},
	{strings.Repeat("\x00", 32), 0x8a9136aa},
	{strings.Repeat("\xff", 32), 0x62a8ab43},
	{rising(32), 0x46dd794e},
	{falling(32), 0x113fdb5c},
}

func rising(n int) string {
	b := make([]byte, n)
	for k := range b {
		b[k] = byte(k)
	}
	return string(b)
}

func falling(n int) string {
	b := make([]byte, n)
	for k := range b {
		b[k] = byte(n - 1 - k)
	}
	return string(b)
}

// mixed is a text of n bytes in which all bytes come up, of no plain order.
func mixed(n int) string {
	b := make([]byte, n)
	x := uint32(n) + 1
	for k := range b {
		x = x*1664525 + 1013904223
		b[k] = byte(x >> 24)
	}
	return string(b)
}

// library is More, by the library's sums.
func library(sum uint32, s string) uint32 {
	return crc32.Update(sum, crc32.MakeTable(crc32.Castagnoli), []byte(s))
}

// P1.1: the sum of a text.
func TestSumKnown(t *testing.T) {
	for _, k := range known {
		if got := Sum(k.s); got != k.sum {
			t.Errorf("Sum(%q) is %08x, not %08x", k.s, got, k.sum)
		}
	}
}

// P1.1: each byte, each length about the limits of a sector and of a snap.
func TestSumLibrary(t *testing.T) {
	for b := range 256 {
		s := string([]byte{byte(b)})
		if got, want := Sum(s), library(0, s); got != want {
			t.Errorf("Sum(%q) is %08x, not %08x", s, got, want)
		}
	}
	for _, n := range []int{1, 2, 3, 4, 5, 7, 8, 9, 63, 64, 65, 255, 256, 257, 16383, 16384, 16385} {
		s := mixed(n)
		if got, want := Sum(s), library(0, s); got != want {
			t.Errorf("of %d bytes: %08x, not %08x", n, got, want)
		}
	}
}

// P1.1: the bytes that count are a text's bytes, not its runes.
func TestSumBytes(t *testing.T) {
	for _, s := range []string{"\u00e9", "\u65e5\u672c", "\x80", "\xc3", "\xed\xa0\x80", "\xff\xfe", "a\x00", "\x00a", "\x00"} {
		if got, want := Sum(s), library(0, s); got != want {
			t.Errorf("Sum(%q) is %08x, not %08x", s, got, want)
		}
	}
}

// P1.1: any sum may be gone on with, also one that no text of ours had.
func TestMoreFromAny(t *testing.T) {
	for _, sum := range []uint32{0, 1, 2, 0x7fffffff, 0x80000000, 0x82f63b78, 0xfffffffe, 0xffffffff} {
		if got := More(sum, ""); got != sum {
			t.Errorf("More(%08x, \"\") is %08x", sum, got)
		}
		for _, s := range []string{"\x00", "\xff", "a", "123456789", mixed(100)} {
			if got, want := More(sum, s), library(sum, s); got != want {
				t.Errorf("More(%08x, %q) is %08x, not %08x", sum, s, got, want)
			}
		}
	}
}

// P1.1: Sum(s) is More(0, s).
func TestSumIsMore(t *testing.T) {
	for n := range 70 {
		if s := mixed(n); Sum(s) != More(0, s) {
			t.Errorf("of %d bytes: %08x and %08x", n, Sum(s), More(0, s))
		}
	}
}

// P1.2: four bytes, the highest first, and the text.
func TestPut(t *testing.T) {
	for _, c := range []struct{ s, want string }{
		{"", "\x00\x00\x00\x00"},
		{"a", "\xc1\xd0\x43\x30a"},
		{"123456789", "\xe3\x06\x92\x83123456789"},
	} {
		if got := Put(c.s); got != c.want {
			t.Errorf("Put(%q) is %q, not %q", c.s, got, c.want)
		}
	}
}

// P1.2: what was put is got.
func TestGet(t *testing.T) {
	for n := range 70 {
		s := mixed(n)
		if got, ok := Get(Put(s)); got != s || !ok {
			t.Errorf("Get(Put(%q)) is %q, %v", s, got, ok)
		}
	}
	if got, ok := Get("\x00\x00\x00\x00"); got != "" || !ok {
		t.Errorf("what was put of nothing: %q, %v", got, ok)
	}
	twice := Put(Put("abc"))
	if got, ok := Get(twice); got != Put("abc") || !ok {
		t.Errorf("what was put twice: %q, %v", got, ok)
	}
}

// P1.2: fewer than four bytes, or another sum.
func TestGetRefuses(t *testing.T) {
	for _, p := range []string{
		"", "\x00", "\x00\x00", "\x00\x00\x00", // too few
		"\x00\x00\x00\x01", "\x01\x00\x00\x00", "\xff\xff\xff\xff", // nothing, of another sum
		"\x00\x00\x00\x00\x00", "\x00\x00\x00\x00a", // something, of the sum of nothing
		"\x30\x43\xd0\xc1a",         // the lowest byte first
		"\x3e\x2f\xbc\xcfa",         // the bits not turned in the end
		"a\xc1\xd0\x43\x30",         // the sum behind
		"\xc1\xd0\x43\x30",          // the sum alone
		"\xc1\xd0\x43\x30b",         // of another text
		"\xc1\xd0\x43\x30a\x00",     // a byte too many
		"\xe8\xb7\xbe\x43a",         // CRC-32 of another polynomial
		"\xe3\x06\x92\x8312345678",  // a byte too few
		"\xe3\x06\x92\x82123456789", // one bit
	} {
		if got, ok := Get(p); got != "" || ok {
			t.Errorf("Get(%q) is %q, %v", p, got, ok)
		}
	}
}

// P1.3: wherever a text is cut, its sum is the same.
func TestGoOn(t *testing.T) {
	s := mixed(200)
	want := library(0, s)
	for k := range len(s) + 1 {
		if got := More(Sum(s[:k]), s[k:]); got != want {
			t.Errorf("cut at %d: %08x, not %08x", k, got, want)
		}
	}
	var sum uint32
	for k := range len(s) {
		sum = More(sum, s[k:k+1])
		if sum != Sum(s[:k+1]) {
			t.Errorf("byte by byte, at %d: %08x, not %08x", k, sum, Sum(s[:k+1]))
		}
	}
}

// P1.3: a bit that is turned, in the sum or in the text, is found.
func TestTurnedBit(t *testing.T) {
	for _, n := range []int{0, 1, 2, 60, 64, 300} {
		p := Put(mixed(n))
		for k := range 8 * len(p) {
			b := []byte(p)
			b[k/8] ^= 1 << (k % 8)
			if got, ok := Get(string(b)); got != "" || ok {
				t.Errorf("of %d bytes, bit %d turned: %q, %v", n, k, got, ok)
			}
		}
	}
}

// P1.3: two bits that are turned are found too.
func TestTurnedBits(t *testing.T) {
	p := Put(mixed(24))
	for k := range 8 * len(p) {
		for j := range k {
			b := []byte(p)
			b[k/8] ^= 1 << (k % 8)
			b[j/8] ^= 1 << (j % 8)
			if got, ok := Get(string(b)); got != "" || ok {
				t.Errorf("bits %d and %d turned: %q, %v", j, k, got, ok)
			}
		}
	}
}

// The rules that hold everywhere: what is answered shares no memory with what was handed in.
func TestNewMemory(t *testing.T) {
	p := Put("123456789")
	got, _ := Get(p)
	if unsafe.StringData(got) == unsafe.StringData(p[size:]) {
		t.Error("Get answers a part of its argument")
	}
}

// The rules that hold everywhere: the same answer, asked twice, and from several goroutines.
func TestSameAnswer(t *testing.T) {
	s := mixed(1000)
	want := Sum(s)
	sums := make(chan uint32)
	for range 8 {
		go func() { sums <- Sum(s) }()
	}
	for range 8 {
		if got := <-sums; got != want {
			t.Errorf("%08x, then %08x", want, got)
		}
	}
}

func BenchmarkSum(b *testing.B) {
	s := mixed(16384)
	b.SetBytes(int64(len(s)))
	for range b.N {
		Sum(s)
	}
}
