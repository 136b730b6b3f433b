package varint

import (
	"encoding/binary"
	"math"
	"strings"
	"testing"
	"unsafe"
)

// known are numbers, and what is put of them.
var known = []struct {
	n uint64
	s string
}{
	{0, "\x00"},
	{1, "\x01"},
	{127, "\x7f"},
	{128, "\x80\x01"},
	{129, "\x81\x01"},
	{255, "\xff\x01"},
	{256, "\x80\x02"},
	{300, "\xac\x02"},
	{16383, "\xff\x7f"},
	{16384, "\x80\x80\x01"},
	{1<<32 - 1, "\xff\xff\xff\xff\x0f"},
	{1<<56 - 1, "\xff\xff\xff\xff\xff\xff\xff\x7f"},
	{1 << 56, "\x80\x80\x80\x80\x80\x80\x80\x80\x01"},
	{1<<63 - 1, "\xff\xff\xff\xff\xff\xff\xff\xff\x7f"},
	{1 << 63, "\x80\x80\x80\x80\x80\x80\x80\x80\x80\x01"},
	{1<<64 - 1, "\xff\xff\xff\xff\xff\xff\xff\xff\xff\x01"},
}

// wrong are texts at whose beginning no number stands that was put.
var wrong = []string{
	"", "\x80", "\xff", "\x80\x80", strings.Repeat("\xff", 8), strings.Repeat("\xff", 9), // too few bytes
	"\x80\x00", "\xff\x00", "\x80\x80\x00", "\xac\x82\x00", // longer than need be
	strings.Repeat("\x80", 9) + "\x00", strings.Repeat("\xff", 9) + "\x00",
	"\x80\x00\x01", "\xff\x00abc",
	strings.Repeat("\x80", 9) + "\x02", strings.Repeat("\xff", 9) + "\x02", // more than 64 bits
	strings.Repeat("\xff", 9) + "\x03", strings.Repeat("\xff", 9) + "\x7f", strings.Repeat("\x80", 9) + "\x40",
	strings.Repeat("\x80", 10), strings.Repeat("\xff", 10),
	strings.Repeat("\x80", 10) + "\x01", strings.Repeat("\xff", 10) + "\x01", strings.Repeat("\xff", 9) + "\x81\x01",
	strings.Repeat("\x80", 10) + "\x00", strings.Repeat("\xff", 9) + "\x81\x00",
	strings.Repeat("\xff", 100),
}

// numbers are those about each bit, and some of no plain order.
func numbers() []uint64 {
	list := []uint64{0, 1, math.MaxUint64}
	x := uint64(1)
	for bit := range 64 {
		list = append(list, 1<<bit-1, 1<<bit, 1<<bit+1)
		for range 20 {
			x = x*6364136223846793005 + 1442695040888963407
			list = append(list, x>>bit)
		}
	}
	return list
}

// mixed is a text of n bytes in which all bytes come up, of no plain order.
func mixed(n int) string {
	b := make([]byte, n)
	x := uint32(n) + 1
	for k := range b {
		x = x*1664525 + 1013904223
		b[k] = byte(x >> 24)
	}
	return string(b)
}

// dead tells whether r has failed: nothing is read any more, whatever is asked.
func dead(t *testing.T, what string, r *Reader) {
	t.Helper()
	for range 2 {
		if r.OK() || r.Left() != 0 {
			t.Errorf("%s: OK %v, %d left", what, r.OK(), r.Left())
		}
		if n := r.Var(); n != 0 {
			t.Errorf("%s: Var is %d", what, n)
		}
		for _, size := range []int{math.MinInt, -1, 0, 1, 8, 9, math.MaxInt} {
			if n := r.Fixed(size); n != 0 {
				t.Errorf("%s: Fixed(%d) is %d", what, size, n)
			}
			if s := r.Bytes(size); s != "" {
				t.Errorf("%s: Bytes(%d) is %q", what, size, s)
			}
		}
		if s := r.Text(); s != "" {
			t.Errorf("%s: Text is %q", what, s)
		}
	}
}

// alive tells whether r is OK, with so many bytes left.
func alive(t *testing.T, what string, r *Reader, left int) {
	t.Helper()
	if !r.OK() || r.Left() != left {
		t.Errorf("%s: OK %v, %d left, not %d", what, r.OK(), r.Left(), left)
	}
}

// P2.1: groups of seven bits, the lowest first.
func TestPut(t *testing.T) {
	for _, k := range known {
		if got := Put(k.n); got != k.s {
			t.Errorf("Put(%d) is %x, not %x", k.n, got, k.s)
		}
	}
	for _, n := range numbers() {
		if got, want := Put(n), string(binary.AppendUvarint(nil, n)); got != want {
			t.Errorf("Put(%d) is %x, not %x", n, got, want)
		}
	}
}

// P2.1: the lowest size bytes, the highest first.
func TestPutFixed(t *testing.T) {
	for _, n := range numbers() {
		whole := string(binary.BigEndian.AppendUint64(nil, n))
		for size := range 9 {
			if got, want := Fixed(n, size), whole[8-size:]; got != want {
				t.Errorf("Fixed(%x, %d) is %x, not %x", n, size, got, want)
			}
		}
	}
	if got := Fixed(0x0102030405060708, 3); got != "\x06\x07\x08" {
		t.Errorf("the lowest three are %x", got)
	}
}

// P2.1: a size that is none.
func TestPutFixedRefuses(t *testing.T) {
	for _, size := range []int{math.MinInt, -256, -9, -8, -1, 9, 10, 16, 64, 256, math.MaxInt} {
		for _, n := range []uint64{0, 1, 258, math.MaxUint64} {
			if got := Fixed(n, size); got != "" {
				t.Errorf("Fixed(%d, %d) is %x", n, size, got)
			}
		}
	}
}

// P2.1: how many bytes, not runes, and the text.
func TestPutText(t *testing.T) {
	for _, c := range []struct{ s, want string }{
		{"", "\x00"},
		{"\x00", "\x01\x00"},
		{"hello", "\x05hello"},
		{"\u00e9", "\x02\xc3\xa9"},
		{"\xff", "\x01\xff"},
	} {
		if got := Text(c.s); got != c.want {
			t.Errorf("Text(%q) is %q, not %q", c.s, got, c.want)
		}
	}
	for n, head := range map[int]string{64: "\x40", 127: "\x7f", 128: "\x80\x01", 16383: "\xff\x7f", 16384: "\x80\x80\x01"} {
		if s := mixed(n); Text(s) != head+s {
			t.Errorf("of %d bytes: %x ..", n, Text(s)[:4])
		}
	}
}

// P2.2: a reader is OK, and at the beginning.
func TestNew(t *testing.T) {
	for _, s := range append([]string{"", "\x00", "abc", mixed(1000)}, wrong...) {
		r := New(s)
		alive(t, "new", r, len(s))
		if got := r.Bytes(len(s)); got != s {
			t.Errorf("all of %q is %q", s, got)
		}
		alive(t, "at the end", r, 0)
	}
}

// P2.2: a number, and the reader is behind it.
func TestVar(t *testing.T) {
	for _, k := range known {
		for _, behind := range []string{"", "x", "\x00", "\x80", "\xff\xff"} {
			r := New(k.s + behind)
			if got := r.Var(); got != k.n {
				t.Errorf("Var of %x is %d, not %d", k.s, got, k.n)
			}
			alive(t, "a number", r, len(behind))
			if got := r.Bytes(len(behind)); got != behind {
				t.Errorf("behind %x stands %x, not %x", k.s, got, behind)
			}
		}
	}
}

// P2.2: too few bytes, more than 64 bits, longer than need be.
func TestVarFails(t *testing.T) {
	for _, s := range wrong {
		r := New(s)
		if got := r.Var(); got != 0 {
			t.Errorf("Var of %x is %d", s, got)
		}
		dead(t, "no number", r)
		r = New("ok" + s)
		r.Bytes(2)
		if got := r.Var(); got != 0 {
			t.Errorf("Var of %x, further on, is %d", s, got)
		}
		dead(t, "no number further on", r)
	}
	for _, k := range known {
		for cut := range len(k.s) {
			r := New(k.s[:cut])
			if got := r.Var(); got != 0 {
				t.Errorf("Var of %x is %d", k.s[:cut], got)
			}
			dead(t, "a number cut", r)
		}
	}
}

// P2.2: a number of size bytes, and the reader is behind it.
func TestFixed(t *testing.T) {
	for _, n := range numbers() {
		for size := range 9 {
			want := n
			if size < 8 {
				want = n & (1<<(8*size) - 1)
			}
			r := New(Fixed(n, size) + "xy")
			if got := r.Fixed(size); got != want {
				t.Errorf("Fixed(%d) of %x is %x, not %x", size, Fixed(n, size), got, want)
			}
			alive(t, "a number of bytes", r, 2)
		}
	}
	r := New("\x01\x02\x03")
	if got := r.Fixed(2); got != 258 {
		t.Errorf("the highest first: %d, not 258", got)
	}
	if got := r.Fixed(1); got != 3 {
		t.Errorf("the byte behind: %d, not 3", got)
	}
	alive(t, "just so many", r, 0)
	if got := r.Fixed(0); got != 0 {
		t.Errorf("of no bytes: %d", got)
	}
	alive(t, "of no bytes, at the end", r, 0)
}

// P2.2: a size that is none, or too few bytes.
func TestFixedFails(t *testing.T) {
	s := mixed(300)
	for _, size := range []int{math.MinInt, -256, -9, -1, 9, 10, 16, 256, math.MaxInt} {
		r := New(s)
		if got := r.Fixed(size); got != 0 {
			t.Errorf("Fixed(%d) is %x", size, got)
		}
		dead(t, "no size", r)
	}
	for size := 1; size <= 8; size++ {
		for left := range size {
			r := New(s[:left])
			if got := r.Fixed(size); got != 0 {
				t.Errorf("Fixed(%d) of %d bytes is %x", size, left, got)
			}
			dead(t, "too few bytes", r)
		}
	}
}

// P2.2: a text, and the reader is behind it.
func TestText(t *testing.T) {
	for _, n := range []int{0, 1, 2, 63, 64, 65, 127, 128, 129, 16383, 16384, 16385} {
		s := mixed(n)
		for _, behind := range []string{"", "x", "\x80"} {
			r := New(Text(s) + behind)
			if got := r.Text(); got != s {
				t.Errorf("a text of %d bytes is one of %d", n, len(got))
			}
			alive(t, "a text", r, len(behind))
		}
	}
}

// P2.2: a text of which there are too few bytes, or whose number is none.
func TestTextFails(t *testing.T) {
	list := append([]string{
		"\x01", "\x05hell", "\x02\x00", Text(mixed(128))[:129],
		"\x80\x00", "\x81\x00a", "\x85\x00hello", // the number longer than need be
	}, wrong...)
	for _, n := range []uint64{4, 1 << 31, 1 << 32, 1<<32 + 1, math.MaxInt, math.MaxInt + 1, math.MaxUint64 - 1, math.MaxUint64} {
		list = append(list, Put(n)+"abc")
	}
	for _, s := range list {
		r := New(s)
		if got := r.Text(); got != "" {
			t.Errorf("Text of %x is %q", s, got)
		}
		dead(t, "no text", r)
	}
}

// P2.2: n bytes, and the reader is behind them.
func TestBytes(t *testing.T) {
	s := mixed(40)
	for n := range len(s) + 1 {
		r := New(s)
		if got := r.Bytes(n); got != s[:n] {
			t.Errorf("%d bytes are %x", n, got)
		}
		alive(t, "bytes", r, len(s)-n)
		if got := r.Bytes(len(s) - n); got != s[n:] {
			t.Errorf("behind %d bytes stand %x", n, got)
		}
		alive(t, "all bytes", r, 0)
		if got := r.Bytes(0); got != "" {
			t.Errorf("no bytes are %x", got)
		}
		alive(t, "no bytes at the end", r, 0)
	}
}

// P2.2: n below 0, or too few bytes.
func TestBytesFails(t *testing.T) {
	for _, s := range []string{"", "a", "abc", mixed(100)} {
		for _, n := range []int{math.MinInt, math.MinInt + 1, -100, -1, len(s) + 1, len(s) + 2, math.MaxInt32, math.MaxInt} {
			r := New(s)
			if got := r.Bytes(n); got != "" {
				t.Errorf("Bytes(%d) of %d is %q", n, len(s), got)
			}
			dead(t, "no bytes", r)
		}
	}
}

// P2.2: Fail makes it fail, wherever the reader is.
func TestFail(t *testing.T) {
	s := Put(300) + Text("hello") + "abcdefghij"
	for read := range len(s) + 1 {
		r := New(s)
		r.Bytes(read)
		r.Fail()
		dead(t, "told to fail", r)
		r.Fail()
		dead(t, "told twice", r)
	}
	r := New("")
	r.Fail()
	dead(t, "of nothing", r)
}

// P2.2: a reader that failed reads not what it could have read.
func TestStaysFailed(t *testing.T) {
	for name, do := range map[string]func(*Reader){
		"Var":   func(r *Reader) { r.Var() },
		"Text":  func(r *Reader) { r.Text() },
		"Fixed": func(r *Reader) { r.Fixed(-1) },
		"Bytes": func(r *Reader) { r.Bytes(-1) },
		"Fail":  func(r *Reader) { r.Fail() },
	} {
		r := New("\x80\x00" + strings.Repeat("\x01", 50))
		do(r)
		dead(t, name, r)
	}
}

// P2.2: what fails in one reader does not in another of the same text.
func TestReadersApart(t *testing.T) {
	s := Text("hello") + "x"
	a, b := New(s), New(s)
	a.Fail()
	alive(t, "the other", b, len(s))
	if got := b.Text(); got != "hello" {
		t.Errorf("the other reads %q", got)
	}
	dead(t, "the one", a)
}

// P2.3: what was put, one behind the other, is read.
func TestPutIsRead(t *testing.T) {
	var s strings.Builder
	list := numbers()
	for k, n := range list {
		s.WriteString(Put(n) + Fixed(n, 8) + Text(mixed(k%200)) + mixed(k%7) + Fixed(n, k%9))
	}
	r := New(s.String())
	for k, n := range list {
		if got := r.Var(); got != n {
			t.Fatalf("%d: Var is %d, not %d", k, got, n)
		}
		if got := r.Fixed(8); got != n {
			t.Fatalf("%d: Fixed is %d, not %d", k, got, n)
		}
		if got := r.Text(); got != mixed(k%200) {
			t.Fatalf("%d: Text is %q", k, got)
		}
		if got := r.Bytes(k % 7); got != mixed(k%7) {
			t.Fatalf("%d: Bytes is %q", k, got)
		}
		if got := Fixed(r.Fixed(k%9), k%9); got != Fixed(n, k%9) {
			t.Fatalf("%d: Fixed(%d) is %x", k, k%9, got)
		}
	}
	alive(t, "all is read", r, 0)
}

// readIsPut reads a number of s, and asks whether what was read was put so.
func readIsPut(t *testing.T, s string) {
	t.Helper()
	r := New(s)
	n := r.Var()
	want, size := binary.Uvarint([]byte(s))
	if size > 1 && s[size-1] == 0 { // the library takes what is longer than need be
		size = 0
	}
	if size <= 0 {
		if n != 0 || r.OK() || r.Left() != 0 {
			t.Errorf("of %x: %d, OK %v, %d left", s, n, r.OK(), r.Left())
		}
		return
	}
	if !r.OK() || n != want || r.Left() != len(s)-size || Put(n) != s[:size] {
		t.Errorf("of %x: %d, OK %v, %d left", s, n, r.OK(), r.Left())
	}
}

// P2.3: what is read is put so: all texts of up to two bytes, and all last bytes of long ones.
func TestReadIsPut(t *testing.T) {
	for a := range 256 {
		readIsPut(t, string([]byte{byte(a)}))
		for b := range 256 {
			s := string([]byte{byte(a), byte(b)})
			readIsPut(t, s)
			for n := range 11 {
				readIsPut(t, strings.Repeat("\x80", n)+s)
				readIsPut(t, strings.Repeat("\xff", n)+s)
			}
		}
	}
}

// P2.3: a text that is read is put so.
func TestTextReadIsPut(t *testing.T) {
	for n := range 300 {
		s := mixed(n)
		r := New(s)
		got := r.Text()
		if read := len(s) - r.Left(); r.OK() && Text(got) != s[:read] {
			t.Errorf("of %x: %x", s, got)
		}
	}
}

// The rules that hold everywhere: what is answered shares no memory with what was handed in.
func TestNewMemory(t *testing.T) {
	s := Text("hello") + "abc"
	r := New(s)
	text, bytes := r.Text(), r.Bytes(3)
	if unsafe.StringData(text) == unsafe.StringData(s[1:]) {
		t.Error("Text answers a part of what was handed in")
	}
	if unsafe.StringData(bytes) == unsafe.StringData(s[6:]) {
		t.Error("Bytes answers a part of what was handed in")
	}
}
