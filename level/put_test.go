package level

import (
	"encoding/binary"
	"math"
	"strings"
	"testing"
)

// known are Configs, and what is put of them.
var known = []struct {
	c Config
	s string
}{
	{config(1, not, 1, 1), "\x01\x01\x01\x01\x00"},
	{config(1, not, 7, 2), "\x01\x07\x02\x01\x00"},
	{config(2, not, 4, 2), "\x01\x04\x02\x02\x00"},
	{config(2, final, 7, 2), "\x01\x07\x02\x02\x01"},
	{config(1, not, 1, 1, 2, 2, 5, 1), "\x03\x01\x01\x02\x02\x05\x01\x01\x00"},
	{config(2, final, 3, 2, 6, 2), "\x02\x03\x02\x06\x02\x02\x01"},
	{config(1, not, 1, 1, 2, 1, 3, 1, 4, 1, 5, 1, 6, 1, 7, 2), "\x07\x01\x01\x02\x01\x03\x01\x04\x01\x05\x01\x06\x01\x07\x02\x01\x00"},
}

// read is Get, as the chapter tells it, with a codec of the library.
func read(s string) (Config, bool) {
	ok := true
	take := func() int {
		n, size := binary.Uvarint([]byte(s))
		if size <= 0 || size != len(binary.AppendUvarint(nil, n)) || n > math.MaxInt32 {
			ok = false
			return 0
		}
		s = s[size:]
		return int(n)
	}
	many := take()
	if many > 7 {
		return Config{}, false
	}
	var pairs []int
	for range 2 * many {
		pairs = append(pairs, take())
	}
	c := config(take(), not, pairs...)
	last := take()
	c.Final = last == 1
	if !ok || last > 1 || s != "" || !mayBe(c) {
		return Config{}, false
	}
	return c, true
}

// gets asks whether Get of s is as read tells it; whether it is there.
func gets(t *testing.T, s string) bool {
	t.Helper()
	got, ok := Get(s)
	want, there := read(s)
	if ok != there || !same(got, want) {
		t.Fatalf("Get of %x is %+v, %v, not %+v, %v", s, got, ok, want, there)
	}
	if again, right := Put(got); ok && (!right || again != s) {
		t.Fatalf("Get of %x is %+v, of which %x is put, %v", s, got, again, right)
	}
	return ok
}

// P14.3: how many members, each and its Highest, Level, Final.
func TestPut(t *testing.T) {
	for _, k := range known {
		for _, c := range []Config{k.c, filled(k.c)} {
			if got, ok := Put(c); !ok || got != k.s {
				t.Errorf("Put of %s is %x, %v, not %x", Text(c), got, ok, k.s)
			}
		}
		if got, ok := Get(k.s); !ok || !same(got, k.c) {
			t.Errorf("Get of %x is %+v, %v", k.s, got, ok)
		}
	}
}

// P14.3: false, if it is not right.
func TestPutRefuses(t *testing.T) {
	for _, c := range wrongs() {
		if got, ok := Put(c); ok || got != "" {
			t.Errorf("Put of %+v is %x, %v", c, got, ok)
		}
	}
}

// P14.3: what was put is got, each Config that may be, and just that; each put otherwise.
func TestGet(t *testing.T) {
	seen := map[string]bool{}
	for _, c := range rights() {
		s, ok := Put(c)
		if !ok || seen[s] || len(s) != 3+2*len(c.Members) {
			t.Fatalf("Put of %s is %x, %v", Text(c), s, ok)
		}
		seen[s] = true
		if got, ok := Get(s); !ok || !same(got, c) {
			t.Fatalf("Get of %x is %+v, %v", s, got, ok)
		}
		spoilGot(t, s)
	}
}

// spoilGot writes over what is got of s, and asks whether it is got again.
func spoilGot(t *testing.T, s string) {
	t.Helper()
	first, _ := Get(s)
	want := config(first.Level, first.Final)
	want.Members = append(want.Members, first.Members...)
	want.Highest = append(want.Highest, first.Highest...)
	spoil(t, "Get", first)
	if got, ok := Get(s); !ok || !same(got, want) {
		t.Errorf("Get of %x again is %+v, %v", s, got, ok)
	}
}

// P14.3: false, if there is none: cut, or with more behind, or a byte another one.
func TestGetRefuses(t *testing.T) {
	for at, c := range rights() {
		s, _ := Put(c)
		for cut := range len(s) {
			if got, ok := Get(s[:cut]); ok || !nothing(got) {
				t.Errorf("Get of %x is %+v, %v", s[:cut], got, ok)
			}
		}
		for _, behind := range []string{"\x00", "\x01", "\x02", "\x80", s} {
			if got, ok := Get(s + behind); ok || !nothing(got) {
				t.Errorf("Get of %x is %+v, %v", s+behind, got, ok)
			}
		}
		if at%16 > 0 {
			continue
		}
		for k := range s {
			for b := range 256 {
				gets(t, s[:k]+string([]byte{byte(b)})+s[k+1:])
			}
			gets(t, s[:k]+s[k+1:])
		}
	}
}

// P14.3: a number that is none, or longer than need be, or of more than may be.
func TestGetRefusesNumbers(t *testing.T) {
	list := []string{
		"", "\x00", "\x00\x01\x00", "\x00\x02\x01", "\x80", "\x81\x00\x01\x01\x01\x00",
		"\x01\x81\x00\x01\x01\x00", "\x01\x01\x81\x00\x01\x00", "\x01\x01\x01\x81\x00\x00", "\x01\x01\x01\x01\x80\x00",
		"\x01\x00\x01\x01\x00", "\x01\x08\x01\x01\x00", "\x01\x07\x00\x01\x00", "\x01\x07\x03\x01\x00", "\x01\x07\x01\x00\x00", "\x01\x07\x02\x03\x00",
		"\x01\x07\x01\x02\x00", "\x01\x07\x02\x01\x01", "\x01\x07\x02\x02\x02", "\x01\x07\x02\x02\x03", "\x01\x07\x02\x02\x80\x02",
		"\x02\x02\x01\x01\x01\x01\x00", "\x02\x01\x01\x01\x01\x01\x00", "\x02\x01\x01\x02\x01\x02\x00", "\x02\x01\x02\x02\x01\x02\x00",
		"\x08" + strings.Repeat("\x01", 18), "\x08\x01\x01\x02\x01\x03\x01\x04\x01\x05\x01\x06\x01\x07\x01\x08\x01\x01\x00",
		"\x08\x01\x01\x02\x01\x03\x01\x04\x01\x05\x01\x06\x01\x07\x01\x07\x01\x01\x00",
		strings.Repeat("\xff", 9) + "\x01", strings.Repeat("\xff", 9) + "\x01\x01\x01\x01\x00", strings.Repeat("\xff", 20),
	}
	for _, n := range []uint64{8, 9, 127, 128, 256, 257, 258, 1 << 31, 1<<32 + 1, 1<<32 + 2, 1 << 62, math.MaxInt64, 1 << 63, 1<<63 + 1, math.MaxUint64 - 1, math.MaxUint64} {
		b := string(binary.AppendUvarint(nil, n))
		list = append(list, b, b+"\x01\x01\x01\x00", b+strings.Repeat("\x01\x02", 20),
			"\x01"+b+"\x01\x01\x00", "\x01\x01"+b+"\x01\x00", "\x01\x01\x01"+b+"\x00", "\x01\x01\x01\x01"+b, "\x01\x01\x02\x02"+b, "\x01"+b+b+b+b)
	}
	for _, s := range list {
		if got, ok := Get(s); ok || !nothing(got) {
			t.Errorf("Get of %x is %+v, %v", s, got, ok)
		}
	}
}

// P14.3: all short texts of some bytes, held against what the chapter tells; how many are there is known.
func TestGetShort(t *testing.T) {
	const bytes = "\x00\x01\x02\x03\x07\x08\x80"
	there := 0
	var walk func(s string)
	walk = func(s string) {
		if gets(t, s) {
			there++
		}
		if len(s) < 7 {
			for _, b := range []byte(bytes) {
				walk(s + string([]byte{b}))
			}
		}
	}
	walk("")
	// Of the nodes 1, 2, 3, 7 one, or two: of Level 1, then of Level 2, final or not.
	if want := 4*2 + 6*4 + 2*(4+6); there != want {
		t.Errorf("%d are there, not %d", there, want)
	}
}

// P14.3: whatever the text is.
func FuzzGet(f *testing.F) {
	for _, k := range known {
		f.Add(k.s)
		f.Add(k.s + "\x00")
		f.Add(k.s[:len(k.s)-1])
	}
	f.Add("")
	f.Add("\x80\x01")
	f.Fuzz(func(t *testing.T, s string) { gets(t, s) })
}
