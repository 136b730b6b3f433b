package slots

import (
	"encoding/binary"
	"math"
	"strings"
	"testing"

	"pintle/api"
	"pintle/super"
)

// ones is the greatest number.
const ones = math.MaxUint64

// beyond are numbers far outside all limits, such as would be within them, if some of their bits were lost, among them.
var beyond = []int{math.MinInt, math.MinInt + 1, -1 << 32, -1<<32 + 1, -65536, -65535, -256, -255, -254, -2, -1, 255, 256, 257, 258, 300, 65535, 65536, 65537, 1 << 31, 1<<31 + 1, 1 << 32, 1<<32 + 1, 1<<32 + 2, math.MaxInt - 1, math.MaxInt}

// terms are numbers at the edges of each byte, and of each group of seven bits, and others.
func terms() []uint64 {
	list := []uint64{0, 3, 300, 0x0102030405060708, ones}
	for bits := 7; bits <= 63; bits += 7 {
		list = append(list, 1<<bits-1, 1<<bits, 1<<bits+1)
	}
	for bits := 8; bits < 64; bits += 8 {
		list = append(list, 1<<bits-1, 1<<bits)
	}
	return append(list, 1<<62, 1<<63-1, ones-1)
}

// spell is numbers as the chapter asks for them, by the library: of version 1 each as so many bytes.
func spell(version int, head byte, ns []uint64, sizes []int) string {
	b := []byte{head}
	for k, n := range ns {
		if version == 2 {
			b = binary.AppendUvarint(b, n)
			continue
		}
		b = append(b, binary.BigEndian.AppendUint64(nil, n)[8-sizes[k]:]...)
	}
	return string(b)
}

// spellSuper is the bytes of that Super, however right it is.
func spellSuper(s Super) string {
	ns := []uint64{uint64(s.Snap), uint64(s.Log), uint64(s.Area), uint64(s.Half), uint64(s.Goal), uint64(s.Step)}
	return spell(s.Version, byte(s.Version), ns, []int{2, 2, 1, 1, 1, 1})
}

// spellHard is the bytes of that Hard, however right it is.
func spellHard(version int, h Hard) string {
	return spell(version, byte(16+version), []uint64{h.Term, uint64(h.Vote), h.Commit}, []int{8, 1, 8})
}

// putsSuper asks whether the Super is put as spelt out, and got.
func putsSuper(t *testing.T, s Super) {
	t.Helper()
	want := spellSuper(s)
	if b, ok := PutSuper(s); b != want || !ok {
		t.Errorf("PutSuper(%v) is %x, %v, not %x", s, b, ok, want)
	}
	if got, ok := GetSuper(want); got != s || !ok {
		t.Errorf("GetSuper(%x) is %v, %v, not %v", want, got, ok, s)
	}
	if n, want := Sectors(s), 4+2*s.Snap+2*s.Log; n != want {
		t.Errorf("Sectors(%v) is %d, not %d", s, n, want)
	}
}

// refusesSuper asks whether a Super that is not right is refused, and its bytes are.
func refusesSuper(t *testing.T, s Super) {
	t.Helper()
	if b, ok := PutSuper(s); b != "" || ok {
		t.Errorf("PutSuper(%v) is %x, %v", s, b, ok)
	}
	if n := Sectors(s); n != 0 {
		t.Errorf("Sectors(%v) is %d", s, n)
	}
}

// noSuper asks whether b is no Super.
func noSuper(t *testing.T, what, b string) {
	t.Helper()
	if s, ok := GetSuper(b); s != (Super{}) || ok {
		t.Errorf("%s: GetSuper(%x) is %v, %v", what, b, s, ok)
	}
}

// putsHard asks whether the Hard is put as spelt out, and got.
func putsHard(t *testing.T, version int, h Hard) {
	t.Helper()
	want := spellHard(version, h)
	if b, ok := PutHard(version, h); b != want || !ok {
		t.Errorf("PutHard(%d, %v) is %x, %v, not %x", version, h, b, ok, want)
	}
	if got, v, ok := GetHard(want); got != h || v != version || !ok {
		t.Errorf("GetHard(%x) is %v, %d, %v, not %v, %d", want, got, v, ok, h, version)
	}
}

// noHard asks whether b is no Hard.
func noHard(t *testing.T, what, b string) {
	t.Helper()
	if h, v, ok := GetHard(b); h != (Hard{}) || v != 0 || ok {
		t.Errorf("%s: GetHard(%x) is %v, %d, %v", what, b, h, v, ok)
	}
}

// fields is the fields of a Super, and the least and the greatest that each may be.
func fields(s *Super) []struct {
	at        *int
	low, high int
} {
	return []struct {
		at        *int
		low, high int
	}{{&s.Version, 1, 2}, {&s.Snap, 1, 1000}, {&s.Log, 1, 1000}, {&s.Area, 0, 1}, {&s.Half, 0, 1}, {&s.Goal, 0, 2}, {&s.Step, 0, 9}}
}

// some are Supers that are right, of both versions, with greater and smaller numbers.
func some() []Super {
	return []Super{{1, 1, 1, 0, 0, 0, 0}, {2, 1, 1, 0, 0, 0, 0}, {1, 1000, 1000, 1, 1, 2, 9}, {2, 1000, 1000, 1, 1, 2, 9}, {1, 300, 2, 1, 0, 2, 3}, {2, 300, 2, 1, 0, 1, 3}, {2, 127, 128, 0, 1, 1, 0}, {1, 255, 256, 0, 1, 1, 0}}
}

// P9.1, P9.3: where the things stand: two sectors each, and what is behind them.
func TestPlaces(t *testing.T) {
	if SuperAt != 0 || HardAt != 2 || First != 4 {
		t.Error(SuperAt, HardAt, First)
	}
}

// P9.1: Supers whose bytes are written out.
func TestPutSuperKnown(t *testing.T) {
	for _, c := range []struct {
		s    Super
		want string
	}{
		{Super{1, 300, 2, 1, 0, 2, 3}, "\x01\x01\x2c\x00\x02\x01\x00\x02\x03"},
		{Super{2, 300, 2, 1, 0, 2, 3}, "\x02\xac\x02\x02\x01\x00\x02\x03"},
		{Super{1, 1, 1000, 0, 1, 1, 9}, "\x01\x00\x01\x03\xe8\x00\x01\x01\x09"},
		{Super{2, 1, 1000, 0, 1, 1, 9}, "\x02\x01\xe8\x07\x00\x01\x01\x09"},
		{Super{Version: 1, Snap: 256, Log: 255}, "\x01\x01\x00\x00\xff\x00\x00\x00\x00"},
		{Super{Version: 2, Snap: 128, Log: 127}, "\x02\x80\x01\x7f\x00\x00\x00\x00"},
	} {
		if b, ok := PutSuper(c.s); b != c.want || !ok {
			t.Errorf("PutSuper(%v) is %x, %v, not %x", c.s, b, ok, c.want)
		}
		if s, ok := GetSuper(c.want); s != c.s || !ok {
			t.Errorf("GetSuper(%x) is %v, %v, not %v", c.want, s, ok, c.s)
		}
	}
}

// P9.1: each Snap and Log that may be, and each that may not, near the limits.
func TestSuperCounts(t *testing.T) {
	for version := 1; version <= 2; version++ {
		for n := -70; n <= 1100; n++ {
			for _, s := range []Super{{version, n, 7, 1, 0, 2, 5}, {version, 700, n, 0, 1, 0, 0}, {version, n, n, 1, 1, 1, 0}} {
				if n >= 1 && n <= 1000 {
					putsSuper(t, s)
					continue
				}
				refusesSuper(t, s)
				if n >= 0 {
					noSuper(t, "not right", spellSuper(s))
				}
			}
		}
	}
}

// P9.1: all of the small numbers, alone and together; Step is 0, if Goal is.
func TestSuperSmall(t *testing.T) {
	for set := range 4 * 4 * 4 * 5 * 12 {
		s := Super{set % 4, 1000, 3, set / 4 % 4, set / 16 % 4, set / 64 % 5, set / 320}
		if s.Version >= 1 && s.Version <= 2 && s.Area <= 1 && s.Half <= 1 && s.Goal <= 2 && s.Step <= 9 && (s.Goal > 0 || s.Step == 0) {
			putsSuper(t, s)
			continue
		}
		refusesSuper(t, s)
		noSuper(t, "not right", spellSuper(s))
	}
}

// P9.1: each number at its limits and one beyond them, and far beyond.
func TestSuperLimits(t *testing.T) {
	for _, was := range some() {
		s := was
		for _, f := range fields(&s) {
			for _, n := range append([]int{f.low - 1, f.high + 1}, beyond...) {
				if n >= f.low && n <= f.high {
					continue
				}
				*f.at = n
				refusesSuper(t, s)
				// Of version 1 its bytes may be those of another one.
				asksSuper(t, spellSuper(s))
				s = was
			}
		}
	}
	refusesSuper(t, Super{})
	noSuper(t, "of nothing", spellSuper(Super{}))
}

// P9.1: First, and two times Snap and Log; 0, if it is not right.
func TestSectors(t *testing.T) {
	for _, c := range []struct {
		s    Super
		want int
	}{
		{Super{Version: 1, Snap: 1, Log: 1}, 8}, {Super{Version: 2, Snap: 1, Log: 2, Half: 1}, 10}, {Super{Version: 1, Snap: 2, Log: 1}, 10},
		{Super{1, 300, 2, 1, 0, 2, 3}, 608}, {Super{2, 1000, 1000, 1, 1, 2, 9}, 4004}, {Super{}, 0}, {Super{Version: 1}, 0},
		{Super{Version: 1, Snap: math.MaxInt, Log: math.MaxInt}, 0}, {Super{Version: 1, Snap: -1, Log: 3}, 0}, {Super{Version: 3, Snap: 1, Log: 1}, 0},
		{Super{Version: 1, Snap: 1, Log: 1, Step: 1}, 0}, {Super{Version: 1, Snap: 1, Log: 1, Area: 2}, 0},
	} {
		if n := Sectors(c.s); n != c.want {
			t.Errorf("Sectors(%v) is %d, not %d", c.s, n, c.want)
		}
	}
}

// P9.1: all of b, and nothing beside it.
func TestGetSuperLengths(t *testing.T) {
	noSuper(t, "nothing", "")
	for _, s := range some() {
		b := spellSuper(s)
		for n := range b {
			noSuper(t, "cut", b[:n])
		}
		noSuper(t, "a byte 0 more", b+"\x00")
		noSuper(t, "a byte more", b+"\x01")
		noSuper(t, "a byte ahead", "\x00"+b)
		noSuper(t, "without its first", b[1:])
		noSuper(t, "twice", b+b)
		noSuper(t, "a long one", b+strings.Repeat("\x00", 100000))
	}
	for c := range 256 {
		for _, n := range []int{1, 7, 8, 9, 51} {
			asksSuper(t, strings.Repeat(string([]byte{byte(c)}), n))
		}
	}
}

// P9.1: one byte that is another: what is got then is what is put so, or nothing.
func TestGetSuperOtherBytes(t *testing.T) {
	for _, s := range some() {
		b := spellSuper(s)
		for at := range b {
			for c := range 256 {
				asksSuper(t, b[:at]+string([]byte{byte(c)})+b[at+1:])
			}
		}
	}
}

// asksSuper asks whether what GetSuper answers is what a plain reading does.
func asksSuper(t *testing.T, b string) {
	t.Helper()
	got, ok := GetSuper(b)
	if want, there := plainSuper(b); got != want || ok != there {
		t.Errorf("GetSuper(%x) is %v, %v, not %v, %v", b, got, ok, want, there)
	}
}

// plainSuper reads a Super by the library.
func plainSuper(b string) (Super, bool) {
	if b == "" || b[0] != 1 && b[0] != 2 {
		return Super{}, false
	}
	ns := plainNumbers(int(b[0]), b[1:], []int{2, 2, 1, 1, 1, 1})
	if ns == nil {
		return Super{}, false
	}
	if ns[0] < 1 || ns[0] > 1000 || ns[1] < 1 || ns[1] > 1000 || ns[2] > 1 || ns[3] > 1 || ns[4] > 2 || ns[5] > 9 || ns[4] == 0 && ns[5] > 0 {
		return Super{}, false
	}
	return Super{int(b[0]), int(ns[0]), int(ns[1]), int(ns[2]), int(ns[3]), int(ns[4]), int(ns[5])}, true
}

// plainNumbers reads so many numbers by the library; none, if they are not all of b, or one is written longer than it need be.
func plainNumbers(version int, b string, sizes []int) []uint64 {
	var ns []uint64
	for _, size := range sizes {
		if version == 1 && len(b) < size {
			return nil
		}
		var n uint64
		if version == 1 {
			n = binary.BigEndian.Uint64([]byte(strings.Repeat("\x00", 8-size) + b[:size]))
		} else {
			n, size = binary.Uvarint([]byte(b))
			if size <= 0 || size != len(binary.AppendUvarint(nil, n)) {
				return nil
			}
		}
		ns, b = append(ns, n), b[size:]
	}
	if b != "" {
		return nil
	}
	return ns
}

// P9.1: the first byte is the version, and the rest is of that version.
func TestGetSuperVersions(t *testing.T) {
	one, two := spellSuper(Super{1, 300, 2, 1, 0, 2, 3}), spellSuper(Super{2, 300, 2, 1, 0, 2, 3})
	for c := range 256 {
		if c != 1 {
			noSuper(t, "another version's", string([]byte{byte(c)})+one[1:])
		}
		if c != 2 {
			noSuper(t, "another version's", string([]byte{byte(c)})+two[1:])
		}
	}
	noSuper(t, "a Hard", spellHard(1, Hard{1, 1, 1}))
	noSuper(t, "a Hard", spellHard(2, Hard{1, 1, 1}))
	noSuper(t, "numbers' lowest byte first", "\x01\x2c\x01\x02\x00\x01\x00\x02\x03")
	noSuper(t, "fields the other way round", "\x02\x03\x02\x00\x01\x02\xac\x02")
	noSuper(t, "the version as two bytes", "\x00"+one)
	noSuper(t, "the version longer than it need be", "\x82\x00"+two[1:])
}

// P9.1: numbers of version 2 that are written longer than they need be, or are far above their limits.
func TestGetSuperNumbers(t *testing.T) {
	good := []string{"\x01", "\x01", "\x01", "\x01", "\x01", "\x01"}
	if s, ok := GetSuper("\x02" + strings.Join(good, "")); s != (Super{2, 1, 1, 1, 1, 1, 1}) || !ok {
		t.Error(s, ok)
	}
	for at := range good {
		for _, bad := range []string{
			"", "\x80", "\x81\x00", "\x81\x80\x00", "\x80\x00", "\xe9\x07", "\x80\x80\x04",
			string(binary.AppendUvarint(nil, 1<<16+1)), string(binary.AppendUvarint(nil, 1<<32+1)), string(binary.AppendUvarint(nil, 1<<63+1)), string(binary.AppendUvarint(nil, ones)),
			strings.Repeat("\x80", 9) + "\x02", strings.Repeat("\xff", 9) + "\x7f", "\x81" + strings.Repeat("\x80", 9) + "\x00", strings.Repeat("\xff", 20),
		} {
			list := append([]string{"\x02"}, good...)
			list[1+at] = bad
			noSuper(t, "no such number", strings.Join(list, ""))
		}
	}
}

// P9.2: Hards whose bytes are written out.
func TestPutHardKnown(t *testing.T) {
	for _, c := range []struct {
		version int
		h       Hard
		want    string
	}{
		{1, Hard{300, 7, 1}, "\x11\x00\x00\x00\x00\x00\x00\x01\x2c\x07\x00\x00\x00\x00\x00\x00\x00\x01"},
		{2, Hard{300, 7, 1}, "\x12\xac\x02\x07\x01"},
		{1, Hard{}, "\x11" + strings.Repeat("\x00", 17)},
		{2, Hard{}, "\x12\x00\x00\x00"},
		{1, Hard{0x0102030405060708, 3, ones}, "\x11\x01\x02\x03\x04\x05\x06\x07\x08\x03\xff\xff\xff\xff\xff\xff\xff\xff"},
		{2, Hard{128, 3, ones}, "\x12\x80\x01\x03\xff\xff\xff\xff\xff\xff\xff\xff\xff\x01"},
	} {
		if b, ok := PutHard(c.version, c.h); b != c.want || !ok {
			t.Errorf("PutHard(%d, %v) is %x, %v, not %x", c.version, c.h, b, ok, c.want)
		}
		if h, v, ok := GetHard(c.want); h != c.h || v != c.version || !ok {
			t.Errorf("GetHard(%x) is %v, %d, %v", c.want, h, v, ok)
		}
	}
}

// P9.2: any Term and Commit, each Vote from 0 to MaxNodes.
func TestPutHard(t *testing.T) {
	for version := 1; version <= 2; version++ {
		for _, term := range terms() {
			for _, commit := range terms() {
				for vote := range api.MaxNodes + 1 {
					putsHard(t, version, Hard{term, vote, commit})
				}
			}
		}
	}
}

// P9.2: a version, or a Vote, that is none.
func TestPutHardRefuses(t *testing.T) {
	for _, h := range []Hard{{}, {300, 7, 1}, {ones, 7, ones}} {
		for _, version := range append([]int{0, 3, 4, 16, 17, 18, -15}, beyond...) {
			if b, ok := PutHard(version, h); b != "" || ok {
				t.Errorf("PutHard(%d, %v) is %x, %v", version, h, b, ok)
			}
		}
		for _, vote := range append([]int{8, 9, 127, 128}, beyond...) {
			h.Vote = vote
			for version := range 4 {
				if b, ok := PutHard(version, h); b != "" || ok {
					t.Errorf("PutHard(%d, %v) is %x, %v", version, h, b, ok)
				}
			}
			noHard(t, "no such Vote", spellHard(2, h))
		}
	}
}

// P9.2: all of b, and nothing beside it.
func TestGetHardLengths(t *testing.T) {
	noHard(t, "nothing", "")
	for version := 1; version <= 2; version++ {
		for _, h := range []Hard{{}, {300, 7, 1}, {ones, 7, ones}} {
			b := spellHard(version, h)
			for n := range b {
				noHard(t, "cut", b[:n])
			}
			noHard(t, "a byte 0 more", b+"\x00")
			noHard(t, "a byte more", b+"\x01")
			noHard(t, "a byte ahead", "\x00"+b)
			noHard(t, "without its first", b[1:])
			noHard(t, "twice", b+b)
			noHard(t, "a long one", b+strings.Repeat("\x00", 100000))
		}
	}
	for c := range 256 {
		for _, n := range []int{1, 3, 4, 18, 51} {
			noHard(t, "plain", strings.Repeat(string([]byte{byte(c)}), n))
		}
	}
}

// P9.2: one byte that is another: what is got then is what is put so, or nothing.
func TestGetHardOtherBytes(t *testing.T) {
	for version := 1; version <= 2; version++ {
		for _, h := range []Hard{{}, {300, 7, 1}, {1 << 40, 0, 129}, {ones, 5, ones}} {
			b := spellHard(version, h)
			for at := range b {
				for c := range 256 {
					asksHard(t, b[:at]+string([]byte{byte(c)})+b[at+1:])
				}
			}
		}
	}
}

// asksHard asks whether what GetHard answers is what a plain reading does.
func asksHard(t *testing.T, b string) {
	t.Helper()
	got, v, ok := GetHard(b)
	if want, version, there := plainHard(b); got != want || v != version || ok != there {
		t.Errorf("GetHard(%x) is %v, %d, %v, not %v, %d, %v", b, got, v, ok, want, version, there)
	}
}

// plainHard reads a Hard by the library.
func plainHard(b string) (Hard, int, bool) {
	if b == "" || b[0] != 17 && b[0] != 18 {
		return Hard{}, 0, false
	}
	version := int(b[0]) - 16
	ns := plainNumbers(version, b[1:], []int{8, 1, 8})
	if ns == nil || ns[1] > 7 {
		return Hard{}, 0, false
	}
	return Hard{ns[0], int(ns[1]), ns[2]}, version, true
}

// P9.2: the first byte is 16 and the version, and the rest is of that version.
func TestGetHardVersions(t *testing.T) {
	one, two := spellHard(1, Hard{300, 7, 1}), spellHard(2, Hard{300, 7, 1})
	for c := range 256 {
		if c != 17 {
			noHard(t, "another version's", string([]byte{byte(c)})+one[1:])
		}
		if c != 18 {
			noHard(t, "another version's", string([]byte{byte(c)})+two[1:])
		}
	}
	for _, s := range some() {
		noHard(t, "a Super", spellSuper(s))
	}
	noHard(t, "the byte 16, and the version", "\x10\x01"+one[1:])
	noHard(t, "the byte 16, and the version", "\x10\x02"+two[1:])
	noHard(t, "the first byte longer than it need be", "\x92\x00"+two[1:])
}

// P9.2: numbers of version 2 that are written longer than they need be, or a Vote far above its limit.
func TestGetHardNumbers(t *testing.T) {
	good := []string{"\x01", "\x01", "\x01"}
	for at := range good {
		for _, bad := range []string{
			"", "\x80", "\x81\x00", "\x81\x80\x00", "\x80\x00",
			strings.Repeat("\x80", 9) + "\x02", strings.Repeat("\xff", 9) + "\x7f", "\x81" + strings.Repeat("\x80", 9) + "\x00", strings.Repeat("\xff", 20),
		} {
			list := append([]string{"\x12"}, good...)
			list[1+at] = bad
			noHard(t, "no such number", strings.Join(list, ""))
		}
	}
	for _, vote := range []uint64{8, 9, 127, 128, 256, 257, 1<<16 + 1, 1<<32 + 1, 1 << 63, 1<<63 + 1, ones - 1, ones} {
		noHard(t, "no such Vote", "\x12\x01"+string(binary.AppendUvarint(nil, vote))+"\x01")
	}
	for vote := 8; vote < 256; vote++ {
		noHard(t, "no such Vote", spellHard(1, Hard{300, vote, 1}))
	}
}

// P9.1, P9.2: what is put has Room in the sectors of chapter 8, whatever it is.
func TestRoom(t *testing.T) {
	for version := 1; version <= 2; version++ {
		if b, _ := PutSuper(Super{version, 1000, 1000, 1, 1, 2, 9}); b == "" || len(b) > super.Room {
			t.Errorf("a Super of %d bytes", len(b))
		}
		if b, _ := PutHard(version, Hard{ones, 7, ones}); b == "" || len(b) > super.Room {
			t.Errorf("a Hard of %d bytes", len(b))
		}
	}
}

// P9.1: what is got of any bytes is what a plain reading does.
func FuzzGetSuper(f *testing.F) {
	f.Add("")
	for _, s := range some() {
		f.Add(spellSuper(s))
	}
	f.Fuzz(func(t *testing.T, b string) {
		for _, head := range []string{"", "\x01", "\x02"} {
			asksSuper(t, head+b)
		}
	})
}

// P9.2: likewise.
func FuzzGetHard(f *testing.F) {
	f.Add("")
	f.Add(spellHard(1, Hard{300, 7, 1}))
	f.Add(spellHard(2, Hard{ones, 7, ones}))
	f.Fuzz(func(t *testing.T, b string) {
		for _, head := range []string{"", "\x11", "\x12"} {
			asksHard(t, head+b)
		}
	})
}
