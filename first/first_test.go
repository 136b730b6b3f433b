package first

import (
	"encoding/binary"
	"math"
	"slices"
	"strings"
	"testing"
	"unsafe"

	"pintle/api"
	"pintle/entry"
	"pintle/varint"
)

// Where the fields of an entry's bytes begin, as the chapter lists them; each ends where the next one begins.
const (
	kindAt   = 0
	termAt   = 1
	indexAt  = 9
	clientAt = 17
	seqAt    = 25
	blockAt  = 33
	manyAt   = 37
	nodeAt   = 41
	levelAt  = 42
	sizeAt   = 43
	dataAt   = 44
)

// ones is the greatest number.
const ones = math.MaxUint64

// bytesOf is what the chapter asks for of an entry, spelt out by the library, right or not.
func bytesOf(e api.Entry) string {
	b := []byte{byte(e.Kind)}
	for _, n := range []uint64{e.Term, e.Index, e.Client, e.Seq} {
		b = binary.BigEndian.AppendUint64(b, n)
	}
	for _, n := range []uint64{e.Block, e.Many} {
		b = binary.BigEndian.AppendUint32(b, uint32(n))
	}
	b = append(b, byte(e.Node), byte(e.Level), byte(len(e.Data)))
	b = append(b, e.Data...)
	return string(append(b, make([]byte, max(0, 110-len(b)))...))
}

// mixed is a text of n bytes in which all bytes come up, of no plain order.
func mixed(n int) string {
	b := make([]byte, n)
	x := uint32(n) + 1
	for k := range b {
		x = x*1664525 + 1013904223
		b[k] = byte(x >> 24)
	}
	return string(b)
}

// entries are some that are right, and of level 1, of each kind, as low and as high as they may be, and between.
func entries() []api.Entry {
	var list []api.Entry
	for _, e := range []api.Entry{
		{Kind: api.Noop},
		{Kind: api.Upgrade},
		{Kind: api.Lower},
		{Kind: api.Finalise},
		{Kind: api.Write, Client: 1},
		{Kind: api.Write, Client: 4, Seq: 5, Block: 6, Data: "ab"},
		{Kind: api.Write, Client: ones, Seq: ones, Block: 1<<32 - 1, Data: strings.Repeat("\xff", api.Sector)},
		{Kind: api.Write, Client: 1, Data: "\x00"},
		{Kind: api.Write, Client: 1, Data: "\x00\x00"},
		{Kind: api.Write, Client: 1, Data: "a\x00"},
		{Kind: api.Write, Client: 1, Data: "\xff"},
		{Kind: api.Write, Client: 1, Data: "\u00e9"},
		{Kind: api.Write, Client: 1, Data: mixed(api.Sector - 1)},
		{Kind: api.Write, Client: 1, Data: mixed(api.Sector)},
		{Kind: api.Write, Client: 1, Data: strings.Repeat("\x00", api.Sector)},
		{Kind: api.Trim, Client: 1},
		{Kind: api.Trim, Client: 7, Seq: 8, Block: 9, Many: 10},
		{Kind: api.Trim, Client: ones, Seq: ones, Block: 1<<32 - 1, Many: 1<<32 - 1},
		{Kind: api.Resize, Client: 1},
		{Kind: api.Resize, Client: 1 << 63, Seq: 1 << 62, Many: 1 << 31},
		{Kind: api.Open, Client: 1},
		{Kind: api.Open, Client: 1 << 32, Seq: 1},
		{Kind: api.Add, Node: 1},
		{Kind: api.Add, Node: api.MaxNodes},
		{Kind: api.Remove, Node: 1},
		{Kind: api.Remove, Node: api.MaxNodes},
		{Kind: api.Register, Node: 1, Level: 1},
		{Kind: api.Register, Node: api.MaxNodes, Level: 2},
	} {
		for _, place := range [][2]uint64{{1, 1}, {2, 3}, {255, 256}, {0x0102030405060708, 0x1112131415161718}, {1 << 62, 1 << 63}, {ones, ones}} {
			e.Term, e.Index = place[0], place[1]
			list = append(list, e)
		}
	}
	return list
}

// wrongEntries are some that may not be put, in version 1.
func wrongEntries() []api.Entry {
	w := api.Entry{Term: 1, Index: 1, Kind: api.Write, Client: 1, Data: "x"}
	list := []api.Entry{
		{},
		{Term: 1, Index: 1, Kind: api.Swap, Client: 1},
		{Term: 1, Index: 1, Kind: api.Swap, Client: 1, Data: "x", Old: "y"},
		{Term: ones, Index: ones, Kind: api.Swap, Client: 1, Seq: 2, Block: 3, Data: mixed(64), Old: mixed(64)},
		{Term: 0, Index: 1},
		{Term: 1, Index: 0},
		{Term: 1, Index: 1, Kind: api.Add},
		{Term: 1, Index: 1, Kind: api.Add, Node: 257},
		{Term: 1, Index: 1, Kind: api.Register, Node: 1},
		{Term: 1, Index: 1, Kind: api.Register, Node: 1, Level: 257},
		{Term: 1, Index: 1, Kind: api.Register, Level: 1},
		{Term: 1, Index: 1, Kind: api.Noop, Data: "x"},
		{Term: 1, Index: 1, Kind: api.Trim, Client: 1, Many: 1 << 32},
	}
	for _, kind := range []int{-1, 12, 13, 255, 256, 257, 1<<32 + 1, math.MinInt, math.MaxInt} {
		list = append(list, api.Entry{Term: 1, Index: 1, Kind: kind}, api.Entry{Term: 1, Index: 1, Kind: kind, Client: 1, Data: "x"})
	}
	for _, turn := range []func(e *api.Entry){
		func(e *api.Entry) { e.Term = 0 },
		func(e *api.Entry) { e.Index = 0 },
		func(e *api.Entry) { e.Client = 0 },
		func(e *api.Entry) { e.Block = 1 << 32 },
		func(e *api.Entry) { e.Many = 1 },
		func(e *api.Entry) { e.Node = 1 },
		func(e *api.Entry) { e.Node = -1 },
		func(e *api.Entry) { e.Node = 256 },
		func(e *api.Entry) { e.Level = 1 },
		func(e *api.Entry) { e.Level = 256 },
		func(e *api.Entry) { e.Data = mixed(65) },
		func(e *api.Entry) { e.Data = mixed(66) },
		func(e *api.Entry) { e.Data = mixed(67) },
		func(e *api.Entry) { e.Data = mixed(256) },
		func(e *api.Entry) { e.Data = mixed(100000) },
		func(e *api.Entry) { e.Old = "x" },
	} {
		x := w
		turn(&x)
		list = append(list, x)
	}
	return list
}

// got asks whether at the beginning of s stands that entry, with so many bytes behind it.
func got(t *testing.T, s string, want api.Entry, left int) {
	t.Helper()
	r := varint.New(s)
	if e := Get(r); e != want || !r.OK() || r.Left() != left {
		t.Errorf("Get of %x is %+v, OK %v, %d left, not %+v", s, e, r.OK(), r.Left(), want)
	}
}

// none asks whether at the beginning of s stands no entry.
func none(t *testing.T, s string) {
	t.Helper()
	r := varint.New(s)
	if e := Get(r); e != (api.Entry{}) || r.OK() || r.Left() != 0 {
		t.Errorf("Get of %x is %+v, OK %v, %d left", s, e, r.OK(), r.Left())
	}
}

// P5.1: so many bytes each, in that order.
func TestPut(t *testing.T) {
	if Size != 110 {
		t.Errorf("Size is %d", Size)
	}
	for _, c := range []struct {
		e    api.Entry
		want string
	}{
		{
			api.Entry{Term: 0x0102030405060708, Index: 0x1112131415161718, Kind: api.Trim, Client: 0x2122232425262728, Seq: 0x3132333435363738, Block: 0x41424344, Many: 0x51525354},
			"\x02" + "\x01\x02\x03\x04\x05\x06\x07\x08" + "\x11\x12\x13\x14\x15\x16\x17\x18" + "\x21\x22\x23\x24\x25\x26\x27\x28" + "\x31\x32\x33\x34\x35\x36\x37\x38" + "\x41\x42\x43\x44" + "\x51\x52\x53\x54" + strings.Repeat("\x00", 69),
		},
		{
			api.Entry{Term: 1, Index: 2, Kind: api.Register, Node: 7, Level: 2},
			"\x07" + "\x00\x00\x00\x00\x00\x00\x00\x01" + "\x00\x00\x00\x00\x00\x00\x00\x02" + strings.Repeat("\x00", 24) + "\x07\x02" + strings.Repeat("\x00", 67),
		},
		{
			api.Entry{Term: 1, Index: 2, Kind: api.Write, Client: 3, Data: "\x00\xffabc"},
			"\x01" + "\x00\x00\x00\x00\x00\x00\x00\x01" + "\x00\x00\x00\x00\x00\x00\x00\x02" + "\x00\x00\x00\x00\x00\x00\x00\x03" + strings.Repeat("\x00", 18) + "\x05\x00\xffabc" + strings.Repeat("\x00", 61),
		},
		{
			api.Entry{Term: ones, Index: ones, Kind: api.Finalise},
			"\x0a" + strings.Repeat("\xff", 16) + strings.Repeat("\x00", 93),
		},
	} {
		if s, ok := Put(c.e); s != c.want || !ok {
			t.Errorf("Put(%+v) is %x, %v, not %x", c.e, s, ok, c.want)
		}
	}
}

// P5.1: an entry of each kind, as low and as high as it may be.
func TestPutKinds(t *testing.T) {
	for _, e := range entries() {
		if s, ok := Put(e); s != bytesOf(e) || len(s) != Size || !ok {
			t.Errorf("Put(%+v) is %x, %v, not %x", e, s, ok, bytesOf(e))
		}
	}
}

// P5.1: what may not be, or is of level 2, is not put.
func TestPutRefuses(t *testing.T) {
	for _, e := range wrongEntries() {
		if s, ok := Put(e); s != "" || ok {
			t.Errorf("Put(%+v) is %x, %v", e, s, ok)
		}
	}
}

// P5.1: what was put, whatever stands behind it.
func TestGet(t *testing.T) {
	for _, e := range entries() {
		s := bytesOf(e)
		for _, behind := range []string{"", "x", "\x00", "\xff", s, mixed(1000)} {
			got(t, s+behind, e, len(behind))
		}
	}
}

// P5.1: entries one behind the other, and wherever the reader is.
func TestGetInARow(t *testing.T) {
	for _, ahead := range []string{"", "x", mixed(109), mixed(110)} {
		var s strings.Builder
		s.WriteString(ahead)
		for _, e := range entries() {
			s.WriteString(bytesOf(e))
		}
		r := varint.New(s.String())
		r.Bytes(len(ahead))
		for at, e := range entries() {
			if left := (len(entries()) - at - 1) * Size; Get(r) != e || !r.OK() || r.Left() != left {
				t.Fatalf("at %d: OK %v, %d left", at, r.OK(), r.Left())
			}
		}
		if e := Get(r); e != (api.Entry{}) || r.OK() {
			t.Errorf("behind all stands %+v", e)
		}
	}
}

// P5.1: too few bytes.
func TestGetCut(t *testing.T) {
	for _, e := range []api.Entry{
		{Term: 1, Index: 1},
		{Term: 1, Index: 1, Kind: api.Add, Node: 1},
		{Term: 1, Index: 1, Kind: api.Write, Client: 1, Data: mixed(64)},
		{Term: 1, Index: 1, Kind: api.Write, Client: 1, Data: "ab"},
	} {
		s := bytesOf(e)
		for cut := range s {
			none(t, s[:cut])
			r := varint.New(s + s[:cut])
			if a, b := Get(r), Get(r); a != e || b != (api.Entry{}) || r.OK() {
				t.Errorf("cut at %d behind another: %+v", cut, b)
			}
		}
	}
}

// P5.1: a reader that failed has none.
func TestGetFailed(t *testing.T) {
	r := varint.New(bytesOf(api.Entry{Term: 1, Index: 1}))
	r.Fail()
	for range 2 {
		if e := Get(r); e != (api.Entry{}) || r.OK() {
			t.Errorf("it is %+v", e)
		}
	}
	r = varint.New(bytesOf(api.Entry{}) + bytesOf(api.Entry{Term: 1, Index: 1}))
	for range 2 {
		if e := Get(r); e != (api.Entry{}) || r.OK() || r.Left() != 0 {
			t.Errorf("behind a wrong one: %+v, OK %v, %d left", e, r.OK(), r.Left())
		}
	}
}

// P5.1: bytes that Put puts of no entry, though there are enough of them.
func TestGetFails(t *testing.T) {
	for _, s := range []string{strings.Repeat("\x00", 110), strings.Repeat("\x01", 110), strings.Repeat("\xff", 110), mixed(110), mixed(1000)} {
		none(t, s)
	}
	for kind := range 256 {
		if _, there := entry.Fields(kind); there && kind != api.Swap {
			continue
		}
		for _, e := range []api.Entry{{}, {Client: 1}, {Client: 1, Data: "x"}, {Node: 1}, {Node: 1, Level: 1}} {
			e.Term, e.Index, e.Kind = 1, 1, kind
			none(t, bytesOf(e))
			none(t, bytesOf(e)+"behind")
		}
	}
	for _, e := range wrongEntries() {
		// Of some that are wrong nothing is left in so few bytes of what is wrong.
		if e.Kind >= 0 && e.Kind < 256 && e.Node >= 0 && e.Node < 256 && e.Level < 256 && e.Block < 1<<32 && e.Many < 1<<32 && e.Old == "" {
			none(t, bytesOf(e))
		}
	}
}

// P5.1: a number of bytes of Data that may not be.
func TestGetDataSize(t *testing.T) {
	e := api.Entry{Term: 1, Index: 1, Kind: api.Write, Client: 1}
	for size := range 256 {
		for _, fill := range []string{"\x00", "d"} {
			head := bytesOf(e)[:sizeAt] + string([]byte{byte(size)})
			s := head + strings.Repeat(fill, min(size, 66)) + strings.Repeat("\x00", max(0, 66-size))
			long := head + strings.Repeat(fill, size) + strings.Repeat("\x00", 300)
			if size > api.Sector {
				none(t, s)
				none(t, s+strings.Repeat("\x00", 300))
				none(t, long)
				continue
			}
			want := e
			want.Data = strings.Repeat(fill, size)
			got(t, s, want, 0)
		}
	}
}

// P5.1: what stands behind Data is 0.
func TestGetBehindData(t *testing.T) {
	for _, size := range []int{0, 1, 2, 63, 64} {
		e := api.Entry{Term: 1, Index: 1, Kind: api.Write, Client: 1, Data: mixed(size)}
		for at := dataAt + size; at < Size; at++ {
			for _, b := range []byte{1, 0x80, 0xff} {
				s := []byte(bytesOf(e))
				s[at] = b
				none(t, string(s))
				none(t, string(s)+bytesOf(e))
			}
		}
	}
	s := []byte(bytesOf(api.Entry{Term: 1, Index: 1}))
	for at := sizeAt; at < Size; at++ {
		s[at] = 1
		none(t, string(s))
		s[at] = 0
	}
}

// P5.1: a field that the kind has not is 0, and what it has is within its limits.
func TestGetFields(t *testing.T) {
	for kind := range api.Swap {
		letters, _ := entry.Fields(kind)
		least := api.Entry{Term: 1, Index: 1, Kind: kind}
		if strings.Contains(letters, "c") {
			least.Client = 1
		}
		if strings.Contains(letters, "n") {
			least.Node = 1
		}
		if strings.Contains(letters, "l") {
			least.Level = 1
		}
		got(t, bytesOf(least), least, 0)
		for _, f := range []struct {
			letter   string
			from, to int
		}{{"c", clientAt, blockAt}, {"b", blockAt, manyAt}, {"m", manyAt, nodeAt}, {"n", nodeAt, levelAt}, {"l", levelAt, sizeAt}} {
			if strings.Contains(letters, f.letter) {
				continue
			}
			for at := f.from; at < f.to; at++ {
				s := []byte(bytesOf(least))
				s[at]++
				none(t, string(s))
			}
		}
		if strings.Contains(letters, "n") {
			for node := range 256 {
				e := least
				if e.Node = node; node < 1 || node > api.MaxNodes {
					none(t, bytesOf(e))
				}
			}
		}
		if strings.Contains(letters, "l") {
			for level := range 256 {
				e := least
				if e.Level = level; level < 1 || level > 2 {
					none(t, bytesOf(e))
				}
			}
		}
	}
}

// P5.3: what was put is got; and no two have the same bytes.
func TestPutIsGot(t *testing.T) {
	of := map[string]api.Entry{}
	for _, e := range entries() {
		s, ok := Put(e)
		if !ok {
			t.Fatalf("Put(%+v) is refused", e)
		}
		got(t, s, e, 0)
		if other, there := of[s]; there {
			t.Errorf("%+v and %+v have the same bytes", e, other)
		}
		of[s] = e
	}
}

// gotIsPut reads an entry of s, and asks whether what is read is put so.
func gotIsPut(t *testing.T, s string) {
	t.Helper()
	r := varint.New(s)
	e := Get(r)
	if !r.OK() {
		if e != (api.Entry{}) || r.Left() != 0 {
			t.Errorf("of %x: %+v, %d left", s, e, r.Left())
		}
		// It must not refuse what the chapter asks for.
		if len(s) >= Size && put(s[:Size]) {
			t.Errorf("%x is refused", s)
		}
		return
	}
	if again, ok := Put(e); !ok || r.Left() != len(s)-Size || again != s[:Size] {
		t.Errorf("of %x is read %+v, %d left, which is put %x, %v", s, e, r.Left(), again, ok)
	}
}

// put says whether s is what the chapter asks for of an entry: read by the library, and spelt out again.
func put(s string) bool {
	b := []byte(s)
	e := api.Entry{
		Kind:   int(b[kindAt]),
		Term:   binary.BigEndian.Uint64(b[termAt:]),
		Index:  binary.BigEndian.Uint64(b[indexAt:]),
		Client: binary.BigEndian.Uint64(b[clientAt:]),
		Seq:    binary.BigEndian.Uint64(b[seqAt:]),
		Block:  uint64(binary.BigEndian.Uint32(b[blockAt:])),
		Many:   uint64(binary.BigEndian.Uint32(b[manyAt:])),
		Node:   int(b[nodeAt]),
		Level:  int(b[levelAt]),
	}
	if size := int(b[sizeAt]); size <= api.Sector {
		e.Data = s[dataAt : dataAt+size]
	}
	return entry.Right(e) && entry.Level(e) == 1 && bytesOf(e) == s
}

// P5.1, P5.3: bytes of which one is turned are read as what is put so, or refused.
func TestGotIsPut(t *testing.T) {
	for at, e := range entries() {
		if at%6 != 1 {
			continue
		}
		for k := range Size {
			for bit := range 8 {
				s := []byte(bytesOf(e))
				s[k] ^= 1 << bit
				gotIsPut(t, string(s))
				gotIsPut(t, string(s)+"more")
			}
		}
	}
}

// Of any bytes what is read is put so; and nothing panics.
func FuzzGet(f *testing.F) {
	for _, e := range entries() {
		f.Add(bytesOf(e))
	}
	f.Fuzz(gotIsPut)
}

// The rules that hold everywhere: what is answered shares no memory with what was handed in.
func TestNewMemory(t *testing.T) {
	s := bytesOf(api.Entry{Term: 1, Index: 1, Kind: api.Write, Client: 1, Data: mixed(64)})
	if e := Get(varint.New(s)); unsafe.StringData(e.Data) == unsafe.StringData(s[dataAt:]) {
		t.Error("Data is a part of what was handed in")
	}
}

// The rules that hold everywhere: one reading is told as another one of the same bytes is.
func TestReadersApart(t *testing.T) {
	e := api.Entry{Term: 1, Index: 1, Kind: api.Write, Client: 1, Data: "ab"}
	a, b := varint.New(bytesOf(e)), varint.New(bytesOf(e))
	a.Fail()
	Get(a)
	if x := Get(b); x != e || !b.OK() {
		t.Errorf("the other reads %+v", x)
	}
	if !slices.Equal([]api.Entry{Get(varint.New(bytesOf(e)))}, []api.Entry{e}) {
		t.Error("read again it is another")
	}
}

func BenchmarkPut(b *testing.B) {
	e := api.Entry{Term: 1, Index: 1, Kind: api.Write, Client: 1, Data: mixed(64)}
	for range b.N {
		Put(e)
	}
}

func BenchmarkGet(b *testing.B) {
	s := bytesOf(api.Entry{Term: 1, Index: 1, Kind: api.Write, Client: 1, Data: mixed(64)})
	for range b.N {
		Get(varint.New(s))
	}
}
