package second

import (
	"encoding/binary"
	"math"
	"slices"
	"strings"
	"testing"
	"unsafe"

	"pintle/api"
	"pintle/entry"
	"pintle/varint"
)

// ones is the greatest number.
const ones = math.MaxUint64

// uvar is a number as the library spells it out.
func uvar(n uint64) string { return string(binary.AppendUvarint(nil, n)) }

// textOf is how many bytes s has, and s.
func textOf(s string) string { return uvar(uint64(len(s))) + s }

// long is a number as n groups of seven bits, more than there need be.
func long(number uint64, n int) string {
	b := make([]byte, n)
	for k := range b {
		b[k] = byte(number) | 0x80
		number >>= 7
	}
	b[n-1] &^= 0x80
	return string(b)
}

// spell is fields that are numbers, and fields that are texts, by their tags, rising; of those that are 0, or empty, nothing; with no end.
func spell(numbers map[uint64]uint64, texts map[uint64]string) string {
	var b strings.Builder
	for tag := range uint64(100) {
		if n := numbers[tag]; n != 0 {
			b.WriteString(uvar(tag) + uvar(n))
		}
		if s := texts[tag]; s != "" {
			b.WriteString(uvar(tag) + textOf(s))
		}
	}
	return b.String()
}

// bytesOf is what the chapter asks for of an entry, spelt out by the library, right or not.
func bytesOf(e api.Entry) string {
	numbers := map[uint64]uint64{1: uint64(e.Kind), 2: e.Term, 3: e.Index, 4: e.Client, 5: e.Seq, 6: e.Block, 7: e.Many, 8: uint64(e.Node), 9: uint64(e.Level)}
	return spell(numbers, map[uint64]string{10: e.Data, 11: e.Old}) + "\x00"
}

// mixed is a text of n bytes in which all bytes come up, of no plain order.
func mixed(n int) string {
	b := make([]byte, n)
	x := uint32(n) + 1
	for k := range b {
		x = x*1664525 + 1013904223
		b[k] = byte(x >> 24)
	}
	return string(b)
}

// entries are some that are right, of each kind, as low and as high as they may be, and between.
func entries() []api.Entry {
	high := strings.Repeat("\xff", api.Sector)
	var list []api.Entry
	for _, e := range []api.Entry{
		{Kind: api.Noop},
		{Kind: api.Upgrade},
		{Kind: api.Lower},
		{Kind: api.Finalise},
		{Kind: api.Write, Client: 1},
		{Kind: api.Write, Client: 4, Seq: 5, Block: 6, Data: "ab"},
		{Kind: api.Write, Client: ones, Seq: ones, Block: 1<<32 - 1, Data: high},
		{Kind: api.Write, Client: 1, Data: "\x00"},
		{Kind: api.Write, Client: 1, Data: "\x00\x00"},
		{Kind: api.Write, Client: 1, Data: "a\x00"},
		{Kind: api.Write, Client: 1, Data: "\u00e9"},
		{Kind: api.Write, Client: 1, Data: mixed(api.Sector - 1)},
		{Kind: api.Write, Client: 1, Data: strings.Repeat("\x00", api.Sector)},
		{Kind: api.Trim, Client: 1},
		{Kind: api.Trim, Client: 7, Seq: 8, Block: 9, Many: 10},
		{Kind: api.Trim, Client: ones, Seq: ones, Block: 1<<32 - 1, Many: 1<<32 - 1},
		{Kind: api.Resize, Client: 1},
		{Kind: api.Resize, Client: 1 << 63, Seq: 1 << 62, Many: 1 << 31},
		{Kind: api.Open, Client: 127},
		{Kind: api.Open, Client: 128, Seq: 1},
		{Kind: api.Add, Node: 1},
		{Kind: api.Add, Node: api.MaxNodes},
		{Kind: api.Remove, Node: 1},
		{Kind: api.Remove, Node: api.MaxNodes},
		{Kind: api.Register, Node: 1, Level: 1},
		{Kind: api.Register, Node: api.MaxNodes, Level: 2},
		{Kind: api.Swap, Client: 1},
		{Kind: api.Swap, Client: 1, Data: "x"},
		{Kind: api.Swap, Client: 1, Old: "x"},
		{Kind: api.Swap, Client: 1, Data: "\x00", Old: "\x00"},
		{Kind: api.Swap, Client: 7, Seq: 8, Block: 9, Data: "new", Old: "old"},
		{Kind: api.Swap, Client: 7, Seq: 8, Block: 9, Data: "old", Old: "new"},
		{Kind: api.Swap, Client: ones, Seq: ones, Block: 1<<32 - 1, Data: mixed(api.Sector), Old: high},
	} {
		for _, place := range [][2]uint64{{1, 1}, {2, 3}, {127, 128}, {16383, 16384}, {1 << 62, 1 << 63}, {ones, ones}} {
			e.Term, e.Index = place[0], place[1]
			list = append(list, e)
		}
	}
	return list
}

// wrongEntries are some that may not be put.
func wrongEntries() []api.Entry {
	list := []api.Entry{
		{},
		{Term: 1},
		{Index: 1},
		{Term: 1, Index: 1, Kind: api.Add},
		{Term: 1, Index: 1, Kind: api.Register, Node: 1},
		{Term: 1, Index: 1, Kind: api.Register, Level: 1},
		{Term: 1, Index: 1, Kind: api.Register, Node: 1, Level: 3},
		{Term: 1, Index: 1, Kind: api.Noop, Data: "x"},
		{Term: 1, Index: 1, Kind: api.Open, Client: 1, Block: 1},
		{Term: 1, Index: 1, Kind: api.Trim, Client: 1, Many: 1 << 32},
		{Term: 1, Index: 1, Kind: api.Write, Client: 1, Old: "x"},
		{Term: 1, Index: 1, Kind: api.Write, Client: 1, Many: 1},
	}
	for _, kind := range []int{math.MinInt, -1, 12, 13, 127, 128, 255, 256, 1 << 32, 1<<32 + 1, math.MaxInt} {
		list = append(list, api.Entry{Term: 1, Index: 1, Kind: kind}, api.Entry{Term: 1, Index: 1, Kind: kind, Client: 1, Data: "x"})
	}
	for _, node := range []int{math.MinInt, -1, 0, 8, 128, 257, 1<<32 + 1, math.MaxInt} {
		list = append(list, api.Entry{Term: 1, Index: 1, Kind: api.Add, Node: node}, api.Entry{Term: 1, Index: 1, Kind: api.Register, Node: 1, Level: node})
	}
	for _, turn := range []func(e *api.Entry){
		func(e *api.Entry) { e.Term = 0 },
		func(e *api.Entry) { e.Index = 0 },
		func(e *api.Entry) { e.Client = 0 },
		func(e *api.Entry) { e.Block = 1 << 32 },
		func(e *api.Entry) { e.Block = ones },
		func(e *api.Entry) { e.Many = 1 },
		func(e *api.Entry) { e.Node = 1 },
		func(e *api.Entry) { e.Node = -1 },
		func(e *api.Entry) { e.Level = 2 },
		func(e *api.Entry) { e.Data = mixed(65) },
		func(e *api.Entry) { e.Data = mixed(100000) },
		func(e *api.Entry) { e.Old = mixed(65) },
		func(e *api.Entry) { e.Old = mixed(128) },
	} {
		x := api.Entry{Term: 1, Index: 1, Kind: api.Swap, Client: 1, Data: "x", Old: "y"}
		turn(&x)
		list = append(list, x)
	}
	return list
}

// got asks whether at the beginning of s stands that entry, with so many bytes behind it.
func got(t *testing.T, s string, want api.Entry, left int) {
	t.Helper()
	r := varint.New(s)
	if e := Get(r); e != want || !r.OK() || r.Left() != left {
		t.Errorf("Get of %x is %+v, OK %v, %d left, not %+v", s, e, r.OK(), r.Left(), want)
	}
}

// none asks whether at the beginning of s stands no entry.
func none(t *testing.T, what, s string) {
	t.Helper()
	r := varint.New(s)
	if e := Get(r); e != (api.Entry{}) || r.OK() || r.Left() != 0 {
		t.Errorf("%s: Get of %x is %+v, OK %v, %d left", what, s[:min(len(s), 200)], e, r.OK(), r.Left())
	}
}

// P6.1: the fields that are not 0, or empty, by their tags, rising, and the end.
func TestPut(t *testing.T) {
	for _, c := range []struct {
		e    api.Entry
		want string
	}{
		{api.Entry{Term: 1, Index: 1}, "\x02\x01\x03\x01\x00"},
		{api.Entry{Term: 300, Index: 127, Kind: api.Finalise}, "\x01\x0a\x02\xac\x02\x03\x7f\x00"},
		{api.Entry{Term: ones, Index: 1 << 63, Kind: api.Lower}, "\x01\x09" + "\x02" + strings.Repeat("\xff", 9) + "\x01" + "\x03" + strings.Repeat("\x80", 9) + "\x01" + "\x00"},
		{api.Entry{Term: 1, Index: 2, Kind: api.Trim, Client: 3, Seq: 4, Block: 5, Many: 6}, "\x01\x02\x02\x01\x03\x02\x04\x03\x05\x04\x06\x05\x07\x06\x00"},
		{api.Entry{Term: 1, Index: 2, Kind: api.Trim, Client: 3, Many: 128}, "\x01\x02\x02\x01\x03\x02\x04\x03\x07\x80\x01\x00"},
		{api.Entry{Term: 1, Index: 2, Kind: api.Register, Node: 7, Level: 2}, "\x01\x07\x02\x01\x03\x02\x08\x07\x09\x02\x00"},
		{api.Entry{Term: 1, Index: 2, Kind: api.Swap, Client: 3, Data: "\x00\xff", Old: "abc"}, "\x01\x0b\x02\x01\x03\x02\x04\x03\x0a\x02\x00\xff\x0b\x03abc\x00"},
		{api.Entry{Term: 1, Index: 2, Kind: api.Write, Client: 3, Data: strings.Repeat("d", 64)}, "\x01\x01\x02\x01\x03\x02\x04\x03\x0a\x40" + strings.Repeat("d", 64) + "\x00"},
	} {
		if s, ok := Put(c.e); s != c.want || !ok {
			t.Errorf("Put(%+v) is %x, %v, not %x", c.e, s, ok, c.want)
		}
	}
}

// P6.1: an entry of each kind, of both levels, as low and as high as it may be.
func TestPutKinds(t *testing.T) {
	for _, e := range entries() {
		if s, ok := Put(e); s != bytesOf(e) || !ok {
			t.Errorf("Put(%+v) is %x, %v, not %x", e, s, ok, bytesOf(e))
		}
	}
}

// P6.1: what is not Right is not put.
func TestPutRefuses(t *testing.T) {
	for _, e := range wrongEntries() {
		if s, ok := Put(e); s != "" || ok {
			t.Errorf("Put(%+v) is %x, %v", e, s, ok)
		}
	}
}

// P6.1: what was put, whatever stands behind it.
func TestGet(t *testing.T) {
	for _, e := range entries() {
		s := bytesOf(e)
		for _, behind := range []string{"", "x", "\x00", "\xff", s, mixed(1000)} {
			got(t, s+behind, e, len(behind))
		}
	}
}

// P6.1: entries one behind the other, and wherever the reader is.
func TestGetInARow(t *testing.T) {
	for _, ahead := range []string{"", "x", mixed(109)} {
		list := entries()
		s := ahead
		for _, e := range list {
			s += bytesOf(e)
		}
		r := varint.New(s)
		r.Bytes(len(ahead))
		left := r.Left()
		for at, e := range list {
			left -= len(bytesOf(e))
			if Get(r) != e || !r.OK() || r.Left() != left {
				t.Fatalf("at %d: OK %v, %d left", at, r.OK(), r.Left())
			}
		}
		if e := Get(r); e != (api.Entry{}) || r.OK() {
			t.Errorf("behind all stands %+v", e)
		}
	}
}

// P6.1: too few bytes.
func TestGetCut(t *testing.T) {
	for _, e := range entries() {
		s := bytesOf(e)
		for cut := range s {
			none(t, "cut", s[:cut])
			r := varint.New(s + s[:cut])
			if a, b := Get(r), Get(r); a != e || b != (api.Entry{}) || r.OK() {
				t.Errorf("cut at %d behind another: %+v", cut, b)
			}
		}
	}
}

// P6.1: a reader that failed has none.
func TestGetFailed(t *testing.T) {
	r := varint.New(bytesOf(api.Entry{Term: 1, Index: 1}))
	r.Fail()
	for range 2 {
		if e := Get(r); e != (api.Entry{}) || r.OK() {
			t.Errorf("it is %+v", e)
		}
	}
	r = varint.New(bytesOf(api.Entry{}) + bytesOf(api.Entry{Term: 1, Index: 1}))
	for range 2 {
		if e := Get(r); e != (api.Entry{}) || r.OK() || r.Left() != 0 {
			t.Errorf("behind a wrong one: %+v, OK %v, %d left", e, r.OK(), r.Left())
		}
	}
}

// P6.1: bytes that are no fields, or of which the entry is not Right.
func TestGetFails(t *testing.T) {
	for _, s := range []string{"", "\x00", "\x00\x00", strings.Repeat("\x00", 110), strings.Repeat("\x01", 110), strings.Repeat("\xff", 110), mixed(110), mixed(1000)} {
		none(t, "no fields", s)
	}
	for _, e := range wrongEntries() {
		none(t, "not right", bytesOf(e))
		none(t, "not right, with more behind", bytesOf(e)+"behind")
	}
	for kind := range 300 {
		if _, there := entry.Fields(kind); !there {
			none(t, "no kind", bytesOf(api.Entry{Term: 1, Index: 1, Kind: kind}))
			none(t, "no kind", bytesOf(api.Entry{Term: 1, Index: 1, Kind: kind, Client: 1, Node: 1}))
		}
	}
	// What is a kind, a node, a level, if but its lowest bits are taken.
	for _, high := range []uint64{1 << 8, 1 << 16, 1 << 31, 1 << 32, 1 << 62, 1 << 63} {
		none(t, "a great kind", spell(map[uint64]uint64{1: high, 2: 1, 3: 1}, nil)+"\x00")
		none(t, "a great kind", spell(map[uint64]uint64{1: high + api.Open, 2: 1, 3: 1, 4: 1}, nil)+"\x00")
		none(t, "a great node", spell(map[uint64]uint64{1: api.Add, 2: 1, 3: 1, 8: high + 1}, nil)+"\x00")
		none(t, "a great level", spell(map[uint64]uint64{1: api.Register, 2: 1, 3: 1, 8: 1, 9: high + 1}, nil)+"\x00")
		if high > math.MaxUint32-1 {
			none(t, "a great block", spell(map[uint64]uint64{1: api.Write, 2: 1, 3: 1, 4: 1, 6: high + 1}, nil)+"\x00")
			none(t, "a great many", spell(map[uint64]uint64{1: api.Resize, 2: 1, 3: 1, 4: 1, 7: high + 1}, nil)+"\x00")
		}
	}
}

// full is the fields of a Swap that has all it may have, one by one.
func full() []string {
	return []string{"\x01\x0b", "\x02\x01", "\x03\x02", "\x04\x03", "\x05\x04", "\x06\x05", "\x0a\x01d", "\x0b\x01o"}
}

// P6.1: tags rise, none comes twice, and there are no others.
func TestGetTags(t *testing.T) {
	e := api.Entry{Term: 1, Index: 2, Kind: api.Swap, Client: 3, Seq: 4, Block: 5, Data: "d", Old: "o"}
	got(t, strings.Join(full(), "")+"\x00", e, 0)
	for a := range full() {
		twice := slices.Insert(full(), a, full()[a])
		none(t, "a tag twice", strings.Join(twice, "")+"\x00")
		for b := range a {
			turned := full()
			turned[a], turned[b] = turned[b], turned[a]
			none(t, "tags that fall", strings.Join(turned, "")+"\x00")
			again := append(full()[:a+1], full()[b:]...)
			none(t, "a tag again", strings.Join(again, "")+"\x00")
		}
	}
	for _, tag := range []uint64{12, 13, 16, 100, 127, 128, 129, 138, 256, 257, 258, 1 << 32, 1<<32 + 2, 1 << 63, 1<<63 + 2, ones - 1, ones} {
		for at := range len(full()) + 1 {
			for _, what := range []string{"\x01", "\x01x", "\x00"} {
				more := slices.Insert(full(), at, uvar(tag)+what)
				none(t, "no tag", strings.Join(more, "")+"\x00")
			}
		}
	}
	// Up to its Client it is none yet; from then on what stands ahead of the end is one.
	for at := range len(full()) + 1 {
		s := strings.Join(full()[:at], "") + "\x00"
		behind := strings.Join(full()[at:], "") + "\x00"
		if at < 4 {
			none(t, "an end too early", s+behind)
			continue
		}
		r := varint.New(s + behind)
		if e := Get(r); !r.OK() || bytesOf(e) != s || r.Left() != len(behind) {
			t.Errorf("an end at %d: %+v", at, e)
		}
	}
}

// P6.1: a field that is 0, or empty, is left out, and not put as such.
func TestGetNought(t *testing.T) {
	for tag := uint64(1); tag <= 11; tag++ {
		for _, have := range []map[uint64]uint64{{2: 1, 3: 1}, {1: api.Write, 2: 1, 3: 1, 4: 1}, {1: api.Swap, 2: 1, 3: 1, 4: 1}, {1: api.Register, 2: 1, 3: 1, 8: 1, 9: 1}} {
			if have[tag] != 0 {
				continue
			}
			// Between those ahead of it and those behind.
			ahead, behind := map[uint64]uint64{}, map[uint64]uint64{}
			for k, n := range have {
				if k < tag {
					ahead[k] = n
				} else {
					behind[k] = n
				}
			}
			none(t, "nought", spell(ahead, nil)+uvar(tag)+"\x00"+spell(behind, nil)+"\x00")
		}
	}
}

// P6.1: numbers, tags and lengths that are written longer than they need be, or have more than 64 bits.
func TestGetLonger(t *testing.T) {
	for k, f := range full() {
		for _, n := range []int{2, 3, 9, 10, 11} {
			for _, longer := range []string{
				long(uint64(f[0]), n) + f[1:],
				f[:1] + long(uint64(f[1]), n) + f[2:],
			} {
				list := full()
				list[k] = longer
				none(t, "longer", strings.Join(list, "")+"\x00")
			}
		}
		list := full()
		list[k] = f[:1] + strings.Repeat("\xff", 9) + "\x02"
		none(t, "more than 64 bits", strings.Join(list, "")+"\x00")
	}
	for n := 2; n < 12; n++ {
		none(t, "a long end", "\x02\x01\x03\x01"+long(0, n))
	}
}

// P6.1: how many bytes a text has.
func TestGetTexts(t *testing.T) {
	head := strings.Join(full()[:6], "")
	e := api.Entry{Term: 1, Index: 2, Kind: api.Swap, Client: 3, Seq: 4, Block: 5}
	for n := 1; n < 300; n++ {
		s := mixed(n)
		data, old := head+"\x0a"+textOf(s)+"\x00", head+"\x0b"+textOf(s)+"\x00"
		if n > api.Sector {
			none(t, "long Data", data)
			none(t, "long Old", old)
			continue
		}
		a, b := e, e
		a.Data, b.Old = s, s
		got(t, data, a, 0)
		got(t, old, b, 0)
	}
	for _, n := range []uint64{5, 6, 64, 65, 1 << 20, 1 << 31, 1 << 32, 1<<32 + 1, math.MaxInt, 1 << 63, 1<<63 + 1, ones} {
		none(t, "too few bytes of Data", head+"\x0a"+uvar(n)+"abc\x00")
		none(t, "too few bytes of Old", head+"\x0b"+uvar(n)+"abc\x00")
	}
}

// P6.1: a field that the kind has not is refused, and one that it has is read to all its bits.
func TestGetFields(t *testing.T) {
	letter := map[uint64]string{4: "c", 5: "c", 6: "b", 7: "m", 8: "n", 9: "l", 10: "d", 11: "o"}
	for kind := api.Noop; kind <= api.Swap; kind++ {
		letters, _ := entry.Fields(kind)
		least := api.Entry{Term: 1, Index: 1, Kind: kind}
		if strings.Contains(letters, "c") {
			least.Client = 1
		}
		if strings.Contains(letters, "n") {
			least.Node = 1
		}
		if strings.Contains(letters, "l") {
			least.Level = 1
		}
		got(t, bytesOf(least), least, 0)
		for tag, l := range letter {
			e := least
			switch tag {
			case 4:
				e.Client = 1 << 63
			case 5:
				e.Seq = 1<<56 + 1
			case 6:
				e.Block = 1<<32 - 1
			case 7:
				e.Many = 1<<32 - 2
			case 8:
				e.Node = 6
			case 9:
				e.Level = 2
			case 10:
				e.Data = "\x00d"
			case 11:
				e.Old = "\x00o"
			}
			if strings.Contains(letters, l) {
				got(t, bytesOf(e), e, 0)
			} else {
				none(t, "a field that it has not", bytesOf(e))
			}
		}
	}
}

// P6.3: what was put is got; and no two have the same bytes, nor is one the beginning of another.
func TestPutIsGot(t *testing.T) {
	var all []string
	for _, e := range entries() {
		s, ok := Put(e)
		if !ok {
			t.Fatalf("Put(%+v) is refused", e)
		}
		got(t, s, e, 0)
		all = append(all, s)
	}
	for a, s := range all {
		for b, other := range all {
			if a != b && strings.HasPrefix(s, other) {
				t.Errorf("%+v begins as %+v", entries()[a], entries()[b])
			}
		}
	}
}

// fieldsOf reads, by the library, fields at the beginning of s, in whatever order, however long, up to the tag 0, or the tag stop: which of the two it was (at 0), the numbers, the texts, and what stands behind; false, if they are cut.
func fieldsOf(s string, stop uint64) (numbers map[uint64]uint64, texts map[uint64]string, rest string, ok bool) {
	numbers, texts = map[uint64]uint64{}, map[uint64]string{}
	for {
		tag, size := binary.Uvarint([]byte(s))
		if size <= 0 {
			return nil, nil, "", false
		}
		s = s[size:]
		if tag == 0 || tag == stop {
			numbers[0] = tag
			return numbers, texts, s, true
		}
		n, size := binary.Uvarint([]byte(s))
		if size <= 0 {
			return nil, nil, "", false
		}
		s = s[size:]
		if tag < 10 {
			numbers[tag] = n
			continue
		}
		if n > uint64(len(s)) {
			return nil, nil, "", false
		}
		texts[tag], s = s[:n], s[n:]
	}
}

// entryOf is the entry that stands at the beginning of s, and what is behind it: read by the library, and spelt out again.
func entryOf(s string) (e api.Entry, rest string, ok bool) {
	n, x, rest, ok := fieldsOf(s, 0)
	if !ok {
		return api.Entry{}, "", false
	}
	e = api.Entry{Kind: int(n[1]), Term: n[2], Index: n[3], Client: n[4], Seq: n[5], Block: n[6], Many: n[7], Node: int(n[8]), Level: int(n[9]), Data: x[10], Old: x[11]}
	return e, rest, entry.Right(e) && bytesOf(e)+rest == s
}

// gotIsPut reads an entry of s, and asks whether it is what the chapter asks for, and is put so.
func gotIsPut(t *testing.T, s string) {
	t.Helper()
	want, rest, ok := entryOf(s)
	if !ok {
		none(t, "held against another reading", s)
		return
	}
	got(t, s, want, len(rest))
	if again, ok := Put(want); !ok || again+rest != s {
		t.Errorf("of %x is read %+v, which is put %x, %v", s, want, again, ok)
	}
}

// P6.1, P6.3: bytes of which one is turned, is gone, or comes twice are read as what is put so, or refused.
func TestGotIsPut(t *testing.T) {
	for at, e := range entries() {
		s := bytesOf(e)
		if t.Failed() {
			return
		}
		for k := range s {
			for bit := range 8 {
				b := []byte(s)
				b[k] ^= 1 << bit
				gotIsPut(t, string(b)+"more"[:bit/2])
			}
			gotIsPut(t, s[:k]+s[k+1:])
			gotIsPut(t, s[:k]+s[k:k+1]+s[k:])
			if at%6 == 0 && len(s) < 30 {
				for b := range 256 {
					gotIsPut(t, s[:k]+string([]byte{byte(b)})+s[k+1:])
				}
			}
		}
	}
}

// P6.3: all texts of a few small bytes are read as what is put so, or refused.
func TestGotIsPutSmall(t *testing.T) {
	for n := range 12 * 12 * 12 * 12 {
		if t.Failed() {
			return
		}
		b := []byte("\x02\x01\x03\x01\x00\x00\x00\x00\x00")
		for k := range 4 {
			b[4+k] = byte(n % 12)
			n /= 12
		}
		gotIsPut(t, string(b))
		gotIsPut(t, string(b[4:]))
		gotIsPut(t, "\x01\x01"+string(b))
	}
}

// Of any bytes what is read is put so; and nothing panics.
func FuzzGet(f *testing.F) {
	for _, e := range entries() {
		f.Add(bytesOf(e))
	}
	f.Fuzz(gotIsPut)
}

// The rules that hold everywhere: what is answered shares no memory with what was handed in.
func TestNewMemory(t *testing.T) {
	s := bytesOf(api.Entry{Term: 1, Index: 1, Kind: api.Swap, Client: 1, Data: mixed(64), Old: mixed(63)})
	e := Get(varint.New(s))
	from, to := uintptr(unsafe.Pointer(unsafe.StringData(s))), uintptr(unsafe.Pointer(unsafe.StringData(s)))+uintptr(len(s))
	for _, text := range []string{e.Data, e.Old} {
		if at := uintptr(unsafe.Pointer(unsafe.StringData(text))); from <= at && at < to {
			t.Error("what is answered is a part of what was handed in")
		}
	}
}

// The rules that hold everywhere: one reading is told as another one of the same bytes is.
func TestReadersApart(t *testing.T) {
	e := api.Entry{Term: 1, Index: 1, Kind: api.Write, Client: 1, Data: "ab"}
	a, b := varint.New(bytesOf(e)), varint.New(bytesOf(e))
	a.Fail()
	Get(a)
	if x := Get(b); x != e || !b.OK() {
		t.Errorf("the other reads %+v", x)
	}
	got(t, bytesOf(e), e, 0)
}

func BenchmarkPut(b *testing.B) {
	e := api.Entry{Term: 1, Index: 1, Kind: api.Write, Client: 1, Data: mixed(64)}
	for range b.N {
		Put(e)
	}
}

func BenchmarkGet(b *testing.B) {
	s := bytesOf(api.Entry{Term: 1, Index: 1, Kind: api.Write, Client: 1, Data: mixed(64)})
	for range b.N {
		Get(varint.New(s))
	}
}
