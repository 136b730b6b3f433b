package first

import (
	"encoding/binary"
	"math"
	"slices"
	"strings"
	"testing"
	"unsafe"

	"pintle/api"
	"pintle/entry"
)

// Where the fields of a message's bytes begin, as the chapter lists them.
const (
	fromAt       = 1
	toAt         = 2
	msgTermAt    = 3
	msgIndexAt   = 11
	prevAt       = 19
	commitAt     = 27
	markAt       = 35
	okAt         = 43
	manyEntries  = 44
	firstEntryAt = 45
)

// bytesOfMsg is what the chapter asks for of a message, spelt out by the library, right or not.
func bytesOfMsg(m api.Msg) string {
	b := []byte{byte(m.Kind), byte(m.From), byte(m.To)}
	for _, n := range []uint64{m.Term, m.Index, m.Prev, m.Commit, m.Mark} {
		b = binary.BigEndian.AppendUint64(b, n)
	}
	ok := byte(0)
	if m.OK {
		ok = 1
	}
	b = append(b, ok, byte(len(m.Entries)))
	for _, e := range m.Entries {
		b = append(b, bytesOf(e)...)
	}
	b = binary.BigEndian.AppendUint32(b, uint32(len(m.Snap)))
	return string(append(b, m.Snap...))
}

// noops is so many right entries.
func noops(n int) []api.Entry {
	l := make([]api.Entry, n)
	for k := range l {
		l[k] = api.Entry{Term: 1, Index: uint64(k) + 1}
	}
	return l
}

// msgs are some that are right, and of level 1, of each kind.
func msgs() []api.Msg {
	var list []api.Msg
	for _, m := range []api.Msg{
		{Kind: api.Ask},
		{Kind: api.Ask, Index: 1, Prev: 2},
		{Kind: api.Would},
		{Kind: api.Would, OK: true},
		{Kind: api.Vote, Index: ones, Prev: ones},
		{Kind: api.Voted},
		{Kind: api.Voted, OK: true},
		{Kind: api.Append},
		{Kind: api.Append, Index: 1, Prev: 2, Commit: 3, Mark: 4},
		{Kind: api.Append, Index: 0x1112131415161718, Prev: 0x2122232425262728, Commit: 0x3132333435363738, Mark: 0x4142434445464748, Entries: noops(1)},
		{Kind: api.Append, Index: ones, Prev: ones, Commit: ones, Mark: ones, Entries: noops(2)},
		{Kind: api.Append, Entries: entries()[:63]},
		{Kind: api.Append, Entries: entries()[30:94]},
		{Kind: api.Append, Entries: noops(api.MaxEntries)},
		{Kind: api.Appended},
		{Kind: api.Appended, Index: 1 << 63, Mark: 1, OK: true},
		{Kind: api.Appended, Index: 1, Mark: 1 << 63},
		{Kind: api.Install},
		{Kind: api.Install, Index: 5, Prev: 6, Snap: "snap"},
		{Kind: api.Install, Index: 5, Prev: 6, Snap: "\x00"},
		{Kind: api.Install, Snap: mixed(255)},
		{Kind: api.Install, Snap: mixed(256)},
		{Kind: api.Install, Snap: mixed(api.MaxBytes - 1)},
		{Kind: api.Install, Snap: mixed(api.MaxBytes)},
		{Kind: api.Taken},
		{Kind: api.Taken, Index: 1 << 40},
	} {
		for _, head := range []struct {
			from, to int
			term     uint64
		}{{1, 2, 0}, {7, 1, 1}, {3, 3, 0x0102030405060708}, {7, 7, ones}} {
			m.From, m.To, m.Term = head.from, head.to, head.term
			list = append(list, m)
		}
	}
	return list
}

// wrongMsgs are some that may not be put, in version 1.
func wrongMsgs() []api.Msg {
	list := []api.Msg{
		{},
		{Kind: api.Probe, From: 1, To: 2},
		{Kind: api.Probe, From: 1, To: 2, Term: 3, Mark: 4},
		{Kind: api.Probed, From: 1, To: 2, Term: 3, Mark: 4},
		{Kind: api.Voted},
		{Kind: api.Voted, From: 1},
		{Kind: api.Voted, To: 1},
		{Kind: api.Voted, From: 8, To: 1},
		{Kind: api.Voted, From: 1, To: 8},
		{Kind: api.Voted, From: -1, To: 1},
		{Kind: api.Voted, From: 1, To: 257},
		{Kind: api.Append, From: 1, To: 2, OK: true},
		{Kind: api.Append, From: 1, To: 2, Snap: "s"},
		{Kind: api.Ask, From: 1, To: 2, Commit: 1},
		{Kind: api.Ask, From: 1, To: 2, Mark: 1},
		{Kind: api.Would, From: 1, To: 2, Index: 1},
		{Kind: api.Appended, From: 1, To: 2, Prev: 1},
		{Kind: api.Vote, From: 1, To: 2, Entries: noops(1)},
		{Kind: api.Install, From: 1, To: 2, OK: true},
		{Kind: api.Install, From: 1, To: 2, Snap: mixed(api.MaxBytes + 1)},
		{Kind: api.Install, From: 1, To: 2, Snap: mixed(1 << 17)},
		{Kind: api.Append, From: 1, To: 2, Entries: noops(api.MaxEntries + 1)},
		{Kind: api.Append, From: 1, To: 2, Entries: noops(255)},
		{Kind: api.Append, From: 1, To: 2, Entries: noops(256)},
		{Kind: api.Append, From: 1, To: 2, Entries: noops(257)},
	}
	for _, kind := range []int{math.MinInt, -1, 0, 11, 12, 255, 256, 257, 261, 1<<32 + 5, math.MaxInt} {
		list = append(list, api.Msg{Kind: kind, From: 1, To: 2})
	}
	for _, e := range wrongEntries() {
		for at := range 3 {
			l := noops(3)
			l[at] = e
			list = append(list, api.Msg{Kind: api.Append, From: 1, To: 2, Entries: l})
		}
	}
	return list
}

// nothing says whether m is the message of nothing.
func nothing(m api.Msg) bool {
	return entry.MsgSame(m, api.Msg{})
}

// noMsg asks whether s is no message.
func noMsg(t *testing.T, what string, s string) {
	t.Helper()
	if m, ok := GetMsg(s); ok || !nothing(m) {
		t.Errorf("%s: GetMsg of %x is %+v, %v", what, s[:min(len(s), 200)], m, ok)
	}
}

// P5.2: so many bytes each, in that order.
func TestPutMsg(t *testing.T) {
	w := api.Entry{Term: 9, Index: 8, Kind: api.Write, Client: 1, Data: "ab"}
	n := api.Entry{Term: 1, Index: 2}
	for _, c := range []struct {
		m    api.Msg
		want string
	}{
		{
			api.Msg{Kind: api.Append, From: 1, To: 7, Term: 0x0102030405060708, Index: 0x1112131415161718, Prev: 0x2122232425262728, Commit: 0x3132333435363738, Mark: 0x4142434445464748, Entries: []api.Entry{w, n}},
			"\x05\x01\x07" + "\x01\x02\x03\x04\x05\x06\x07\x08" + "\x11\x12\x13\x14\x15\x16\x17\x18" + "\x21\x22\x23\x24\x25\x26\x27\x28" + "\x31\x32\x33\x34\x35\x36\x37\x38" + "\x41\x42\x43\x44\x45\x46\x47\x48" + "\x00" + "\x02" + bytesOf(w) + bytesOf(n) + "\x00\x00\x00\x00",
		},
		{
			api.Msg{Kind: api.Voted, From: 2, To: 3, Term: 1, OK: true},
			"\x04\x02\x03" + "\x00\x00\x00\x00\x00\x00\x00\x01" + strings.Repeat("\x00", 32) + "\x01" + "\x00" + "\x00\x00\x00\x00",
		},
		{
			api.Msg{Kind: api.Voted, From: 2, To: 3, Term: 1},
			"\x04\x02\x03" + "\x00\x00\x00\x00\x00\x00\x00\x01" + strings.Repeat("\x00", 32) + "\x00" + "\x00" + "\x00\x00\x00\x00",
		},
		{
			api.Msg{Kind: api.Install, From: 2, To: 3, Snap: "\x00\xffs"},
			"\x07\x02\x03" + strings.Repeat("\x00", 40) + "\x00" + "\x00" + "\x00\x00\x00\x03\x00\xffs",
		},
		{
			api.Msg{Kind: api.Install, From: 2, To: 3, Snap: strings.Repeat("s", 0x0102)},
			"\x07\x02\x03" + strings.Repeat("\x00", 40) + "\x00" + "\x00" + "\x00\x00\x01\x02" + strings.Repeat("s", 0x0102),
		},
	} {
		if s, ok := PutMsg(c.m); s != c.want || !ok {
			t.Errorf("PutMsg(%s) is %x, %v, not %x", entry.MsgText(c.m), s, ok, c.want)
		}
	}
}

// P5.2: a message of each kind, as low and as high as it may be.
func TestPutMsgKinds(t *testing.T) {
	for _, m := range msgs() {
		if s, ok := PutMsg(m); s != bytesOfMsg(m) || !ok {
			t.Errorf("PutMsg(%s) is %x, %v", entry.MsgText(m), s, ok)
		}
	}
	none, empty := api.Msg{Kind: api.Append, From: 1, To: 2}, api.Msg{Kind: api.Append, From: 1, To: 2, Entries: []api.Entry{}}
	a, _ := PutMsg(none)
	if b, ok := PutMsg(empty); a != b || !ok {
		t.Errorf("of an empty list: %x, %v", b, ok)
	}
}

// P5.2: what may not be, or is of level 2, is not put.
func TestPutMsgRefuses(t *testing.T) {
	for _, m := range wrongMsgs() {
		if s, ok := PutMsg(m); s != "" || ok {
			t.Errorf("PutMsg(%.200s) is of %d bytes, %v", entry.MsgText(m), len(s), ok)
		}
	}
}

// P5.2: what was put, all of s.
func TestGetMsg(t *testing.T) {
	for _, m := range msgs() {
		s := bytesOfMsg(m)
		if got, ok := GetMsg(s); !ok || !entry.MsgSame(got, m) {
			t.Errorf("GetMsg of %s is %s, %v", entry.MsgText(m), entry.MsgText(got), ok)
		}
		for _, behind := range []string{"\x00", "x", "\xff", s, bytesOf(api.Entry{Term: 1, Index: 1})} {
			noMsg(t, "with more behind", s+behind)
		}
	}
}

// P5.2: too few bytes.
func TestGetMsgCut(t *testing.T) {
	for _, m := range []api.Msg{
		{Kind: api.Ask, From: 1, To: 2, Index: 1, Prev: 2},
		{Kind: api.Voted, From: 1, To: 2, OK: true},
		{Kind: api.Append, From: 1, To: 2, Entries: noops(3)},
		{Kind: api.Append, From: 1, To: 2, Entries: []api.Entry{{Term: 1, Index: 1, Kind: api.Write, Client: 1, Data: "\x00\x00"}}},
		{Kind: api.Install, From: 1, To: 2, Snap: mixed(300)},
	} {
		s := bytesOfMsg(m)
		for cut := range s {
			noMsg(t, "cut", s[:cut])
			noMsg(t, "cut ahead", s[cut+1:])
		}
	}
}

// P5.2: bytes that PutMsg puts of no message, though all is there.
func TestGetMsgFails(t *testing.T) {
	for _, s := range []string{"", strings.Repeat("\x00", 49), strings.Repeat("\x01", 49), strings.Repeat("\xff", 49), mixed(49), mixed(500)} {
		noMsg(t, "no message", s)
	}
	for kind := range 256 {
		if kind >= api.Ask && kind <= api.Taken {
			continue
		}
		noMsg(t, "kind", bytesOfMsg(api.Msg{Kind: kind, From: 1, To: 2, Term: 1}))
		noMsg(t, "kind with a mark", bytesOfMsg(api.Msg{Kind: kind, From: 1, To: 2, Term: 1, Mark: 1}))
	}
	for node := range 256 {
		if node < 1 || node > api.MaxNodes {
			noMsg(t, "from", bytesOfMsg(api.Msg{Kind: api.Voted, From: node, To: 1}))
			noMsg(t, "to", bytesOfMsg(api.Msg{Kind: api.Voted, From: 1, To: node}))
		}
	}
	for _, m := range wrongMsgs() {
		if inBytes(m) {
			noMsg(t, "wrong", bytesOfMsg(m))
		}
	}
}

// inBytes says whether the bytes of a message that is wrong tell what is wrong of it.
func inBytes(m api.Msg) bool {
	small := func(n int) bool { return n >= 0 && n < 256 }
	right := small(m.Kind) && small(m.From) && small(m.To) && len(m.Entries) < 256
	return right && !slices.ContainsFunc(m.Entries, func(e api.Entry) bool {
		return !small(e.Kind) || !small(e.Node) || !small(e.Level) || e.Block >= 1<<32 || e.Many >= 1<<32 || e.Old != ""
	})
}

// P5.2: OK is 1 or 0, and nothing else.
func TestGetMsgOK(t *testing.T) {
	for _, m := range []api.Msg{{Kind: api.Voted, From: 1, To: 2}, {Kind: api.Appended, From: 1, To: 2, Index: 1}, {Kind: api.Ask, From: 1, To: 2}} {
		for b := range 256 {
			s := []byte(bytesOfMsg(m))
			s[okAt] = byte(b)
			may := b == 0 || b == 1 && m.Kind != api.Ask
			got, ok := GetMsg(string(s))
			if ok != may || got.OK != (may && b == 1) || !ok && !nothing(got) {
				t.Errorf("kind %d, OK %d: %+v, %v", m.Kind, b, got, ok)
			}
		}
	}
}

// P5.2: how many entries there are, and that each is one.
func TestGetMsgEntries(t *testing.T) {
	m := api.Msg{Kind: api.Append, From: 1, To: 2}
	for many := range 256 {
		m.Entries = noops(many)
		got, ok := GetMsg(bytesOfMsg(m))
		if may := many <= api.MaxEntries; ok != may || may && !entry.MsgSame(got, m) || !may && !nothing(got) {
			t.Errorf("of %d entries: %v, %d", many, ok, len(got.Entries))
		}
	}
	m.Entries = noops(3)
	for _, many := range []byte{0, 1, 2, 4, 64, 65, 255} {
		s := []byte(bytesOfMsg(m))
		s[manyEntries] = many
		noMsg(t, "another number of entries", string(s))
	}
	full := []byte(bytesOfMsg(api.Msg{Kind: api.Append, From: 1, To: 2, Entries: noops(api.MaxEntries)}))
	for many := api.MaxEntries + 1; many < 256; many++ {
		full[manyEntries] = byte(many)
		noMsg(t, "more than may be, of which not all are there", string(full))
	}
	for at := range 3 {
		for _, k := range []int{kindAt, sizeAt, dataAt, Size - 1} {
			s := []byte(bytesOfMsg(m))
			s[firstEntryAt+at*Size+k] = 0x80
			noMsg(t, "a wrong entry", string(s))
		}
	}
}

// P5.2: how many bytes Snap has.
func TestGetMsgSnap(t *testing.T) {
	m := api.Msg{Kind: api.Install, From: 1, To: 2, Snap: mixed(300)}
	head := bytesOfMsg(m)[:firstEntryAt]
	for _, n := range []uint32{0, 1, 299, 301, 1 << 8, 1 << 14, 1<<14 + 1, 1 << 16, 1<<16 + 300, 1<<31 - 1, 1 << 31, 1<<32 - 1} {
		noMsg(t, "another number of bytes", head+string(binary.BigEndian.AppendUint32(nil, n))+m.Snap)
	}
	for _, n := range []int{api.MaxBytes + 1, 2 * api.MaxBytes, 1 << 16, 1 << 20} {
		m.Snap = mixed(n)
		noMsg(t, "a snap that is too long", bytesOfMsg(m))
	}
}

// P5.3: what was put is got; and no two have the same bytes.
func TestMsgPutIsGot(t *testing.T) {
	of := map[string]api.Msg{}
	for _, m := range msgs() {
		s, ok := PutMsg(m)
		if !ok {
			t.Fatalf("PutMsg(%s) is refused", entry.MsgText(m))
		}
		if got, ok := GetMsg(s); !ok || !entry.MsgSame(got, m) {
			t.Errorf("%s is got as %s, %v", entry.MsgText(m), entry.MsgText(got), ok)
		}
		if other, there := of[s]; there {
			t.Errorf("%s and %s have the same bytes", entry.MsgText(m), entry.MsgText(other))
		}
		of[s] = m
	}
}

// msgGotIsPut asks whether what is read of s is put so.
func msgGotIsPut(t *testing.T, s string) {
	t.Helper()
	m, ok := GetMsg(s)
	if !ok {
		if !nothing(m) {
			t.Errorf("of %x: %+v", s, m)
		}
		return
	}
	if again, ok := PutMsg(m); !ok || again != s || bytesOfMsg(m) != s || entry.MsgLevel(m) != 1 {
		t.Errorf("of %x is read %s, which is put %x, %v", s, entry.MsgText(m), again, ok)
	}
}

// P5.2, P5.3: bytes of which one is turned are read as what is put so, or refused.
func TestMsgGotIsPut(t *testing.T) {
	for at, m := range msgs() {
		s := bytesOfMsg(m)
		if at%4 == 0 && len(s) < 1000 {
			for k := range len(s) {
				for bit := range 8 {
					b := []byte(s)
					b[k] ^= 1 << bit
					msgGotIsPut(t, string(b))
				}
			}
		}
	}
}

// P5.2: each byte of the numbers counts where the kind has the field, and is refused where it has not.
func TestGetMsgNumbers(t *testing.T) {
	for kind := api.Ask; kind <= api.Taken; kind++ {
		letters, _ := entry.MsgFields(kind)
		for _, f := range []struct {
			letter string
			at     int
			field  func(m api.Msg) uint64
		}{
			{"", msgTermAt, func(m api.Msg) uint64 { return m.Term }},
			{"i", msgIndexAt, func(m api.Msg) uint64 { return m.Index }},
			{"p", prevAt, func(m api.Msg) uint64 { return m.Prev }},
			{"t", commitAt, func(m api.Msg) uint64 { return m.Commit }},
			{"k", markAt, func(m api.Msg) uint64 { return m.Mark }},
		} {
			for k := range 8 {
				s := []byte(bytesOfMsg(api.Msg{Kind: kind, From: 1, To: 2}))
				s[f.at+k] = 0xa5
				m, ok := GetMsg(string(s))
				has := strings.Contains(letters, f.letter)
				if ok != has || has && f.field(m) != 0xa5<<(56-8*k) || !has && !nothing(m) {
					t.Errorf("kind %d, %q, byte %d: %+v, %v", kind, f.letter, k, m, ok)
				}
			}
		}
		for k, field := range map[int]func(m api.Msg) int{fromAt: func(m api.Msg) int { return m.From }, toAt: func(m api.Msg) int { return m.To }} {
			s := []byte(bytesOfMsg(api.Msg{Kind: kind, From: 1, To: 2}))
			s[k] = 6
			if m, ok := GetMsg(string(s)); !ok || field(m) != 6 {
				t.Errorf("kind %d, node at %d: %+v, %v", kind, k, m, ok)
			}
		}
	}
}

// Of any bytes what is read is put so; and nothing panics.
func FuzzGetMsg(f *testing.F) {
	for _, m := range msgs() {
		if len(m.Snap) < 1000 {
			f.Add(bytesOfMsg(m))
		}
	}
	f.Fuzz(msgGotIsPut)
}

// The rules that hold everywhere: nothing that is handed in is written into, nor what stands behind it.
func TestMsgNotWrittenInto(t *testing.T) {
	room := slices.Clone(entries()[:20])
	before := slices.Clone(room)
	m := api.Msg{Kind: api.Append, From: 1, To: 2, Entries: room[2:5]}
	s, _ := PutMsg(m)
	if !slices.Equal(room, before) {
		t.Errorf("it is %+v now", room)
	}
	a, _ := GetMsg(s)
	b, _ := GetMsg(s)
	clear(a.Entries[:cap(a.Entries)])
	if !slices.Equal(b.Entries, before[2:5]) {
		t.Error("two answers share their entries")
	}
	clear(room)
	if again, _ := PutMsg(b); again != s {
		t.Error("what was handed in is kept")
	}
}

// The rules that hold everywhere: what is answered shares no memory with what was handed in.
func TestMsgNewMemory(t *testing.T) {
	s := bytesOfMsg(api.Msg{Kind: api.Install, From: 1, To: 2, Snap: mixed(300)})
	if m, _ := GetMsg(s); unsafe.StringData(m.Snap) == unsafe.StringData(s[len(s)-300:]) {
		t.Error("Snap is a part of what was handed in")
	}
}

func BenchmarkPutMsg(b *testing.B) {
	m := api.Msg{Kind: api.Append, From: 1, To: 2, Entries: noops(api.MaxEntries)}
	for range b.N {
		PutMsg(m)
	}
}

func BenchmarkGetMsg(b *testing.B) {
	s := bytesOfMsg(api.Msg{Kind: api.Append, From: 1, To: 2, Entries: noops(api.MaxEntries)})
	for range b.N {
		GetMsg(s)
	}
}
