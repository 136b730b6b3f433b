package second

import (
	"encoding/binary"
	"math"
	"slices"
	"strings"
	"testing"
	"unsafe"

	"pintle/api"
	"pintle/entry"
)

// bytesOfMsg is what the chapter asks for of a message, spelt out by the library, right or not.
func bytesOfMsg(m api.Msg) string {
	numbers := map[uint64]uint64{1: uint64(m.Kind), 2: uint64(m.From), 3: uint64(m.To), 4: m.Term, 5: m.Index, 6: m.Prev, 7: m.Commit, 8: m.Mark}
	if m.OK {
		numbers[9] = 1
	}
	s := spell(numbers, map[uint64]string{10: m.Snap})
	if len(m.Entries) > 0 {
		s += "\x0b" + uvar(uint64(len(m.Entries)))
	}
	for _, e := range m.Entries {
		s += bytesOf(e)
	}
	return s + "\x00"
}

// noops is so many right entries.
func noops(n int) []api.Entry {
	l := make([]api.Entry, n)
	for k := range l {
		l[k] = api.Entry{Term: 1, Index: uint64(k) + 1}
	}
	return l
}

// msgs are some that are right, of each kind.
func msgs() []api.Msg {
	var list []api.Msg
	for _, m := range []api.Msg{
		{Kind: api.Ask},
		{Kind: api.Ask, Index: 1, Prev: 2},
		{Kind: api.Would},
		{Kind: api.Would, OK: true},
		{Kind: api.Vote, Index: ones, Prev: ones},
		{Kind: api.Voted},
		{Kind: api.Voted, OK: true},
		{Kind: api.Append},
		{Kind: api.Append, Index: 1, Prev: 2, Commit: 3, Mark: 4},
		{Kind: api.Append, Commit: 127, Mark: 128},
		{Kind: api.Append, Index: 1 << 8, Prev: 1 << 16, Commit: 1 << 32, Mark: 1 << 63, Entries: noops(1)},
		{Kind: api.Append, Index: ones, Prev: ones, Commit: ones, Mark: ones, Entries: noops(2)},
		{Kind: api.Append, Entries: []api.Entry{{Term: 1, Index: 1, Kind: api.Swap, Client: 1, Data: "new", Old: "old"}}},
		{Kind: api.Append, Entries: entries()[:63]},
		{Kind: api.Append, Entries: entries()[len(entries())-64:]},
		{Kind: api.Append, Entries: noops(api.MaxEntries)},
		{Kind: api.Appended},
		{Kind: api.Appended, Index: 1 << 63, Mark: 1, OK: true},
		{Kind: api.Appended, Index: 1, Mark: 1 << 63},
		{Kind: api.Install},
		{Kind: api.Install, Index: 5, Prev: 6, Snap: "snap"},
		{Kind: api.Install, Index: 5, Prev: 6, Snap: "\x00"},
		{Kind: api.Install, Snap: mixed(127)},
		{Kind: api.Install, Snap: mixed(128)},
		{Kind: api.Install, Snap: mixed(api.MaxBytes - 1)},
		{Kind: api.Install, Snap: mixed(api.MaxBytes)},
		{Kind: api.Taken},
		{Kind: api.Taken, Index: 1 << 40},
		{Kind: api.Probe},
		{Kind: api.Probe, Mark: 1},
		{Kind: api.Probed, Mark: ones},
	} {
		for _, head := range []struct {
			from, to int
			term     uint64
		}{{1, 2, 0}, {7, 1, 1}, {3, 3, 300}, {7, 7, ones}} {
			m.From, m.To, m.Term = head.from, head.to, head.term
			list = append(list, m)
		}
	}
	return list
}

// wrongMsgs are some that may not be put.
func wrongMsgs() []api.Msg {
	list := []api.Msg{
		{},
		{From: 1, To: 2},
		{Kind: api.Voted},
		{Kind: api.Voted, From: 1},
		{Kind: api.Voted, To: 1},
		{Kind: api.Append, From: 1, To: 2, OK: true},
		{Kind: api.Append, From: 1, To: 2, Snap: "s"},
		{Kind: api.Ask, From: 1, To: 2, Commit: 1},
		{Kind: api.Ask, From: 1, To: 2, Mark: 1},
		{Kind: api.Would, From: 1, To: 2, Index: 1},
		{Kind: api.Appended, From: 1, To: 2, Prev: 1},
		{Kind: api.Vote, From: 1, To: 2, Entries: noops(1)},
		{Kind: api.Install, From: 1, To: 2, OK: true},
		{Kind: api.Install, From: 1, To: 2, Snap: mixed(api.MaxBytes + 1)},
		{Kind: api.Install, From: 1, To: 2, Snap: mixed(1 << 17)},
		{Kind: api.Append, From: 1, To: 2, Entries: noops(api.MaxEntries + 1)},
		{Kind: api.Append, From: 1, To: 2, Entries: noops(128)},
		{Kind: api.Append, From: 1, To: 2, Entries: noops(257)},
		{Kind: api.Probe, From: 1, To: 2, Index: 1},
		{Kind: api.Probed, From: 1, To: 2, Mark: 1, OK: true},
	}
	for _, kind := range []int{math.MinInt, -1, 0, 11, 12, 128, 255, 256, 257, 261, 1<<32 + 5, math.MaxInt} {
		list = append(list, api.Msg{Kind: kind, From: 1, To: 2}, api.Msg{Kind: kind, From: 1, To: 2, Mark: 1})
	}
	for _, node := range []int{math.MinInt, -1, 0, 8, 128, 257, 1<<32 + 1, math.MaxInt} {
		list = append(list, api.Msg{Kind: api.Voted, From: node, To: 1}, api.Msg{Kind: api.Voted, From: 1, To: node})
	}
	for _, e := range wrongEntries() {
		for at := range 3 {
			l := noops(3)
			l[at] = e
			list = append(list, api.Msg{Kind: api.Append, From: 1, To: 2, Entries: l})
		}
	}
	return list
}

// nothing says whether m is the message of nothing.
func nothing(m api.Msg) bool { return entry.MsgSame(m, api.Msg{}) }

// gotMsg asks whether s is that message.
func gotMsg(t *testing.T, s string, want api.Msg) {
	t.Helper()
	if m, ok := GetMsg(s); !ok || !entry.MsgSame(m, want) {
		t.Errorf("GetMsg of %x is %.300s, %v, not %.300s", s[:min(len(s), 200)], entry.MsgText(m), ok, entry.MsgText(want))
	}
}

// noMsg asks whether s is no message.
func noMsg(t *testing.T, what string, s string) {
	t.Helper()
	if m, ok := GetMsg(s); ok || !nothing(m) {
		t.Errorf("%s: GetMsg of %x is %.300s, %v", what, s[:min(len(s), 200)], entry.MsgText(m), ok)
	}
}

// P6.2: the fields that are not 0, or empty, by their tags, rising, and the end.
func TestPutMsg(t *testing.T) {
	swap := api.Entry{Term: 9, Index: 8, Kind: api.Swap, Client: 1, Data: "ab", Old: "c"}
	for _, c := range []struct {
		m    api.Msg
		want string
	}{
		{api.Msg{Kind: api.Taken, From: 1, To: 3}, "\x01\x08\x02\x01\x03\x03\x00"},
		{api.Msg{Kind: api.Voted, From: 2, To: 3, Term: 300, OK: true}, "\x01\x04\x02\x02\x03\x03\x04\xac\x02\x09\x01\x00"},
		{api.Msg{Kind: api.Voted, From: 2, To: 3, Term: 300}, "\x01\x04\x02\x02\x03\x03\x04\xac\x02\x00"},
		{api.Msg{Kind: api.Probe, From: 7, To: 6, Term: 1, Mark: ones}, "\x01\x09\x02\x07\x03\x06\x04\x01\x08" + strings.Repeat("\xff", 9) + "\x01\x00"},
		{api.Msg{Kind: api.Install, From: 2, To: 3, Prev: 1, Snap: "\x00\xffs"}, "\x01\x07\x02\x02\x03\x03\x06\x01\x0a\x03\x00\xffs\x00"},
		{api.Msg{Kind: api.Install, From: 2, To: 3, Index: 1, Snap: strings.Repeat("s", 300)}, "\x01\x07\x02\x02\x03\x03\x05\x01\x0a\xac\x02" + strings.Repeat("s", 300) + "\x00"},
		{
			api.Msg{Kind: api.Append, From: 1, To: 7, Term: 2, Index: 3, Prev: 4, Commit: 5, Mark: 6, Entries: []api.Entry{swap, {Term: 1, Index: 2}}},
			"\x01\x05\x02\x01\x03\x07\x04\x02\x05\x03\x06\x04\x07\x05\x08\x06" + "\x0b\x02" + "\x01\x0b\x02\x09\x03\x08\x04\x01\x0a\x02ab\x0b\x01c\x00" + "\x02\x01\x03\x02\x00" + "\x00",
		},
	} {
		if s, ok := PutMsg(c.m); s != c.want || !ok {
			t.Errorf("PutMsg(%s) is %x, %v, not %x", entry.MsgText(c.m), s, ok, c.want)
		}
	}
}

// P6.2: a message of each kind, of both levels, as low and as high as it may be.
func TestPutMsgKinds(t *testing.T) {
	for _, m := range msgs() {
		if s, ok := PutMsg(m); s != bytesOfMsg(m) || !ok {
			t.Errorf("PutMsg(%.300s) is of %d bytes, %v", entry.MsgText(m), len(s), ok)
		}
	}
	none, empty := api.Msg{Kind: api.Append, From: 1, To: 2}, api.Msg{Kind: api.Append, From: 1, To: 2, Entries: []api.Entry{}}
	a, _ := PutMsg(none)
	if b, ok := PutMsg(empty); a != b || !ok {
		t.Errorf("of an empty list: %x, %v", b, ok)
	}
}

// P6.2: what is not right is not put.
func TestPutMsgRefuses(t *testing.T) {
	for _, m := range wrongMsgs() {
		if s, ok := PutMsg(m); s != "" || ok {
			t.Errorf("PutMsg(%.200s) is of %d bytes, %v", entry.MsgText(m), len(s), ok)
		}
	}
}

// P6.2: what was put, all of s.
func TestGetMsg(t *testing.T) {
	for _, m := range msgs() {
		s := bytesOfMsg(m)
		gotMsg(t, s, m)
		for _, behind := range []string{"\x00", "x", "\xff", s, bytesOf(api.Entry{Term: 1, Index: 1})} {
			noMsg(t, "with more behind", s+behind)
		}
		noMsg(t, "with more ahead", "\x00"+s)
	}
}

// P6.2: too few bytes.
func TestGetMsgCut(t *testing.T) {
	for _, m := range msgs() {
		s := bytesOfMsg(m)
		for cut := range s {
			if cut < 300 || cut%41 == 0 || cut > len(s)-5 {
				noMsg(t, "cut", s[:cut])
			}
		}
	}
}

// P6.2: bytes that are no fields, or of which the message is not right.
func TestGetMsgFails(t *testing.T) {
	for _, s := range []string{"", "\x00", "\x00\x00", strings.Repeat("\x00", 49), strings.Repeat("\x01", 49), strings.Repeat("\xff", 49), mixed(49), mixed(500)} {
		noMsg(t, "no fields", s)
	}
	for _, m := range wrongMsgs() {
		noMsg(t, "not right", bytesOfMsg(m))
	}
	for kind := range 300 {
		if _, there := entry.MsgFields(kind); !there {
			noMsg(t, "no kind", bytesOfMsg(api.Msg{Kind: kind, From: 1, To: 2, Term: 1}))
		}
	}
	for _, high := range []uint64{1 << 8, 1 << 16, 1 << 31, 1 << 32, 1 << 62, 1 << 63} {
		for tag := range uint64(3) {
			numbers := map[uint64]uint64{1: api.Voted, 2: 1, 3: 1}
			numbers[tag+1] += high
			noMsg(t, "a great kind, or node", spell(numbers, nil)+"\x00")
		}
	}
}

// fullMsgs are the fields of messages that have all they may have, one by one.
func fullMsgs() [][]string {
	return [][]string{
		{"\x01\x05", "\x02\x02", "\x03\x03", "\x04\x04", "\x05\x05", "\x06\x06", "\x07\x07", "\x08\x08", "\x0b\x01" + bytesOf(noops(1)[0])},
		{"\x01\x06", "\x02\x02", "\x03\x03", "\x04\x04", "\x05\x05", "\x08\x08", "\x09\x01"},
		{"\x01\x07", "\x02\x02", "\x03\x03", "\x04\x04", "\x05\x05", "\x06\x06", "\x0a\x01s"},
	}
}

// P6.2: tags rise, none comes twice, and there are no others.
func TestGetMsgTags(t *testing.T) {
	for _, full := range fullMsgs() {
		if m, ok := GetMsg(strings.Join(full, "") + "\x00"); !ok || bytesOfMsg(m) != strings.Join(full, "")+"\x00" {
			t.Fatalf("all fields: %s, %v", entry.MsgText(m), ok)
		}
		for a := range full {
			noMsg(t, "a tag twice", strings.Join(slices.Insert(slices.Clone(full), a, full[a]), "")+"\x00")
			for b := range a {
				turned := slices.Clone(full)
				turned[a], turned[b] = turned[b], turned[a]
				noMsg(t, "tags that fall", strings.Join(turned, "")+"\x00")
			}
		}
		for _, tag := range []uint64{12, 13, 100, 127, 128, 130, 137, 138, 139, 256, 258, 266, 1<<32 + 2, 1 << 63, 1<<63 + 2, ones} {
			for at := range len(full) + 1 {
				for _, what := range []string{"\x01", "\x01x", "\x00"} {
					noMsg(t, "no tag", strings.Join(slices.Insert(slices.Clone(full), at, uvar(tag)+what), "")+"\x00")
				}
			}
		}
	}
}

// P6.2: a field that is 0, or empty, is left out, and not put as such.
func TestGetMsgNought(t *testing.T) {
	for kind := api.Ask; kind <= api.Probed; kind++ {
		least := spell(map[uint64]uint64{1: uint64(kind), 2: 1, 3: 2}, nil)
		gotMsg(t, least+"\x00", api.Msg{Kind: kind, From: 1, To: 2})
		for tag := uint64(4); tag <= 11; tag++ {
			noMsg(t, "nought", least+uvar(tag)+"\x00\x00")
		}
	}
}

// P6.2: numbers, tags, lengths and counts that are written longer than they need be, or have more than 64 bits.
func TestGetMsgLonger(t *testing.T) {
	for _, full := range fullMsgs() {
		for k, f := range full {
			with := func(what string) string {
				list := slices.Clone(full)
				list[k] = what
				return strings.Join(list, "") + "\x00"
			}
			for _, n := range []int{2, 3, 9, 10, 11} {
				noMsg(t, "a longer tag", with(long(uint64(f[0]), n)+f[1:]))
				noMsg(t, "a longer number", with(f[:1]+long(uint64(f[1]), n)+f[2:]))
			}
			noMsg(t, "more than 64 bits", with(f[:1]+strings.Repeat("\xff", 9)+"\x02"+f[2:]))
		}
		noMsg(t, "a long end", strings.Join(full, "")+"\x80\x00")
	}
}

// P6.2: OK is 1, or left out, and nothing else.
func TestGetMsgOK(t *testing.T) {
	for kind := api.Ask; kind <= api.Probed; kind++ {
		head := spell(map[uint64]uint64{1: uint64(kind), 2: 1, 3: 2}, nil) + "\x09"
		letters, _ := entry.MsgFields(kind)
		for _, n := range []uint64{0, 1, 2, 3, 127, 128, 129, 255, 256, 257, 1 << 32, 1<<32 + 1, 1 << 63, 1<<63 + 1, ones} {
			if n == 1 && strings.Contains(letters, "y") {
				gotMsg(t, head+"\x01\x00", api.Msg{Kind: kind, From: 1, To: 2, OK: true})
			} else {
				noMsg(t, "no OK", head+uvar(n)+"\x00")
			}
		}
	}
}

// P6.2: how many entries there are, and that each is one.
func TestGetMsgEntries(t *testing.T) {
	m := api.Msg{Kind: api.Append, From: 1, To: 2}
	for many := range 200 {
		if m.Entries = noops(many); many <= api.MaxEntries {
			gotMsg(t, bytesOfMsg(m), m)
		} else {
			noMsg(t, "too many entries", bytesOfMsg(m))
		}
	}
	m.Entries = nil
	head := strings.TrimSuffix(bytesOfMsg(m), "\x00") + "\x0b"
	three := bytesOf(noops(1)[0]) + bytesOf(entries()[40]) + bytesOf(entries()[190])
	m.Entries = []api.Entry{noops(1)[0], entries()[40], entries()[190]}
	gotMsg(t, head+"\x03"+three+"\x00", m)
	for _, many := range []uint64{0, 1, 2, 4, 64, 65, 127, 128, 131, 259, 1 << 32, 1<<32 + 3, math.MaxInt, 1 << 63, 1<<63 + 3, ones} {
		noMsg(t, "another number of entries", head+uvar(many)+three+"\x00")
		noMsg(t, "another number of entries, cut", head+uvar(many)+three)
		noMsg(t, "a number of entries alone", head+uvar(many))
	}
	for _, e := range wrongEntries() {
		noMsg(t, "a wrong entry", head+"\x01"+bytesOf(e)+"\x00")
		noMsg(t, "a wrong entry between", head+"\x03"+bytesOf(noops(1)[0])+bytesOf(e)+bytesOf(noops(1)[0])+"\x00")
	}
	for _, wrong := range []string{"\x00", "\x03\x01\x02\x01\x00", "\x01\x00\x02\x01\x03\x01\x00", "\x02\x01\x03\x01\x0c\x01\x00", "\x02\x01\x03\x01\x0a\x00\x00"} {
		noMsg(t, "no entry", head+"\x01"+wrong+"\x00")
	}
}

// P6.2: how many bytes Snap has.
func TestGetMsgSnap(t *testing.T) {
	m := api.Msg{Kind: api.Install, From: 1, To: 2}
	head := strings.TrimSuffix(bytesOfMsg(m), "\x00") + "\x0a"
	for _, n := range []uint64{0, 1, 299, 302, 1 << 14, 1<<14 + 1, 1<<16 + 300, 1 << 31, 1 << 32, 1<<32 + 300, math.MaxInt, 1 << 63, 1<<63 + 300, ones} {
		noMsg(t, "another number of bytes", head+uvar(n)+mixed(300)+"\x00")
	}
	for _, n := range []int{1, 63, 64, 65, 127, 128, 300, api.MaxBytes - 1, api.MaxBytes} {
		m.Snap = mixed(n)
		gotMsg(t, head+textOf(m.Snap)+"\x00", m)
	}
	for _, n := range []int{api.MaxBytes + 1, 2 * api.MaxBytes, 1 << 16, 1 << 20} {
		noMsg(t, "a snap that is too long", head+textOf(mixed(n))+"\x00")
	}
}

// P6.2: a field that the kind has not is refused, and one that it has is read to all its bits.
func TestGetMsgFields(t *testing.T) {
	letter := map[uint64]string{4: "", 5: "i", 6: "p", 7: "t", 8: "k", 9: "y", 10: "s", 11: "e"}
	for kind := api.Ask; kind <= api.Probed; kind++ {
		letters, _ := entry.MsgFields(kind)
		for tag, l := range letter {
			m := api.Msg{Kind: kind, From: 6, To: 5}
			switch tag {
			case 4:
				m.Term = 1 << 63
			case 5:
				m.Index = 1<<63 + 1
			case 6:
				m.Prev = 1<<56 - 1
			case 7:
				m.Commit = 1 << 49
			case 8:
				m.Mark = ones
			case 9:
				m.OK = true
			case 10:
				m.Snap = "\x00s"
			case 11:
				m.Entries = noops(2)
			}
			if strings.Contains(letters, l) {
				gotMsg(t, bytesOfMsg(m), m)
			} else {
				noMsg(t, "a field that it has not", bytesOfMsg(m))
			}
		}
	}
}

// P6.3: what was put is got; and no two have the same bytes.
func TestMsgPutIsGot(t *testing.T) {
	of := map[string]api.Msg{}
	for _, m := range msgs() {
		s, ok := PutMsg(m)
		if !ok {
			t.Fatalf("PutMsg(%s) is refused", entry.MsgText(m))
		}
		gotMsg(t, s, m)
		if other, there := of[s]; there {
			t.Errorf("%s and %s have the same bytes", entry.MsgText(m), entry.MsgText(other))
		}
		of[s] = m
	}
}

// msgOf is the message that s is: read by the library, and spelt out again.
func msgOf(s string) (api.Msg, bool) {
	n, x, rest, ok := fieldsOf(s, 11)
	if !ok {
		return api.Msg{}, false
	}
	m := api.Msg{Kind: int(n[1]), From: int(n[2]), To: int(n[3]), Term: n[4], Index: n[5], Prev: n[6], Commit: n[7], Mark: n[8], OK: n[9] == 1, Snap: x[10]}
	if n[0] != 0 {
		many, size := binary.Uvarint([]byte(rest))
		if size <= 0 || many > api.MaxEntries {
			return api.Msg{}, false
		}
		rest = rest[size:]
		for range many {
			var e api.Entry
			if e, rest, ok = entryOf(rest); !ok {
				return api.Msg{}, false
			}
			m.Entries = append(m.Entries, e)
		}
	}
	return m, entry.MsgRight(m) && bytesOfMsg(m) == s
}

// msgGotIsPut reads s as a message, and asks whether it is what the chapter asks for, and is put so.
func msgGotIsPut(t *testing.T, s string) {
	t.Helper()
	want, ok := msgOf(s)
	if !ok {
		noMsg(t, "held against another reading", s)
		return
	}
	gotMsg(t, s, want)
	if again, ok := PutMsg(want); !ok || again != s {
		t.Errorf("of %x is read %s, which is put %x, %v", s, entry.MsgText(want), again, ok)
	}
}

// P6.2, P6.3: bytes of which one is turned, is gone, or comes twice are read as what is put so, or refused.
func TestMsgGotIsPut(t *testing.T) {
	for at, m := range msgs() {
		s := bytesOfMsg(m)
		if len(s) > 200 {
			continue
		}
		if t.Failed() {
			return
		}
		for k := range s {
			for bit := range 8 {
				b := []byte(s)
				b[k] ^= 1 << bit
				msgGotIsPut(t, string(b))
			}
			msgGotIsPut(t, s[:k]+s[k+1:])
			msgGotIsPut(t, s[:k]+s[k:k+1]+s[k:])
			if at%4 == 1 && len(s) < 50 {
				for b := range 256 {
					msgGotIsPut(t, s[:k]+string([]byte{byte(b)})+s[k+1:])
				}
			}
		}
	}
}

// Of any bytes what is read is put so; and nothing panics.
func FuzzGetMsg(f *testing.F) {
	for _, m := range msgs() {
		if len(m.Snap) < 1000 {
			f.Add(bytesOfMsg(m))
		}
	}
	f.Fuzz(msgGotIsPut)
}

// The rules that hold everywhere: nothing that is handed in is written into, nor what stands behind it, and none is kept.
func TestMsgNotWrittenInto(t *testing.T) {
	room := slices.Clone(entries()[:20])
	before := slices.Clone(room)
	m := api.Msg{Kind: api.Append, From: 1, To: 2, Entries: room[2:5]}
	s, _ := PutMsg(m)
	if !slices.Equal(room, before) {
		t.Errorf("it is %+v now", room)
	}
	a, _ := GetMsg(s)
	b, _ := GetMsg(s)
	clear(a.Entries[:cap(a.Entries)])
	if !slices.Equal(b.Entries, before[2:5]) {
		t.Error("two answers share their entries")
	}
	clear(room)
	if again, _ := PutMsg(b); again != s {
		t.Error("what was handed in is kept")
	}
}

// The rules that hold everywhere: what is answered shares no memory with what was handed in.
func TestMsgNewMemory(t *testing.T) {
	s := bytesOfMsg(api.Msg{Kind: api.Install, From: 1, To: 2, Snap: mixed(300)})
	if m, _ := GetMsg(s); unsafe.StringData(m.Snap) == unsafe.StringData(s[len(s)-301:]) {
		t.Error("Snap is a part of what was handed in")
	}
}

func BenchmarkPutMsg(b *testing.B) {
	m := api.Msg{Kind: api.Append, From: 1, To: 2, Entries: noops(api.MaxEntries)}
	for range b.N {
		PutMsg(m)
	}
}

func BenchmarkGetMsg(b *testing.B) {
	s := bytesOfMsg(api.Msg{Kind: api.Append, From: 1, To: 2, Entries: noops(api.MaxEntries)})
	for range b.N {
		GetMsg(s)
	}
}
