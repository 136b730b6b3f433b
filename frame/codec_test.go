package frame

import (
	"encoding/binary"
	"math"
	"slices"
	"strings"
	"testing"

	"pintle/api"
	"pintle/entry"
	"pintle/first"
	"pintle/second"
)

// entries are some that are right, of each kind, as low and as high as they may be, and between.
func entries() []api.Entry {
	high := strings.Repeat("\xff", api.Sector)
	var list []api.Entry
	for _, e := range []api.Entry{
		{Kind: api.Noop},
		{Kind: api.Upgrade},
		{Kind: api.Lower},
		{Kind: api.Finalise},
		{Kind: api.Write, Client: 1},
		{Kind: api.Write, Client: 4, Seq: 5, Block: 6, Data: "ab"},
		{Kind: api.Write, Client: ones, Seq: ones, Block: 1<<32 - 1, Data: high},
		{Kind: api.Write, Client: 1, Data: "\x00"},
		{Kind: api.Trim, Client: 7, Seq: 8, Block: 9, Many: 10},
		{Kind: api.Resize, Client: 1 << 63, Seq: 1 << 62, Many: 1 << 31},
		{Kind: api.Open, Client: 128, Seq: 1},
		{Kind: api.Add, Node: 1},
		{Kind: api.Remove, Node: api.MaxNodes},
		{Kind: api.Register, Node: 1, Level: 1},
		{Kind: api.Register, Node: api.MaxNodes, Level: 2},
		{Kind: api.Swap, Client: 1},
		{Kind: api.Swap, Client: 7, Seq: 8, Block: 9, Data: "new", Old: "old"},
		{Kind: api.Swap, Client: ones, Seq: ones, Block: 1<<32 - 1, Data: mixed(api.Sector), Old: high},
	} {
		for _, place := range [][2]uint64{{1, 1}, {127, 128}, {1 << 62, 1 << 63}, {ones, ones}} {
			e.Term, e.Index = place[0], place[1]
			list = append(list, e)
		}
	}
	return list
}

// wrongEntries are some that may not be, in no version.
func wrongEntries() []api.Entry {
	list := []api.Entry{
		{},
		{Term: 1},
		{Index: 1},
		{Term: 1, Index: 1, Kind: api.Write},
		{Term: 1, Index: 1, Kind: api.Add},
		{Term: 1, Index: 1, Kind: api.Add, Node: api.MaxNodes + 1},
		{Term: 1, Index: 1, Kind: api.Register, Node: 1, Level: 3},
		{Term: 1, Index: 1, Kind: api.Noop, Data: "a"},
		{Term: 1, Index: 1, Kind: api.Write, Client: 1, Old: "a"},
		{Term: 1, Index: 1, Kind: api.Write, Client: 1, Data: mixed(api.Sector + 1)},
		{Term: 1, Index: 1, Kind: api.Trim, Client: 1, Block: 1 << 32},
		{Term: 1, Index: 1, Kind: api.Swap},
	}
	for _, kind := range []int{math.MinInt, -1, 12, 256, math.MaxInt} {
		list = append(list, api.Entry{Term: 1, Index: 1, Kind: kind})
	}
	return list
}

// noops is so many right entries.
func noops(n int) []api.Entry {
	l := make([]api.Entry, n)
	for k := range l {
		l[k] = api.Entry{Term: 1, Index: uint64(k) + 1}
	}
	return l
}

// msgs are some that are right, of each kind and level.
func msgs() []api.Msg {
	var list []api.Msg
	for _, m := range []api.Msg{
		{Kind: api.Ask},
		{Kind: api.Ask, Index: 1, Prev: 2},
		{Kind: api.Would},
		{Kind: api.Would, OK: true},
		{Kind: api.Vote, Index: ones, Prev: ones},
		{Kind: api.Voted, OK: true},
		{Kind: api.Append},
		{Kind: api.Append, Index: 1, Prev: 2, Commit: 3, Mark: 4, Entries: noops(1)},
		{Kind: api.Append, Index: ones, Prev: ones, Commit: ones, Mark: ones, Entries: noops(2)},
		{Kind: api.Append, Entries: []api.Entry{{Term: 1, Index: 1, Kind: api.Swap, Client: 1}}},
		{Kind: api.Append, Entries: append(noops(3), api.Entry{Term: 1, Index: 4, Kind: api.Swap, Client: 1, Data: "new", Old: "old"})},
		{Kind: api.Append, Entries: entries()[:api.MaxEntries]},
		{Kind: api.Append, Entries: noops(api.MaxEntries)},
		{Kind: api.Appended},
		{Kind: api.Appended, Index: 1 << 63, Mark: 1, OK: true},
		{Kind: api.Install, Index: 5, Prev: 6, Snap: "snap"},
		{Kind: api.Install, Snap: mixed(api.MaxBytes)},
		{Kind: api.Taken, Index: 1 << 40},
		{Kind: api.Probe},
		{Kind: api.Probe, Mark: 1},
		{Kind: api.Probed, Mark: ones},
	} {
		for _, head := range []struct {
			from, to int
			term     uint64
		}{{1, 2, 0}, {7, 1, 1}, {3, 3, 300}, {6, 7, ones}} {
			m.From, m.To, m.Term = head.from, head.to, head.term
			list = append(list, m)
		}
	}
	return list
}

// wrongMsgs are some that may not be, in no version.
func wrongMsgs() []api.Msg {
	list := []api.Msg{
		{},
		{From: 1, To: 2},
		{Kind: api.Voted},
		{Kind: api.Voted, From: 1},
		{Kind: api.Voted, To: 1},
		{Kind: api.Voted, From: 8, To: 1},
		{Kind: api.Voted, From: 1, To: -1},
		{Kind: api.Append, From: 1, To: 2, OK: true},
		{Kind: api.Append, From: 1, To: 2, Snap: "s"},
		{Kind: api.Append, From: 1, To: 2, Entries: noops(api.MaxEntries + 1)},
		{Kind: api.Ask, From: 1, To: 2, Mark: 1},
		{Kind: api.Appended, From: 1, To: 2, Prev: 1},
		{Kind: api.Install, From: 1, To: 2, Snap: mixed(api.MaxBytes + 1)},
		{Kind: api.Install, From: 1, To: 2, Entries: noops(1)},
		{Kind: api.Probe},
		{Kind: api.Probe, From: 1},
		{Kind: api.Probe, To: 1},
		{Kind: api.Probe, From: 0, To: 8},
		{Kind: api.Probe, From: 1, To: 2, Index: 1},
		{Kind: api.Probe, From: 1, To: 2, Mark: 1, OK: true},
		{Kind: api.Probe, From: 1, To: 2, Entries: noops(1)},
		{Kind: api.Probed, From: 1, To: 2, Prev: 1},
		{Kind: api.Probed, From: 1, To: 2, Mark: 1, OK: true},
		{Kind: api.Probed, From: 1, To: 2, Snap: "s"},
		{Kind: api.Probed, From: 1, To: 2, Commit: 1},
		{Kind: api.Probed, From: 8, To: 2},
	}
	for _, kind := range []int{math.MinInt, -1, 0, 11, 256, 1<<32 + 9, math.MaxInt} {
		list = append(list, api.Msg{Kind: kind, From: 1, To: 2}, api.Msg{Kind: kind, From: 1, To: 2, Term: 1, Mark: 1})
	}
	for _, e := range wrongEntries() {
		list = append(list, api.Msg{Kind: api.Append, From: 1, To: 2, Entries: append(noops(1), e)})
	}
	return list
}

// entryBody is an entry's bytes, as the codec of the version puts them.
func entryBody(version int, e api.Entry) (string, bool) {
	if version == 1 {
		return first.Put(e)
	}
	return second.Put(e)
}

// msgBody is a message's bytes, as the codec of the version puts them.
func msgBody(version int, m api.Msg) (string, bool) {
	if version == 1 {
		return first.PutMsg(m)
	}
	return second.PutMsg(m)
}

// noEntry asks whether s is no entry.
func noEntry(t *testing.T, what, s string) {
	t.Helper()
	if e, v, ok := GetEntry(s); e != (api.Entry{}) || v != 0 || ok {
		t.Errorf("%s: GetEntry of %.200x is %+v, %d, %v", what, s, e, v, ok)
	}
}

// noMsg asks whether s is no message.
func noMsg(t *testing.T, what, s string) {
	t.Helper()
	if m, v, ok := GetMsg(s); !entry.MsgSame(m, api.Msg{}) || v != 0 || ok {
		t.Errorf("%s: GetMsg of %.200x is %.300s, %d, %v", what, s, entry.MsgText(m), v, ok)
	}
}

// hasEntry asks whether s is that entry, of that version.
func hasEntry(t *testing.T, s string, want api.Entry, version int) {
	t.Helper()
	if e, v, ok := GetEntry(s); e != want || v != version || !ok {
		t.Errorf("GetEntry of %x is %+v, %d, %v, not %+v, %d", s, e, v, ok, want, version)
	}
}

// hasMsg asks whether s is that message, of that version.
func hasMsg(t *testing.T, s string, want api.Msg, version int) {
	t.Helper()
	if m, v, ok := GetMsg(s); !entry.MsgSame(m, want) || v != version || !ok {
		t.Errorf("GetMsg of %.200x is %.300s, %d, %v, not %.300s, %d", s, entry.MsgText(m), v, ok, entry.MsgText(want), version)
	}
}

// P7.2: an entry whose bytes are written out.
func TestPutEntryKnown(t *testing.T) {
	e := api.Entry{Kind: api.Write, Term: 1, Index: 2, Client: 3, Seq: 4, Block: 5, Data: "hi"}
	one := "\x01" + "\x00\x00\x00\x00\x00\x00\x00\x01" + "\x00\x00\x00\x00\x00\x00\x00\x02" + "\x00\x00\x00\x00\x00\x00\x00\x03" + "\x00\x00\x00\x00\x00\x00\x00\x04" + "\x00\x00\x00\x05" + "\x00\x00\x00\x00" + "\x00\x00\x02" + "hi" + strings.Repeat("\x00", 64)
	two := "\x01\x01\x02\x01\x03\x02\x04\x03\x05\x04\x06\x05\x0a\x02hi\x00"
	for version, want := range map[int]string{1: sealed("\xa1\x00\x00\x00\x6e", one), 2: sealed("\xa2\x11", two)} {
		if s, ok := PutEntry(version, e); s != want || !ok {
			t.Errorf("PutEntry(%d) is %x, %v, not %x", version, s, ok, want)
		}
		hasEntry(t, want, e, version)
	}
}

// P7.2: a message whose bytes are written out.
func TestPutMsgKnown(t *testing.T) {
	m := api.Msg{Kind: api.Voted, From: 2, To: 3, Term: 300, OK: true}
	one := "\x04\x02\x03" + "\x00\x00\x00\x00\x00\x00\x01\x2c" + strings.Repeat("\x00", 32) + "\x01" + "\x00" + "\x00\x00\x00\x00"
	two := "\x01\x04\x02\x02\x03\x03\x04\xac\x02\x09\x01\x00"
	for version, want := range map[int]string{1: sealed("\xa1\x00\x00\x00\x31", one), 2: sealed("\xa2\x0c", two)} {
		if s, ok := PutMsg(version, m); s != want || !ok {
			t.Errorf("PutMsg(%d) is %x, %v, not %x", version, s, ok, want)
		}
		hasMsg(t, want, m, version)
	}
}

// P7.2: each entry in each version that may have it: put, and got.
func TestEntries(t *testing.T) {
	for _, e := range entries() {
		for _, version := range versions {
			s, ok := PutEntry(version, e)
			if may := entry.Level(e) <= version; ok != may {
				t.Errorf("PutEntry(%d, %+v) is %x, %v", version, e, s, ok)
			}
			if !ok {
				noEntry(t, "not put", s)
				continue
			}
			body, _ := entryBody(version, e)
			if s != framed(version, body) {
				t.Errorf("PutEntry(%d, %+v) is %x, not %x", version, e, s, framed(version, body))
			}
			hasEntry(t, s, e, version)
		}
	}
}

// P7.2: each message in each version that may have it: put, and got.
func TestMsgs(t *testing.T) {
	for _, m := range msgs() {
		for _, version := range versions {
			s, ok := PutMsg(version, m)
			if may := entry.MsgLevel(m) <= version; ok != may {
				t.Errorf("PutMsg(%d, %.300s) is %.200x, %v", version, entry.MsgText(m), s, ok)
			}
			if !ok {
				noMsg(t, "not put", s)
				continue
			}
			body, _ := msgBody(version, m)
			if s != framed(version, body) {
				t.Errorf("PutMsg(%d, %.300s) is %.200x, not %.200x", version, entry.MsgText(m), s, framed(version, body))
			}
			hasMsg(t, s, m, version)
		}
	}
}

// P7.2: no such version, or what may not be.
func TestPutRefuses(t *testing.T) {
	for _, version := range append(noVersions, versions...) {
		for _, e := range append(wrongEntries(), entries()...) {
			if slices.Contains(versions, version) && entry.Right(e) {
				continue
			}
			if s, ok := PutEntry(version, e); s != "" || ok {
				t.Errorf("PutEntry(%d, %+v) is %x, %v", version, e, s, ok)
			}
		}
		for _, m := range append(wrongMsgs(), msgs()...) {
			if slices.Contains(versions, version) && entry.MsgRight(m) {
				continue
			}
			if s, ok := PutMsg(version, m); s != "" || ok {
				t.Errorf("PutMsg(%d, %.300s) is of %d bytes, %v", version, entry.MsgText(m), len(s), ok)
			}
		}
	}
	swap := api.Entry{Term: 1, Index: 1, Kind: api.Swap, Client: 1}
	if s, ok := PutEntry(1, swap); s != "" || ok {
		t.Errorf("a Swap of version 1 is %x, %v", s, ok)
	}
	for _, m := range []api.Msg{{Kind: api.Probe, From: 1, To: 2}, {Kind: api.Probed, From: 1, To: 2}, {Kind: api.Append, From: 1, To: 2, Entries: []api.Entry{swap}}} {
		if s, ok := PutMsg(1, m); s != "" || ok {
			t.Errorf("of level 2, in version 1: %x, %v", s, ok)
		}
	}
}

// P7.2: right frames of which the body is no entry, or no message, or has more behind it, or ahead.
func TestGetBody(t *testing.T) {
	for _, version := range versions {
		for _, body := range []string{"", "\x00", "\x00\x00", "hi", mixed(110), mixed(49), strings.Repeat("\x00", 110), strings.Repeat("\x01", 110), mixed(most)} {
			noEntry(t, "no entry", framed(version, body))
			noMsg(t, "no message", framed(version, body))
		}
		e, _ := entryBody(version, api.Entry{Term: 1, Index: 1, Kind: api.Write, Client: 1, Data: "hi"})
		m, _ := msgBody(version, api.Msg{Kind: api.Append, From: 1, To: 2, Entries: noops(2)})
		for _, more := range []string{"\x00", "x", "\xff", e, m} {
			noEntry(t, "more behind, in the frame", framed(version, e+more))
			noMsg(t, "more behind, in the frame", framed(version, m+more))
			noEntry(t, "more behind the frame", framed(version, e)+more)
			noMsg(t, "more behind the frame", framed(version, m)+more)
		}
		for cut := range e {
			noEntry(t, "too few bytes in the frame", framed(version, e[:cut]))
		}
		for cut := range m {
			noMsg(t, "too few bytes in the frame", framed(version, m[:cut]))
		}
		noMsg(t, "an entry", framed(version, e))
		noEntry(t, "a message", framed(version, m))
		noEntry(t, "two frames", framed(version, e)+framed(version, e))
		noMsg(t, "two frames", framed(version, m)+framed(version, m))
	}
}

// P7.2: no frame, or one that is cut, or turned.
func TestGetFrame(t *testing.T) {
	for _, s := range []string{"", "\x00", "\xa1", "\xa2", "\xa2\x00", "hi", mixed(200)} {
		noEntry(t, "no frame", s)
		noMsg(t, "no frame", s)
	}
	for _, version := range versions {
		e, _ := PutEntry(version, api.Entry{Term: 1, Index: 1, Kind: api.Write, Client: 1, Data: "hi"})
		m, _ := PutMsg(version, api.Msg{Kind: api.Append, From: 1, To: 2, Index: 3, Entries: noops(2)})
		for k := range e {
			noEntry(t, "cut", e[:k])
			for bit := range 8 {
				b := []byte(e)
				b[k] ^= 1 << bit
				noEntry(t, "turned", string(b))
			}
		}
		for k := range m {
			noMsg(t, "cut", m[:k])
			for bit := range 8 {
				b := []byte(m)
				b[k] ^= 1 << bit
				noMsg(t, "turned", string(b))
			}
		}
	}
}

// P7.2: what stands in a frame, its sum right, is asked by its version's codec whether it may be there.
func TestGetLevel(t *testing.T) {
	write, _ := first.Put(api.Entry{Term: 1, Index: 1, Kind: api.Write, Client: 1})
	noEntry(t, "a Swap of version 1", framed(1, string([]byte{api.Swap})+write[1:]))
	appended, _ := first.PutMsg(api.Msg{Kind: api.Appended, From: 1, To: 2, Term: 3, Mark: 4})
	for _, kind := range []byte{0, api.Probe, api.Probed, 11, 255} {
		noMsg(t, "no kind of version 1", framed(1, string([]byte{kind})+appended[1:]))
	}
	noEntry(t, "no Term", framed(2, "\x03\x01\x00"))
	noMsg(t, "no To", framed(2, "\x01\x04\x02\x01\x00"))
}

// P7.4: what one version's codec put is no entry, or message, in a frame of the other.
func TestGetOtherVersion(t *testing.T) {
	for _, e := range entries() {
		for _, version := range versions {
			if body, ok := entryBody(version, e); ok {
				noEntry(t, "of the other version", framed(3-version, body))
			}
		}
	}
	for _, m := range msgs() {
		for _, version := range versions {
			if body, ok := msgBody(version, m); ok {
				noMsg(t, "of the other version", framed(3-version, body))
			}
		}
	}
}

// P7.4: bytes that are an entry in either version are told as the frame says.
func TestGetEither(t *testing.T) {
	b := []byte(mixed(first.Size))
	copy(b, "\x01\x0b\x02\x05\x03\x06\x04\x07\x0a\x40")
	copy(b[37:], "\x00\x00\x00\x00\x00\x00\x40")
	copy(b[74:], "\x0b\x21")
	copy(b[108:], "\x00\x00")
	number := binary.BigEndian.Uint64
	one := api.Entry{Kind: api.Write, Term: number(b[1:]), Index: number(b[9:]), Client: number(b[17:]), Seq: number(b[25:]), Block: number(b[29:]) & math.MaxUint32, Data: string(b[44:108])}
	two := api.Entry{Kind: api.Swap, Term: 5, Index: 6, Client: 7, Data: string(b[10:74]), Old: string(b[76:109])}
	hasEntry(t, framed(1, string(b)), one, 1)
	hasEntry(t, framed(2, string(b)), two, 2)
}

// The rules that hold everywhere: nothing that is handed in is written into, nor kept, and no two answers share a list.
func TestMsgNotWrittenInto(t *testing.T) {
	for _, version := range versions {
		room := slices.Clone(entries()[:20])
		before := slices.Clone(room)
		s, _ := PutMsg(version, api.Msg{Kind: api.Append, From: 1, To: 2, Entries: room[2:5]})
		if !slices.Equal(room, before) {
			t.Errorf("it is %+v now", room)
		}
		a, _, _ := GetMsg(s)
		b, _, _ := GetMsg(s)
		clear(a.Entries[:cap(a.Entries)])
		if !slices.Equal(b.Entries, before[2:5]) {
			t.Error("two answers share their entries")
		}
		clear(room)
		if again, _ := PutMsg(version, b); again != s {
			t.Error("what was handed in is kept")
		}
	}
}

// gotIsPut asks whether what is got of s is put so.
func gotIsPut(t *testing.T, s string) {
	t.Helper()
	if e, version, ok := GetEntry(s); !ok {
		noEntry(t, "got", s)
	} else if again, ok := PutEntry(version, e); !ok || again != s {
		t.Errorf("of %x is got %+v, which is put %x, %v", s, e, again, ok)
	}
	if m, version, ok := GetMsg(s); !ok {
		noMsg(t, "got", s)
	} else if again, ok := PutMsg(version, m); !ok || again != s {
		t.Errorf("of %x is got %s, which is put %x, %v", s, entry.MsgText(m), again, ok)
	}
}

// Of any bytes, and of any in a frame, what is got is put so; and nothing panics.
func FuzzGet(f *testing.F) {
	for _, e := range entries() {
		for _, version := range versions {
			if body, ok := entryBody(version, e); ok {
				f.Add(body)
			}
		}
	}
	for _, m := range msgs() {
		for _, version := range versions {
			if body, ok := msgBody(version, m); ok && len(body) < 1000 {
				f.Add(body)
			}
		}
	}
	f.Fuzz(func(t *testing.T, s string) {
		gotIsPut(t, s)
		for _, version := range versions {
			gotIsPut(t, framed(version, s))
		}
	})
}

func BenchmarkPutMsg(b *testing.B) {
	m := api.Msg{Kind: api.Append, From: 1, To: 2, Entries: noops(api.MaxEntries)}
	for range b.N {
		PutMsg(2, m)
	}
}

func BenchmarkGetMsg(b *testing.B) {
	s, _ := PutMsg(2, api.Msg{Kind: api.Append, From: 1, To: 2, Entries: noops(api.MaxEntries)})
	for range b.N {
		GetMsg(s)
	}
}
