package wal

import (
	"hash/crc32"
	"math"
	"slices"
	"testing"
	"unsafe"

	"pintle/api"
	"pintle/frame"
)

const ones = math.MaxUint64

// noVersions are numbers that are no version.
var noVersions = []int{math.MinInt, -1, 0, 3, 16, 160, 257, 258, 1 << 32, 1<<32 + 1, math.MaxInt}

// noop is the entry of that Term and Index that has nothing else.
func noop(term, index uint64) api.Entry { return api.Entry{Term: term, Index: index} }

// write is an entry that writes so many bytes.
func write(index uint64, many int) api.Entry {
	return api.Entry{Kind: api.Write, Term: 3, Index: index, Client: 4, Seq: 5, Block: 6, Data: mixed(many)}
}

// swap is an entry of version 2 alone.
func swap(index uint64) api.Entry {
	return api.Entry{Kind: api.Swap, Term: 3, Index: index, Client: 4, Seq: 5, Data: mixed(64), Old: mixed(63)}
}

// mixed is so many bytes, of which none is 0.
func mixed(n int) string {
	b := make([]byte, n)
	for k := range b {
		b[k] = byte(1 + k*7%255)
	}
	return string(b)
}

// null is so many bytes 0.
func null(n int) string { return string(make([]byte, n)) }

// lists are logs that either version may have.
func lists() [][]api.Entry {
	all := []api.Entry{
		noop(1, 1), {Kind: api.Upgrade, Term: 2, Index: 2}, {Kind: api.Lower, Term: 2, Index: 3}, {Kind: api.Finalise, Term: 3, Index: 4},
		write(5, 0), write(6, 1), write(7, 63), write(8, 64), {Kind: api.Write, Term: ones, Index: ones, Client: ones, Seq: ones, Block: 1<<32 - 1, Data: null(64)},
		{Kind: api.Trim, Term: 1, Index: 1, Client: 1, Block: 2, Many: 3}, {Kind: api.Resize, Term: 1, Index: 2, Client: 1, Many: 128},
		{Kind: api.Open, Term: 1, Index: 3, Client: 9}, {Kind: api.Add, Term: 1, Index: 4, Node: 7}, {Kind: api.Remove, Term: 1, Index: 5, Node: 1}, {Kind: api.Register, Term: 1, Index: 6, Node: 2, Level: 2},
	}
	l := [][]api.Entry{all, append(slices.Clone(all), all...), slices.Repeat(all[:1], 300)}
	for k := range all {
		l = append(l, all[k:k+1], all[:k])
	}
	return l
}

// swaps are logs that version 2 alone may have.
func swaps() [][]api.Entry {
	return [][]api.Entry{{swap(1)}, {noop(1, 1), swap(2)}, {swap(1), noop(3, 2)}, {write(1, 64), swap(2), write(3, 1)}}
}

// wrongs are entries that no version may have.
func wrongs() []api.Entry {
	return []api.Entry{
		{}, {Term: 1}, {Index: 1}, {Term: 1, Index: 1, Kind: -1}, {Term: 1, Index: 1, Kind: 12}, {Term: 1, Index: 1, Data: "x"},
		{Term: 1, Index: 1, Kind: api.Write}, {Term: 1, Index: 1, Kind: api.Write, Client: 1, Data: mixed(65)}, {Term: 1, Index: 1, Kind: api.Add, Node: 8},
	}
}

// spelled is the records as the document tells them, and where each ends.
func spelled(t *testing.T, version int, l []api.Entry) (string, []int) {
	t.Helper()
	s, ends := "", []int{}
	for _, e := range l {
		f, ok := frame.PutEntry(version, e)
		if !ok {
			t.Fatalf("%v has no frame of version %d", e, version)
		}
		s += f
		for version == 1 && len(s)%64 != 0 {
			s += "\x00"
		}
		ends = append(ends, len(s))
	}
	return s, ends
}

// recorded is spelled, without the ends.
func recorded(t *testing.T, version int, l []api.Entry) string {
	t.Helper()
	s, _ := spelled(t, version, l)
	return s
}

// parses asks whether that is parsed.
func parses(t *testing.T, what string, version int, s string, l []api.Entry, used int) {
	t.Helper()
	if got, n := Parse(version, s); !slices.Equal(got, l) || n != used {
		t.Errorf("%s: Parse(%d, %d bytes) is %d entries, %d; it should be %d, %d", what, version, len(s), len(got), n, len(l), used)
	}
}

// noRecords asks whether there are none.
func noRecords(t *testing.T, what string, version int, l []api.Entry) {
	t.Helper()
	if s, ok := Records(version, l); s != "" || ok {
		t.Errorf("%s: Records(%d, ..) is %q, %v", what, version, s, ok)
	}
}

// sum is the four bytes of the sum.
func sum(s string) string {
	n := crc32.Checksum([]byte(s), crc32.MakeTable(crc32.Castagnoli))
	return string([]byte{byte(n >> 24), byte(n >> 16), byte(n >> 8), byte(n)})
}

// P10.1: records whose bytes are written out.
func TestRecordsKnown(t *testing.T) {
	l := []api.Entry{noop(1, 2), {Kind: api.Write, Term: 3, Index: 4, Client: 5, Data: "hi"}}
	a := "\x00" + null(7) + "\x01" + null(7) + "\x02" + null(8+8+4+4+1+1) + "\x00" + null(66)
	b := "\x01" + null(7) + "\x03" + null(7) + "\x04" + null(7) + "\x05" + null(8+4+4+1+1) + "\x02" + "hi" + null(64)
	head := "\xa1\x00\x00\x00\x6e"
	want := head + sum(head+a) + a + null(9) + head + sum(head+b) + b + null(9)
	if s, ok := Records(1, l); s != want || !ok {
		t.Errorf("of version 1 it is %x, %v; it should be %x", s, ok, want)
	}
	a = "\x02\x01\x03\x02\x00"
	b = "\x01\x01\x02\x03\x03\x04\x04\x05\x0a\x02hi\x00"
	want = "\xa2\x05" + sum("\xa2\x05"+a) + a + "\xa2\x0d" + sum("\xa2\x0d"+b) + b
	if s, ok := Records(2, l); s != want || !ok {
		t.Errorf("of version 2 it is %x, %v; it should be %x", s, ok, want)
	}
}

// P10.1: the frames one behind the other, of version 1 each with bytes 0 behind it up to a multiple of Sector.
func TestRecords(t *testing.T) {
	for version := 1; version <= 2; version++ {
		for _, l := range lists() {
			want := recorded(t, version, l)
			if s, ok := Records(version, l); s != want || !ok {
				t.Errorf("Records(%d, %d entries) is %d bytes, %v; it should be %d", version, len(l), len(s), ok, len(want))
			}
			if version == 1 && len(want) != 128*len(l) {
				t.Errorf("%d entries have %d bytes", len(l), len(want))
			}
		}
		for _, l := range [][]api.Entry{nil, {}} {
			if s, ok := Records(version, l); s != "" || !ok {
				t.Errorf("Records(%d, none) is %q, %v", version, s, ok)
			}
		}
	}
}

// P10.1: false, if version is neither, also of no entries.
func TestRecordsNoVersion(t *testing.T) {
	for _, version := range noVersions {
		for _, l := range [][]api.Entry{nil, {}, {noop(1, 1)}, {swap(1)}, {{}}} {
			noRecords(t, "no version", version, l)
		}
	}
}

// P10.1: false, if one has no frame of that version, wherever it stands.
func TestRecordsWrong(t *testing.T) {
	for at := range 4 {
		good := []api.Entry{noop(1, 1), write(2, 64), noop(3, 3)}
		for _, bad := range wrongs() {
			for version := 1; version <= 2; version++ {
				noRecords(t, "wrong", version, slices.Insert(slices.Clone(good), at, bad))
			}
		}
		l := slices.Insert(good, at, swap(9))
		noRecords(t, "a Swap", 1, l)
		if s, ok := Records(2, l); s != recorded(t, 2, l) || !ok {
			t.Errorf("with a Swap at %d it is %q, %v", at, s, ok)
		}
	}
}

// P10.1: what was recorded is parsed, whatever its Indexes and Terms are.
func TestParse(t *testing.T) {
	for version := 1; version <= 2; version++ {
		for _, l := range lists() {
			s := recorded(t, version, l)
			parses(t, "records", version, s, l, len(s))
			parses(t, "of the other version", 3-version, s, nil, 0)
			for _, none := range noVersions {
				parses(t, "no version", none, s, nil, 0)
			}
		}
	}
	for _, l := range swaps() {
		s := recorded(t, 2, l)
		parses(t, "swaps", 2, s, l, len(s))
		parses(t, "swaps", 1, s, nil, 0)
	}
	for _, version := range append([]int{1, 2}, noVersions...) {
		parses(t, "nothing", version, "", nil, 0)
		parses(t, "bytes 0", version, null(256), nil, 0)
		parses(t, "bytes", version, mixed(256), nil, 0)
	}
}

// strangers are what may stand where a record might, and is none of that version.
func strangers(t *testing.T, version int) map[string]string {
	t.Helper()
	m := map[string]string{"a byte 0": "\x00", "bytes 0": null(200), "junk": "junk", "bytes": mixed(200), "the mark alone": string([]byte{byte(160 + version)})}
	m["the other version"] = recorded(t, 3-version, []api.Entry{noop(1, 9)})
	for what, body := range map[string]string{"nothing": "", "junk": "junk", "what may be no entry": "\x00", "bytes": mixed(110), "bytes 0": null(110)} {
		for v := 1; v <= 2; v++ {
			f, _ := frame.Pack(v, body)
			m["a frame of "+what+" of "+string(rune('0'+v))] = f
		}
	}
	f, ok := frame.PutMsg(version, api.Msg{Kind: api.Vote, From: 1, To: 2, Term: 3, Prev: 4}) // that may be no entry of version 2 by its bytes, as it has a Block then
	if !ok {
		t.Fatal("no message")
	}
	m["a message"] = f
	other, _ := frame.PutEntry(3-version, noop(1, 9))
	_, body, _ := frame.Unpack(other)
	m["the other version's entry in a frame of this one"], _ = frame.Pack(version, body)
	s := recorded(t, version, []api.Entry{noop(1, 9)})
	m["a wrong sum"] = s[:len(s)/2] + string([]byte{s[len(s)/2] ^ 4}) + s[len(s)/2+1:]
	return m
}

// P10.1: it ends where none stands, whatever that is, and whatever stands behind it.
func TestParseStops(t *testing.T) {
	for version := 1; version <= 2; version++ {
		behind := recorded(t, version, []api.Entry{noop(7, 7)})
		for _, l := range [][]api.Entry{nil, {noop(1, 1)}, {noop(1, 1), write(2, 64), noop(2, 3)}} {
			s := recorded(t, version, l)
			for what, x := range strangers(t, version) {
				for version == 1 && len(x)%64 != 0 {
					x += "\x00"
				}
				parses(t, what, version, s+x, l, len(s))
				parses(t, what+", and one more", version, s+x+behind, l, len(s))
			}
		}
	}
}

// P10.1: of each cut those that are whole; of version 1 it ends at a multiple of Sector, but not above its size.
func TestParseCut(t *testing.T) {
	l := []api.Entry{noop(1, 1), write(2, 64), noop(2, 3), write(4, 5)}
	for version := 1; version <= 2; version++ {
		s, ends := spelled(t, version, l)
		for n := range len(s) + 1 {
			whole, used := 0, 0
			for k, end := range ends {
				size := end
				if version == 1 {
					size = end - 9
				}
				if n >= size {
					whole, used = k+1, min(end, n)
				}
			}
			parses(t, "cut", version, s[:n], l[:whole], used)
		}
	}
}

// P10.1: of version 1 it does not matter what stands between, or behind the last one.
func TestParseBetween(t *testing.T) {
	l := []api.Entry{noop(1, 1), write(2, 64), noop(2, 3)}
	f, _ := frame.PutEntry(1, noop(9, 9))
	for _, between := range []string{mixed(9), "\xff" + null(8), null(8) + "\xff", f[:9]} {
		s := ""
		for _, e := range l {
			one, _ := frame.PutEntry(1, e)
			s += one + between
		}
		parses(t, "between", 1, s, l, len(s))
		parses(t, "more behind", 1, s+"more", l, len(s))
	}
}

// P10.1: of version 1 each begins at a multiple of Sector, and the next one that there is; of version 2 right behind.
func TestParsePlaces(t *testing.T) {
	a, _ := frame.PutEntry(1, noop(1, 1))
	b, _ := frame.PutEntry(1, noop(1, 2))
	one := []api.Entry{noop(1, 1)}
	parses(t, "right behind", 1, a+b, one, 128)
	parses(t, "right behind, and there", 1, a+b+null(9+9)+b, one, 128)
	parses(t, "a byte too late", 1, a+null(10)+b, one, 128)
	parses(t, "a sector too late", 1, a+null(9+64)+b, one, 128)
	parses(t, "a byte too late at the front", 1, "\x00"+a, nil, 0)
	parses(t, "a sector too late at the front", 1, null(64)+a, nil, 0)
	x, _ := frame.PutEntry(2, noop(1, 1))
	y, _ := frame.PutEntry(2, noop(1, 2))
	parses(t, "right behind", 2, x+y, []api.Entry{noop(1, 1), noop(1, 2)}, len(x+y))
	parses(t, "a byte too late", 2, x+"\x00"+y, one, len(x))
	parses(t, "at a sector", 2, x+null(64-len(x))+y, one, len(x))
	parses(t, "a byte too late at the front", 2, "\x00"+x, nil, 0)
	parses(t, "of version 2 behind one of 1", 1, a+null(9)+y, one, 128)
	parses(t, "of version 1 behind one of 2", 2, x+b, one, len(x))
}

// P10.1: where a bit is turned none stands, nor is what stands behind it found.
func TestParseTurned(t *testing.T) {
	l := []api.Entry{noop(1, 1), write(2, 3), noop(2, 3)}
	for version := 1; version <= 2; version++ {
		s, ends := spelled(t, version, l)
		for bit := range 8 * len(s) {
			b := []byte(s)
			b[bit/8] ^= 1 << (bit % 8)
			k := 0
			for ends[k] <= bit/8 {
				k++
			}
			if version == 1 && bit/8 >= ends[k]-9 { // bytes that stand between
				parses(t, "turned between", version, string(b), l, len(s))
				continue
			}
			used := 0
			if k > 0 {
				used = ends[k-1]
			}
			parses(t, "turned", version, string(b), l[:k], used)
		}
	}
}

// P10.1: a sector that is lost ends it, whatever it has instead.
func TestParseLost(t *testing.T) {
	l := []api.Entry{write(1, 64), write(2, 64), write(3, 64), write(4, 64)}
	for version := 1; version <= 2; version++ {
		s, ends := spelled(t, version, l)
		for at := 0; at < len(s); at += 64 {
			for _, has := range []string{null(64), mixed(64)} {
				b := []byte(s)
				copy(b[at:], has)
				k := 0
				for ends[k] <= at {
					k++
				}
				used := 0
				if k > 0 {
					used = ends[k-1]
				}
				parses(t, "lost", version, string(b), l[:k], used)
			}
		}
	}
}

// The rules that hold everywhere: what is answered shares no memory with what was handed in.
func TestParseNewMemory(t *testing.T) {
	for version := 1; version <= 2; version++ {
		s := recorded(t, version, []api.Entry{write(1, 64), write(2, 64)})
		from := uintptr(unsafe.Pointer(unsafe.StringData(s)))
		l, _ := Parse(version, s)
		for _, e := range l {
			at := uintptr(unsafe.Pointer(unsafe.StringData(e.Data)))
			if from <= at && at < from+uintptr(len(s)) {
				t.Errorf("of version %d the Data is a part of what was handed in", version)
			}
		}
	}
}

// The rules that hold everywhere: what is handed in is not written into, nor what stands behind it.
func TestRecordsLeaves(t *testing.T) {
	room := []api.Entry{noop(1, 1), noop(1, 2), noop(1, 3), write(4, 5)}
	was := slices.Clone(room)
	for version := 1; version <= 2; version++ {
		Records(version, room[1:3])
		if !slices.Equal(room, was) {
			t.Errorf("what was handed in is %v now", room)
		}
	}
}

// plain is Parse, by another way: each end that there may be is tried.
func plain(version int, s string) (l []api.Entry, used int) {
	for at := 0; ; {
		found := false
		for end := at + 1; end <= len(s) && !found; end++ {
			e, v, ok := frame.GetEntry(s[at:end])
			if !ok || v != version {
				continue
			}
			found = true
			for version == 1 && end%64 != 0 && end < len(s) {
				end++
			}
			l, at = append(l, e), end
		}
		if !found {
			return l, at
		}
	}
}

// Of any bytes what is parsed is what the document says; and nothing panics.
func FuzzParse(f *testing.F) {
	for version := 1; version <= 2; version++ {
		for _, l := range [][]api.Entry{nil, {noop(1, 1)}, {noop(1, 1), write(2, 3)}} {
			s, _ := Records(version, l)
			f.Add(version, s)
			f.Add(version, s+"junk")
			f.Add(3, s)
		}
	}
	f.Fuzz(func(t *testing.T, version int, s string) {
		if len(s) > 1000 {
			return
		}
		l, used := plain(version, s)
		parses(t, "bytes", version, s, l, used)
		if version != 2 {
			return
		}
		if again, ok := Records(2, l); again != s[:used] || (len(l) > 0 && !ok) {
			t.Errorf("%x was parsed, and is recorded as %x", s[:used], again)
		}
	})
}

func BenchmarkParse(b *testing.B) {
	for _, version := range []int{1, 2} {
		s, _ := Records(version, slices.Repeat([]api.Entry{write(1, 64)}, 500))
		b.Run(string(rune('0'+version)), func(b *testing.B) {
			for range b.N {
				Parse(version, s)
			}
		})
	}
}
