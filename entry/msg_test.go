package entry

import (
	"fmt"
	"math"
	"slices"
	"strings"
	"testing"

	"pintle/api"
)

// msgKinds are those of messages, with the fields that each may have.
var msgKinds = []struct {
	kind    int
	letters string
}{
	{api.Ask, "ip"},
	{api.Would, "y"},
	{api.Vote, "ip"},
	{api.Voted, "y"},
	{api.Append, "iptek"},
	{api.Appended, "iyk"},
	{api.Install, "ips"},
	{api.Taken, "i"},
	{api.Probe, "k"},
	{api.Probed, "k"},
}

// noMsgKinds are numbers that are the kind of no message.
var noMsgKinds = []int{math.MinInt, -256, -5, -1, 0, 11, 12, 15, 100, 255, 256, 257, 261, 1 << 32, 1<<32 + 1, math.MaxInt}

// msgField is one of a message: its letter, how it is set to a number (or to so many), and what may be.
type msgField struct {
	name  string
	in    string
	set   func(m *api.Msg, n uint64)
	may   []uint64
	wrong []uint64
}

// many is so many right entries.
func many(n int) []api.Entry {
	l := make([]api.Entry, n)
	for k := range l {
		l[k] = api.Entry{Term: 1, Index: uint64(k) + 1}
	}
	return l
}

// any64 are numbers of 64 bits, all of which may be.
var any64 = []uint64{0, 1, 1 << 32, 1 << 62, math.MaxInt64, 1 << 63, math.MaxUint64}

var fieldsOfMsg = []msgField{
	{"Index", "i", func(m *api.Msg, n uint64) { m.Index = n }, any64, nil},
	{"Prev", "p", func(m *api.Msg, n uint64) { m.Prev = n }, any64, nil},
	{"Commit", "t", func(m *api.Msg, n uint64) { m.Commit = n }, any64, nil},
	{"Mark", "k", func(m *api.Msg, n uint64) { m.Mark = n }, any64, nil},
	{"OK", "y", func(m *api.Msg, n uint64) { m.OK = n != 0 }, []uint64{0, 1}, nil},
	{"Entries", "e", func(m *api.Msg, n uint64) { m.Entries = many(int(n)) },
		[]uint64{0, 1, api.MaxEntries - 1, api.MaxEntries}, []uint64{api.MaxEntries + 1, 2 * api.MaxEntries, 256, 257}},
	{"Snap", "s", func(m *api.Msg, n uint64) { m.Snap = strings.Repeat("s", int(n)) },
		[]uint64{0, 1, api.MaxBytes - 1, api.MaxBytes}, []uint64{api.MaxBytes + 1, 2 * api.MaxBytes, 1 << 16, 1<<16 + 1}},
}

// leastMsg is a right message of a kind, its fields as low as they may be.
func leastMsg(kind int) api.Msg {
	return api.Msg{Kind: kind, From: 1, To: 1}
}

// mostMsg is a right message of a kind, its fields as high as they may be.
func mostMsg(kind int, letters string) api.Msg {
	m := api.Msg{Kind: kind, From: api.MaxNodes, To: api.MaxNodes, Term: math.MaxUint64}
	for _, f := range fieldsOfMsg {
		if strings.Contains(letters, f.in) {
			f.set(&m, f.may[len(f.may)-1])
		}
	}
	return m
}

// turnedMsg is the messages that differ from m in one field.
func turnedMsg(m api.Msg) []api.Msg {
	var list []api.Msg
	for _, turn := range []func(m *api.Msg){
		func(m *api.Msg) { m.Kind++ },
		func(m *api.Msg) { m.From++ },
		func(m *api.Msg) { m.To++ },
		func(m *api.Msg) { m.Term++ },
		func(m *api.Msg) { m.Index++ },
		func(m *api.Msg) { m.Prev++ },
		func(m *api.Msg) { m.Commit++ },
		func(m *api.Msg) { m.Mark++ },
		func(m *api.Msg) { m.OK = !m.OK },
		func(m *api.Msg) { m.Entries = append(slices.Clone(m.Entries), api.Entry{}) },
		func(m *api.Msg) { m.Entries = slices.Concat([]api.Entry{{Term: 99}}, m.Entries) },
		func(m *api.Msg) { m.Snap += "\x00" },
		func(m *api.Msg) { m.Term += 1 << 32 },
		func(m *api.Msg) { m.Mark += 1 << 63 },
	} {
		x := m
		turn(&x)
		list = append(list, x)
	}
	for k, e := range m.Entries {
		less := m
		less.Entries = slices.Delete(slices.Clone(m.Entries), k, k+1)
		list = append(list, less)
		for _, f := range turned(e) {
			other := m
			other.Entries = slices.Clone(m.Entries)
			other.Entries[k] = f
			list = append(list, other)
		}
	}
	return list
}

// P4.2: which fields a message of a kind may have, and which kinds there are.
func TestMsgFields(t *testing.T) {
	for _, k := range msgKinds {
		if got, ok := MsgFields(k.kind); got != k.letters || !ok {
			t.Errorf("MsgFields(%d) is %q, %v, not %q", k.kind, got, ok, k.letters)
		}
	}
	for _, kind := range noMsgKinds {
		if got, ok := MsgFields(kind); got != "" || ok {
			t.Errorf("MsgFields(%d) is %q, %v", kind, got, ok)
		}
	}
}

// P4.2: a message of each kind, as low and as high as it may be; any Term may be.
func TestMsgRight(t *testing.T) {
	for _, k := range msgKinds {
		for _, m := range []api.Msg{leastMsg(k.kind), mostMsg(k.kind, k.letters)} {
			for _, term := range any64 {
				m.Term = term
				if !MsgRight(m) {
					t.Errorf("kind %d: of Term %d it is not right", k.kind, term)
				}
			}
		}
	}
	for _, kind := range noMsgKinds {
		for _, letters := range []string{"", "k", "iptkyes"} {
			if MsgRight(mostMsg(kind, letters)) {
				t.Errorf("a message of kind %d is right", kind)
			}
		}
	}
	if MsgRight(api.Msg{}) {
		t.Error("the message of nothing is right")
	}
}

// P4.2: From and To are 1 to MaxNodes, and may be the same.
func TestMsgRightNodes(t *testing.T) {
	nodes := []int{math.MinInt, math.MinInt + 1, -256, -7, -1, 0, 1, 2, 6, 7, 8, 9, 256, 257, 1<<32 + 1, math.MaxInt}
	for _, k := range msgKinds {
		for _, from := range nodes {
			for _, to := range nodes {
				m := leastMsg(k.kind)
				m.From, m.To = from, to
				want := slices.Contains([]int{1, 2, 6, 7}, from) && slices.Contains([]int{1, 2, 6, 7}, to)
				if got := MsgRight(m); got != want {
					t.Errorf("kind %d: from %d to %d: %v", k.kind, from, to, got)
				}
			}
		}
	}
}

// P4.2: what each field that a kind has may be, and may not be.
func TestMsgRightLimits(t *testing.T) {
	for _, k := range msgKinds {
		for _, f := range fieldsOfMsg {
			if !strings.Contains(k.letters, f.in) {
				continue
			}
			for _, whole := range []api.Msg{leastMsg(k.kind), mostMsg(k.kind, k.letters)} {
				for _, n := range f.may {
					m := whole
					if f.set(&m, n); !MsgRight(m) {
						t.Errorf("kind %d: of %s %d it is not right", k.kind, f.name, n)
					}
				}
				for _, n := range f.wrong {
					m := whole
					if f.set(&m, n); MsgRight(m) {
						t.Errorf("kind %d: of %s %d it is right", k.kind, f.name, n)
					}
				}
			}
		}
	}
}

// P4.2: a field that a kind has not is 0, false, or empty.
func TestMsgRightHasNot(t *testing.T) {
	for _, k := range msgKinds {
		for _, f := range fieldsOfMsg {
			if strings.Contains(k.letters, f.in) {
				continue
			}
			for _, n := range slices.Concat(f.may, f.wrong) {
				m := leastMsg(k.kind)
				f.set(&m, n)
				if got := MsgRight(m); got != (n == 0) {
					t.Errorf("kind %d, that has no %s, of %d: %v", k.kind, f.name, n, got)
				}
			}
		}
	}
}

// P4.2: each entry is right, wherever it stands; whether they follow one another is not asked.
func TestMsgRightEntries(t *testing.T) {
	for _, wrong := range []api.Entry{
		{},
		{Term: 1, Index: 1, Kind: 12},
		{Term: 1, Index: 0},
		{Term: 1, Index: 1, Kind: api.Write},
		{Term: 1, Index: 1, Kind: api.Write, Client: 1, Data: strings.Repeat("x", 65)},
	} {
		for k := range api.MaxEntries {
			m := api.Msg{Kind: api.Append, From: 1, To: 2, Entries: many(api.MaxEntries)}
			m.Entries[k] = wrong
			if MsgRight(m) {
				t.Errorf("with %+v at %d it is right", wrong, k)
			}
		}
	}
	m := api.Msg{Kind: api.Append, From: 1, To: 2, Entries: []api.Entry{
		{Term: 9, Index: 9},
		{Term: 1, Index: 1, Kind: api.Swap, Client: 1},
		{Term: 9, Index: 9},
	}}
	if !MsgRight(m) {
		t.Error("with entries in no order it is not right")
	}
	m.Entries = []api.Entry{}
	if !MsgRight(m) {
		t.Error("with an empty list it is not right")
	}
	if m = (api.Msg{Kind: api.Ask, From: 1, To: 2, Entries: []api.Entry{}}); !MsgRight(m) {
		t.Error("an Ask with an empty list is not right")
	}
}

// P4.2: 2 of Probe and Probed, and where one of the entries has it, right or not; else 1.
func TestMsgLevel(t *testing.T) {
	for kind := -2; kind < 20; kind++ {
		want := 1
		if kind == api.Probe || kind == api.Probed {
			want = 2
		}
		for _, m := range []api.Msg{{Kind: kind}, {Kind: kind, From: 1, To: 2, Mark: 1}, {Kind: kind, Entries: many(3)}, mostMsg(kind, "iptkyes")} {
			if got := MsgLevel(m); got != want {
				t.Errorf("MsgLevel of %s is %d", MsgText(m), got)
			}
		}
		for k := range 5 {
			m := api.Msg{Kind: kind, Entries: many(5)}
			m.Entries[k] = api.Entry{Kind: api.Swap}
			if got := MsgLevel(m); got != 2 {
				t.Errorf("MsgLevel of kind %d with a Swap at %d is %d", kind, k, got)
			}
		}
	}
	if got := MsgLevel(api.Msg{Kind: api.Append, Entries: []api.Entry{{Kind: api.Register, Level: 2}}}); got != 1 {
		t.Errorf("MsgLevel of a Register of Level 2 is %d", got)
	}
}

// P4.3: all fields count, those too that the kind has not, and each entry in its place.
func TestMsgSame(t *testing.T) {
	for _, k := range msgKinds {
		full := mostMsg(k.kind, "iptkyes")
		full.Entries = []api.Entry{least(api.Write, "cbd"), most(api.Swap, "cbdo"), least(api.Noop, "")}
		for _, m := range []api.Msg{{}, leastMsg(k.kind), mostMsg(k.kind, k.letters), full} {
			again := m
			again.Entries, again.Snap = slices.Clone(m.Entries), strings.Clone(m.Snap)
			if !MsgSame(m, again) {
				t.Errorf("%s is not the same as itself", MsgText(m))
			}
			for at, x := range turnedMsg(m) {
				if MsgSame(m, x) || MsgSame(x, m) {
					t.Errorf("%s and what was turned at %d are the same", MsgText(m), at)
				}
			}
		}
	}
	a := api.Msg{Kind: api.Append, Entries: many(2)}
	b := api.Msg{Kind: api.Append, Entries: many(2)}
	slices.Reverse(b.Entries)
	if MsgSame(a, b) {
		t.Error("entries in another order are the same")
	}
	if none, empty := (api.Msg{Kind: api.Append}), (api.Msg{Kind: api.Append, Entries: []api.Entry{}}); !MsgSame(none, empty) || !MsgSame(empty, none) {
		t.Error("a list that is nil, and one that is empty, are not the same")
	}
}

// wholeMsg is a message all of whose fields are something.
func wholeMsg(kind int) api.Msg {
	return api.Msg{Kind: kind, From: 2, To: 7, Term: 12, Index: 34, Prev: 5, Commit: 67, Mark: 8, OK: true, Entries: []api.Entry{whole(api.Write), whole(api.Lower), whole(api.Register)}, Snap: "\x00s\xff"}
}

// P4.3: how a message of each kind is told: just those fields that the kind has, in their order.
func TestMsgText(t *testing.T) {
	for kind, want := range []string{
		"0 2>7 12",
		"1 2>7 12 i=34 p=5",
		"2 2>7 12 y=1",
		"3 2>7 12 i=34 p=5",
		"4 2>7 12 y=1",
		"5 2>7 12 i=34 p=5 t=67 k=8 e=[1 12.34 c=5/67 b=8 d=0061ff;9 12.34;7 12.34 n=3 l=2]",
		"6 2>7 12 i=34 k=8 y=1",
		"7 2>7 12 i=34 p=5 s=0073ff",
		"8 2>7 12 i=34",
		"9 2>7 12 k=8",
		"10 2>7 12 k=8",
		"11 2>7 12",
	} {
		if got := MsgText(wholeMsg(kind)); got != want {
			t.Errorf("MsgText of kind %d is %q, not %q", kind, got, want)
		}
	}
	for _, kind := range noMsgKinds {
		if got, want := MsgText(wholeMsg(kind)), fmt.Sprintf("%d 2>7 12", kind); got != want {
			t.Errorf("MsgText of kind %d is %q, not %q", kind, got, want)
		}
	}
}

// P4.3: fields that are 0, false, or empty, are told too; so is what is not right.
func TestMsgTextEdges(t *testing.T) {
	ones := uint64(math.MaxUint64)
	for _, c := range []struct {
		m    api.Msg
		want string
	}{
		{api.Msg{}, "0 0>0 0"},
		{api.Msg{Kind: api.Append}, "5 0>0 0 i=0 p=0 t=0 k=0 e=[]"},
		{api.Msg{Kind: api.Append, Entries: []api.Entry{}}, "5 0>0 0 i=0 p=0 t=0 k=0 e=[]"},
		{api.Msg{Kind: api.Append, Entries: make([]api.Entry, 1)}, "5 0>0 0 i=0 p=0 t=0 k=0 e=[0 0.0]"},
		{api.Msg{Kind: api.Append, Entries: make([]api.Entry, 2)}, "5 0>0 0 i=0 p=0 t=0 k=0 e=[0 0.0;0 0.0]"},
		{api.Msg{Kind: api.Append, Entries: []api.Entry{{Kind: -1}, {Kind: 12, Client: 1}, {Kind: api.Swap}}}, "5 0>0 0 i=0 p=0 t=0 k=0 e=[-1 0.0;12 0.0;11 0.0 c=0/0 b=0 d= o=]"},
		{api.Msg{Kind: api.Append, From: 1, To: 2, Term: ones, Index: ones, Prev: ones, Commit: ones, Mark: 1 << 63}, "5 1>2 18446744073709551615 i=18446744073709551615 p=18446744073709551615 t=18446744073709551615 k=9223372036854775808 e=[]"},
		{api.Msg{Kind: api.Would, From: 1, To: 2}, "2 1>2 0 y=0"},
		{api.Msg{Kind: api.Appended}, "6 0>0 0 i=0 k=0 y=0"},
		{api.Msg{Kind: api.Install}, "7 0>0 0 i=0 p=0 s="},
		{api.Msg{Kind: -1, From: -2, To: -3, Term: 4}, "-1 -2>-3 4"},
		{api.Msg{Kind: api.Taken, From: math.MinInt, To: math.MaxInt}, "8 -9223372036854775808>9223372036854775807 0 i=0"},
	} {
		if got := MsgText(c.m); got != c.want {
			t.Errorf("MsgText of %+v is %q, not %q", c.m, got, c.want)
		}
	}
}

// P4.3: a snap's bytes, and more entries than may be.
func TestMsgTextLong(t *testing.T) {
	snap := strings.Repeat(bytes256(), 65)
	if got, want := MsgText(api.Msg{Kind: api.Install, Snap: snap}), fmt.Sprintf("7 0>0 0 i=0 p=0 s=%x", snap); got != want {
		t.Error("a long snap is told otherwise")
	}
	var want []string
	for k := range 100 {
		want = append(want, fmt.Sprintf("0 1.%d", k+1))
	}
	if got := MsgText(api.Msg{Kind: api.Append, Entries: many(100)}); got != "5 0>0 0 i=0 p=0 t=0 k=0 e=["+strings.Join(want, ";")+"]" {
		t.Errorf("of 100 entries: %q", got)
	}
}

// P4.4: messages that are right are the same, if their texts are, and just then.
func TestMsgTextTells(t *testing.T) {
	var list []api.Msg
	for _, k := range msgKinds {
		m := leastMsg(k.kind)
		list = append(list, m)
		list = append(list, turnedMsg(m)...)
		for _, f := range fieldsOfMsg {
			x := m
			f.set(&x, 11)
			list = append(list, x)
		}
	}
	m := api.Msg{Kind: api.Append, From: 1, To: 2, Entries: []api.Entry{least(api.Write, "cbd"), least(api.Swap, "cbdo"), least(api.Register, "nl")}}
	list = append(list, turnedMsg(m)...)
	list = slices.DeleteFunc(list, func(m api.Msg) bool { return !MsgRight(m) })
	for _, a := range list {
		for _, b := range list {
			if told := MsgText(a) == MsgText(b); told != MsgSame(a, b) {
				t.Errorf("%s and %s: texts the same: %v, MsgSame: %v", MsgText(a), MsgText(b), told, !told)
			}
		}
	}
}

// The rules that hold everywhere: nothing that is handed in is written into, nor what stands behind it.
func TestMsgNotWrittenInto(t *testing.T) {
	room := many(8)
	for k := range room {
		room[k].Data = fmt.Sprint(k)
	}
	before := slices.Clone(room)
	m := api.Msg{Kind: api.Append, From: 1, To: 2, Entries: room[2:5]}
	MsgRight(m)
	MsgLevel(m)
	MsgSame(m, m)
	MsgText(m)
	if !slices.Equal(room, before) {
		t.Errorf("it is %+v now", room)
	}
}

func BenchmarkMsgRight(b *testing.B) {
	m := mostMsg(api.Append, "iptek")
	for range b.N {
		MsgRight(m)
	}
}

func BenchmarkMsgText(b *testing.B) {
	m := mostMsg(api.Append, "iptek")
	for range b.N {
		MsgText(m)
	}
}
