package entry

import (
	"fmt"
	"math"
	"slices"
	"strings"
	"testing"

	"pintle/api"
)

// kinds are those of entries, with the fields that each may have.
var kinds = []struct {
	kind    int
	letters string
}{
	{api.Noop, ""},
	{api.Write, "cbd"},
	{api.Trim, "cbm"},
	{api.Resize, "cm"},
	{api.Open, "c"},
	{api.Add, "n"},
	{api.Remove, "n"},
	{api.Register, "nl"},
	{api.Upgrade, ""},
	{api.Lower, ""},
	{api.Finalise, ""},
	{api.Swap, "cbdo"},
}

// noKinds are numbers that are the kind of no entry.
var noKinds = []int{math.MinInt, -256, -11, -1, 12, 13, 14, 16, 100, 255, 256, 257, 267, 1 << 32, 1<<32 + 1, math.MaxInt}

// field is one of an entry: its letter, how it is set to a number (or to a text of so many bytes), and what may be.
type field struct {
	name  string
	in    string
	set   func(e *api.Entry, n uint64)
	may   []uint64
	wrong []uint64
}

// below is a number below 0, as it is handed to set.
func below(n int) uint64 { return uint64(n) }

var fieldsOfEntry = []field{
	{"Client", "c", func(e *api.Entry, n uint64) { e.Client = n },
		[]uint64{1, 2, 1 << 32, math.MaxInt64, 1 << 63, math.MaxUint64}, []uint64{0}},
	{"Seq", "c", func(e *api.Entry, n uint64) { e.Seq = n },
		[]uint64{0, 1, 1 << 32, math.MaxInt64, 1 << 63, math.MaxUint64}, nil},
	{"Block", "b", func(e *api.Entry, n uint64) { e.Block = n },
		[]uint64{0, 1, api.MaxBlocks, api.MaxBlocks + 1, 1<<32 - 1}, []uint64{1 << 32, 1<<32 + 1, 1 << 33, 1 << 63, math.MaxUint64}},
	{"Many", "m", func(e *api.Entry, n uint64) { e.Many = n },
		[]uint64{0, 1, api.MaxBlocks, api.MaxBlocks + 1, 1<<32 - 1}, []uint64{1 << 32, 1<<32 + 1, 1 << 33, 1 << 63, math.MaxUint64}},
	{"Node", "n", func(e *api.Entry, n uint64) { e.Node = int(n) },
		[]uint64{1, 2, 6, api.MaxNodes}, []uint64{0, below(-1), below(-7), api.MaxNodes + 1, 256, 257, 1<<32 + 1, below(math.MinInt), below(math.MinInt + 1), math.MaxInt}},
	{"Level", "l", func(e *api.Entry, n uint64) { e.Level = int(n) },
		[]uint64{1, 2}, []uint64{0, below(-1), below(-2), 3, 4, 257, 1<<32 + 1, below(math.MinInt), below(math.MinInt + 1), math.MaxInt}},
	{"Data", "d", func(e *api.Entry, n uint64) { e.Data = strings.Repeat("\xff", int(n)) },
		[]uint64{0, 1, api.Sector - 1, api.Sector}, []uint64{api.Sector + 1, 2 * api.Sector, 256, 257, 1 << 16}},
	{"Old", "o", func(e *api.Entry, n uint64) { e.Old = strings.Repeat("\x00", int(n)) },
		[]uint64{0, 1, api.Sector - 1, api.Sector}, []uint64{api.Sector + 1, 2 * api.Sector, 256, 257, 1 << 16}},
}

// least is a right entry of a kind, its fields as low as they may be.
func least(kind int, letters string) api.Entry {
	e := api.Entry{Term: 1, Index: 1, Kind: kind}
	for _, f := range fieldsOfEntry {
		if strings.Contains(letters, f.in) {
			f.set(&e, f.may[0])
		}
	}
	return e
}

// most is a right entry of a kind, its fields as high as they may be.
func most(kind int, letters string) api.Entry {
	e := api.Entry{Term: math.MaxUint64, Index: math.MaxUint64, Kind: kind}
	for _, f := range fieldsOfEntry {
		if strings.Contains(letters, f.in) {
			f.set(&e, f.may[len(f.may)-1])
		}
	}
	return e
}

// turned is the entries that differ from e in one field.
func turned(e api.Entry) []api.Entry {
	var list []api.Entry
	for _, turn := range []func(e *api.Entry){
		func(e *api.Entry) { e.Term++ },
		func(e *api.Entry) { e.Index++ },
		func(e *api.Entry) { e.Kind++ },
		func(e *api.Entry) { e.Client++ },
		func(e *api.Entry) { e.Seq++ },
		func(e *api.Entry) { e.Block++ },
		func(e *api.Entry) { e.Many++ },
		func(e *api.Entry) { e.Node++ },
		func(e *api.Entry) { e.Level++ },
		func(e *api.Entry) { e.Data += "\x00" },
		func(e *api.Entry) { e.Old += "\x00" },
		func(e *api.Entry) { e.Data, e.Old = e.Data+"x", e.Old+"y" },
		func(e *api.Entry) { e.Term += 1 << 32 },
		func(e *api.Entry) { e.Client += 1 << 63 },
		func(e *api.Entry) { e.Kind += 256 },
	} {
		x := e
		turn(&x)
		list = append(list, x)
	}
	return list
}

// P4.1: which fields an entry of a kind may have, and which kinds there are.
func TestFields(t *testing.T) {
	for _, k := range kinds {
		if got, ok := Fields(k.kind); got != k.letters || !ok {
			t.Errorf("Fields(%d) is %q, %v, not %q", k.kind, got, ok, k.letters)
		}
	}
	for _, kind := range noKinds {
		if got, ok := Fields(kind); got != "" || ok {
			t.Errorf("Fields(%d) is %q, %v", kind, got, ok)
		}
	}
}

// P4.1: an entry of each kind, as low and as high as it may be.
func TestRight(t *testing.T) {
	for _, k := range kinds {
		for _, e := range []api.Entry{least(k.kind, k.letters), most(k.kind, k.letters)} {
			if !Right(e) {
				t.Errorf("%+v is not right", e)
			}
		}
	}
	for _, kind := range noKinds {
		for _, letters := range []string{"", "cbd", "cbmnldo"} {
			if Right(least(kind, letters)) {
				t.Errorf("an entry of kind %d is right", kind)
			}
		}
	}
	if Right(api.Entry{}) {
		t.Error("the entry of nothing is right")
	}
}

// P4.1: Term and Index are at least 1.
func TestRightTermAndIndex(t *testing.T) {
	for _, k := range kinds {
		for _, n := range []uint64{0, 1, 2, 1 << 32, 1 << 62, 1 << 63, math.MaxUint64} {
			e, f := least(k.kind, k.letters), least(k.kind, k.letters)
			e.Term, f.Index = n, n
			if got := Right(e); got != (n >= 1) {
				t.Errorf("kind %d: of Term %d: %v", k.kind, n, got)
			}
			if got := Right(f); got != (n >= 1) {
				t.Errorf("kind %d: of Index %d: %v", k.kind, n, got)
			}
		}
	}
}

// P4.1: what each field that a kind has may be, and may not be.
func TestRightLimits(t *testing.T) {
	for _, k := range kinds {
		for _, f := range fieldsOfEntry {
			if !strings.Contains(k.letters, f.in) {
				continue
			}
			for _, whole := range []api.Entry{least(k.kind, k.letters), most(k.kind, k.letters)} {
				for _, n := range f.may {
					e := whole
					if f.set(&e, n); !Right(e) {
						t.Errorf("kind %d: of %s %d it is not right", k.kind, f.name, n)
					}
				}
				for _, n := range f.wrong {
					e := whole
					if f.set(&e, n); Right(e) {
						t.Errorf("kind %d: of %s %d it is right", k.kind, f.name, int(n))
					}
				}
			}
		}
	}
}

// P4.1: a field that a kind has not is 0, or empty.
func TestRightHasNot(t *testing.T) {
	for _, k := range kinds {
		for _, f := range fieldsOfEntry {
			if strings.Contains(k.letters, f.in) {
				continue
			}
			for _, n := range slices.Concat(f.may, f.wrong) {
				e := least(k.kind, k.letters)
				f.set(&e, n)
				if got := Right(e); got != (n == 0) {
					t.Errorf("kind %d, that has no %s, of %d: %v", k.kind, f.name, int(n), got)
				}
			}
		}
	}
}

// P4.1: one fault is enough, whatever else is right, and two faults do not make it right.
func TestRightTwoFaults(t *testing.T) {
	for _, e := range []api.Entry{
		{Kind: api.Write, Client: 1},
		{Term: 1, Kind: api.Write},
		{Term: 1, Index: 1, Kind: api.Write, Many: 1},
		{Term: 1, Index: 1, Kind: api.Write, Client: 1, Old: "x", Data: strings.Repeat("x", 65)},
		{Term: 1, Index: 1, Kind: api.Write, Client: 1, Block: 1 << 32, Many: 1 << 32},
		{Term: 1, Index: 1, Kind: api.Register, Node: 8, Level: 3},
		{Term: 1, Index: 1, Kind: api.Register, Node: -1, Level: -1},
		{Term: 1, Index: 1, Kind: api.Register, Level: 1},
		{Term: 1, Index: 1, Kind: api.Add, Node: 1, Level: 1},
		{Term: 1, Index: 1, Kind: api.Open, Seq: 1},
		{Term: 1, Index: 1, Kind: 12, Client: 1},
	} {
		if Right(e) {
			t.Errorf("%+v is right", e)
		}
	}
}

// plain is Right, as the chapter tells it, kind by kind.
func plain(e api.Entry) bool {
	has := map[int]string{}
	for _, k := range kinds {
		has[k.kind] = k.letters
	}
	letters, ok := has[e.Kind]
	if !ok || e.Term == 0 || e.Index == 0 {
		return false
	}
	for _, letter := range "cbmnldo" {
		if strings.ContainsRune(letters, letter) {
			if letter == 'c' && e.Client == 0 || letter == 'n' && (e.Node < 1 || e.Node > 7) || letter == 'l' && e.Level != 1 && e.Level != 2 {
				return false
			}
			continue
		}
		if letter == 'c' && (e.Client != 0 || e.Seq != 0) || letter == 'b' && e.Block != 0 || letter == 'm' && e.Many != 0 || letter == 'n' && e.Node != 0 || letter == 'l' && e.Level != 0 || letter == 'd' && e.Data != "" || letter == 'o' && e.Old != "" {
			return false
		}
	}
	return e.Block < 1<<32 && e.Many < 1<<32 && len(e.Data) <= 64 && len(e.Old) <= 64
}

// dice draws numbers, the same ones each time.
type dice uint32

func (d *dice) draw(n int) int {
	*d = *d*1664525 + 1013904223
	return int(*d>>8) % n
}

// pick is one of a list.
func pick[T any](d *dice, list ...T) T { return list[d.draw(len(list))] }

// drawn is an entry, more often than not of the fields that its kind has.
func drawn(d *dice) api.Entry {
	k := kinds[d.draw(len(kinds))]
	e := api.Entry{Term: pick[uint64](d, 0, 1, 1, 1, 9), Index: pick[uint64](d, 0, 1, 1, 1, 9), Kind: k.kind}
	if d.draw(20) == 0 {
		e.Kind = noKinds[d.draw(len(noKinds))]
	}
	for _, f := range fieldsOfEntry {
		if strings.Contains(k.letters, f.in) && d.draw(20) != 0 || d.draw(50) == 0 {
			values := f.may
			if len(f.wrong) > 0 && d.draw(20) == 0 {
				values = f.wrong
			}
			f.set(&e, values[d.draw(len(values))])
		}
	}
	return e
}

// P4.1: entries of all sorts, held against what the chapter tells kind by kind.
func TestRightCourse(t *testing.T) {
	var d dice
	right := 0
	for range 50000 {
		e := drawn(&d)
		if got := Right(e); got != plain(e) {
			t.Fatalf("Right of %s, %+v: %v", Text(e), e, got)
		}
		if Right(e) {
			right++
		}
	}
	if right < 5000 || right > 45000 {
		t.Errorf("%d of them are right", right)
	}
}

// P4.1: 2 of Swap, else 1, right or not.
func TestLevel(t *testing.T) {
	for _, k := range kinds {
		want := 1
		if k.kind == api.Swap {
			want = 2
		}
		for _, e := range []api.Entry{{Kind: k.kind}, least(k.kind, k.letters), most(k.kind, k.letters), most(k.kind, "cbmnldo")} {
			if got := Level(e); got != want {
				t.Errorf("Level of %+v is %d", e, got)
			}
		}
	}
	for _, kind := range noKinds {
		if got := Level(api.Entry{Kind: kind, Level: 2}); got != 1 {
			t.Errorf("Level of an entry of kind %d is %d", kind, got)
		}
	}
}

// P4.3: all fields count, those too that the kind has not.
func TestSame(t *testing.T) {
	for _, k := range kinds {
		for _, e := range []api.Entry{{}, least(k.kind, k.letters), most(k.kind, k.letters), most(k.kind, "cbmnldo")} {
			again := e
			again.Data, again.Old = strings.Clone(e.Data), strings.Clone(e.Old)
			if !Same(e, again) {
				t.Errorf("%+v is not the same as itself", e)
			}
			for _, x := range turned(e) {
				if Same(e, x) || Same(x, e) {
					t.Errorf("%+v and %+v are the same", e, x)
				}
			}
		}
	}
	a := api.Entry{Term: 1, Index: 2, Client: 3, Seq: 4, Block: 5, Many: 6, Node: 7, Level: 8, Data: "d", Old: "o"}
	for _, b := range []api.Entry{
		{Term: 2, Index: 1, Client: 3, Seq: 4, Block: 5, Many: 6, Node: 7, Level: 8, Data: "d", Old: "o"},
		{Term: 1, Index: 2, Client: 4, Seq: 3, Block: 5, Many: 6, Node: 7, Level: 8, Data: "d", Old: "o"},
		{Term: 1, Index: 2, Client: 3, Seq: 4, Block: 6, Many: 5, Node: 7, Level: 8, Data: "d", Old: "o"},
		{Term: 1, Index: 2, Client: 3, Seq: 4, Block: 5, Many: 6, Node: 8, Level: 7, Data: "d", Old: "o"},
		{Term: 1, Index: 2, Client: 3, Seq: 4, Block: 5, Many: 6, Node: 7, Level: 8, Data: "o", Old: "d"},
	} {
		if Same(a, b) {
			t.Errorf("%+v and %+v are the same", a, b)
		}
	}
}

// whole is an entry all of whose fields are something.
func whole(kind int) api.Entry {
	return api.Entry{Term: 12, Index: 34, Kind: kind, Client: 5, Seq: 67, Block: 8, Many: 90, Node: 3, Level: 2, Data: "\x00a\xff", Old: "\x1f\xe0"}
}

// P4.3: how an entry of each kind is told: just those fields that the kind has, in their order.
func TestText(t *testing.T) {
	for kind, want := range []string{
		"0 12.34",
		"1 12.34 c=5/67 b=8 d=0061ff",
		"2 12.34 c=5/67 b=8 m=90",
		"3 12.34 c=5/67 m=90",
		"4 12.34 c=5/67",
		"5 12.34 n=3",
		"6 12.34 n=3",
		"7 12.34 n=3 l=2",
		"8 12.34",
		"9 12.34",
		"10 12.34",
		"11 12.34 c=5/67 b=8 d=0061ff o=1fe0",
	} {
		if got := Text(whole(kind)); got != want {
			t.Errorf("Text of kind %d is %q, not %q", kind, got, want)
		}
	}
	for _, kind := range noKinds {
		if got, want := Text(whole(kind)), fmt.Sprintf("%d 12.34", kind); got != want {
			t.Errorf("Text of kind %d is %q, not %q", kind, got, want)
		}
	}
}

// P4.3: fields that are 0, or empty, are told too; so is what is not right.
func TestTextEdges(t *testing.T) {
	ones := uint64(math.MaxUint64)
	for _, c := range []struct {
		e    api.Entry
		want string
	}{
		{api.Entry{}, "0 0.0"},
		{api.Entry{Kind: api.Write}, "1 0.0 c=0/0 b=0 d="},
		{api.Entry{Kind: api.Trim}, "2 0.0 c=0/0 b=0 m=0"},
		{api.Entry{Kind: api.Register}, "7 0.0 n=0 l=0"},
		{api.Entry{Kind: api.Swap}, "11 0.0 c=0/0 b=0 d= o="},
		{api.Entry{Kind: api.Swap, Old: "x"}, "11 0.0 c=0/0 b=0 d= o=78"},
		{api.Entry{Kind: api.Add, Node: -1}, "5 0.0 n=-1"},
		{api.Entry{Kind: api.Register, Node: -10, Level: -200}, "7 0.0 n=-10 l=-200"},
		{api.Entry{Kind: api.Register, Node: math.MinInt, Level: math.MaxInt}, "7 0.0 n=-9223372036854775808 l=9223372036854775807"},
		{api.Entry{Kind: -1, Term: 1, Index: 1}, "-1 1.1"},
		{api.Entry{Kind: math.MinInt, Term: ones, Index: 1 << 63}, "-9223372036854775808 18446744073709551615.9223372036854775808"},
		{api.Entry{Kind: api.Trim, Term: ones, Index: ones, Client: ones, Seq: ones, Block: ones, Many: ones}, "2 18446744073709551615.18446744073709551615 c=18446744073709551615/18446744073709551615 b=18446744073709551615 m=18446744073709551615"},
	} {
		if got := Text(c.e); got != c.want {
			t.Errorf("Text of %+v is %q, not %q", c.e, got, c.want)
		}
	}
}

// bytes256 is each byte once.
func bytes256() string {
	b := make([]byte, 256)
	for k := range b {
		b[k] = byte(k)
	}
	return string(b)
}

// P4.3: each byte is two small digits, whatever runes the bytes are.
func TestTextSixteenths(t *testing.T) {
	for _, s := range []string{bytes256(), "\u00e9\u65e5", "\xed\xa0\x80", "= ;]\n\"", strings.Repeat("\x0f\xf0", 5000)} {
		want := fmt.Sprintf("11 1.1 c=1/0 b=0 d=%x o=%x", s, s[1:])
		if got := Text(api.Entry{Term: 1, Index: 1, Kind: api.Swap, Client: 1, Data: s, Old: s[1:]}); got != want {
			t.Errorf("Text is %q, not %q", got, want)
		}
	}
}

// P4.4: entries that are right are the same, if their texts are, and just then.
func TestTextTells(t *testing.T) {
	var list []api.Entry
	for _, k := range kinds {
		for _, e := range []api.Entry{least(k.kind, k.letters), most(k.kind, k.letters)} {
			list = append(list, e)
			list = append(list, turned(e)...)
		}
	}
	for _, texts := range [][2]string{{"", "\x00"}, {"a", ""}, {"a", "b"}, {"ab", ""}, {"", "ab"}, {"b", "a"}, {"0", "o"}} {
		for _, kind := range []int{api.Write, api.Swap} {
			list = append(list, api.Entry{Term: 1, Index: 1, Kind: kind, Client: 1, Data: texts[0], Old: texts[1]})
			list = append(list, api.Entry{Term: 11, Index: 1, Kind: kind, Client: 1, Data: texts[0], Old: texts[1]})
			list = append(list, api.Entry{Term: 1, Index: 11, Kind: kind, Client: 1, Data: texts[0], Old: texts[1]})
			list = append(list, api.Entry{Term: 1, Index: 1, Kind: kind, Client: 11, Seq: 1, Data: texts[0], Old: texts[1]})
			list = append(list, api.Entry{Term: 1, Index: 1, Kind: kind, Client: 1, Seq: 11, Data: texts[0], Old: texts[1]})
		}
	}
	var d dice
	for range 300 {
		list = append(list, drawn(&d))
	}
	list = slices.DeleteFunc(list, func(e api.Entry) bool { return !Right(e) })
	for _, a := range list {
		for _, b := range list {
			if told := Text(a) == Text(b); told != Same(a, b) || told != (a == b) {
				t.Errorf("%+v and %+v: texts the same: %v, Same: %v", a, b, told, Same(a, b))
			}
		}
	}
}

// The rules that hold everywhere: the same answer each time, also from several goroutines.
func TestSameAnswer(t *testing.T) {
	texts := make(chan string)
	for range 8 {
		go func() {
			s := ""
			for kind := range 13 {
				s += Text(whole(kind)) + "\n"
			}
			texts <- s
		}()
	}
	first := <-texts
	for range 7 {
		if s := <-texts; s != first {
			t.Errorf("%q, then %q", first, s)
		}
	}
}

func BenchmarkRight(b *testing.B) {
	e := most(api.Swap, "cbdo")
	for range b.N {
		Right(e)
	}
}

func BenchmarkText(b *testing.B) {
	e := most(api.Swap, "cbdo")
	for range b.N {
		Text(e)
	}
}
