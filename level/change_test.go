package level

import (
	"math"
	"slices"
	"testing"

	"pintle/api"
	"pintle/entry"
)

// plainly is what an entry makes of a Config, as the chapter tells it: another reading, by how each node stands.
func plainly(c Config, e api.Entry) (Config, api.Errno) {
	if !mayBe(c) || !entry.Right(e) {
		return c, api.ErrArg
	}
	highest := map[int]int{}
	for at, node := range c.Members {
		highest[node] = c.Highest[at]
	}
	level, final := c.Level, c.Final
	member := highest[e.Node] > 0
	fault := func(f api.Errno) (Config, api.Errno) { return c, f }
	switch e.Kind {
	case api.Add:
		if member {
			return fault(api.ErrBusy)
		}
		if level == 2 {
			return fault(api.ErrLevel)
		}
		highest[e.Node] = 1
	case api.Remove:
		if !member {
			return fault(api.ErrNone)
		}
		if len(highest) == 1 {
			return fault(api.ErrBusy)
		}
		delete(highest, e.Node)
	case api.Register:
		if !member {
			return fault(api.ErrNone)
		}
		if e.Level == 1 && level == 2 {
			return fault(api.ErrLevel)
		}
		highest[e.Node] = e.Level
	case api.Upgrade:
		if level == 2 {
			return fault(api.ErrBusy)
		}
		for _, h := range highest {
			if h == 1 {
				return fault(api.ErrLevel)
			}
		}
		level = 2
	case api.Lower:
		if level == 1 {
			return fault(api.ErrBusy)
		}
		if final {
			return fault(api.ErrLevel)
		}
		level = 1
	case api.Finalise:
		if level == 1 {
			return fault(api.ErrLevel)
		}
		if final {
			return fault(api.ErrBusy)
		}
		final = true
	}
	var pairs []int
	for node := range 8 {
		if highest[node] > 0 {
			pairs = append(pairs, node, highest[node])
		}
	}
	return config(level, final, pairs...), api.OK
}

// told is an entry of that kind, and of these numbers: Node, Level.
func told(kind int, numbers ...int) api.Entry {
	e := api.Entry{Term: 1, Index: 1, Kind: kind}
	if len(numbers) > 0 {
		e.Node = numbers[0]
	}
	if len(numbers) > 1 {
		e.Level = numbers[1]
	}
	return e
}

// changing are all entries that a Config may be changed by, but for Term and Index.
func changing() []api.Entry {
	list := []api.Entry{told(api.Upgrade), told(api.Lower), told(api.Finalise)}
	for node := 1; node <= api.MaxNodes; node++ {
		list = append(list, told(api.Add, node), told(api.Remove, node), told(api.Register, node, 1), told(api.Register, node, 2))
	}
	return list
}

// others are right entries that a Config is not changed by.
func others() []api.Entry {
	e := api.Entry{Term: 1, Index: 1}
	list := []api.Entry{e}
	e.Client = 1
	for _, kind := range []int{api.Write, api.Trim, api.Resize, api.Open, api.Swap} {
		e.Kind = kind
		list = append(list, e)
	}
	return append(list,
		api.Entry{Term: 5, Index: 9, Kind: api.Write, Client: 2, Seq: 3, Block: 4, Data: "data"},
		api.Entry{Term: math.MaxUint64, Index: math.MaxUint64, Kind: api.Swap, Client: 2, Seq: 3, Block: 4, Data: "data", Old: "old"})
}

// wrongEntries are entries that may not be.
func wrongEntries() []api.Entry {
	list := []api.Entry{
		{}, {Kind: api.Upgrade}, {Kind: api.Upgrade, Term: 1}, {Kind: api.Upgrade, Index: 1}, {Kind: api.Lower, Index: 1}, {Kind: api.Finalise, Term: 1},
		{Kind: api.Add, Node: 4}, {Kind: api.Remove, Node: 1, Index: 1}, {Kind: api.Register, Node: 1, Level: 2, Term: 1},
		told(api.Add), told(api.Remove), told(api.Register), told(api.Register, 1), told(api.Register, 0, 1), told(api.Register, 1, 3),
		told(api.Add, 4, 1), told(api.Add, 4, 2), told(api.Remove, 1, 1), told(api.Upgrade, 1), told(api.Upgrade, 0, 2), told(api.Lower, 1), told(api.Lower, 0, 1), told(api.Finalise, 0, 2),
		told(api.Noop, 1), told(api.Noop, 0, 2), told(api.Write), told(api.Swap), told(12), told(-1), told(99),
		{Term: 1, Index: 1, Kind: api.Upgrade, Client: 1}, {Term: 1, Index: 1, Kind: api.Add, Node: 4, Data: "x"}, {Term: 1, Index: 1, Kind: api.Lower, Seq: 1}, {Term: 1, Index: 1, Kind: api.Finalise, Old: "x"},
	}
	for _, n := range odd() {
		list = append(list, told(api.Add, n), told(api.Remove, n), told(api.Register, n, 1), told(api.Register, n, 2), told(api.Register, 1, n))
		if n > api.Swap || n < 0 {
			list = append(list, told(n), told(n, 1), told(n, 1, 2))
		}
	}
	return list
}

// applies asks whether Apply is as plainly tells it, and told the same twice.
func applies(t *testing.T, c Config, e api.Entry) (Config, api.Errno) {
	t.Helper()
	want, fault := plainly(c, e)
	var got Config
	var f api.Errno
	for range 2 {
		got, f = Apply(c, e)
		if f != fault || !same(got, want) {
			t.Fatalf("%+v, Apply of %s is %+v, %d, not %+v, %d", c, entry.Text(e), got, f, want, fault)
		}
	}
	return got, f
}

// P14.2: what each kind does, step by step.
func TestApply(t *testing.T) {
	const three = "1:1 3:1 5:1 level 1"
	c, _ := New([]int{1, 3, 5})
	for at, x := range []struct {
		e    api.Entry
		f    api.Errno
		want string
	}{
		{told(api.Lower), api.ErrBusy, three},
		{told(api.Finalise), api.ErrLevel, three},
		{told(api.Upgrade), api.ErrLevel, three},
		{told(api.Add, 1), api.ErrBusy, three},
		{told(api.Add, 5), api.ErrBusy, three},
		{told(api.Add, 4), api.OK, "1:1 3:1 4:1 5:1 level 1"},
		{told(api.Add, 7), api.OK, "1:1 3:1 4:1 5:1 7:1 level 1"},
		{told(api.Remove, 2), api.ErrNone, "1:1 3:1 4:1 5:1 7:1 level 1"},
		{told(api.Remove, 1), api.OK, "3:1 4:1 5:1 7:1 level 1"},
		{told(api.Register, 1, 2), api.ErrNone, "3:1 4:1 5:1 7:1 level 1"},
		{told(api.Register, 4, 2), api.OK, "3:1 4:2 5:1 7:1 level 1"},
		{told(api.Register, 4, 2), api.OK, "3:1 4:2 5:1 7:1 level 1"},
		{told(api.Add, 1), api.OK, "1:1 3:1 4:2 5:1 7:1 level 1"},
		{told(api.Remove, 5), api.OK, "1:1 3:1 4:2 7:1 level 1"},
		{told(api.Register, 7, 2), api.OK, "1:1 3:1 4:2 7:2 level 1"},
		{told(api.Register, 3, 2), api.OK, "1:1 3:2 4:2 7:2 level 1"},
		{told(api.Upgrade), api.ErrLevel, "1:1 3:2 4:2 7:2 level 1"},
		{told(api.Register, 1, 2), api.OK, "1:2 3:2 4:2 7:2 level 1"},
		{told(api.Register, 4, 1), api.OK, "1:2 3:2 4:1 7:2 level 1"},
		{told(api.Upgrade), api.ErrLevel, "1:2 3:2 4:1 7:2 level 1"},
		{told(api.Register, 4, 2), api.OK, "1:2 3:2 4:2 7:2 level 1"},
		{told(api.Finalise), api.ErrLevel, "1:2 3:2 4:2 7:2 level 1"},
		{told(api.Upgrade), api.OK, "1:2 3:2 4:2 7:2 level 2"},
		{told(api.Upgrade), api.ErrBusy, "1:2 3:2 4:2 7:2 level 2"},
		{told(api.Add, 4), api.ErrBusy, "1:2 3:2 4:2 7:2 level 2"},
		{told(api.Add, 2), api.ErrLevel, "1:2 3:2 4:2 7:2 level 2"},
		{told(api.Register, 2, 1), api.ErrNone, "1:2 3:2 4:2 7:2 level 2"},
		{told(api.Register, 7, 1), api.ErrLevel, "1:2 3:2 4:2 7:2 level 2"},
		{told(api.Register, 7, 2), api.OK, "1:2 3:2 4:2 7:2 level 2"},
		{told(api.Remove, 6), api.ErrNone, "1:2 3:2 4:2 7:2 level 2"},
		{told(api.Remove, 7), api.OK, "1:2 3:2 4:2 level 2"},
		{told(api.Lower), api.OK, "1:2 3:2 4:2 level 1"},
		{told(api.Lower), api.ErrBusy, "1:2 3:2 4:2 level 1"},
		{told(api.Add, 2), api.OK, "1:2 2:1 3:2 4:2 level 1"},
		{told(api.Upgrade), api.ErrLevel, "1:2 2:1 3:2 4:2 level 1"},
		{told(api.Remove, 2), api.OK, "1:2 3:2 4:2 level 1"},
		{told(api.Upgrade), api.OK, "1:2 3:2 4:2 level 2"},
		{told(api.Finalise), api.OK, "1:2 3:2 4:2 level 2 final"},
		{told(api.Finalise), api.ErrBusy, "1:2 3:2 4:2 level 2 final"},
		{told(api.Lower), api.ErrLevel, "1:2 3:2 4:2 level 2 final"},
		{told(api.Upgrade), api.ErrBusy, "1:2 3:2 4:2 level 2 final"},
		{told(api.Add, 2), api.ErrLevel, "1:2 3:2 4:2 level 2 final"},
		{told(api.Register, 1, 1), api.ErrLevel, "1:2 3:2 4:2 level 2 final"},
		{told(api.Remove, 3), api.OK, "1:2 4:2 level 2 final"},
		{told(api.Remove, 1), api.OK, "4:2 level 2 final"},
		{told(api.Remove, 4), api.ErrBusy, "4:2 level 2 final"},
		{told(api.Remove, 1), api.ErrNone, "4:2 level 2 final"},
		{told(api.Noop), api.OK, "4:2 level 2 final"},
	} {
		got, f := Apply(c, x.e)
		if f != x.f || Text(got) != x.want || len(got.Members) != len(got.Highest) {
			t.Fatalf("%d: %s is %+v, %d, not %s, %d", at, entry.Text(x.e), got, f, x.want, x.f)
		}
		c = got
	}
}

// P14.2: each Config that may be, and each entry, held against another reading; what comes of it is right.
func TestApplyAll(t *testing.T) {
	entries := append(changing(), others()...)
	for _, c := range rights() {
		for _, e := range entries {
			if got, _ := applies(t, c, e); !mayBe(got) {
				t.Fatalf("%s, Apply of %s is %+v", Text(c), entry.Text(e), got)
			}
		}
	}
}

// P14.2: entries of other kinds change nothing, of version 2 while the Level is 1 neither.
func TestApplyOthers(t *testing.T) {
	for _, c := range rights() {
		for _, e := range others() {
			if got, f := Apply(c, e); f != api.OK || !same(got, c) {
				t.Fatalf("%s, Apply of %s is %+v, %d", Text(c), entry.Text(e), got, f)
			}
		}
	}
}

// P14.2: Term and Index are not asked, but for that they are right.
func TestApplyTermAndIndex(t *testing.T) {
	c := config(1, not, 1, 2, 2, 2)
	for _, n := range []uint64{1, 2, 1 << 32, 1 << 62, math.MaxUint64} {
		for _, e := range changing() {
			want, fault := Apply(c, e)
			e.Term, e.Index = n, n
			if got, f := Apply(c, e); f != fault || !same(got, want) {
				t.Errorf("Apply of %s is %+v, %d", entry.Text(e), got, f)
			}
		}
	}
}

// P14.2: ErrArg, if the entry is not right, and the Config as it was.
func TestApplyWrongEntry(t *testing.T) {
	for _, c := range rights() {
		for _, e := range wrongEntries() {
			if got, f := Apply(c, e); f != api.ErrArg || !same(got, c) {
				t.Fatalf("%s, Apply of %+v is %+v, %d", Text(c), e, got, f)
			}
		}
	}
}

// P14.2: ErrArg, if the Config is not right, and that as it was, whatever the entry is.
func TestApplyWrongConfig(t *testing.T) {
	for _, c := range wrongs() {
		for _, e := range slices.Concat(changing(), others(), wrongEntries()) {
			if _, f := applies(t, c, e); f != api.ErrArg {
				t.Fatalf("%+v, Apply of %+v is %d", c, e, f)
			}
		}
	}
}

// P3: what is handed in is not written into, spare room neither, and no part of the answer; with an error neither.
func TestApplyKeeps(t *testing.T) {
	list := rights()
	for at := 0; at < len(list); at += 7 {
		for _, e := range append(changing(), told(api.Noop), told(99)) {
			kept(t, Text(list[at])+", "+entry.Text(e), list[at], func(c Config) Config {
				got, _ := Apply(c, e)
				return got
			})
		}
	}
	for _, c := range wrongs() {
		for _, e := range []api.Entry{told(api.Add, 2), told(api.Remove, 1), told(api.Register, 1, 2), told(99)} {
			kept(t, "of one that is not right", c, func(c Config) Config {
				got, _ := Apply(c, e)
				return got
			})
		}
	}
}

// P14.4: all that can come of New, whatever is applied: just the right ones, and all of them.
func TestReached(t *testing.T) {
	start, _ := New([]int{1})
	reached := map[string]bool{Text(start): true}
	work := []Config{start}
	for len(work) > 0 {
		c := work[0]
		work = work[1:]
		if !mayBe(c) {
			t.Fatalf("%+v is reached", c)
		}
		for _, e := range changing() {
			next, _ := Apply(c, e)
			if !reached[Text(next)] {
				reached[Text(next)] = true
				work = append(work, next)
			}
		}
	}
	for _, c := range rights() {
		if !reached[Text(c)] {
			t.Errorf("%s is not reached", Text(c))
		}
	}
	if len(reached) != len(rights()) {
		t.Errorf("%d are reached", len(reached))
	}
}

// stays asks P14.4 of a step from one Config to another.
func stays(t *testing.T, c, next Config, e api.Entry, f api.Errno) {
	t.Helper()
	if next.Level > c.Level && (slices.Contains(c.Highest, 1) || e.Kind != api.Upgrade) {
		t.Errorf("%s: the level rose to %s, by %s", Text(c), Text(next), entry.Text(e))
	}
	if next.Level < c.Level && (c.Final || e.Kind != api.Lower) {
		t.Errorf("%s: the level fell to %s, by %s", Text(c), Text(next), entry.Text(e))
	}
	if c.Final && (!next.Final || next.Level != 2) {
		t.Errorf("%s, that is final, is %s, by %s", Text(c), Text(next), entry.Text(e))
	}
	if next.Level == 2 && slices.Contains(next.Highest, 1) {
		t.Errorf("%s: a member does not speak 2", Text(next))
	}
	if f != api.OK && !same(c, next) {
		t.Errorf("%s, with error %d, is %s", Text(c), f, Text(next))
	}
	if len(next.Members) > len(c.Members)+1 || len(next.Members) < len(c.Members)-1 {
		t.Errorf("%s is %s: more than one came, or went", Text(c), Text(next))
	}
}

// P14.4: the level rises only where all members speak it; what is final stays: of every step.
func TestStays(t *testing.T) {
	entries := slices.Concat(changing(), others(), wrongEntries())
	for _, c := range rights() {
		for _, e := range entries {
			next, f := Apply(c, e)
			stays(t, c, next, e, f)
		}
	}
}

// P14.4: and of long courses, kept and read again between.
func TestCourse(t *testing.T) {
	entries := append(changing(), others()...)
	for seed := range 50 {
		d := dice(seed)
		c, _ := New([]int{1 + seed%7, 1 + seed/7%7})
		for range 400 {
			e := entries[d.draw(len(entries))]
			if d.draw(3) > 0 {
				e = entries[d.draw(3)]
			}
			next, f := applies(t, c, e)
			stays(t, c, next, e, f)
			s, ok := Put(next)
			again, there := Get(s)
			if !ok || !there || !same(again, next) {
				t.Fatalf("%s is put as %x, %v", Text(next), s, ok)
			}
			c = again
		}
	}
}

// P14.2: whatever the Config is, and the entry.
func FuzzApply(f *testing.F) {
	f.Add("\x01\x02\x03", "\x01\x01\x01", 1, false, uint64(1), api.Add, 4, 0)
	f.Add("\x01\x02", "\x02\x02", 2, true, uint64(1), api.Remove, 2, 0)
	f.Add("\x07", "\x02", 2, false, uint64(9), api.Register, 7, 1)
	f.Add("\x07\x07", "\x02", 3, false, uint64(0), api.Upgrade, 0, 0)
	f.Add("", "", 1, false, uint64(1), api.Lower, 0, 0)
	f.Fuzz(func(t *testing.T, members, highest string, level int, final bool, term uint64, kind, node, speaks int) {
		c := Config{Level: level, Final: final}
		for _, b := range []byte(members) {
			c.Members = append(c.Members, int(int8(b)))
		}
		for _, b := range []byte(highest) {
			c.Highest = append(c.Highest, int(int8(b)))
		}
		if Right(c) != mayBe(c) {
			t.Fatalf("Right of %+v is %v", c, Right(c))
		}
		e := api.Entry{Term: term, Index: 1, Kind: kind, Node: node, Level: speaks}
		if next, fault := applies(t, c, e); Right(c) {
			stays(t, c, next, e, fault)
		}
	})
}
