package level

import (
	"math"
	"slices"
	"strings"
	"testing"

	"pintle/api"
)

// mayBe is Right, as the chapter tells it.
func mayBe(c Config) bool {
	if len(c.Members) < 1 || len(c.Members) > 7 || len(c.Highest) != len(c.Members) {
		return false
	}
	for k, node := range c.Members {
		if node < 1 || node > 7 || k > 0 && c.Members[k-1] >= node {
			return false
		}
	}
	for _, h := range c.Highest {
		if h != 1 && h != 2 || c.Level == 2 && h != 2 {
			return false
		}
	}
	return (c.Level == 1 || c.Level == 2) && (!c.Final || c.Level == 2)
}

// lists is every list of up to so many of these numbers.
func lists(most int, of ...int) [][]int {
	all := [][]int{nil}
	for from := 0; most > 0; most-- {
		to := len(all)
		for _, list := range all[from:to] {
			for _, n := range of {
				all = append(all, append(slices.Clone(list), n))
			}
		}
		from = to
	}
	return all
}

// P14.1: each Config that may be is right.
func TestRight(t *testing.T) {
	list := rights()
	if len(list) != 2186+2*127 {
		t.Errorf("there are %d", len(list))
	}
	for _, c := range list {
		if !Right(c) || !Right(filled(c)) {
			t.Errorf("%s is not right", Text(c))
		}
	}
}

// P14.1: one fault is enough.
func TestRightRefuses(t *testing.T) {
	for _, c := range wrongs() {
		if Right(c) {
			t.Errorf("%+v is right", c)
		}
	}
}

// P14.1: each right Config, one number of it another one, or one more, or one less, held against what the chapter tells.
func TestRightTurned(t *testing.T) {
	numbers := append(odd(), 0, 1, 2, 3, 4, 5, 6, 7)
	asked := func(c Config) {
		if Right(c) != mayBe(c) {
			t.Errorf("Right of %+v is %v", c, Right(c))
		}
	}
	for at, c := range rights() {
		// The numbers that are far off are asked of some, those that are near of all.
		numbers := numbers
		if at%16 != 0 {
			numbers = []int{-1, 0, 1, 2, 3, 4, 5, 6, 7, 8}
		}
		for _, n := range numbers {
			for k := range c.Members {
				x := c
				x.Members = slices.Clone(c.Members)
				x.Members[k] = n
				asked(x)
				x = c
				x.Highest = slices.Clone(c.Highest)
				x.Highest[k] = n
				asked(x)
			}
			x := c
			x.Level = n
			asked(x)
			x.Final = !x.Final
			asked(x)
			x = c
			x.Members = append(slices.Clone(c.Members), n)
			asked(x)
			x.Highest = append(slices.Clone(c.Highest), 2)
			asked(x)
			x.Members = c.Members
			asked(x)
		}
		asked(Config{c.Members[1:], c.Highest, c.Level, c.Final})
		asked(Config{c.Members, c.Highest[1:], c.Level, c.Final})
		asked(Config{c.Members[1:], c.Highest[1:], c.Level, c.Final})
		asked(Config{c.Members, c.Highest, c.Level, !c.Final})
	}
}

// P14.1: all Configs of short lists, held against what the chapter tells.
func TestRightShort(t *testing.T) {
	right := 0
	for _, members := range lists(3, -1, 0, 1, 2, 7, 8) {
		for _, highest := range lists(3, 0, 1, 2, 3) {
			for level := -1; level <= 3; level++ {
				for _, f := range []bool{final, not} {
					c := Config{members, highest, level, f}
					if Right(c) != mayBe(c) {
						t.Fatalf("Right of %+v is %v", c, Right(c))
					}
					if Right(c) {
						right++
					}
				}
			}
		}
	}
	// One of three nodes, or two, or all three: of Level 1, then of Level 2, final or not.
	if want := 3*2 + 3*4 + 8 + 2*7; right != want {
		t.Errorf("%d are right, not %d", right, want)
	}
}

// P14.1: the members, each once, rising; all Highest 1, Level 1.
func TestNew(t *testing.T) {
	for _, c := range []struct {
		members []int
		want    string
	}{
		{[]int{1}, "1:1 level 1"},
		{[]int{7}, "7:1 level 1"},
		{[]int{1, 2}, "1:1 2:1 level 1"},
		{[]int{2, 1}, "1:1 2:1 level 1"},
		{[]int{4, 4}, "4:1 level 1"},
		{[]int{3, 1, 3, 2}, "1:1 2:1 3:1 level 1"},
		{[]int{7, 6, 5, 4, 3, 2, 1}, "1:1 2:1 3:1 4:1 5:1 6:1 7:1 level 1"},
		{[]int{1, 2, 3, 4, 5, 6, 7, 1, 2, 3, 4, 5, 6, 7}, "1:1 2:1 3:1 4:1 5:1 6:1 7:1 level 1"},
		{slices.Repeat([]int{5, 2}, 1000), "2:1 5:1 level 1"},
	} {
		got, ok := New(c.members)
		if !ok || Text(got) != c.want || len(got.Highest) != len(got.Members) {
			t.Errorf("New(%v) is %+v, %v", c.members, got, ok)
		}
	}
}

// P14.1: nothing, if one is none, or there is none.
func TestNewRefuses(t *testing.T) {
	list := [][]int{nil, {}, {0}, {8}, {-1}, {1, -1}, {-1, 1}, {1, 2, 8}, {0, 1, 2}, {1, 2, 3, 4, 5, 6, 7, 8}, {0, 1, 2, 3, 4, 5, 6, 7}, {0, 0}, {8, 8}, {9, 1, 1}}
	for _, n := range odd() {
		list = append(list, []int{n}, []int{n, 1}, []int{1, n}, []int{1, n, 7}, []int{n, n})
	}
	for _, members := range list {
		if got, ok := New(members); ok || !nothing(got) {
			t.Errorf("New(%v) is %+v, %v", members, got, ok)
		}
	}
}

// P14.1: all short lists of members: right just if each of them is one, and there is one; each of those in it, no other.
func TestNewShort(t *testing.T) {
	for _, members := range lists(5, 0, 1, 2, 3, 7, 8) {
		got, ok := New(members)
		if want := len(members) > 0 && !slices.Contains(members, 0) && !slices.Contains(members, 8); ok != want {
			t.Fatalf("New(%v) is %+v, %v", members, got, ok)
		}
		if !ok {
			if !nothing(got) {
				t.Fatalf("New(%v) is %+v, and false", members, got)
			}
			continue
		}
		if !mayBe(got) || got.Level != 1 || got.Final || slices.Contains(got.Highest, 2) {
			t.Fatalf("New(%v) is %+v", members, got)
		}
		for node := range 9 {
			if slices.Contains(members, node) != slices.Contains(got.Members, node) {
				t.Fatalf("New(%v) is %+v, of %d", members, got, node)
			}
		}
	}
}

// P3: what is handed in is not written into, and no part of the answer.
func TestNewKeeps(t *testing.T) {
	for _, members := range [][]int{{1}, {3, 1, 3, 2}, {1, 2, 3}, {7, 7, 6, 1}, {0, 2, 1}, {9, 1}, {}} {
		kept(t, "New", Config{Members: members}, func(c Config) Config {
			got, _ := New(c.Members)
			return got
		})
	}
}

// P14.1: is it a member?
func TestHas(t *testing.T) {
	for _, c := range rights() {
		in := map[int]bool{}
		for _, node := range c.Members {
			in[node] = true
		}
		for node := -1; node <= 9; node++ {
			if Has(c, node) != in[node] {
				t.Errorf("%s, Has %d: %v", Text(c), node, !in[node])
			}
		}
	}
	c := config(1, not, 1, 1, 3, 1)
	for _, n := range odd() {
		if Has(c, n) {
			t.Errorf("Has %d", n)
		}
	}
	if Has(Config{}, 0) || Has(Config{Highest: []int{3}}, 3) {
		t.Error("nothing has a member")
	}
	// Of one that is not right likewise, wherever it stands.
	if c := config(0, not, 5, 1, 2, 1, 2, 1, -4, 1); !Has(c, 5) || !Has(c, 2) || !Has(c, -4) || Has(c, 1) || Has(c, 0) {
		t.Error("of one that is not right")
	}
}

// P14.1: half of the members, rounded down, and 1.
func TestQuorum(t *testing.T) {
	want := []int{1, 1, 2, 2, 3, 3, 4, 4}
	for _, c := range rights() {
		if got := Quorum(c); got != want[len(c.Members)] {
			t.Errorf("%s: the quorum is %d", Text(c), got)
		}
	}
	for _, c := range []struct {
		c    Config
		want int
	}{
		{Config{}, 1},
		{Config{Highest: []int{1, 1, 1}}, 1},
		{Config{Members: []int{0, 0, 0, 0}}, 3},
		{Config{Members: make([]int, 1001)}, 501},
	} {
		if got := Quorum(c.c); got != c.want {
			t.Errorf("the quorum is %d, not %d", got, c.want)
		}
	}
}

// P14.1: is it 1 to Level?
func TestMay(t *testing.T) {
	one, two := config(1, not, 1, 2), config(2, final, 1, 2)
	for _, n := range append(odd(), 0, 3) {
		if May(one, n) || May(two, n) {
			t.Errorf("it may speak version %d", n)
		}
	}
	if !May(one, 1) || May(one, 2) || !May(two, 1) || !May(two, 2) {
		t.Error("1, or 2")
	}
	for _, c := range rights() {
		if !May(c, 1) || May(c, 2) != (c.Level == 2) || May(c, 0) || May(c, 3) {
			t.Errorf("%s", Text(c))
		}
	}
	for _, level := range odd() {
		c := Config{Level: level}
		for _, n := range append(odd(), 0, 1, 2, 3) {
			if May(c, n) != (n >= 1 && n <= level) {
				t.Errorf("of Level %d it may speak %d: %v", level, n, May(c, n))
			}
		}
	}
	if May(Config{}, 0) || May(Config{}, 1) {
		t.Error("of nothing")
	}
}

// P14.3: each member, and its Highest, the Level, and whether it is final.
func TestText(t *testing.T) {
	for _, c := range []struct {
		c    Config
		want string
	}{
		{config(1, not, 1, 1), "1:1 level 1"},
		{config(1, not, 1, 1, 2, 2, 7, 1), "1:1 2:2 7:1 level 1"},
		{config(2, not, 3, 2, 4, 2), "3:2 4:2 level 2"},
		{config(2, final, 7, 2), "7:2 level 2 final"},
		{Config{}, "level 0"},
		{Config{Final: true}, "level 0 final"},
		{Config{Level: -3}, "level -3"},
		{Config{Level: math.MinInt, Final: true}, "level -9223372036854775808 final"},
		{Config{Level: math.MaxInt}, "level 9223372036854775807"},
		{config(12, not, -1, 10, 300, -20, 300, 0), "-1:10 300:-20 300:0 level 12"},
		// A member that has no Highest in its place is not told, nor a Highest that has none.
		{Config{Members: []int{1, 2, 3}, Highest: []int{1, 2}, Level: 1}, "1:1 2:2 level 1"},
		{Config{Members: []int{1, 2, 3}, Level: 1}, "level 1"},
		{Config{Members: []int{4}, Highest: []int{1, 2, 2}, Level: 2, Final: true}, "4:1 level 2 final"},
		{Config{Highest: []int{1, 2}, Level: 1}, "level 1"},
	} {
		for _, x := range []Config{c.c, filled(c.c)} {
			if got := Text(x); got != c.want {
				t.Errorf("the text of %+v is %q, not %q", x, got, c.want)
			}
		}
	}
}

// P14.3: what is right has a text of its own.
func TestTextApart(t *testing.T) {
	seen := map[string]bool{}
	for _, c := range rights() {
		s := Text(c)
		if seen[s] || strings.Contains(s, "  ") {
			t.Errorf("%q", s)
		}
		seen[s] = true
	}
}

// P2, P3, P4: what only asks writes into nothing, and is told the same again.
func TestAsksKeep(t *testing.T) {
	for _, c := range append(rights()[:300], wrongs()...) {
		kept(t, "what asks", c, func(c Config) Config {
			for range 2 {
				if Right(c) != mayBe(c) || Text(c) != Text(c) {
					t.Errorf("of %+v it is told another thing", c)
				}
				Has(c, 1)
				Quorum(c)
				May(c, api.MaxNodes)
				Put(c)
			}
			return Config{}
		})
	}
}
