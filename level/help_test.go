package level

import (
	"math"
	"slices"
	"testing"

	"pintle/api"
)

// final and not are the Final of a Config.
const (
	final = true
	not   = false
)

// config is a Config of these; of pairs, each a member and its Highest.
func config(level int, final bool, pairs ...int) Config {
	c := Config{Level: level, Final: final}
	for at := 0; at < len(pairs); at += 2 {
		c.Members = append(c.Members, pairs[at])
		c.Highest = append(c.Highest, pairs[at+1])
	}
	return c
}

// same says whether the Configs have all the same.
func same(a, b Config) bool {
	return slices.Equal(a.Members, b.Members) && slices.Equal(a.Highest, b.Highest) && a.Level == b.Level && a.Final == b.Final
}

// nothing says whether it is the Config of nothing.
func nothing(c Config) bool { return same(c, Config{}) }

// rights is every Config that may be: of each node whether it is no member, or its Highest, and the Level, and Final.
func rights() []Config {
	var list []Config
	for digits := range int(math.Pow(3, api.MaxNodes)) {
		var pairs []int
		twos := true
		for node, rest := 1, digits; rest > 0; node, rest = node+1, rest/3 {
			if rest%3 > 0 {
				pairs = append(pairs, node, rest%3)
				twos = twos && rest%3 == 2
			}
		}
		if pairs == nil {
			continue
		}
		list = append(list, config(1, not, pairs...))
		if twos {
			list = append(list, config(2, not, pairs...), config(2, final, pairs...))
		}
	}
	return list
}

// odd are numbers that are of no member, no Highest and no Level.
func odd() []int {
	return []int{math.MinInt, math.MinInt + 1, -1 << 32, -256, -2, -1, 8, 9, 10, 16, 255, 256, 257, 258, 1 << 32, 1<<32 + 1, 1<<32 + 2, math.MaxInt - 1, math.MaxInt}
}

// wrongs are Configs that may not be, most of them for one cause.
func wrongs() []Config {
	list := []Config{
		{},
		{Level: 1}, {Level: 2}, {Level: 2, Final: true}, {Members: []int{}, Highest: []int{}, Level: 1},
		{Level: 1, Highest: []int{1}},
		{Level: 1, Members: []int{1}},
		{Level: 1, Members: []int{1}, Highest: []int{1, 1}},
		{Level: 1, Members: []int{1, 2}, Highest: []int{1}},
		{Level: 1, Members: []int{1, 2}, Highest: []int{1, 1, 1}},
		{Level: 2, Members: []int{1, 2}, Highest: []int{2}},
		{Level: 2, Members: []int{1, 2}, Highest: []int{2, 2, 2}},
		{Level: 1, Members: []int{1, 2, 3, 4, 5, 6, 7, 8}, Highest: []int{1, 1, 1, 1, 1, 1, 1, 1}},
		{Level: 1, Members: []int{1, 2, 3, 4, 5, 6, 7, 7}, Highest: []int{1, 1, 1, 1, 1, 1, 1, 1}},
		{Level: 1, Members: []int{0, 1, 2, 3, 4, 5, 6, 7}, Highest: []int{1, 1, 1, 1, 1, 1, 1, 1}},
		{Level: 1, Members: make([]int, 1000), Highest: make([]int, 1000)},
		config(1, not, 1, 1, 1, 1), config(1, not, 7, 1, 7, 1), config(1, not, 2, 1, 1, 1), config(1, not, 7, 1, 1, 1),
		config(1, not, 1, 1, 3, 1, 2, 1), config(1, not, 1, 1, 2, 1, 2, 1), config(2, not, 1, 2, 3, 2, 2, 2),
		config(1, not, 0, 1), config(1, not, 0, 1, 1, 1), config(1, not, 1, 0), config(1, not, 1, 1, 2, 0), config(1, not, 1, 3), config(2, not, 1, 3),
		config(1, final, 1, 1), config(1, final, 1, 2), config(1, final, 1, 2, 2, 2), config(0, final, 1, 2), config(3, final, 1, 2),
		config(2, not, 1, 1), config(2, final, 1, 1), config(2, not, 1, 2, 2, 1), config(2, not, 1, 1, 2, 2), config(2, final, 1, 2, 2, 2, 7, 1),
		config(0, not, 1, 1), config(0, not, 1, 2), config(3, not, 1, 2), config(3, not, 1, 3),
	}
	for _, n := range odd() {
		list = append(list,
			config(1, not, n, 1), config(2, not, n, 2), config(1, not, n, 1, 1, 1), config(1, not, 7, 1, n, 1),
			config(1, not, 1, n), config(2, not, 1, n), config(1, not, 1, 1, 2, n),
			config(n, not, 1, 1), config(n, not, 1, 2), config(n, final, 1, 2), config(n, not, 1, n))
	}
	return list
}

// filled is the Config with lists that have spare room, and numbers in it.
func filled(c Config) Config {
	fill := func(list []int) []int {
		whole := append(slices.Clone(list), 1, 2, 3, 4, 5, 6, 7, 1)
		return whole[:len(list)]
	}
	c.Members, c.Highest = fill(c.Members), fill(c.Highest)
	return c
}

// whole is the Config with lists of their own, of all that stands in and behind those of c.
func whole(c Config) Config {
	c.Members, c.Highest = slices.Clone(c.Members[:cap(c.Members)]), slices.Clone(c.Highest[:cap(c.Highest)])
	return c
}

// spoil writes over all that stands in and behind the lists of c, and asks whether these are apart from each other.
func spoil(t *testing.T, what string, c Config) {
	t.Helper()
	members, highest := c.Members[:cap(c.Members)], c.Highest[:cap(c.Highest)]
	for at := range members {
		members[at] = -77
	}
	for at := range highest {
		highest[at] = -88
	}
	if slices.Contains(members, -88) {
		t.Errorf("%s: the lists of the answer share what they have", what)
	}
}

// kept asks whether what the call is handed is written into, and whether what it answers shares it.
func kept(t *testing.T, what string, c Config, call func(c Config) Config) {
	t.Helper()
	c = filled(c)
	before := whole(c)
	got := call(c)
	if !same(whole(c), before) {
		t.Errorf("%s: what was handed in is written into", what)
	}
	spoil(t, what, got)
	if !same(whole(c), before) {
		t.Errorf("%s: what was handed in is a part of the answer", what)
	}
}

// dice draws numbers, the same ones each time.
type dice uint32

func (d *dice) draw(n int) int {
	*d = *d*1664525 + 1013904223
	return int(*d>>8) % n
}
