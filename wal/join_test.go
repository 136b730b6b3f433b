package wal

import (
	"slices"
	"testing"

	"pintle/api"
)

// joins asks whether that is joined.
func joins(t *testing.T, base uint64, l, more, want []api.Entry) {
	t.Helper()
	if got, ok := Join(base, l, more); !slices.Equal(got, want) || !ok {
		t.Errorf("Join(%d, %v, %v) is %v, %v; it should be %v", base, l, more, got, ok, want)
	}
}

// apart asks whether they can't be joined.
func apart(t *testing.T, base uint64, l, more []api.Entry) {
	t.Helper()
	if got, ok := Join(base, l, more); got != nil || ok {
		t.Errorf("Join(%d, %v, %v) is %v, %v", base, l, more, got, ok)
	}
}

// at is entries of that Term, with these Indexes.
func at(term uint64, indexes ...uint64) []api.Entry {
	var l []api.Entry
	for _, index := range indexes {
		l = append(l, noop(term, index))
	}
	return l
}

// both is a list of its own: one behind the other.
func both(a, b []api.Entry) []api.Entry { return slices.Concat(a, b) }

// P10.2: more is behind l; what stands from an Index on is cut.
func TestJoin(t *testing.T) {
	l := at(1, 1, 2, 3)
	joins(t, 0, nil, nil, nil)
	joins(t, 9, nil, nil, nil)
	joins(t, 0, l, nil, l)
	joins(t, 0, nil, l, l)
	joins(t, 0, l, at(2, 4, 5), both(l, at(2, 4, 5)))
	joins(t, 0, l, at(2, 3), both(at(1, 1, 2), at(2, 3)))
	joins(t, 0, l, at(2, 2), both(at(1, 1), at(2, 2)))
	joins(t, 0, l, at(2, 1), at(2, 1))
	joins(t, 0, l, at(2, 1, 2, 3, 4), at(2, 1, 2, 3, 4))
	joins(t, 0, l, l, l)
	joins(t, 5, at(1, 6, 7), at(2, 8, 7, 8, 9), both(at(1, 6), at(2, 7, 8, 9)))
	joins(t, 5, nil, at(1, 6, 6, 6), at(1, 6))
	joins(t, 5, nil, at(1, 6, 7, 8, 6), at(1, 6))
	joins(t, 0, at(9, 1, 2), at(1, 2), both(at(9, 1), at(1, 2))) // terms don't matter
	joins(t, 0, []api.Entry{swap(1)}, []api.Entry{{Index: 2, Kind: -5}}, []api.Entry{swap(1), {Index: 2, Kind: -5}})
}

// P10.2: false, if an Index is not above base, or more than one more than the last one's.
func TestJoinApart(t *testing.T) {
	apart(t, 0, nil, at(1, 0))
	apart(t, 0, nil, at(1, 2))
	apart(t, 0, nil, at(1, 1, 3))
	apart(t, 0, nil, at(1, 1, 0))
	apart(t, 0, at(1, 1, 2), at(1, 4))
	apart(t, 0, at(1, 1, 2), at(1, 3, 5))
	apart(t, 0, at(1, 1, 2, 3), at(1, 1, 3)) // what was cut does not count
	apart(t, 5, nil, at(1, 5))
	apart(t, 5, nil, at(1, 1))
	apart(t, 5, nil, at(1, 7))
	apart(t, 5, at(1, 6, 7), at(1, 5))
	apart(t, 5, at(1, 6, 7), at(1, 8, 5))
	apart(t, 5, at(1, 6, 7), at(1, ones))
	apart(t, 5, at(1, 6, 7), at(1, 0))
}

// P10.2: false, if an entry of l has not the Index that it is to have.
func TestJoinWrongLog(t *testing.T) {
	for _, more := range [][]api.Entry{nil, at(1, 1), at(1, 1, 2, 3)} {
		for _, l := range [][]api.Entry{at(1, 0), at(1, 2), at(1, 1, 1), at(1, 1, 3), at(1, 1, 0), at(1, 2, 1), at(1, 1, 2, 2), at(1, 1, 2, 4), at(1, 1, 5, 3), at(1, ones)} {
			apart(t, 0, l, more)
		}
	}
	apart(t, 1, at(1, 1), nil)
	apart(t, 1, at(1, 1, 2), nil)
	apart(t, 1, at(1, 3), nil)
}

// P10.2: the Indexes of l count modulo 2^64; those of more are to be above base.
func TestJoinHigh(t *testing.T) {
	joins(t, ones, at(1, 0, 1, 2), nil, at(1, 0, 1, 2))
	joins(t, ones-1, at(1, ones, 0, 1), nil, at(1, ones, 0, 1))
	joins(t, ones-2, nil, at(1, ones-1, ones), at(1, ones-1, ones))
	joins(t, ones-2, at(1, ones-1), at(2, ones), both(at(1, ones-1), at(2, ones)))
	joins(t, ones-2, at(1, ones-1, ones), at(2, ones-1), at(2, ones-1))
	joins(t, ones-2, at(1, ones-1, ones), at(2, ones), both(at(1, ones-1), at(2, ones))) // it is not above one more than the last one's
	joins(t, ones-1, nil, at(1, ones, ones), at(1, ones))
	joins(t, 1<<63-1, at(1, 1<<63), at(2, 1<<63+1), both(at(1, 1<<63), at(2, 1<<63+1)))
	apart(t, ones, at(1, 1), nil)
	apart(t, ones, at(1, ones), nil)
	apart(t, ones-1, at(1, ones, 1), nil)
	for _, index := range []uint64{0, 1, 2, ones - 1, ones} {
		apart(t, ones, nil, at(1, index))
		apart(t, ones, at(1, 0), at(1, index))
		apart(t, ones-1, at(1, ones, 0), at(1, index))
	}
	apart(t, ones-1, at(1, ones), at(1, 0))
	apart(t, ones-2, nil, at(1, ones))
}

// plainJoin is Join, by another way, of small numbers: the log is a function from Index to Term.
func plainJoin(base int, l, more []int) ([][2]int, bool) {
	terms, last := [20]int{}, base
	for _, index := range l {
		if index != last+1 {
			return nil, false
		}
		last = index
		terms[index] = 1
	}
	for k, index := range more {
		if index <= base || index > last+1 {
			return nil, false
		}
		last = index
		terms[index] = 2 + k
	}
	var out [][2]int
	for index := base + 1; index <= last; index++ {
		out = append(out, [2]int{terms[index], index})
	}
	return out, true
}

// courses are all lists of so many numbers from 0 up to most.
func courses(many, most int) [][]int {
	all := [][]int{nil}
	for range many {
		var next [][]int
		for _, l := range all {
			for n := range most + 1 {
				next = append(next, append(slices.Clone(l), n))
			}
		}
		all = next
	}
	return all
}

// P10.2: all small bases, logs and lists, held against another way.
func TestJoinAll(t *testing.T) {
	for base := range 3 {
		for size := range 4 {
			for _, l := range courses(size, 5) {
				for many := range 4 {
					for _, more := range courses(many, 6) {
						joinsPlainly(t, base, l, more)
					}
				}
			}
		}
	}
}

// joinsPlainly asks whether Join is what plainJoin is.
func joinsPlainly(t *testing.T, base int, l, more []int) {
	t.Helper()
	var a, b, want []api.Entry
	for _, index := range l {
		a = append(a, noop(1, uint64(index)))
	}
	for k, index := range more {
		b = append(b, noop(uint64(2+k), uint64(index)))
	}
	told, ok := plainJoin(base, l, more)
	for _, x := range told {
		want = append(want, noop(uint64(x[0]), uint64(x[1])))
	}
	if got, is := Join(uint64(base), a, b); is != ok || !slices.Equal(got, want) {
		t.Fatalf("Join(%d, %v, %v) is %v, %v; it should be %v, %v", base, a, b, got, is, want, ok)
	}
}

// The rules that hold everywhere: what is handed in is not written into, and what is answered is new memory, spare room too.
func TestJoinNewMemory(t *testing.T) {
	for _, c := range []struct{ l, more []api.Entry }{
		{at(1, 1, 2, 3, 4, 5), nil}, {nil, at(1, 1, 2, 3, 4, 5)}, {at(1, 1, 2, 3), at(2, 2, 3)}, {at(1, 1, 2, 3), at(2, 4)}, {at(1, 1, 2, 3), at(2, 1)}, {at(1, 1, 2), at(2, 3, 9)}, {nil, nil},
	} {
		room := func(l []api.Entry) []api.Entry { return both(append(at(7, 7), l...), at(8, 8, 8, 8)) }
		l, more := room(c.l), room(c.more)
		got, _ := Join(0, l[1:1+len(c.l)], more[1:1+len(c.more)])
		got = got[:cap(got)]
		for k := range got {
			got[k] = noop(99, 99)
		}
		if !slices.Equal(l, room(c.l)) || !slices.Equal(more, room(c.more)) {
			t.Errorf("%v: what was handed in is %v, %v now", c, l, more)
		}
	}
}

// Join takes no longer than its lists are long.
func TestJoinMuch(t *testing.T) {
	const many = 1 << 16
	var l []api.Entry
	for k := range uint64(many) {
		l = append(l, noop(1, k+1))
	}
	more := make([]api.Entry, many)
	for k := range more {
		more[k] = noop(2, many)
	}
	if got, ok := Join(0, l, more); len(got) != many || got[many-1] != noop(2, many) || !ok {
		t.Error(len(got), ok)
	}
}
