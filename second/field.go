package second

import (
	"strings"

	"pintle/varint"
)

// end is the tag that ends the fields; none of them has it.
const end = 0

// field is how one of the fields of a T is put, and taken.
type field[T any] struct {
	put  func(t *T) string            // what it is, without its tag; nothing, if it is left out
	take func(t *T, r *varint.Reader) // the reader fails, if it is none, or should have been left out
}

// made is the field that at finds: left out where none holds, put by puts, and taken by that call of a reader which reads tells.
func made[T, V any](at func(*T) *V, none func(V) bool, puts func(V) string, reads func(*varint.Reader) func() V) field[T] {
	return field[T]{
		put: func(t *T) string {
			v := *at(t)
			if none(v) {
				return ""
			}
			return puts(v)
		},
		take: func(t *T, r *varint.Reader) {
			read := reads(r)
			v := read()
			if none(v) {
				r.Fail()
			}
			*at(t) = v
		},
	}
}

// putFields is those of t that are not left out, the tags rising, and the end.
func putFields[T any](fields []field[T], t T) string {
	var b strings.Builder
	put := func(tag int) { b.WriteString(varint.Put(uint64(tag))) }
	for tag := end + 1; tag < len(fields); tag++ {
		if s := fields[tag].put(&t); s != "" {
			put(tag)
			b.WriteString(s)
		}
	}
	put(end)
	return b.String()
}

// takeFields reads fields up to their end; the reader fails, if they are not as putFields puts them.
func takeFields[T any](fields []field[T], r *varint.Reader) T {
	var t T
	last := uint64(end)
	for {
		tag := r.Var()
		if tag == end {
			return t
		}
		if tag <= last || tag >= uint64(len(fields)) {
			r.Fail()
			return t
		}
		fields[tag].take(&t, r)
		last = tag
	}
}

// number is a field that is a number.
func number[T any, N int | uint64](at func(*T) *N) field[T] {
	return made(at, zero[N], putNumber[N], readNumber[N])
}

// text is a field that is a text.
func text[T any](at func(*T) *string) field[T] {
	return made(at, zero[string], varint.Text, readText)
}

// flag is a field that is the number 1, if it holds.
func flag[T any](at func(*T) *bool) field[T] {
	return made(at, zero[bool], putFlag, readFlag)
}

func putNumber[N int | uint64](n N) string { return varint.Put(uint64(n)) }
func putFlag(bool) string                  { return varint.Put(1) }

func readNumber[N int | uint64](r *varint.Reader) func() N {
	return func() N {
		n := r.Var()
		// An int may have fewer bits than what is read.
		if uint64(N(n)) != n {
			r.Fail()
			return 0
		}
		return N(n)
	}
}

func readText(r *varint.Reader) func() string { return r.Text }

// What is not 1 is read as what should have been left out.
func readFlag(r *varint.Reader) func() bool {
	return func() bool { return r.Var() == 1 }
}

// zero says whether v is 0, or empty.
func zero[V comparable](v V) bool {
	var none V
	return v == none
}
