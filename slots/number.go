package slots

import (
	"strings"

	"pintle/varint"
)

// writer is what is put, one number behind the other.
type writer struct{ strings.Builder }

// puts is how each version puts a number, of which is told how many bytes it has in version 1.
func puts() map[int]func(w *writer, n uint64, size int) {
	return map[int]func(*writer, uint64, int){
		1: (*writer).fixed,
		2: func(w *writer, n uint64, _ int) { w.WriteString(varint.Put(n)) },
	}
}

// takes is how each version takes a number that puts has put.
func takes() map[int]func(r *varint.Reader, size int) uint64 {
	return map[int]func(*varint.Reader, int) uint64{
		1: (*varint.Reader).Fixed,
		2: func(r *varint.Reader, _ int) uint64 { return r.Var() },
	}
}

// fixed puts n as so many bytes.
func (w *writer) fixed(n uint64, size int) {
	w.WriteString(varint.Fixed(n, size))
}
