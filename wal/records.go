package wal

import (
	"iter"
	"slices"
	"strings"

	"pintle/api"
	"pintle/frame"
)

// Records is the entries as a log of the version has them; false, if there is no such version, or one may not be in it.
func Records(version int, l []api.Entry) (string, bool) {
	if !known(version) {
		return "", false
	}
	var b strings.Builder
	for _, e := range l {
		s, ok := frame.PutEntry(version, e)
		if !ok {
			return "", false
		}
		b.WriteString(s)
		b.WriteString(zeros(begin(version, b.Len()) - b.Len()))
	}
	return b.String(), true
}

// Parse is the entries that s begins with, as Records puts them, and where the last one ends.
func Parse(version int, s string) (l []api.Entry, used int) {
	for e, end := range entries(version, s) {
		l = append(l, e)
		used = end
	}
	return l, used
}

// Join is the log behind base with more entries, each of which takes the place of what stands from its Index on; false, if a place would be left out, or an entry of l is not where it is to be.
func Join(base uint64, l, more []api.Entry) ([]api.Entry, bool) {
	last := base
	for _, e := range l {
		last++
		if e.Index != last {
			return nil, false
		}
	}
	out := slices.Clone(l)
	for _, e := range more {
		// Index less 1, as the last one's and 1 may wrap.
		if e.Index <= base || e.Index-1 > last {
			return nil, false
		}
		out = append(out[:e.Index-1-base], e)
		last = e.Index
	}
	return out, true
}

// entries is those that s begins with, each with where it ends.
func entries(version int, s string) iter.Seq2[api.Entry, int] {
	return func(yield func(api.Entry, int) bool) {
		end := 0
		for {
			e, size, ok := front(version, s[end:])
			if !ok {
				return
			}
			end = min(begin(version, end+size), len(s))
			if !yield(e, end) {
				return
			}
		}
	}
}

// front is the entry with whose frame, of that version, s begins, and how many bytes the frame has; false, if there is none.
func front(version int, s string) (e api.Entry, size int, ok bool) {
	has, _, size, ok := frame.Next(s)
	if !ok || has != version {
		return api.Entry{}, 0, false
	}
	e, _, ok = frame.GetEntry(s[:size])
	return e, size, ok
}

// begin is the first place from that one on, at which a frame of the version may begin.
func begin(version, place int) int {
	if version == 1 {
		return sectors(place) * api.Sector
	}
	return place
}

// sectors is how many sectors so many bytes take.
func sectors(bytes int) int { return (bytes + api.Sector - 1) / api.Sector }

// known says whether there is such a version.
func known(version int) bool { return version == 1 || version == 2 }

// zeros is so many bytes 0.
func zeros(many int) string { return strings.Repeat("\x00", many) }
