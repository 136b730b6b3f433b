package frame

import (
	"slices"

	"pintle/api"
	"pintle/entry"
)

// Shim is a message of level 1 that says what m is to say; false, if there is none.
func Shim(m api.Msg) (api.Msg, bool) {
	if !entry.MsgRight(m) {
		return api.Msg{}, false
	}
	if entry.MsgLevel(m) == 1 {
		// A list of its own, as whoever has m may write into that one.
		m.Entries = slices.Clone(m.Entries)
		return m, true
	}
	switch m.Kind {
	case api.Probe:
		return api.Msg{Kind: api.Append, From: m.From, To: m.To, Term: m.Term, Mark: m.Mark}, true
	case api.Probed:
		return api.Msg{Kind: api.Appended, From: m.From, To: m.To, Term: m.Term, Mark: m.Mark, OK: true}, true
	}
	return api.Msg{}, false
}
