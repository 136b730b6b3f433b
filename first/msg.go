package first

import (
	"pintle/api"
	"pintle/entry"
	"pintle/varint"
)

// PutMsg is the message's bytes; false, if it may not be, or not in version 1.
func PutMsg(m api.Msg) (string, bool) {
	if !msgMay(m) {
		return "", false
	}
	var w writer
	w.msg(m)
	return w.String(), true
}

// GetMsg is the message that PutMsg put, all of s; false, if there is none.
func GetMsg(s string) (api.Msg, bool) {
	r := varint.New(s)
	m := readMsg(r)
	if !r.OK() || r.Left() > 0 || !msgMay(m) {
		return api.Msg{}, false
	}
	return m, true
}

// msg puts a message that may be.
func (w *writer) msg(m api.Msg) {
	number := w.number
	small := func(n int) { number(uint64(n), 1) }
	small(m.Kind)
	small(m.From)
	small(m.To)
	number(m.Term, 8)
	number(m.Index, 8)
	number(m.Prev, 8)
	number(m.Commit, 8)
	number(m.Mark, 8)
	small(bit(m.OK))
	small(len(m.Entries))
	for _, e := range m.Entries {
		w.entry(e)
	}
	number(uint64(len(m.Snap)), 4)
	w.WriteString(m.Snap)
}

// readMsg reads what stands where a message's bytes should, whether it may be or not.
func readMsg(r *varint.Reader) api.Msg {
	number, bytes := r.Fixed, r.Bytes
	small := func() int { return int(number(1)) }
	m := api.Msg{
		Kind:   small(),
		From:   small(),
		To:     small(),
		Term:   number(8),
		Index:  number(8),
		Prev:   number(8),
		Commit: number(8),
		Mark:   number(8),
	}
	ok := small()
	m.OK = ok == 1
	if ok != bit(m.OK) {
		r.Fail()
	}
	for range small() {
		m.Entries = append(m.Entries, Get(r))
	}
	m.Snap = bytes(int(number(4)))
	return m
}

// msgMay says whether the message may be in version 1.
func msgMay(m api.Msg) bool {
	return entry.MsgRight(m) && entry.MsgLevel(m) == version
}

// bit is 1, if it holds, else 0.
func bit(holds bool) int {
	if holds {
		return 1
	}
	return 0
}
