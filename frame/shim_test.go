package frame

import (
	"slices"
	"testing"

	"pintle/api"
	"pintle/entry"
)

// shims asks whether the message is said in level 1 by that one.
func shims(t *testing.T, m, want api.Msg) {
	t.Helper()
	got, ok := Shim(m)
	if !ok || !entry.MsgSame(got, want) {
		t.Errorf("Shim(%.300s) is %.300s, %v, not %.300s", entry.MsgText(m), entry.MsgText(got), ok, entry.MsgText(want))
	}
	if !entry.MsgRight(got) || entry.MsgLevel(got) != 1 {
		t.Errorf("Shim(%.300s) is %.300s, which may not be in version 1", entry.MsgText(m), entry.MsgText(got))
	}
}

// noShim asks whether the message can't be said in level 1.
func noShim(t *testing.T, m api.Msg) {
	t.Helper()
	if got, ok := Shim(m); ok || !entry.MsgSame(got, api.Msg{}) {
		t.Errorf("Shim(%.300s) is %.300s, %v", entry.MsgText(m), entry.MsgText(got), ok)
	}
}

// P7.3: what is of level 1 is said as it is.
func TestShimOfFirst(t *testing.T) {
	many := 0
	for _, m := range msgs() {
		if entry.MsgLevel(m) == 1 {
			shims(t, m, m)
			many++
		}
	}
	if many == 0 {
		t.Error("none was of level 1")
	}
	shims(t, api.Msg{Kind: api.Append, From: 1, To: 2, Entries: []api.Entry{}}, api.Msg{Kind: api.Append, From: 1, To: 2})
}

// P7.3: a Probe is said by an Append with its Term and Mark, a Probed by an Appended with these, and OK.
func TestShimOfProbe(t *testing.T) {
	for from := 1; from <= api.MaxNodes; from++ {
		for to := 1; to <= api.MaxNodes; to++ {
			for _, n := range []uint64{0, 1, 2, 1 << 62, 1 << 63, ones} {
				shims(t, api.Msg{Kind: api.Probe, From: from, To: to, Term: n, Mark: ones - n}, api.Msg{Kind: api.Append, From: from, To: to, Term: n, Mark: ones - n})
				shims(t, api.Msg{Kind: api.Probed, From: from, To: to, Term: n, Mark: ones - n}, api.Msg{Kind: api.Appended, From: from, To: to, Term: n, Mark: ones - n, OK: true})
			}
		}
	}
}

// P7.3: what is of level 2 and no Probe, nor Probed, can't be said in level 1.
func TestShimOfSwap(t *testing.T) {
	swap := api.Entry{Term: 1, Index: 2, Kind: api.Swap, Client: 1, Data: "new", Old: "old"}
	for at := range 4 {
		noShim(t, api.Msg{Kind: api.Append, From: 1, To: 2, Term: 3, Mark: 4, Entries: slices.Insert(noops(3), at, swap)})
	}
	full := noops(api.MaxEntries)
	full[api.MaxEntries-1] = swap
	noShim(t, api.Msg{Kind: api.Append, From: 1, To: 2, Entries: full})
}

// P7.3: what is not right can't be said.
func TestShimOfWrong(t *testing.T) {
	for _, m := range wrongMsgs() {
		noShim(t, m)
	}
	swap := api.Entry{Term: 1, Index: 2, Kind: api.Swap, Client: 1}
	for kind := range 12 {
		if kind != api.Append {
			noShim(t, api.Msg{Kind: kind, From: 1, To: 2, Term: 3, Entries: []api.Entry{swap}})
			noShim(t, api.Msg{Kind: kind, From: 1, To: 2, Term: 3, Entries: noops(1)})
		}
	}
}

// P7.3: what is said in level 1 may be put in version 1.
func TestShimIsPut(t *testing.T) {
	for _, m := range msgs() {
		if said, ok := Shim(m); ok {
			s, put := PutMsg(1, said)
			if !put {
				t.Errorf("%.300s is said by %.300s, which is not put", entry.MsgText(m), entry.MsgText(said))
			}
			hasMsg(t, s, said, 1)
		}
	}
}

// The rules that hold everywhere: what is answered is new memory, spare room too, and what is handed in is not written into.
func TestShimNewMemory(t *testing.T) {
	for _, n := range []int{1, 3, 64} {
		room := noops(n + 2)
		m := api.Msg{Kind: api.Append, From: 1, To: 2, Entries: room[1 : n+1]}
		got, _ := Shim(m)
		for at, spare := range got.Entries[:cap(got.Entries)] {
			if spare != (api.Entry{}) && at >= n {
				t.Errorf("in the spare room stands %+v", spare)
			}
		}
		clear(got.Entries[:cap(got.Entries)])
		if !slices.Equal(room, noops(n+2)) {
			t.Errorf("what was handed in is %+v now", room)
		}
		got, _ = Shim(m)
		clear(room)
		if !slices.Equal(got.Entries, noops(n + 2)[1:n+1]) {
			t.Errorf("what was answered is %+v now", got.Entries)
		}
	}
}
