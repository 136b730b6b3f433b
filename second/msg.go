package second

import (
	"strings"

	"pintle/api"
	"pintle/entry"
	"pintle/varint"
)

// PutMsg is the message's bytes; false, if it may not be.
func PutMsg(m api.Msg) (string, bool) {
	if !entry.MsgRight(m) {
		return "", false
	}
	return putFields(msgFields(), m), true
}

// GetMsg is the message that PutMsg put, all of s; false, if there is none.
func GetMsg(s string) (api.Msg, bool) {
	r := varint.New(s)
	m := takeFields(msgFields(), r)
	if !r.OK() || r.Left() > 0 || !entry.MsgRight(m) {
		return api.Msg{}, false
	}
	return m, true
}

// msgFields is the fields of a message, by their tags.
func msgFields() []field[api.Msg] {
	return []field[api.Msg]{
		1:  number(func(m *api.Msg) *int { return &m.Kind }),
		2:  number(func(m *api.Msg) *int { return &m.From }),
		3:  number(func(m *api.Msg) *int { return &m.To }),
		4:  number(func(m *api.Msg) *uint64 { return &m.Term }),
		5:  number(func(m *api.Msg) *uint64 { return &m.Index }),
		6:  number(func(m *api.Msg) *uint64 { return &m.Prev }),
		7:  number(func(m *api.Msg) *uint64 { return &m.Commit }),
		8:  number(func(m *api.Msg) *uint64 { return &m.Mark }),
		9:  flag(func(m *api.Msg) *bool { return &m.OK }),
		10: text(func(m *api.Msg) *string { return &m.Snap }),
		11: made(func(m *api.Msg) *[]api.Entry { return &m.Entries }, noEntries, putEntries, readEntries),
	}
}

func noEntries(list []api.Entry) bool { return len(list) == 0 }

// putEntries is how many there are, and each.
func putEntries(list []api.Entry) string {
	fields := entryFields()
	var b strings.Builder
	b.WriteString(varint.Put(uint64(len(list))))
	for _, e := range list {
		b.WriteString(putFields(fields, e))
	}
	return b.String()
}

func readEntries(r *varint.Reader) func() []api.Entry {
	return func() []api.Entry {
		many := r.Var()
		// Asked ahead of reading them, as it may be any number.
		if many > api.MaxEntries {
			r.Fail()
			return nil
		}
		fields := entryFields()
		list := make([]api.Entry, many)
		for at := range list {
			list[at] = getEntry(fields, r)
		}
		return list
	}
}
