package frame

import (
	"pintle/api"
	"pintle/first"
	"pintle/second"
	"pintle/varint"
)

// PutEntry is the entry in a frame of the version; false, if it may not be in that.
func PutEntry(version int, e api.Entry) (string, bool) {
	return put(map[int]func(api.Entry) (string, bool){1: first.Put, 2: second.Put}, version, e)
}

// GetEntry is the entry that PutEntry put, all of s, and in which version; false, if there is none.
func GetEntry(s string) (e api.Entry, version int, ok bool) {
	return get(map[int]func(string) (api.Entry, bool){1: whole(first.Get), 2: whole(second.Get)}, s)
}

// PutMsg is the message in a frame of the version; false, if it may not be in that.
func PutMsg(version int, m api.Msg) (string, bool) {
	return put(map[int]func(api.Msg) (string, bool){1: first.PutMsg, 2: second.PutMsg}, version, m)
}

// GetMsg is the message that PutMsg put, all of s, and in which version; false, if there is none.
func GetMsg(s string) (m api.Msg, version int, ok bool) {
	return get(map[int]func(string) (api.Msg, bool){1: first.GetMsg, 2: second.GetMsg}, s)
}

// put is t as the version's codec puts it, in a frame.
func put[T any](codecs map[int]func(T) (string, bool), version int, t T) (string, bool) {
	codec, there := codecs[version]
	if !there {
		return "", false
	}
	body, ok := codec(t)
	if !ok {
		return "", false
	}
	return Pack(version, body)
}

// get is what put put, and in which version; the frame tells which codec is asked, so that no other one is tried.
func get[T any](codecs map[int]func(string) (T, bool), s string) (t T, version int, ok bool) {
	version, body, ok := Unpack(s)
	if !ok {
		return t, 0, false
	}
	t, ok = codecs[version](body)
	if !ok {
		version = 0
	}
	return t, version, ok
}

// whole is what reads an entry that is all of a text.
func whole(read func(*varint.Reader) api.Entry) func(string) (api.Entry, bool) {
	return func(s string) (api.Entry, bool) {
		r := varint.New(s)
		e := read(r)
		if !r.OK() || r.Left() > 0 {
			return api.Entry{}, false
		}
		return e, true
	}
}
