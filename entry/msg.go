package entry

import (
	"math"
	"slices"
	"strconv"
	"strings"

	"pintle/api"
)

// msgOrder is that in which a message's fields are told.
const msgOrder = "iptkyes"

// toldMsg is a message that is told.
type toldMsg struct{ api.Msg }

// MsgFields is which fields a message of a kind may have, as letters; false, if there is no such kind.
func MsgFields(kind int) (string, bool) {
	switch kind {
	case api.Ask, api.Vote:
		return "ip", true
	case api.Would, api.Voted:
		return "y", true
	case api.Append:
		return "iptek", true
	case api.Appended:
		return "iyk", true
	case api.Install:
		return "ips", true
	case api.Taken:
		return "i", true
	case api.Probe, api.Probed:
		return "k", true
	}
	return "", false
}

// MsgRight says whether the message may be.
func MsgRight(m api.Msg) bool {
	letters, there := MsgFields(m.Kind)
	within := limits(letters)
	right := all(
		there,
		1 <= m.From && m.From <= api.MaxNodes,
		1 <= m.To && m.To <= api.MaxNodes,
		within('i', m.Index, 0, math.MaxUint64),
		within('p', m.Prev, 0, math.MaxUint64),
		within('t', m.Commit, 0, math.MaxUint64),
		within('k', m.Mark, 0, math.MaxUint64),
		within('y', bit(m.OK), 0, 1),
		within('e', uint64(len(m.Entries)), 0, api.MaxEntries),
		within('s', uint64(len(m.Snap)), 0, api.MaxBytes),
	)
	wrong := func(e api.Entry) bool { return !Right(e) }
	return right && !slices.ContainsFunc(m.Entries, wrong)
}

// MsgLevel is the lowest version in which the message may be sent.
func MsgLevel(m api.Msg) int {
	if m.Kind == api.Probe || m.Kind == api.Probed {
		return 2
	}
	level := 1
	for _, e := range m.Entries {
		level = max(level, Level(e))
	}
	return level
}

// MsgSame says whether the messages have all fields the same.
func MsgSame(a, b api.Msg) bool {
	return all(
		a.Kind == b.Kind,
		a.From == b.From,
		a.To == b.To,
		a.Term == b.Term,
		a.Index == b.Index,
		a.Prev == b.Prev,
		a.Commit == b.Commit,
		a.Mark == b.Mark,
		a.OK == b.OK,
		a.Snap == b.Snap,
		slices.EqualFunc(a.Entries, b.Entries, Same),
	)
}

// MsgText is the message as it is read by people: two that are right have the same one just if they are the same.
func MsgText(m api.Msg) string {
	letters, _ := MsgFields(m.Kind)
	head := strconv.Itoa(m.Kind) + " " + strconv.Itoa(m.From) + ">" + strconv.Itoa(m.To) + " " + digits(m.Term)
	return head + fields(msgOrder, letters, msgTells(), toldMsg{m})
}

// msgTells is what each letter tells of a message.
func msgTells() map[rune]func(toldMsg) string {
	return map[rune]func(toldMsg) string{
		'i': toldMsg.index,
		'p': toldMsg.prev,
		't': toldMsg.commit,
		'k': toldMsg.mark,
		'y': toldMsg.ok,
		'e': toldMsg.entries,
		's': toldMsg.snap,
	}
}

func (m toldMsg) index() string  { return digits(m.Index) }
func (m toldMsg) prev() string   { return digits(m.Prev) }
func (m toldMsg) commit() string { return digits(m.Commit) }
func (m toldMsg) mark() string   { return digits(m.Mark) }
func (m toldMsg) ok() string     { return digits(bit(m.OK)) }
func (m toldMsg) snap() string   { return sixteenths(m.Snap) }

func (m toldMsg) entries() string {
	tells := entryTells()
	texts := make([]string, len(m.Entries))
	for at, e := range m.Entries {
		texts[at] = text(tells, e)
	}
	return "[" + strings.Join(texts, ";") + "]"
}

// bit is 1, if it holds, else 0.
func bit(holds bool) uint64 {
	if holds {
		return 1
	}
	return 0
}
