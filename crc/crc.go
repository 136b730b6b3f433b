// Package crc is layer 1: see shared/doc/01-crc.md.
package crc

import "strings"

// polynomial is Castagnoli's, its bits turned round: the lowest bit goes first.
const polynomial = 0x82f63b78

// size is how many bytes a sum takes ahead of what it is the sum of.
const size = 4

// register is a sum under way.
type register uint32

// take moves the register on by the eight bits of b, the lowest first.
func (r *register) take(b byte) {
	now := *r
	for bit := range 8 {
		taken := (now ^ register(b>>bit)) & 1
		// A product, as a branch on the bit taken can't be foreseen.
		now = now>>1 ^ polynomial*taken
	}
	*r = now
}

// Sum is the CRC-32C of s.
func Sum(s string) uint32 { return More(0, s) }

// More is the sum of a text whose beginning has the sum given, and that goes on with s.
func More(sum uint32, s string) uint32 {
	r := register(^sum)
	take := r.take
	for at := range len(s) {
		take(s[at])
	}
	return ^uint32(r)
}

// Put is the sum of s, the highest byte first, and s.
func Put(s string) string {
	return head(Sum(s)) + s
}

// Get is what Put was given; false, if p is nothing that Put answers.
func Get(p string) (string, bool) {
	if len(p) < size {
		return "", false
	}
	s := p[size:]
	if p[:size] != head(Sum(s)) {
		return "", false
	}
	// A clone, as an answer shares no memory with an argument.
	return strings.Clone(s), true
}

// head is the sum as bytes, the highest first.
func head(sum uint32) string {
	return string([]byte{byte(sum >> 24), byte(sum >> 16), byte(sum >> 8), byte(sum)})
}
