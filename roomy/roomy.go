// Package roomy helps tests to see whether a call changes, or shares, what is handed in. The program itself calls none of it.
package roomy

import "bytes"

const room = 16

// Bytes answers these bytes with room behind them that holds 170s, so that an append in place shows there.
func Bytes(b ...byte) []byte {
	all := bytes.Repeat([]byte{170}, len(b)+room)
	copy(all, b)
	return all[:len(b)]
}

// Untouched tells whether what Bytes answered of these bytes is still so, its room too.
func Untouched(got []byte, want ...byte) bool {
	all := Bytes(want...)
	return bytes.Equal(got[:cap(got)], all[:cap(all)])
}

// Apart tells whether two rows of bytes share no memory, their room too.
func Apart(a, b []byte) bool {
	a, b = a[:cap(a)], b[:cap(b)]
	before := bytes.Clone(a)
	flip(b)
	same := bytes.Equal(a, before)
	flip(b)
	return same
}

// flip turns each bit about.
func flip(b []byte) {
	for i := range b {
		b[i] ^= 255
	}
}
