// Package octet is layer 1: see shared/doc/01-octet.md.
package octet

import (
	"bytes"

	"linkboy/api"
)

const figures = "0123456789abcdef"

// Get16 answers a number of two bytes.
func Get16(b []byte, at int) (uint16, bool) {
	if !has(b, at, 2) {
		return 0, false
	}
	return uint16(b[at])<<8 | uint16(b[at+1]), true
}

// Get32 answers a number of four bytes.
func Get32(b []byte, at int) (uint32, bool) {
	if !has(b, at, 4) {
		return 0, false
	}
	return uint32(b[at])<<24 | uint32(b[at+1])<<16 | uint32(b[at+2])<<8 | uint32(b[at+3]), true
}

// Put16 answers bytes, and numbers of two bytes behind them.
func Put16(b []byte, n ...uint16) []byte {
	out := fresh(b, 2*len(n))
	for _, x := range n {
		out = append(out, byte(x>>8), byte(x))
	}
	return out
}

// Put32 answers bytes, and numbers of four bytes behind them.
func Put32(b []byte, n ...uint32) []byte {
	out := fresh(b, 4*len(n))
	for _, x := range n {
		out = append(out, byte(x>>24), byte(x>>16), byte(x>>8), byte(x))
	}
	return out
}

// Set16 answers bytes, with a number of two bytes within.
func Set16(b []byte, at int, n uint16) ([]byte, bool) {
	if !has(b, at, 2) {
		return nil, false
	}
	out := fresh(b, 0)
	out[at], out[at+1] = byte(n>>8), byte(n)
	return out, true
}

// Cut answers so many bytes from a place on.
func Cut(b []byte, at, n int) ([]byte, bool) {
	if !has(b, at, n) {
		return nil, false
	}
	return fresh(b[at:at+n], 0), true
}

// Join answers rows of bytes as one.
func Join(l ...[]byte) []byte {
	return bytes.Join(l, nil)
}

// Same tells whether rows of bytes are the same.
func Same(a, b []byte) bool {
	return bytes.Equal(a, b)
}

// Hex answers bytes as a text.
func Hex(b []byte) string {
	out := make([]byte, 0, 2*len(b))
	for _, x := range b {
		out = append(out, figures[x>>4], figures[x&15])
	}
	return string(out)
}

// Unhex answers the bytes that a text is.
func Unhex(s string) ([]byte, api.Errno) {
	out := make([]byte, 0, len(s)/2)
	var high byte
	odd := false
	for _, r := range s {
		n, ok := figure(r)
		if !ok {
			return nil, api.ErrForm
		}
		if odd {
			out = append(out, high<<4|n)
		}
		high, odd = n, !odd
	}
	if odd {
		return nil, api.ErrForm
	}
	return out, api.OK
}

// figure answers the number that a figure of the base 16 is; great letters are none, for Hex writes small ones alone.
func figure(r rune) (byte, bool) {
	switch {
	case '0' <= r && r <= '9':
		return byte(r - '0'), true
	case 'a' <= r && r <= 'f':
		return byte(r-'a') + 10, true
	}
	return 0, false
}

// has tells whether n bytes stand from at on; it takes at from the length, since at and n together might overflow.
func has(b []byte, at, n int) bool {
	return at >= 0 && n >= 0 && n <= len(b)-at
}

// fresh answers a copy with room for more behind it, so that no append reaches the caller's memory.
func fresh(b []byte, more int) []byte {
	return append(make([]byte, 0, len(b)+more), b...)
}
