// Package octet is layer 1: numbers, bytes and addresses as bytes and texts (see shared/doc/01-octet.md).
package octet

import (
	"bytes"

	"concierge/api"
)

// maxSize is how many bytes a number has at most.
const maxSize = 8

// digits are those of Hex, by their values.
const digits = "0123456789abcdef"

// textLen is how many bytes an address's text has: two digits of each byte, a colon between two.
const textLen = 3*len(api.MAC{}) - 1

// Put is the lowest size bytes of n, the highest of these first; nothing, if size is not from 1 to 8.
func Put(n uint64, size int) []byte {
	if !sizeMayBe(size) {
		return nil
	}
	b := make([]byte, size)
	for i := range size {
		b[size-1-i] = byte(n)
		n >>= 8
	}
	return b
}

// Take is the number in the first size bytes of b, what stands behind them, and true; 0, nothing, false, if size is not from 1 to 8 or b has fewer bytes.
func Take(b []byte, size int) (uint64, []byte, bool) {
	if !sizeMayBe(size) || len(b) < size {
		return 0, nil, false
	}
	var n uint64
	for i := range size {
		n = n<<8 | uint64(b[i])
	}
	// A piece of b itself would let the caller change b through the answer.
	return n, bytes.Clone(b[size:]), true
}

func sizeMayBe(size int) bool {
	return size >= 1 && size <= maxSize
}

// Hex is two digits of each byte.
func Hex(b []byte) string {
	t := make([]byte, 0, 2*len(b))
	for _, x := range b {
		t = appendPair(t, x)
	}
	return string(t)
}

// Unhex is the bytes whose Hex s is; ErrText, if there are none.
func Unhex(s string) ([]byte, api.Errno) {
	if len(s)%2 != 0 {
		return nil, api.ErrText
	}
	b := make([]byte, len(s)/2)
	for i := range b {
		x, ok := pair(s[2*i], s[2*i+1])
		if !ok {
			return nil, api.ErrText
		}
		b[i] = x
	}
	return b, api.OK
}

// Text is the address's bytes as digits, a colon between two.
func Text(m api.MAC) string {
	t := make([]byte, 0, textLen)
	for i, x := range m {
		if i > 0 {
			t = append(t, ':')
		}
		t = appendPair(t, x)
	}
	return string(t)
}

// Parse is the address whose Text s is; ErrText, if there is none.
func Parse(s string) (api.MAC, api.Errno) {
	if len(s) != textLen {
		return api.MAC{}, api.ErrText
	}
	var m api.MAC
	for i := range m {
		at := 3 * i
		x, ok := pair(s[at], s[at+1])
		if !ok || i > 0 && s[at-1] != ':' {
			return api.MAC{}, api.ErrText
		}
		m[i] = x
	}
	return m, api.OK
}

// appendPair is t and the two digits of x behind it.
func appendPair(t []byte, x byte) []byte {
	return append(t, digits[x>>4], digits[x&15])
}

// pair is the byte of two digits, and whether both are digits.
func pair(high, low byte) (byte, bool) {
	h, okHigh := digit(high)
	l, okLow := digit(low)
	if !okHigh || !okLow {
		return 0, false
	}
	return h<<4 | l, true
}

// digit is the value of one digit, and whether it is one. Capitals are none, so that bytes have one text alone.
func digit(c byte) (byte, bool) {
	switch {
	case c >= '0' && c <= '9':
		return c - '0', true
	case c >= 'a' && c <= 'f':
		return c - 'a' + 10, true
	}
	return 0, false
}

// Kind is Zero, Broadcast, Group or Single.
func Kind(m api.MAC) api.MACKind {
	switch {
	case m == api.MAC{}:
		return api.Zero
	case m == api.MAC{255, 255, 255, 255, 255, 255}:
		return api.Broadcast
	case m[0]&1 == 1:
		return api.Group
	}
	return api.Single
}

// Equal tells whether both have the same bytes.
func Equal(a, b []byte) bool {
	if len(a) != len(b) {
		return false
	}
	// No way out of the loop ahead of its end: how long it takes must not tell where a guessed cookie goes wrong.
	var parts byte
	for i, x := range a {
		parts |= x ^ b[i]
	}
	return parts == 0
}
