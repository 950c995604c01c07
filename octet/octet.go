// Package octet lays numbers as bytes, highest first, and reads them (layer 1).
package octet

import "headrace/api"

// held is what a reader has yet to give, and with what it refuses.
type held struct {
	rest    []byte
	refusal api.Errno
}

// Reader gives bytes away from the front, and refuses for good once it lacks some.
type Reader struct{ held }

// put tells b's bytes, and behind them the number's lowest n ones.
func put(b []byte, x uint64, n int) []byte {
	out := make([]byte, len(b)+n)
	copy(out, b)
	for i := range n {
		out[len(out)-1-i] = byte(x)
		x >>= 8
	}
	return out
}

// Put16 tells b's bytes, and those of a number of 16 bits.
func Put16(b []byte, x uint16) []byte { return put(b, uint64(x), 2) }

// Put32 tells b's bytes, and those of a number of 32 bits.
func Put32(b []byte, x uint32) []byte { return put(b, uint64(x), 4) }

// Put64 tells b's bytes, and those of a number of 64 bits.
func Put64(b []byte, x uint64) []byte { return put(b, x, 8) }

// Equal tells whether both have the same bytes, as many.
func Equal(a, b []byte) bool {
	if len(a) != len(b) {
		return false
	}
	for i := range len(a) {
		if a[i] != b[i] {
			return false
		}
	}
	return true
}

// Read makes a reader of b's bytes.
func Read(b []byte) *Reader { return &Reader{held{rest: copied(b)}} }

// copied tells the same bytes in memory of their own.
func copied(b []byte) []byte {
	out := make([]byte, len(b))
	copy(out, b)
	return out
}

// give hands the first n bytes to take; a reader that is nil, or refuses, hands over nothing.
func (r *Reader) give(n int, take func(b []byte)) {
	switch {
	case r == nil || r.refusal != api.OK:
	case n < 0:
		r.refusal = api.ErrArg
	case n > len(r.rest):
		r.refusal = api.ErrShort
	default:
		// The cut ends where the given bytes end, so that who takes them can't reach what is still held.
		take(r.rest[:n:n])
		r.rest = r.rest[n:]
	}
}

// number gives a number of n bytes.
func (r *Reader) number(n int) (x uint64) {
	r.give(n, func(b []byte) {
		for i := range n {
			x = x<<8 | uint64(b[i])
		}
	})
	return x
}

// U8 gives a byte.
func (r *Reader) U8() byte { return byte(r.number(1)) }

// U16 gives a number of 16 bits.
func (r *Reader) U16() uint16 { return uint16(r.number(2)) }

// U32 gives a number of 32 bits.
func (r *Reader) U32() uint32 { return uint32(r.number(4)) }

// U64 gives a number of 64 bits.
func (r *Reader) U64() uint64 { return r.number(8) }

// Raw gives n bytes.
func (r *Reader) Raw(n int) (out []byte) {
	r.give(n, func(b []byte) { out = copied(b) })
	return out
}

// Left tells how many bytes are held.
func (r *Reader) Left() int {
	if r == nil {
		return 0
	}
	return len(r.rest)
}

// Err tells with what the reader refuses.
func (r *Reader) Err() api.Errno {
	if r == nil {
		return api.ErrNil
	}
	return r.refusal
}

// Rest tells the bytes that are held, which stay held.
func (r *Reader) Rest() []byte {
	if r == nil {
		return nil
	}
	return copied(r.rest)
}
