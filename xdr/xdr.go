// Package xdr is layer 1: words of four bytes; see shared/doc/01-xdr.md.
package xdr

import (
	"bytes"
	"slices"
)

// size is how many bytes a word has.
const size = 4

// word is a number's word, the highest byte first.
func word(n uint32) [size]byte {
	return [size]byte{byte(n >> 24), byte(n >> 16), byte(n >> 8), byte(n)}
}

// number is the number of a word.
func number(w [size]byte) uint32 {
	return uint32(w[0])<<24 | uint32(w[1])<<16 | uint32(w[2])<<8 | uint32(w[3])
}

// fill is how many 00s make whole words of n bytes.
func fill(n int) int { return (size - n%size) % size }

// Word puts a word behind bytes.
func Word(b []byte, n uint32) []byte {
	w := word(n)
	// Not append: the room behind b is its owner's.
	return slices.Concat(b, w[:])
}

// Long puts a number of 64 bits behind bytes.
func Long(b []byte, n uint64) []byte {
	upper, lower := word(uint32(n>>32)), word(uint32(n))
	return slices.Concat(b, upper[:], lower[:])
}

// Int puts an int behind bytes.
func Int(b []byte, n int) []byte { return Long(b, uint64(n)) }

// Flag puts a truth value behind bytes.
func Flag(b []byte, is bool) []byte {
	if is {
		return Word(b, 1)
	}
	return Word(b, 0)
}

// Text puts a text behind bytes.
func Text(b []byte, s string) []byte {
	return Fixed(Word(b, uint32(len(s))), s)
}

// Fixed puts a text of a length that is known behind bytes.
func Fixed(b []byte, s string) []byte {
	var noughts [size]byte
	return slices.Concat(b, []byte(s), noughts[:fill(len(s))])
}

// Reader reads bytes.
type Reader struct {
	left []byte // nothing, of a bad one: so there is nothing it could read
	bad  bool
}

// NewReader is a reader of bytes.
func NewReader(b []byte) *Reader { return &Reader{left: bytes.Clone(b)} }

// fail makes the reader bad.
func (r *Reader) fail() {
	if r != nil {
		r.left, r.bad = nil, true
	}
}

// take is the next n bytes, cut so that nothing stands behind them; no, and the reader is bad, if there are fewer.
func (r *Reader) take(n int) ([]byte, bool) {
	if n < 0 || n > r.Left() || !r.OK() {
		r.fail()
		return nil, false
	}
	next := r.left[:n:n]
	r.left = r.left[n:]
	return next, true
}

// Word is the next word.
func (r *Reader) Word() uint32 {
	w, ok := r.take(size)
	if !ok {
		return 0
	}
	return number([size]byte(w))
}

// Long is the next number of 64 bits.
func (r *Reader) Long() uint64 {
	w, ok := r.take(2 * size)
	if !ok {
		return 0
	}
	upper, lower := number([size]byte(w[:size:size])), number([size]byte(w[size:]))
	return uint64(upper)<<32 | uint64(lower)
}

// Int is the next int.
func (r *Reader) Int() int { return int(r.Long()) }

// Flag is the next truth value.
func (r *Reader) Flag() bool { return r.Count(1) == 1 }

// Text is the next text.
func (r *Reader) Text(most int) string {
	// A text may always have no bytes: unlike a Count, it is not above a most below 0 then.
	return r.Fixed(r.Count(max(most, 0)))
}

// Fixed is the next text of a length.
func (r *Reader) Fixed(n int) string {
	text, ok := r.take(n)
	if !ok {
		return ""
	}
	// The 00s are taken for themselves: n and theirs together might be more than an int.
	noughts, ok := r.take(fill(n))
	if !ok {
		return ""
	}
	for _, nought := range noughts {
		if nought != 0 {
			r.fail()
			return ""
		}
	}
	return string(text)
}

// Count is the next count.
func (r *Reader) Count(most int) int {
	n := int64(r.Word())
	if n > int64(most) {
		r.fail()
		return 0
	}
	return int(n)
}

// Left is how many bytes were not read.
func (r *Reader) Left() int {
	if r == nil {
		return 0
	}
	return len(r.left)
}

// OK says whether the reader is not bad.
func (r *Reader) OK() bool { return r != nil && !r.bad }

// Done says whether all was read.
func (r *Reader) Done() bool { return r.OK() && r.Left() == 0 }
