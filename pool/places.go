package pool

import "math/bits"

// wordBits is how many places stand in one word.
const wordBits = 64

// places is a row of places from 0 on: each has a bit, which is 1 where the place is one of them.
type places []uint64

// newPlaces is room for so many places, none of which is one of them.
func newPlaces(size int) places {
	return make(places, (size+wordBits-1)/wordBits)
}

// has tells whether the place, which is from 0 on, is one of them; false, where there is no room for it.
func (s places) has(i int) bool {
	return i/wordBits < len(s) && s[i/wordBits]>>(i%wordBits)&1 == 1
}

// put makes the place, for which there is room, one of them.
func (s places) put(i int) {
	s[i/wordBits] |= 1 << (i % wordBits)
}

// drop makes the place, for which there is room, none of them.
func (s places) drop(i int) {
	s[i/wordBits] &^= 1 << (i % wordBits)
}

// first is the lowest of them; false, if there is none.
func (s places) first() (int, bool) {
	for at, word := range s {
		if word != 0 {
			return at*wordBits + bits.TrailingZeros64(word), true
		}
	}
	return 0, false
}

// each tells all of them, rising.
func (s places) each(yield func(int) bool) {
	for at, word := range s {
		for ; word != 0; word &= word - 1 {
			if !yield(at*wordBits + bits.TrailingZeros64(word)) {
				return
			}
		}
	}
}

// count is how many there are.
func (s places) count() int {
	n := 0
	for _, word := range s {
		n += bits.OnesCount64(word)
	}
	return n
}
