// Package sums is layer 1, shared/doc/01-sums.md: the sum by which bytes are held against what was written, and numbers as bytes.
package sums

import (
	"iter"
	"math"

	"chatelaine/api"
)

const (
	crossed   = 0xedb88320 // what a sum is crossed with where a set bit falls out of it
	halfBits  = 4
	halfMask  = 1<<halfBits - 1
	sealBytes = 4 // of a sum
)

// Crc is the sum of bytes.
func Crc(b []byte) uint32 { return Update(0, b) }

// Update is the sum of bytes and b behind them, where sum is that of the first ones.
func Update(sum uint32, b []byte) uint32 {
	var halves [1 << halfBits]uint32
	for i := range halves {
		halves[i] = halfByte(uint32(i))
	}
	sum = ^sum // the turn at the end of the first bytes' sum is taken back
	for _, x := range b {
		sum = sum>>halfBits ^ halves[(sum^uint32(x))&halfMask]
		sum = sum>>halfBits ^ halves[(sum^uint32(x>>halfBits))&halfMask]
	}
	return ^sum
}

// halfByte is what the four bits of n alone make of a sum of noughts: sums are crossed bit by bit, so a half byte's part is the same whatever stands above it.
func halfByte(n uint32) uint32 {
	sum := uint32(0)
	for bit := range bits(n, halfBits) {
		sum = step(sum ^ bit)
	}
	return sum
}

// bits goes over the lowest bits of n, the lowest ahead.
func bits(n uint32, count int) iter.Seq[uint32] {
	return func(yield func(uint32) bool) {
		for i := range count {
			if !yield(n >> i & 1) {
				return
			}
		}
	}
}

// step takes a sum down by one bit.
func step(sum uint32) uint32 {
	if sum&1 == 0 {
		return sum >> 1
	}
	return sum>>1 ^ crossed
}

// Put tells a number's bytes.
func Put(n int64, bytes int) ([]byte, api.Errno) {
	greatest, ok := greatestOf()[bytes]
	if !ok || n < 0 || n > greatest {
		return nil, api.ErrArg
	}
	return bytesOf(uint64(n), bytes), api.OK
}

// Get tells the number whose bytes these are.
func Get(b []byte) (int64, api.Errno) {
	greatest, ok := greatestOf()[len(b)]
	if !ok {
		return 0, api.ErrArg
	}
	n := numberOf(b)
	if n > uint64(greatest) {
		return 0, api.ErrArg
	}
	return int64(n), api.OK
}

// greatestOf tells, by each number of bytes that there is, the greatest number of so many; of eight bytes numbers above 2^63 - 1 are none.
func greatestOf() map[int]int64 {
	return map[int]int64{2: math.MaxUint16, 4: math.MaxUint32, 8: math.MaxInt64}
}

// bytesOf tells the lowest so many bytes of n, the lowest ahead.
func bytesOf(n uint64, count int) []byte {
	next := func() byte {
		low := byte(n)
		n >>= 8
		return low
	}
	b := make([]byte, count)
	for i := range b {
		b[i] = next()
	}
	return b
}

// numberOf takes bytes, at most eight, as bytesOf lays them.
func numberOf(b []byte) uint64 {
	n := uint64(0)
	for i, x := range b {
		n |= uint64(x) << (8 * i)
	}
	return n
}

// Seal tells the bytes with their sum's bytes behind.
func Seal(b []byte) []byte {
	return joined(b, bytesOf(uint64(Crc(b)), sealBytes))
}

// Sealed tells the bytes ahead of the last four, if these are their sum's.
func Sealed(b []byte) ([]byte, bool) {
	if len(b) < sealBytes {
		return nil, false
	}
	end := len(b) - sealBytes
	if numberOf(b[end:]) != uint64(Crc(b[:end])) {
		return nil, false
	}
	return joined(b[:end]), true
}

// joined tells lists one behind the other in memory of their own: an append to the first one could write into its spare room.
func joined(lists ...[]byte) []byte {
	size := 0
	for _, l := range lists {
		size += len(l)
	}
	all := make([]byte, 0, size)
	for _, l := range lists {
		all = append(all, l...)
	}
	return all
}
