// Package keccak: the hash: see DOC.md.
package keccak

import "ledger/api"

// blockLen is how many bytes are xored into the words between two mixings.
const blockLen = 136

// Hasher takes its text in pieces.
//
// A byte is xored into its word as soon as it is taken, so that nothing of the
// text need be kept. taken counts the bytes since the last mixing; it is below
// blockLen between calls.
type Hasher struct {
	words [25]uint64
	taken int
}

// New makes one that has taken nothing (P3).
func New() *Hasher { return &Hasher{} }

// Write takes the bytes of s (P3).
func (h *Hasher) Write(s string) {
	for i := 0; i < len(s); i++ {
		h.flip(h.taken, s[i])
		h.taken++
		if h.taken == blockLen {
			h.mix()
			h.taken = 0
		}
	}
}

// Sum tells the hash of what has been taken (P3).
func (h *Hasher) Sum() string {
	// More text may follow in h, so the padding goes into a copy.
	end := h.Copy()
	end.flip(end.taken, 1)
	end.flip(blockLen-1, 128)
	end.mix()
	return end.head()
}

// Reset forgets what has been taken (P3).
func (h *Hasher) Reset() {
	h.words = [25]uint64{}
	h.taken = 0
}

// Copy makes another that has taken the same (P3).
func (h *Hasher) Copy() *Hasher {
	return &Hasher{words: h.words, taken: h.taken}
}

// Sum tells the hash of s (P3).
func Sum(s string) string {
	h := New()
	h.Write(s)
	return h.Sum()
}

// flip xors b into the block's byte i, which is below blockLen.
func (h *Hasher) flip(i int, b byte) {
	h.words[i/8] ^= uint64(b) << uint64(i%8*8)
}

// head tells as many of the words' bytes as a hash has.
func (h *Hasher) head() string {
	out := make([]byte, api.HashLen)
	for i := 0; i < len(out); i++ {
		out[i] = byte(h.words[i/8] >> uint64(i%8*8))
	}
	return string(out)
}
