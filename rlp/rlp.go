// Package rlp: items as bytes: see DOC.md.
package rlp

import "ledger/api"

// A head's first byte is one of the first two, and as much more as the content
// has bytes; or, of a content of more than maxShort bytes, maxShort more and one
// for each byte that tells its length.
const (
	textHead = 128
	listHead = 192
	maxShort = 55
)

// Encode tells an item's code (P4).
func Encode(it api.Item) (string, api.Errno) {
	// All of it is looked at ahead of the code: ErrDepth goes before ErrLong.
	if it.List && !within(it.Kids, 1) {
		return "", api.ErrDepth
	}
	code, ok := codeOf(it)
	if !ok {
		return "", api.ErrLong
	}
	return code, api.OK
}

// Decode tells of which item s is the code (P4).
func Decode(s string) (api.Item, api.Errno) {
	if len(s) > api.MaxText {
		return api.Item{}, api.ErrLong
	}
	it, used, e := read(s, 1)
	if e != api.OK {
		return api.Item{}, e
	}
	if used < len(s) {
		return api.Item{}, api.ErrExtra
	}
	return it, api.OK
}

// bare: whether a text is its own code.
func bare(text string) bool {
	return len(text) == 1 && text[0] < textHead
}
