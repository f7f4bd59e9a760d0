// Package num: numbers as texts, the highest byte first and not 0: see P11 of
// DOC.md. The lengths in an item's code are written so too.
package num

import "ledger/api"

// intBytes is how many bytes the greatest int has; its first is below signBit.
const (
	intBytes = 8
	signBit  = 128
)

// Text tells a number's text; it is empty for 0.
func Text(n int) string {
	out := ""
	for n > 0 {
		out = string([]byte{byte(n % 256)}) + out
		n = n / 256
	}
	return out
}

// Is tells whether a text is a number.
func Is(text string) bool {
	if text == "" {
		return true
	}
	return len(text) <= api.MaxNum && text[0] != 0
}

// Int tells the number that a text is; false if it is none, or not below 2^63.
func Int(text string) (int, bool) {
	if !Is(text) || len(text) > intBytes {
		return 0, false
	}
	if len(text) == intBytes && text[0] >= signBit {
		return 0, false
	}
	n := 0
	for i := 0; i < len(text); i++ {
		n = n*256 + int(text[i])
	}
	return n, true
}
