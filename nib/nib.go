// Package nib: paths of half bytes: see DOC.md.
package nib

import "ledger/api"

// The upper half of the first byte is a sum of these.
const (
	oddMark  = 1
	leafMark = 2
)

// Pack tells a path as bytes (P5).
func Pack(path string, leaf bool) (string, api.Errno) {
	// A longer one's bytes would be more than Unpack takes.
	if len(path) >= 2*api.MaxText {
		return "", api.ErrLong
	}
	if !allHalfBytes(path) {
		return "", api.ErrArg
	}
	var mark byte
	if leaf {
		mark = leafMark
	}
	at := 0
	var low byte
	if len(path)%2 == 1 {
		mark += oddMark
		low = path[0]
		at = 1
	}
	out := make([]byte, 0, len(path)/2+1)
	out = append(out, mark<<4|low)
	for ; at+1 < len(path); at += 2 {
		out = append(out, path[at]<<4|path[at+1])
	}
	return string(out), api.OK
}

// Unpack tells of which path t is (P5).
func Unpack(t string) (string, bool, api.Errno) {
	if len(t) > api.MaxText {
		return "", false, api.ErrLong
	}
	if len(t) == 0 {
		return "", false, api.ErrForm
	}
	mark := t[0] >> 4
	low := t[0] & 15
	odd := mark&oddMark != 0
	if mark > leafMark+oddMark || !odd && low != 0 {
		return "", false, api.ErrForm
	}
	path := make([]byte, 0, 2*len(t))
	if odd {
		path = append(path, low)
	}
	for i := 1; i < len(t); i++ {
		path = append(path, t[i]>>4, t[i]&15)
	}
	return string(path), mark&leafMark != 0, api.OK
}

func allHalfBytes(path string) bool {
	for i := 0; i < len(path); i++ {
		if path[i] > 15 {
			return false
		}
	}
	return true
}
