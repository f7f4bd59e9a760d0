package rlp_test

import (
	"math/big"
	"math/rand"
	"testing"

	"ledger/api"
	"ledger/rlp"
)

// open: a list whose items are being read.
type open struct {
	end   int
	items int
}

// fault tells Decode's answer as P4 has it: one walk from the left over the
// lists that are open, with lengths of any size.
func fault(s string) api.Errno {
	if len(s) > 4096 {
		return api.ErrLong
	}
	var lists []open
	at := 0
	for begun := false; !begun || len(lists) > 0; begun = true {
		end := len(s)
		if n := len(lists); n > 0 {
			end = lists[n-1].end
			if at == end {
				lists = lists[:n-1]
				continue
			}
			if lists[n-1].items++; lists[n-1].items == 65 {
				return api.ErrDepth
			}
		}
		next, list, e := walk(s, at, end)
		if e != api.OK {
			return e
		}
		if !list {
			at = next
			continue
		}
		if len(lists) == 6 {
			return api.ErrDepth
		}
		from := at + 1
		if s[at] > 247 {
			from += int(s[at]) - 247
		}
		at = from
		lists = append(lists, open{end: next})
	}
	if at < len(s) {
		return api.ErrExtra
	}
	return api.OK
}

// walk tells where the item at a place ends, and whether it is a list.
func walk(s string, at int, end int) (int, bool, api.Errno) {
	if at == end {
		return 0, false, api.ErrEnd
	}
	b := int(s[at])
	at++
	if b < 128 {
		return at, false, api.OK
	}
	list := b >= 192
	n := new(big.Int).SetInt64(int64(b & 63))
	if b&63 > 55 {
		k := b&63 - 55
		if at+k > end {
			return 0, false, api.ErrEnd
		}
		n.SetBytes([]byte(s[at : at+k]))
		if s[at] == 0 || n.Cmp(big.NewInt(56)) < 0 {
			return 0, false, api.ErrForm
		}
		at += k
	}
	if n.Cmp(big.NewInt(int64(end-at))) > 0 {
		return 0, false, api.ErrEnd
	}
	size := int(n.Int64())
	if b == 129 && s[at] < 128 {
		return 0, false, api.ErrForm
	}
	return at + size, list, api.OK
}

// agree compares Decode with the walk, and with what Encode makes of the item.
func agree(t *testing.T, s string) api.Errno {
	t.Helper()
	it, e := rlp.Decode(s)
	if want := fault(s); e != want {
		t.Fatalf("%x: %d, want %d", s, e, want)
	}
	if e != api.OK && !nothing(it) {
		t.Fatalf("%x: an item beside the error %d", s, e)
	}
	if e == api.OK {
		if back, f := rlp.Encode(it); f != api.OK || back != s {
			t.Fatalf("%x and back: %x, %d", s, back, f)
		}
	}
	return e
}

// P1, P4: all texts of at most two bytes.
func TestAllShortTexts(t *testing.T) {
	agree(t, "")
	for a := range 256 {
		agree(t, string([]byte{byte(a)}))
		for b := range 256 {
			agree(t, string([]byte{byte(a), byte(b)}))
		}
	}
}

// P1, P4: texts that are rich in heads and in lengths around the edges.
func TestManyTexts(t *testing.T) {
	r := rand.New(rand.NewSource(2))
	rich := []byte{0, 1, 55, 56, 57, 64, 65, 127, 128, 129, 130, 183, 184, 185, 186, 191, 192, 193, 194, 195, 200, 247, 248, 249, 255}
	seen := map[api.Errno]int{}
	for range 300000 {
		b := make([]byte, r.Intn(90))
		for i := range b {
			b[i] = rich[r.Intn(len(rich))]
		}
		seen[agree(t, string(b))]++
	}
	for range 60000 {
		code, e := rlp.Encode(someItem(r, 1))
		if e != api.OK {
			seen[e]++
			continue
		}
		seen[agree(t, code)]++
		b := []byte(code)
		b[r.Intn(len(b))] = rich[r.Intn(len(rich))]
		seen[agree(t, string(b))]++
		seen[agree(t, code[:r.Intn(len(code))])]++
	}
	for _, e := range []api.Errno{api.OK, api.ErrEnd, api.ErrExtra, api.ErrForm, api.ErrDepth} {
		if seen[e] < 100 {
			t.Errorf("the error %d came %d times only", e, seen[e])
		}
	}
}

// someItem makes an item, at times one beyond the bounds.
func someItem(r *rand.Rand, level int) api.Item {
	if level > 8 || r.Intn(3) == 0 {
		return text(someText(r))
	}
	n := r.Intn(4)
	if r.Intn(20) == 0 {
		n = 60 + r.Intn(6)
	}
	it := list()
	for range n {
		if n > 4 && level > 1 {
			it.Kids = append(it.Kids, text(""))
			continue
		}
		it.Kids = append(it.Kids, someItem(r, level+1))
	}
	return it
}

func someText(r *rand.Rand) string {
	sizes := []int{0, 1, 1, 1, 2, 5, 54, 55, 56, 57, 255, 256}
	b := make([]byte, sizes[r.Intn(len(sizes))])
	r.Read(b)
	return string(b)
}
