package trie_test

import (
	"math/rand"
	"testing"

	"ledger/api"
	"ledger/store"
	"ledger/trie"
)

// strange fills a store with texts that are nodes or nearly, which name one
// another by their hashes, and tells these.
func strange(r *rand.Rand, st *store.Store) []api.Item {
	hashes := []api.Item{text(letters(32))}
	some := func() api.Item {
		switch r.Intn(8) {
		case 0:
			return text("")
		case 1:
			return leaf(noughts(r.Intn(3)), "v")
		case 2:
			return extension("\x00", branch("v", leaf("", "w")))
		}
		return hashes[r.Intn(len(hashes))]
	}
	for range 30 {
		path := noughts(r.Intn(4))
		var it api.Item
		switch r.Intn(4) {
		case 0:
			it = leaf(path, someValue(r))
		case 1:
			it = extension(path+"\x00", some())
		default:
			it = branch("", some(), some())
			if r.Intn(2) == 0 {
				it.Kids[16] = text(someValue(r))
			}
		}
		hashes = append(hashes, laid(st, it))
	}
	return hashes
}

// keyOf: noughts and ones, by which the nodes above lead.
func keyOf(r *rand.Rand) string {
	b := make([]byte, r.Intn(6))
	for i := range b {
		b[i] = byte(r.Intn(2)*16 + r.Intn(2))
	}
	return string(b)
}

// change does one call that may change a map, and tells what must hold behind
// it.
func change(t *testing.T, r *rand.Rand, x *trie.Trie, key string) api.Errno {
	before := x.Root()
	had, missed := x.Get(key)
	if r.Intn(2) == 0 {
		value := someValue(r)
		root, e := x.RootWith(key, value)
		if f := x.Put(key, value); f != e || f != missed {
			t.Fatalf("Put: %d, RootWith %d, Get %d", f, e, missed)
		}
		if e != api.OK {
			value, root = had, before
		}
		if got, _ := x.Get(key); got != value || x.Root() != root {
			t.Fatalf("behind Put: %q, %x, want %q, %x", got, x.Root(), value, root)
		}
		return e
	}
	was, e := x.Delete(key)
	if missed != api.OK && e != missed || was != (had != "" && e == api.OK) {
		t.Fatalf("Delete: %v, %d, Get %q, %d", was, e, had, missed)
	}
	got, f := x.Get(key)
	if was && got != "" || !was && got != had || f != missed || was == (x.Root() == before) {
		t.Fatalf("behind Delete: %q, %d; %v, %d", got, f, was, e)
	}
	return e
}

// P1, P8 to P10: whatever lies in a store, no call panics, a call that fails
// changes nothing, what was committed is there again, and what is told is
// proved.
func TestStrangeStores(t *testing.T) {
	r := rand.New(rand.NewSource(1))
	seen := map[api.Errno]int{}
	for range 3000 {
		st := store.New()
		hashes := strange(r, st)
		x := open(t, st, hashes[len(hashes)-1].Text)
		var keys []string
		for range 20 {
			key := keyOf(r)
			keys = append(keys, key)
			seen[change(t, r, x, key)]++
		}
		y := open(t, st, x.Commit())
		if y.Root() != x.Root() {
			t.Fatalf("%x, then %x", x.Root(), y.Root())
		}
		for _, key := range keys {
			v, e := x.Get(key)
			if w, f := y.Get(key); v != w || e != f {
				t.Fatalf("Get(%x): %q, %d, behind Commit %q, %d", key, v, e, w, f)
			}
			p, f := x.Prove(key)
			if f != e || f != api.OK && p != nil {
				t.Fatalf("Prove(%x): %d, Get %d", key, f, e)
			}
			wantVerify(t, x, key, p, f, v)
		}
	}
	for _, e := range []api.Errno{api.OK, api.ErrMissing, api.ErrNode} {
		if seen[e] < 100 {
			t.Errorf("the error %d came %d times only: %v", e, seen[e], seen)
		}
	}
}
