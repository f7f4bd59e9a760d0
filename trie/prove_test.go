package trie_test

import (
	"slices"
	"testing"

	"ledger/api"
	"ledger/proof"
	"ledger/store"
	"ledger/trie"
)

// wantVerify: a proof that was told without an error shows the key's value.
func wantVerify(t *testing.T, x *trie.Trie, key string, p []string, e api.Errno, value string) {
	t.Helper()
	if e != api.OK {
		return
	}
	if v, f := proof.Verify(x.Root(), key, p); v != value || f != api.OK {
		t.Errorf("Verify(%q): %.20q, %d, want %.20q", key, v, f, value)
	}
}

func wantProve(t *testing.T, x *trie.Trie, key string, want []string) {
	t.Helper()
	p, e := x.Prove(key)
	if e != api.OK || !slices.Equal(p, want) || (p == nil) != (len(want) == 0) {
		t.Errorf("Prove(%q): %x, %d, want %x", key, p, e, want)
	}
}

// P10: the nodes on the way, laid down by hand: where it ends, and which of them
// are named by their hashes.
func TestProve(t *testing.T) {
	// At the root a branch; below 1 a leaf apart; below 2 one within the root;
	// below 6 an extension apart, a branch apart, and below it both kinds of leaf.
	one, two := leaf("\x01", long), leaf("\x02", "v")
	far, near := leaf("\x05\x06", long+"5"), leaf("", "w")
	st := store.New()
	inner := branch("inner", text(""), text(""), laid(st, far), near)
	over := extension("\x01\x06", laid(st, inner))
	top := branch("top", text(""), laid(st, one), two, text(""), text(""), text(""), laid(st, over))
	root := laid(st, top).Text
	for _, c := range []struct {
		name  string
		key   string
		want  []api.Item
		value string
	}{
		{"the root's value", "", []api.Item{top}, "top"},
		{"an empty place", "\x01", []api.Item{top}, ""},
		{"an empty place at the end", "\xff", []api.Item{top}, ""},
		{"a leaf apart", "\x11", []api.Item{top, one}, long},
		{"a leaf of another key", "\x10", []api.Item{top, one}, ""},
		{"behind a leaf", "\x11\x11", []api.Item{top, one}, ""},
		{"a leaf within the root", "\x22", []api.Item{top}, "v"},
		{"one of another key", "\x21", []api.Item{top}, ""},
		{"an extension of another key", "a\x50", []api.Item{top, over}, ""},
		{"one that parts at the first", "\x6f", []api.Item{top, over}, ""},
		{"an extension that is not at its end", "a", []api.Item{top, over}, ""},
		{"an empty place of the lower branch", "ad", []api.Item{top, over, inner}, ""},
		{"the lower leaf apart", "ab\x56", []api.Item{top, over, inner, far}, long + "5"},
		{"one of another key", "ab\x5f", []api.Item{top, over, inner, far}, ""},
		{"ahead of its end", "ab", []api.Item{top, over, inner, far}, ""},
		{"the lower leaf within", "ac", []api.Item{top, over, inner}, "w"},
		{"behind it", "ac\x00", []api.Item{top, over, inner}, ""},
	} {
		x := open(t, st, root)
		var want []string
		for _, it := range c.want {
			want = append(want, codeOf(it))
		}
		wantProve(t, x, c.key, want)
		wantGet(t, x, c.key, c.value, api.OK)
		wantVerify(t, x, c.key, want, api.OK, c.value)
		if x.Root() != root {
			t.Errorf("%s: the root is %x now", c.name, x.Root())
		}
	}
}

// P10: the document's maps, what Put has made of them and what was read again.
func TestProveKnown(t *testing.T) {
	for _, c := range known {
		st, x := built(t, c.pairs...)
		p := pairs{}
		for i := 0; i < len(c.pairs); i += 2 {
			p[pathOf(c.pairs[i])] = c.pairs[i+1]
		}
		m := model{has: p, all: p.places()}
		y := open(t, st, x.Commit())
		for _, key := range append(someKeys(), "doe", "dogglesworth", "A", "B", "dogs") {
			want := m.proof(pathOf(key))
			wantProve(t, x, key, want)
			wantProve(t, y, key, want)
			wantVerify(t, x, key, want, api.OK, p[pathOf(key)])
		}
	}
}

// P10: of the empty map there is nothing, whatever lies in the store.
func TestProveEmpty(t *testing.T) {
	st := store.New()
	st.Lay(emptyRoot, "\x80")
	for _, key := range []string{"", "a", letters(40)} {
		x := open(t, st, emptyRoot)
		wantProve(t, x, key, nil)
		x.Put("a", "1")
		x.Delete("a")
		wantProve(t, x, key, nil)
	}
}

// P10: the root's code is there, however short it is, made or read.
func TestProveShortRoot(t *testing.T) {
	for _, l := range [][]string{{"", "v"}, {"a", "1"}, {"a", "1", "b", "2"}, {"ab", "1", "ac", "2"}} {
		st, x := built(t, l...)
		root := x.Commit()
		code, _ := st.Get(root)
		if len(code) >= 32 {
			t.Fatalf("%q: %d bytes", l, len(code))
		}
		for _, key := range []string{"", "a", "b", "ab", "ad", "z"} {
			wantProve(t, x, key, []string{code})
			wantProve(t, open(t, st, root), key, []string{code})
		}
	}
}

// P1, P10: a key that is too long goes ahead of reading; the errors of reading,
// and what has not to be read.
func TestProveErrors(t *testing.T) {
	wantError := func(x *trie.Trie, key string, want api.Errno) {
		t.Helper()
		root := x.Root()
		if p, e := x.Prove(key); p != nil || e != want || x.Root() != root {
			t.Errorf("Prove of %d bytes: %x, %d, want %d", len(key), p, e, want)
		}
	}
	st := store.New()
	for _, root := range []string{emptyRoot, letters(32)} {
		wantError(open(t, st, root), letters(41), api.ErrLong)
		wantError(open(t, st, root), letters(1<<16), api.ErrLong)
	}
	wantError(open(t, st, letters(32)), letters(40), api.ErrMissing)
	wantError(open(t, st, letters(32)), "", api.ErrMissing)

	st, made := built(t, "\x00\x00", long+"1", "\x00\x01", long+"2", "\x10", long+"3")
	root := made.Commit()
	p, _ := made.Prove("\x00\x00")
	if len(p) != 4 {
		t.Fatalf("%d texts, want two branches, an extension and a leaf", len(p))
	}
	for i := range p {
		h, _ := st.Put(p[i])
		st.Lose(h)
		x := open(t, st, root)
		wantError(x, "\x00\x00", api.ErrMissing)
		st.Lay(h, p[i]+"\x00")
		wantError(x, "\x00\x00", api.ErrBent)
		if i > 0 {
			q, _ := made.Prove("\x10")
			wantProve(t, x, "\x10", q)
		}
		st.Lay(h, p[i])
		wantProve(t, x, "\x00\x00", p)
		st.Lose(h)
		wantProve(t, x, "\x00\x00", p)
		st.Lay(h, p[i])
	}
}

// P2: each list is the caller's, and so is its spare room.
func TestProveFresh(t *testing.T) {
	st, x := built(t, "\x00\x00", long+"1", "\x00\x01", long+"2", "\x10", long+"3")
	x.Commit()
	all := st.Hashes()
	want, _ := x.Prove("\x00\x00")
	want = slices.Clone(want)
	p, _ := x.Prove("\x00\x00")
	q, _ := x.Prove("\x00\x01")
	other := slices.Clone(q)
	p = p[:cap(p)]
	for i := range p {
		p[i] = "mine"
	}
	if !slices.Equal(q, other) {
		t.Errorf("another list has changed: %x", q)
	}
	wantProve(t, x, "\x00\x00", want)
	wantGet(t, x, "\x00\x00", long+"1", api.OK)
	if x.Commit(); !slices.Equal(st.Hashes(), all) {
		t.Errorf("the store has %x", st.Hashes())
	}
}

// P10: a key with a branch at each of its half bytes has the longest proof.
func TestProveLongest(t *testing.T) {
	_, x := built(t, letters(40), long)
	for n := range 40 {
		x.Put(letters(n)+"\x6f", long)
		x.Put(letters(n)+"\xff", long)
	}
	p, e := x.Prove(letters(40))
	if len(p) != 81 || e != api.OK {
		t.Fatalf("%d texts, %d", len(p), e)
	}
	wantVerify(t, x, letters(40), p, e, long)
	for n := range 40 {
		p, e := x.Prove(letters(n))
		if len(p) != 2*n+1 {
			t.Errorf("of %d bytes: %d texts", n, len(p))
		}
		wantVerify(t, x, letters(n), p, e, "")
	}
}
