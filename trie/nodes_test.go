package trie_test

import (
	"slices"
	"strings"
	"testing"

	"ledger/api"
	"ledger/store"
)

// Texts that were laid into a store by hand, for maps that no Put has made.

func branch(value string, kids ...api.Item) api.Item {
	it := list(kids...)
	for len(it.Kids) < 16 {
		it.Kids = append(it.Kids, text(""))
	}
	it.Kids = append(it.Kids, text(value))
	return it
}

func leaf(path string, value string) api.Item { return list(packed(path, true), text(value)) }

func extension(path string, kid api.Item) api.Item { return list(packed(path, false), kid) }

func noughts(n int) string { return strings.Repeat("\x00", n) }

// laid puts an item's code into a store and tells its hash.
func laid(st *store.Store, it api.Item) api.Item {
	h, e := st.Put(codeOf(it))
	if e != api.OK {
		panic(e)
	}
	return text(h)
}

// wantAll: what the five calls answer that come to a node on a key's way.
func wantAll(t *testing.T, name string, st *store.Store, root string, key string, want api.Errno) {
	t.Helper()
	x := open(t, st, root)
	if v, e := x.Get(key); e != want || v != "" && e != api.OK {
		t.Errorf("%s, Get: %q, %d, want %d", name, v, e, want)
	}
	x = open(t, st, root)
	p, e := x.Prove(key)
	if e != want || (p == nil) != (e != api.OK) || x.Root() != root {
		t.Errorf("%s, Prove: %x, %d, want %d", name, p, e, want)
	}
	v, _ := x.Get(key)
	wantVerify(t, x, key, p, e, v)
	x = open(t, st, root)
	if r, e := x.RootWith(key, "new"); e != want || (r == "") != (e != api.OK) {
		t.Errorf("%s, RootWith: %x, %d, want %d", name, r, e, want)
	}
	if x.Root() != root {
		t.Errorf("%s: the root is %x now", name, x.Root())
	}
	x = open(t, st, root)
	if e := x.Put(key, "new"); e != want || e != api.OK && x.Root() != root {
		t.Errorf("%s, Put: %d, want %d", name, e, want)
	}
	if want == api.OK {
		return
	}
	x = open(t, st, root)
	if was, e := x.Delete(key); was || e != want || x.Root() != root {
		t.Errorf("%s, Delete: %v, %d, want %d", name, was, e, want)
	}
}

// P8: texts that are no nodes, as the root and on the way.
func TestNodes(t *testing.T) {
	hash := text(letters(32))
	tiny := leaf("\x01", "v")
	for _, c := range []struct {
		name string
		it   api.Item
		want api.Errno
	}{
		{"a leaf", leaf("\x01\x02", long), api.OK},
		{"a short leaf", leaf("", "v"), api.OK},
		{"a value of 160", leaf("\x01", letters(160)), api.OK},
		{"a value of 161", leaf("\x01", letters(161)), api.ErrNode},
		{"no value", leaf("\x01\x02", ""), api.ErrNode},
		{"a list as the value", list(packed("\x01", true), list()), api.ErrNode},
		{"a path that is none", list(text("\x01\x02"), text(long)), api.ErrNode},
		{"a path that is none", list(text("\x40"), text(long)), api.ErrNode},
		{"an empty path text", list(text(""), text(long)), api.ErrNode},
		{"a list as the path", list(list(), text(long)), api.ErrNode},
		{"a text", text(long), api.ErrNode},
		{"an empty list", list(), api.ErrNode},
		{"one item", list(packed("\x01", true)), api.ErrNode},
		{"three items", list(packed("\x01", true), text("v"), text("w")), api.ErrNode},
		{"sixteen items", list(branch("", hash, hash).Kids[:16]...), api.ErrNode},
		{"eighteen items", list(append(branch("", hash, hash).Kids, text(""))...), api.ErrNode},
		{"an extension", extension("\x01", hash), api.OK},
		{"without a path", extension("", hash), api.ErrNode},
		{"over nothing", extension("\x01", text("")), api.ErrNode},
		{"over 31 bytes", extension("\x01", text(letters(31))), api.ErrNode},
		{"over 33 bytes", extension("\x01", text(letters(33))), api.ErrNode},
		{"over a leaf", extension("\x01", tiny), api.ErrNode},
		{"over an extension", extension("\x01", extension("\x01", branch("v", tiny))), api.ErrNode},
		{"over a branch", extension("\x01", branch("v", tiny)), api.OK},
		{"over a branch of 30 bytes", extension("\x01", branch("v", tiny, tiny, tiny, tiny, tiny, tiny)), api.OK},
		{"over a branch of 32 bytes", extension("\x01", branch("v", tiny, tiny, tiny, tiny, tiny, tiny, tiny)), api.ErrNode},
		{"over an empty list", extension("\x01", list()), api.ErrNode},
		{"a branch of two", branch("", hash, hash), api.OK},
		{"a branch of one and its value", branch("v", hash), api.OK},
		{"a branch of one", branch("", hash), api.ErrNode},
		{"a branch's value alone", branch("v"), api.ErrNode},
		{"nothing in a branch", branch(""), api.ErrNode},
		{"a branch's value of 160", branch(letters(160), hash), api.OK},
		{"a branch's value of 161", branch(letters(161), hash), api.ErrNode},
		{"a list as a branch's value", list(append(branch("", hash, hash).Kids[:16], list())...), api.ErrNode},
		{"a short child", branch("v", tiny), api.OK},
		{"a child of 31 bytes", branch("v", leaf("\x01", letters(28))), api.OK},
		{"a child of 32 bytes", branch("v", leaf("\x01", letters(29))), api.ErrNode},
		{"a long child", branch("v", leaf("\x01", long)), api.ErrNode},
		{"a child of 31 bytes as a text", branch("v", text(letters(31))), api.ErrNode},
		{"a child of 33 bytes as a text", branch("v", text(letters(33))), api.ErrNode},
		{"a child that is no node", branch("v", list(text("\x31"))), api.ErrNode},
		{"a child without a value", branch("v", leaf("\x01", "")), api.ErrNode},
		{"a child at the end", branch("", append(branch("", hash).Kids[:15], leaf("\x01", ""))...), api.ErrNode},
		{"an extension within a branch", branch("v", extension("\x01", branch("v", leaf("", "v")))), api.OK},
		{"79 half bytes", leaf(noughts(79), "v"), api.OK},
		{"80 half bytes", leaf(noughts(80), "v"), api.OK},
		{"81 half bytes", leaf(noughts(81), "v"), api.ErrNode},
		{"an extension of 80", extension(noughts(80), hash), api.OK},
		{"an extension of 81", extension(noughts(81), hash), api.ErrNode},
		{"a branch behind 79", extension(noughts(79), branch("v", leaf("", "v"))), api.OK},
		{"a leaf behind 81", extension(noughts(79), branch("v", leaf("\x01", "v"))), api.ErrNode},
		{"a branch behind 80", extension(noughts(80), branch("v", leaf("", "v"))), api.ErrNode},
	} {
		st := store.New()
		root := laid(st, c.it).Text
		wantAll(t, c.name, st, root, "\xff", c.want)
		st.Lay(root, codeOf(c.it)+"x")
		wantAll(t, c.name+", bent", st, root, "\xff", api.ErrBent)
	}
}

// P8: texts that are nodes by themselves, but may not stand where they do.
func TestNamed(t *testing.T) {
	hash, none := text(letters(32)), text("")
	for _, c := range []struct {
		name string
		kid  api.Item
		over []string // what is over it, from the root on: branches, or extensions' paths
		want api.Errno
	}{
		{"a leaf below a branch", leaf("\x01", long), []string{"branch"}, api.OK},
		{"of 32 bytes", leaf("\x01", letters(29)), []string{"branch"}, api.OK},
		{"of 31 bytes", leaf("\x01", letters(28)), []string{"branch"}, api.ErrNode},
		{"a short leaf", leaf("\x01", "v"), []string{"branch"}, api.ErrNode},
		{"a short branch below an extension", branch("v", leaf("\x01", "v")), []string{"\x00"}, api.ErrNode},
		{"an extension below a branch", extension("\x01", hash), []string{"branch"}, api.OK},
		{"a branch below a branch", branch("", none, hash, hash), []string{"branch"}, api.OK},
		{"a branch below an extension", branch("", none, hash, hash), []string{"\x00"}, api.OK},
		{"a leaf below an extension", leaf("\x01", long), []string{"\x00"}, api.ErrNode},
		{"an extension below an extension", extension("\x01", hash), []string{"\x00"}, api.ErrNode},
		{"a leaf below both", leaf("\x01", long), []string{"\x00", "branch"}, api.OK},
		{"a text", text(long), []string{"branch"}, api.ErrNode},
		{"the empty map's", none, []string{"branch"}, api.ErrNode},
		{"a leaf behind 80", leaf("", long), []string{noughts(79), "branch"}, api.OK},
		{"a leaf of one behind 80", leaf("\x00", long), []string{noughts(79), "branch"}, api.ErrNode},
		{"an extension behind 80", extension("\x00", hash), []string{noughts(79), "branch"}, api.ErrNode},
		{"a branch behind 80", branch("v", none, hash), []string{noughts(80)}, api.ErrNode},
		{"a branch behind 79", branch("v", none, hash), []string{noughts(79)}, api.OK},
		{"a branch with a leaf behind 79", branch(long, none, leaf("", "v")), []string{noughts(79)}, api.OK},
		{"a branch with a long leaf behind 79", branch(long, none, leaf("\x00", "v")), []string{noughts(79)}, api.ErrNode},
		{"the longest way", leaf("", long), slices.Repeat([]string{"branch"}, 80), api.OK},
		{"a longer way", leaf("", long), slices.Repeat([]string{"branch"}, 81), api.ErrNode},
	} {
		st := store.New()
		name := laid(st, c.kid)
		for i := len(c.over) - 1; i >= 0; i-- {
			if c.over[i] == "branch" {
				name = laid(st, branch("v", name))
			} else {
				name = laid(st, extension(c.over[i], name))
			}
		}
		wantAll(t, c.name, st, name.Text, noughts(40), c.want)
	}
}

// P8: what lies within a node's text is looked at also beside the key's way.
func TestBesideTheWay(t *testing.T) {
	st := store.New()
	root := laid(st, branch("v", leaf("", ""), text(letters(32)))).Text
	wantAll(t, "a child at fault", st, root, "", api.ErrNode)
	wantAll(t, "a child at fault", st, root, "\xff", api.ErrNode)
}

// P8, P9: paths with an odd number of half bytes are nobody's key, but stay.
func TestOddPaths(t *testing.T) {
	p := pairs{"\x01": long, "\x01\x02\x03": "v", "\x01\x02\x03\x04": "w"}
	st := store.New()
	for head, x := range p.places() {
		if head == "" || len(x.code) >= 32 {
			st.Put(x.code)
		}
	}
	x := open(t, st, p.root())
	wantGet(t, x, "\x12\x34", "w", api.OK)
	wantGet(t, x, "\x12", "", api.OK)
	wantGet(t, x, "\x12\x30", "", api.OK)
	for _, k := range []string{"\x12", "\x10", "", "\x12\x34\x56"} {
		p[pathOf(k)] = "new"
		if e := x.Put(k, "new"); e != api.OK || x.Root() != p.root() {
			t.Errorf("Put(%q): %d, %x, want %x", k, e, x.Root(), p.root())
		}
	}
	for _, k := range []string{"", "\x12\x34", "\x12", "\x12\x34\x56", "\x10"} {
		delete(p, pathOf(k))
		wantDelete(t, x, k, true, api.OK)
		if x.Root() != p.root() {
			t.Errorf("Delete(%q): %x, want %x", k, x.Root(), p.root())
		}
	}
	if len(p) != 2 {
		t.Errorf("%d pairs", len(p))
	}
}

// P9: Delete's own reading has the errors of reading too.
func TestDeleteReadsNodes(t *testing.T) {
	for _, c := range []struct {
		name string
		kid  api.Item
		want api.Errno
	}{
		{"a leaf", leaf("\x01", long), api.OK},
		{"an extension", extension("\x01", text(letters(32))), api.OK},
		{"a branch", branch("", text(letters(32)), text(letters(32))), api.OK},
		{"a short leaf", leaf("\x01", "v"), api.ErrNode},
		{"a deep leaf", leaf(noughts(80), "v"), api.ErrNode},
		{"a leaf behind 80", leaf(noughts(79), "v"), api.OK},
		{"a text", text(long), api.ErrNode},
		{"a bare branch", branch("", text(letters(32))), api.ErrNode},
	} {
		st := store.New()
		own := laid(st, branch("v", laid(st, c.kid))).Text
		leaves := laid(st, branch("", laid(st, c.kid), leaf("\x00", "v"))).Text
		for key, root := range map[string]string{"": own, "\x10": leaves} {
			x := open(t, st, root)
			wantDelete(t, x, key, c.want == api.OK, c.want)
			if c.want != api.OK {
				wantGet(t, x, key, "v", api.OK)
			}
			if (x.Root() == root) != (c.want != api.OK) {
				t.Errorf("%s: the root is %x now", c.name, x.Root())
			}
		}
	}
}

// P8: texts that are no item's code, under their own hashes.
func TestNoCode(t *testing.T) {
	good := codeOf(branch("v", text(letters(32))))
	for _, s := range []string{"", "\x80k", "\xc1", good[:len(good)-1], good + "\x80", "\xf8" + good[1:], letters(4096), strings.Repeat("\xc1", 40), "\xf8\x00"} {
		st := store.New()
		root, _ := st.Put(s)
		wantAll(t, "no code", st, root, "\x0f", api.ErrNode)
		kid := branch("v", text(root))
		root, _ = st.Put(codeOf(kid))
		wantAll(t, "no code below a branch", st, root, "\x0f", api.ErrNode)
	}
}
