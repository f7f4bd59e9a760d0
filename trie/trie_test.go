package trie_test

import (
	"encoding/hex"
	"fmt"
	"math/rand"
	"slices"
	"strings"
	"testing"

	"ledger/api"
	"ledger/keccak"
	"ledger/store"
	"ledger/trie"
)

func toHex(s string) string { return hex.EncodeToString([]byte(s)) }

func letters(n int) string { return strings.Repeat("k", n) }

var long = strings.Repeat("v", 40)

// The document's own answers.
var known = []struct {
	pairs []string
	root  string
}{
	{nil, "56e81f171bcc55a6ff8345e692c0f86e5b48e01b996cadc001622fb5e363b421"},
	{[]string{"doe", "reindeer", "dog", "puppy", "dogglesworth", "cat"}, "8aad789dff2f538bca5d8ea56e8abe10f4c7ba3a5dea95fea4cd6e7c3a1168d3"},
	{[]string{"do", "verb", "dog", "puppy", "doge", "coin", "horse", "stallion"}, "5991bb8c6514148a29db676a14ac506cd2cd5775ace63c30a4fe457715e9ac84"},
	{[]string{"A", strings.Repeat("a", 50)}, "d23786fb4a010da3ce639d66d5e904a11dbc02746d1ce25029e53290cabf28ab"},
}

func open(t *testing.T, st *store.Store, root string) *trie.Trie {
	t.Helper()
	x, e := trie.Open(st, root)
	if e != api.OK || x == nil {
		t.Fatalf("Open: %d", e)
	}
	return x
}

// built: a map over a new store, with keys and values in turn.
func built(t *testing.T, l ...string) (*store.Store, *trie.Trie) {
	t.Helper()
	st := store.New()
	x := open(t, st, emptyRoot)
	for i := 0; i < len(l); i += 2 {
		if e := x.Put(l[i], l[i+1]); e != api.OK {
			t.Fatalf("Put(%q): %d", l[i], e)
		}
	}
	return st, x
}

func wantGet(t *testing.T, x *trie.Trie, key string, value string, want api.Errno) {
	t.Helper()
	if v, e := x.Get(key); v != value || e != want {
		t.Errorf("Get(%q): %.20q, %d, want %.20q, %d", key, v, e, value, want)
	}
}

func wantDelete(t *testing.T, x *trie.Trie, key string, was bool, want api.Errno) {
	t.Helper()
	if got, e := x.Delete(key); got != was || e != want {
		t.Errorf("Delete(%q): %v, %d, want %v, %d", key, got, e, was, want)
	}
}

// P7, P9: the document's roots, in every order of writing.
func TestKnown(t *testing.T) {
	r := rand.New(rand.NewSource(7))
	for _, c := range known {
		for range 20 {
			_, x := built(t)
			for _, i := range r.Perm(len(c.pairs) / 2) {
				x.Put(c.pairs[2*i], c.pairs[2*i+1])
			}
			if got := toHex(x.Root()); got != c.root {
				t.Errorf("%q: %s, want %s", c.pairs, got, c.root)
			}
		}
	}
}

// P8: Open reads nothing, and takes any 32 bytes.
func TestOpen(t *testing.T) {
	st := store.New()
	for _, bad := range []string{"", "k", letters(31), letters(33), letters(64)} {
		if x, e := trie.Open(st, bad); x != nil || e != api.ErrLen {
			t.Errorf("Open of %d bytes: %v, %d", len(bad), x, e)
		}
	}
	x := open(t, st, letters(32))
	if x.Root() != letters(32) || x.Commit() != letters(32) || st.Len() != 0 {
		t.Errorf("a root that is not there: %x, %d texts", x.Root(), st.Len())
	}
	wantGet(t, x, "a", "", api.ErrMissing)
	if e := x.Put("a", "1"); e != api.ErrMissing {
		t.Errorf("Put: %d", e)
	}
	if r, e := x.RootWith("a", "1"); r != "" || e != api.ErrMissing {
		t.Errorf("RootWith: %x, %d", r, e)
	}
	wantDelete(t, x, "a", false, api.ErrMissing)
	st.Lay(letters(32), "bent")
	wantGet(t, x, "a", "", api.ErrBent)
	if x.Root() != letters(32) {
		t.Errorf("the root is %x now", x.Root())
	}
}

// P8, P9: the empty map needs no text, also if there is one under its root.
func TestEmpty(t *testing.T) {
	for _, put := range []string{"", "\x80", "\xc0"} {
		st := store.New()
		st.Lay(emptyRoot, put)
		x := open(t, st, emptyRoot)
		wantGet(t, x, "", "", api.OK)
		wantGet(t, x, "a", "", api.OK)
		wantDelete(t, x, "a", false, api.OK)
		if x.Root() != emptyRoot || x.Commit() != emptyRoot || st.Len() != 1 {
			t.Errorf("%x, %d texts", x.Root(), st.Len())
		}
		if y, _ := st.Get(emptyRoot); y != put {
			t.Errorf("the store has %q", y)
		}
		x.Put("a", "1")
		wantDelete(t, x, "a", true, api.OK)
		if x.Root() != emptyRoot || x.Commit() != emptyRoot || st.Len() != 1 {
			t.Errorf("behind Delete: %x, %d texts", x.Root(), st.Len())
		}
	}
}

// P1, P8, P9: the bounds of keys and values, and which error goes first; they
// go ahead of reading.
func TestBounds(t *testing.T) {
	for _, root := range []string{emptyRoot, letters(32)} {
		x := open(t, store.New(), root)
		for _, c := range []struct {
			key, value string
			want       api.Errno
		}{
			{letters(41), "v", api.ErrLong},
			{letters(41), "", api.ErrLong},
			{letters(1 << 16), "v", api.ErrLong},
			{"k", letters(161), api.ErrLong},
			{letters(41), letters(161), api.ErrLong},
			{"k", letters(1 << 16), api.ErrLong},
			{"k", "", api.ErrEmpty},
			{"", "", api.ErrEmpty},
			{letters(40), "", api.ErrEmpty},
		} {
			if e := x.Put(c.key, c.value); e != c.want {
				t.Errorf("Put of %d and %d bytes: %d, want %d", len(c.key), len(c.value), e, c.want)
			}
			if r, e := x.RootWith(c.key, c.value); r != "" || e != c.want {
				t.Errorf("RootWith of %d and %d bytes: %x, %d, want %d", len(c.key), len(c.value), r, e, c.want)
			}
		}
		wantGet(t, x, letters(41), "", api.ErrLong)
		wantDelete(t, x, letters(41), false, api.ErrLong)
		if x.Root() != root {
			t.Errorf("the root is %x now", x.Root())
		}
	}
	keys := []string{letters(40), letters(39), letters(39) + "j", letters(39) + "\xff", "", "k"}
	_, x := built(t)
	p := pairs{}
	for i, k := range keys {
		v := letters(160 - i)
		if e := x.Put(k, v); e != api.OK {
			t.Errorf("Put of %d bytes: %d", len(k), e)
		}
		p[pathOf(k)] = v
		if x.Root() != p.root() {
			t.Errorf("behind %d bytes: the root is %x", len(k), x.Root())
		}
	}
	for i, k := range keys {
		wantGet(t, x, k, letters(160-i), api.OK)
	}
	wantGet(t, x, letters(38), "", api.OK)
}

// P9: RootWith tells what Put then gives, and changes no value and no store.
func TestRootWith(t *testing.T) {
	st, x := built(t, "a", long, "ab", "2", "b", long)
	before := x.Root()
	for _, c := range [][2]string{{"a", "new"}, {"abc", long}, {"", "1"}, {"a", long}, {"\x00", "1"}, {"b", "2"}} {
		r, e := x.RootWith(c[0], c[1])
		if e != api.OK || x.Root() != before {
			t.Fatalf("RootWith(%q): %d, and the root is %x", c[0], e, x.Root())
		}
		_, y := built(t, "a", long, "ab", "2", "b", long, c[0], c[1])
		if r != y.Root() {
			t.Errorf("RootWith(%q): %x, want %x", c[0], r, y.Root())
		}
	}
	wantGet(t, x, "a", long, api.OK)
	wantGet(t, x, "abc", "", api.OK)
	wantGet(t, x, "", "", api.OK)
	x.Commit()
	_, y := built(t, "a", long, "ab", "2", "b", long)
	other := store.New()
	z := open(t, other, emptyRoot)
	for _, k := range []string{"a", "ab", "b"} {
		v, _ := y.Get(k)
		z.Put(k, v)
	}
	z.Commit()
	if !slices.Equal(st.Hashes(), other.Hashes()) {
		t.Errorf("what RootWith made lies in the store: %d texts, want %d", st.Len(), other.Len())
	}
}

// P8, P10: what Get, Put, RootWith, Delete and Prove read stays, also if they
// fail.
func TestReadStays(t *testing.T) {
	// Two branches, the one below the other, and leaves apart.
	l := []string{"\x00\x00", long + "1", "\x00\x01", long + "2", "\x10", long + "3"}
	st, x := built(t, l...)
	root := x.Commit()
	inner := pairs{pathOf(l[0]): l[1], pathOf(l[2]): l[3]}
	kid := keccak.Sum(codeOf(inner.c(1)))
	leaf := keccak.Sum(codeOf(pairs{pathOf(l[0]): l[1]}.c(4)))
	for name, call := range map[string]func(x *trie.Trie) api.Errno{
		"Get":      func(x *trie.Trie) api.Errno { _, e := x.Get("\x00\x00"); return e },
		"Put":      func(x *trie.Trie) api.Errno { return x.Put("\x00\x00", "v") },
		"RootWith": func(x *trie.Trie) api.Errno { _, e := x.RootWith("\x00\x00", "v"); return e },
		"Delete":   func(x *trie.Trie) api.Errno { _, e := x.Delete("\x00\x00"); return e },
		"Prove":    func(x *trie.Trie) api.Errno { _, e := x.Prove("\x00\x00"); return e },
	} {
		x := open(t, st, root)
		kept, e := st.Get(leaf)
		if e != api.OK {
			t.Fatalf("the leaf is not where it should be: %d", e)
		}
		st.Lose(leaf)
		if e := call(x); e != api.ErrMissing {
			t.Errorf("%s: %d", name, e)
		}
		// The branches have been read: the store is not asked for them again.
		was, _ := st.Get(root)
		below, _ := st.Get(kid)
		st.Lay(root, "bent")
		st.Lose(kid)
		wantGet(t, x, "\x00\x00", "", api.ErrMissing)
		wantGet(t, x, "\x00\x01", l[3], api.OK)
		wantGet(t, x, "\x00\x02", "", api.OK)
		if x.Root() != root {
			t.Errorf("%s: the root is %x now", name, x.Root())
		}
		st.Lay(root, was)
		st.Lay(kid, below)
		st.Lay(leaf, kept)
		wantGet(t, x, "\x00\x00", l[1], api.OK)
	}
}

// P8: an error of reading is not kept: the store is asked anew.
func TestErrorsPass(t *testing.T) {
	st, x := built(t, "a", long, "b", long+"b")
	root := x.Commit()
	y := open(t, st, root)
	kept, _ := st.Get(root)
	for _, c := range []struct {
		lay  string
		want api.Errno
	}{{"bent", api.ErrBent}, {"", api.ErrBent}, {kept + "x", api.ErrBent}} {
		st.Lay(root, c.lay)
		wantGet(t, y, "a", "", c.want)
	}
	st.Lose(root)
	wantGet(t, y, "a", "", api.ErrMissing)
	st.Put(kept)
	wantGet(t, y, "a", long, api.OK)
}

// P9: Commit lays all that is in memory, read or made, and nothing else.
func TestCommit(t *testing.T) {
	st, x := built(t, "k", "v")
	if r := x.Commit(); !slices.Equal(st.Hashes(), []string{r}) {
		t.Errorf("a short root: %x", st.Hashes())
	}
	st, x = built(t, "a", long, "b", long+"b", "\x10", "short", "c", "short")
	if st.Len() != 0 {
		t.Errorf("%d texts ahead of Commit", st.Len())
	}
	r := x.Commit()
	all := st.Hashes()
	if len(all) != 4 {
		t.Errorf("%d texts, want the root, the branch and two leaves", len(all))
	}
	y := open(t, st, r)
	wantGet(t, y, "a", long, api.OK)
	texts := map[string]string{}
	for _, h := range all {
		texts[h], _ = st.Get(h)
		st.Lay(h, "bent")
	}
	if y.Commit() != r {
		t.Errorf("the root is %x now", y.Root())
	}
	for _, h := range all {
		got, e := st.Get(h)
		if e != api.OK || strings.Contains(texts[h], long+"b") != (got == "bent") || got != "bent" && got != texts[h] {
			t.Errorf("behind Commit of what was read: %q", got)
		}
	}
	x.Commit()
	for _, h := range all {
		if got, e := st.Get(h); e != api.OK || got != texts[h] {
			t.Errorf("behind Commit of all: %q, %d", got, e)
		}
	}
	wantGet(t, y, "b", long+"b", api.OK)
}

// P9: Commit keeps what lies in the store beside it, and the map goes on.
func TestCommitGoesOn(t *testing.T) {
	st, x := built(t, "a", long)
	st.Put("something else")
	first := x.Commit()
	x.Put("b", long)
	second := x.Commit()
	wantDelete(t, x, "b", true, api.OK)
	if x.Commit() != first {
		t.Errorf("the root is %x", x.Root())
	}
	wantGet(t, open(t, st, first), "a", long, api.OK)
	wantGet(t, open(t, st, first), "b", "", api.OK)
	wantGet(t, open(t, st, second), "b", long, api.OK)
	if _, e := st.Get(keccak.Sum("something else")); e != api.OK {
		t.Errorf("what lay beside it: %d", e)
	}
}

// P2: two maps over one store, and one key's value in each.
func TestTwoMaps(t *testing.T) {
	st, x := built(t, "a", long)
	root := x.Commit()
	y := open(t, st, root)
	z := open(t, st, root)
	y.Put("a", "1")
	wantDelete(t, z, "a", true, api.OK)
	wantGet(t, x, "a", long, api.OK)
	wantGet(t, y, "a", "1", api.OK)
	wantGet(t, z, "a", "", api.OK)
	y.Commit()
	z.Commit()
	wantGet(t, open(t, st, root), "a", long, api.OK)
}

// P9: what becomes of a branch that is left with one thing.
func TestDelete(t *testing.T) {
	for _, c := range []struct {
		name string
		gone string
		rest []string
	}{
		{"its value is left", "ab", []string{"a", "1"}},
		{"a leaf is left", "a", []string{"ab", "2"}},
		{"a leaf is left of two", "b", []string{"a", "1"}},
		{"an extension is left", "\x10", []string{"ab", "1", "ac", "2"}},
		{"a branch is left", "\x10", []string{"a", "1", "b", "2"}},
		{"a branch is left, below an extension", "aa\x10", []string{"aaa", "1", "aab", "2"}},
		{"an extension is left, below an extension", "aa\x10", []string{"aaab", "1", "aaac", "2"}},
		{"a leaf is left, below an extension", "aa\x10", []string{"aaab", "1"}},
		{"its value is left, below an extension", "aab", []string{"aa", "1"}},
		{"two are left", "aab", []string{"aac", "1", "aad", "2"}},
		{"one and its value are left", "aab", []string{"aa", "1", "aad", "2"}},
		{"a value goes and a leaf is left", "aa", []string{"aab", "2"}},
		{"a value goes and two are left", "aa", []string{"aab", "2", "aac", "3"}},
		{"below a branch", "aab", []string{"aac", "1", "\x10", "2"}},
		{"nothing is left", "aa", nil},
		{"at the root", "", []string{"a", "1", "b", "2"}},
	} {
		for _, size := range []int{0, 1, 40} {
			l := slices.Clone(c.rest)
			for i := 1; i < len(l); i += 2 {
				l[i] += letters(size)
			}
			_, want := built(t, l...)
			st, x := built(t, append(l, c.gone, "gone")...)
			root := x.Commit()
			for _, y := range []*trie.Trie{x, open(t, st, root)} {
				wantDelete(t, y, c.gone, true, api.OK)
				if y.Root() != want.Root() {
					t.Errorf("%s: the root is %x, want %x", c.name, y.Root(), want.Root())
				}
				wantGet(t, y, c.gone, "", api.OK)
				wantDelete(t, y, c.gone, false, api.OK)
				for i := 0; i < len(l); i += 2 {
					wantGet(t, y, l[i], l[i+1], api.OK)
				}
			}
		}
	}
}

// P9: the child that is left is read if it has not been, and else not; with an
// error the key keeps its value.
func TestDeleteReads(t *testing.T) {
	// The child that is left: a leaf, an extension, a branch.
	for i, rest := range [][]string{{"b", long}, {"bb", long, "bc", long}, {"a", long, "b", long}} {
		p := pairs{}
		for j := 0; j < len(rest); j += 2 {
			p[pathOf(rest[j])] = rest[j+1]
		}
		hash := keccak.Sum(codeOf(p.c(1)))
		st, x := built(t, append(rest, "\x10", "gone")...)
		root := x.Commit()
		kept, e := st.Get(hash)
		if e != api.OK {
			t.Fatalf("case %d: the child is not where it should be", i)
		}
		for want, harm := range map[api.Errno]func(){
			api.ErrMissing: func() { st.Lose(hash) },
			api.ErrBent:    func() { st.Lay(hash, "bent") },
		} {
			y, z := open(t, st, root), open(t, st, root)
			if v, e := z.Get(rest[0]); v != long || e != api.OK {
				t.Errorf("case %d: %d", i, e)
			}
			harm()
			wantDelete(t, y, "\x10", false, want)
			wantGet(t, y, "\x10", "gone", api.OK)
			wantDelete(t, y, "\x11", false, api.OK)
			if y.Root() != root {
				t.Errorf("case %d: the root is %x now", i, y.Root())
			}
			wantDelete(t, z, "\x10", true, api.OK)
			if z.Root() != p.root() {
				t.Errorf("case %d: the root is %x, want %x", i, z.Root(), p.root())
			}
			st.Lay(hash, kept)
			wantDelete(t, y, "\x10", true, api.OK)
			if y.Root() != p.root() {
				t.Errorf("case %d: the root is %x, want %x", i, y.Root(), p.root())
			}
		}
	}
}

// P9: no child is read where two things are left, or a value.
func TestDeleteReadsNoMore(t *testing.T) {
	for _, l := range [][]string{
		{"b", long, "\x20", long},
		{"b", long, "", "1"},
	} {
		st, x := built(t, append(l, "\x10", "gone")...)
		root := x.Commit()
		for _, h := range st.Hashes() {
			if h != root {
				st.Lose(h)
			}
		}
		y := open(t, st, root)
		wantDelete(t, y, "\x10", true, api.OK)
		p := pairs{}
		for i := 0; i < len(l); i += 2 {
			p[pathOf(l[i])] = l[i+1]
		}
		if y.Root() != p.root() {
			t.Errorf("the root is %x, want %x", y.Root(), p.root())
		}
	}
}

// P8: the way of a key goes as far as nodes share its path: what lies beside it
// is not read.
func TestWay(t *testing.T) {
	// An extension over a branch of two leaves.
	st, x := built(t, "abc", long, "abd", long)
	root := x.Commit()
	for _, h := range st.Hashes() {
		if h != root {
			st.Lose(h)
		}
	}
	y := open(t, st, root)
	for _, k := range []string{"", "a", "b", "\x00", "a\xff", "a\x00\x00\x00", "abx", letters(40)} {
		wantGet(t, y, k, "", api.OK)
		wantDelete(t, y, k, false, api.OK)
		p := pairs{pathOf("abc"): long, pathOf("abd"): long, pathOf(k): "new"}
		if r, e := y.RootWith(k, "new"); r != p.root() || e != api.OK {
			t.Errorf("RootWith(%q): %x, %d, want %x", k, r, e, p.root())
		}
	}
	for _, k := range []string{"ab\x60", "abc", "abcd", "abo", "ab\x6f\xff"} {
		wantGet(t, y, k, "", api.ErrMissing)
	}
	if e := y.Put("a", "new"); e != api.OK {
		t.Errorf("Put: %d", e)
	}
	wantGet(t, y, "a", "new", api.OK)
	wantGet(t, y, "abc", "", api.ErrMissing)
}

// P1, P8: of several at fault the first from the root on is told.
func TestFirstFault(t *testing.T) {
	st, x := built(t, "\x00\x00", long+"1", "\x00\x01", long+"2", "\x10", long+"3")
	root := x.Commit()
	p := pairs{pathOf("\x00\x00"): long + "1", pathOf("\x00\x01"): long + "2"}
	kid := keccak.Sum(codeOf(p.c(1)))
	leaf := keccak.Sum(codeOf(pairs{pathOf("\x00\x00"): long + "1"}.c(4)))
	for _, h := range []string{leaf, kid, root} {
		if e := st.Lose(h); e != api.OK {
			t.Fatalf("Lose: %d", e)
		}
		y := open(t, st, root)
		wantGet(t, y, "\x00\x00", "", api.ErrMissing)
		st.Lay(h, "bent")
		wantGet(t, y, "\x00\x00", "", api.ErrBent)
	}
}

// P9: a root is the same in whatever order, and behind keys that came and went.
func TestOrders(t *testing.T) {
	r := rand.New(rand.NewSource(9))
	for range 60 {
		p := pairs{}
		var keys []string
		for range r.Intn(40) {
			k := someKey(r)
			if _, there := p[pathOf(k)]; !there {
				keys = append(keys, k)
			}
			p[pathOf(k)] = someValue(r)
		}
		for range 3 {
			_, x := built(t)
			for range 10 {
				x.Put(someKey(r), someValue(r))
			}
			for _, i := range r.Perm(len(keys)) {
				x.Put(keys[i], p[pathOf(keys[i])])
			}
			for _, k := range someKeys() {
				if _, there := p[pathOf(k)]; !there {
					x.Delete(k)
				}
			}
			if x.Root() != p.root() {
				t.Fatalf("%q: %x, want %x", p, x.Root(), p.root())
			}
		}
	}
}

// P7: many keys, at which the branches are full.
func TestMany(t *testing.T) {
	st, x := built(t)
	p := pairs{}
	for i := range 1500 {
		k, v := keccak.Sum(fmt.Sprint(i)), fmt.Sprint("value ", i)
		p[pathOf(k)] = v
		if e := x.Put(k, v); e != api.OK {
			t.Fatalf("Put: %d", e)
		}
	}
	if x.Commit() != p.root() {
		t.Fatalf("%x, want %x", x.Root(), p.root())
	}
	y := open(t, st, x.Root())
	for i := range 1500 {
		wantGet(t, y, keccak.Sum(fmt.Sprint(i)), fmt.Sprint("value ", i), api.OK)
	}
	for i := range 1490 {
		wantDelete(t, y, keccak.Sum(fmt.Sprint(i)), true, api.OK)
		delete(p, pathOf(keccak.Sum(fmt.Sprint(i))))
	}
	if y.Root() != p.root() {
		t.Errorf("%x, want %x", y.Root(), p.root())
	}
}
