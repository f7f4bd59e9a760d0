package proof_test

import (
	"fmt"
	"math/rand"
	"slices"
	"testing"

	"ledger/api"
	"ledger/keccak"
	"ledger/proof"
	"ledger/store"
	"ledger/trie"
)

func wantVerify(t *testing.T, name string, root string, key string, p []string, value string, want api.Errno) {
	t.Helper()
	if v, e := proof.Verify(root, key, p); v != value || e != want {
		t.Errorf("%s, Verify(%.20q), %d texts: %.20q, %d, want %.20q, %d", name, key, len(p), v, e, value, want)
	}
}

// built: a map with some keys of all kinds, and its store.
func built(t *testing.T) (*store.Store, *trie.Trie, map[string]string) {
	t.Helper()
	st := store.New()
	x, _ := trie.Open(st, emptyRoot)
	has := map[string]string{"": "at the root", letters(40): long, letters(39): "w"}
	for i := range 60 {
		has[letters(i%7)+string([]byte{byte(5 * i)})] = fmt.Sprint("value ", i, noughts(i%40))
	}
	for k, v := range has {
		if e := x.Put(k, v); e != api.OK {
			t.Fatalf("Put: %d", e)
		}
	}
	x.Commit()
	return st, x, has
}

func someKeys(has map[string]string) []string {
	out := []string{"a", "kk", "kkkkkkkk", "\x00\x00", "\x01", "\xff\xff", "none", letters(38), letters(39) + "j", "kkk\x04"}
	for k := range has {
		out = append(out, k)
	}
	slices.Sort(out)
	return out
}

// P10: what is proved is the key's value, or that there is none.
func TestVerify(t *testing.T) {
	_, x, has := built(t)
	for _, k := range someKeys(has) {
		p, e := x.Prove(k)
		if e != api.OK || len(p) == 0 {
			t.Fatalf("Prove(%q): %d", k, e)
		}
		wantVerify(t, "as it is", x.Root(), k, p, has[k], api.OK)
	}
}

// P10: texts by hand: where a value stands, and where ways end without one.
func TestEnds(t *testing.T) {
	far := codeOf(leaf("\x02", long))
	inner := codeOf(branch("in", text(""), text(keccak.Sum(far)), leaf("\x03", "near")))
	over := codeOf(extension("\x06", text(keccak.Sum(inner))))
	top := codeOf(branch("top", text(""), text(""), extension("\x05", branch("b", leaf("\x07", "v"))), text(""), text(""), text(""), text(keccak.Sum(over))))
	root := keccak.Sum(top)
	for _, c := range []struct {
		name  string
		key   string
		p     []string
		value string
	}{
		{"the root's value", "", []string{top}, "top"},
		{"an empty place", "\x00", []string{top}, ""},
		{"a branch within the root", "\x25", []string{top}, "b"},
		{"a leaf within that", "\x25\x07", []string{top}, "v"},
		{"another", "\x25\x08", []string{top}, ""},
		{"an empty place of it", "\x25\x17", []string{top}, ""},
		{"an extension within the root, of another key", "\x26", []string{top}, ""},
		{"an extension apart, of another key", "\x65", []string{top, over}, ""},
		{"the branch's value", "\x66", []string{top, over, inner}, "in"},
		{"an empty place below it", "\x66\x30", []string{top, over, inner}, ""},
		{"a leaf within it", "\x66\x23", []string{top, over, inner}, "near"},
		{"a leaf within it, of another key", "\x66\x24", []string{top, over, inner}, ""},
		{"a leaf apart", "\x66\x12", []string{top, over, inner, far}, long},
		{"a leaf apart, of another key", "\x66\x11", []string{top, over, inner, far}, ""},
		{"a leaf apart, of a shorter key", "\x66\x12\x00", []string{top, over, inner, far}, ""},
	} {
		wantVerify(t, c.name, root, c.key, c.p, c.value, api.OK)
		for n := range c.p {
			wantVerify(t, c.name+", not all", root, c.key, c.p[:n], "", api.ErrProof)
		}
		for _, more := range []string{far, inner, over, top, "", "\x80", codeOf(branch("b", leaf("\x07", "v"))), codeOf(leaf("\x07", "v"))} {
			wantVerify(t, c.name+", and one more", root, c.key, append(slices.Clone(c.p), more), "", api.ErrProof)
		}
	}
}

// P10: a way whose last node is a leaf or branch named by its hash, value and all.
func TestEvenEnds(t *testing.T) {
	for _, c := range []struct {
		name  string
		kid   api.Item
		over  []string
		key   string
		value string
	}{
		{"a root that is a leaf", leaf("\x01\x02", "v"), nil, "\x12", "v"},
		{"of nothing", leaf("", "v"), nil, "", "v"},
		{"a long one", leaf("\x01\x02", letters(160)), nil, "\x12", letters(160)},
		{"of another key", leaf("\x01\x02", "v"), nil, "\x13", ""},
		{"of a longer key", leaf("\x01\x02", "v"), nil, "", ""},
		{"of a shorter key", leaf("\x01\x02", "v"), nil, "\x12\x00", ""},
		{"a leaf below a branch", leaf("\x01", long), []string{"branch"}, "\x01", long},
		{"a branch below a branch and a path", branch(long, leaf("", "v")), []string{"branch", "\x03"}, "\x03", long},
		{"a branch below a path", branch(long, leaf("", "v")), []string{"\x03\x04"}, "\x34", long},
		{"a leaf behind 80", leaf("", long), []string{noughts(79), "branch"}, noughts(40), long},
	} {
		root, p := chain(codeOf(c.kid), c.over...)
		wantVerify(t, c.name, root, c.key, p, c.value, api.OK)
	}
}

// P10: the empty map's root with no text, and with any.
func TestEmpty(t *testing.T) {
	for _, key := range []string{"", "k", letters(40)} {
		wantVerify(t, "nil", emptyRoot, key, nil, "", api.OK)
		wantVerify(t, "an empty list", emptyRoot, key, []string{}, "", api.OK)
		for _, s := range []string{"", "\x80", "\xc0", codeOf(leaf("", "v"))} {
			wantVerify(t, "a text", emptyRoot, key, []string{s}, "", api.ErrProof)
		}
		wantVerify(t, "96 texts", emptyRoot, key, make([]string, 96), "", api.ErrProof)
	}
	root, p := chain("\x80", "branch")
	wantVerify(t, "the empty map below a branch", root, "\x00", p, "", api.ErrProof)
	wantVerify(t, "the same without a text", root, "\x00", p[:1], "", api.ErrProof)
}

// P1, P10: the bounds, and which error goes first.
func TestBounds(t *testing.T) {
	good, p := chain(codeOf(leaf(noughts(80), "v")))
	tooLong := []string{letters(4097)}
	for _, root := range []string{"", "k", letters(31), letters(33), letters(64), good + "k", good[1:]} {
		for _, q := range [][]string{nil, p, tooLong, make([]string, 97)} {
			wantVerify(t, "a root of another length", root, noughts(40), q, "", api.ErrLen)
			wantVerify(t, "a root of another length", root, noughts(41), q, "", api.ErrLen)
		}
	}
	for _, root := range []string{good, emptyRoot, letters(32)} {
		for _, q := range [][]string{nil, p, tooLong, make([]string, 97)} {
			wantVerify(t, "a key of 41", root, noughts(41), q, "", api.ErrLong)
			wantVerify(t, "a longer key", root, noughts(1<<16), q, "", api.ErrLong)
		}
		wantVerify(t, "97 texts", root, "", make([]string, 97), "", api.ErrLong)
		wantVerify(t, "97 good texts", root, noughts(40), slices.Repeat(p, 97), "", api.ErrLong)
		wantVerify(t, "96 texts", root, "", make([]string, 96), "", api.ErrProof)
		wantVerify(t, "96 good texts", root, noughts(40), slices.Repeat(p, 96), "", api.ErrProof)
		wantVerify(t, "a text of 4097", root, "", tooLong, "", api.ErrLong)
		wantVerify(t, "a longer text", root, "", []string{letters(1 << 20)}, "", api.ErrLong)
		wantVerify(t, "a text of 4096", root, "", []string{letters(4096)}, "", api.ErrProof)
		for _, n := range []int{1, 2, 50, 95} {
			q := append(make([]string, n), tooLong...)
			wantVerify(t, "a text of 4097 at the end", root, "", q, "", api.ErrLong)
			q[n] = q[n][1:]
			wantVerify(t, "a text of 4096 at the end", root, "", q, "", api.ErrProof)
			q = append(slices.Clone(p), tooLong...)
			wantVerify(t, "a text of 4097 left over", root, noughts(40), q, "", api.ErrLong)
		}
	}
	wantVerify(t, "a key of 40", good, noughts(40), p, "v", api.OK)
	wantVerify(t, "no text", good, noughts(40), nil, "", api.ErrProof)
	root := keccak.Sum(letters(4096))
	wantVerify(t, "a text of 4096 under its hash", root, "", []string{letters(4096)}, "", api.ErrProof)
}

// turned: proofs that are like this one, but another.
func turned(p []string, texts []string) [][]string {
	var out [][]string
	set := func(i int, s string) {
		q := slices.Clone(p)
		q[i] = s
		out = append(out, q)
	}
	for i, s := range p {
		out = append(out, slices.Delete(slices.Clone(p), i, i+1))
		out = append(out, slices.Insert(slices.Clone(p), i, s))
		out = append(out, slices.Insert(slices.Clone(p), i, ""))
		out = append(out, p[:i])
		for j := range i {
			q := slices.Clone(p)
			q[i], q[j] = q[j], q[i]
			out = append(out, q)
		}
		for _, other := range texts {
			if other != s {
				set(i, other)
			}
		}
		for k := range len(s) {
			b := []byte(s)
			b[k] ^= 1 << (k % 8)
			set(i, string(b))
		}
		set(i, "")
		set(i, s[1:])
		set(i, s[:len(s)-1])
		set(i, s+"\x00")
		set(i, s+s)
		set(i, keccak.Sum(s))
	}
	for _, other := range texts {
		out = append(out, append(slices.Clone(p), other))
	}
	return append(out, append(slices.Clone(p), ""), slices.Concat(p, p))
}

// P10: proofs that lack a text, have one too many, have two in another order, or
// another text in the place of one.
func TestTurned(t *testing.T) {
	st, x, has := built(t)
	var texts []string
	for _, h := range st.Hashes() {
		s, _ := st.Get(h)
		texts = append(texts, s)
	}
	for _, k := range someKeys(has) {
		p, _ := x.Prove(k)
		for _, q := range turned(p, texts) {
			wantVerify(t, "turned", x.Root(), k, q, "", api.ErrProof)
		}
		if t.Failed() {
			return
		}
		for _, root := range []string{letters(32), keccak.Sum(""), emptyRoot, keccak.Sum(p[len(p)-1] + "k")} {
			wantVerify(t, "another root", root, k, p, "", api.ErrProof)
		}
	}
}

// P10: the proof of one key shows another's value only if it is that one's too.
func TestOtherKeys(t *testing.T) {
	_, x, has := built(t)
	keys := someKeys(has)
	same := 0
	for _, k := range keys {
		p, _ := x.Prove(k)
		for _, other := range keys {
			q, _ := x.Prove(other)
			if slices.Equal(p, q) {
				wantVerify(t, "the same proof", x.Root(), other, p, has[other], api.OK)
				same++
			} else {
				wantVerify(t, "another key's", x.Root(), other, p, "", api.ErrProof)
			}
		}
	}
	if same <= len(keys) {
		t.Errorf("no two keys have one proof")
	}
}

// P10: a proof that shows less under a lower node's hash as the root.
func TestLowerRoots(t *testing.T) {
	_, p := chain(codeOf(leaf("\x01\x02", long)), "branch", "branch")
	wantVerify(t, "from the root on", keccak.Sum(p[0]), "\x00\x12", p, long, api.OK)
	wantVerify(t, "from below", keccak.Sum(p[2]), "\x12", p[2:], long, api.OK)
	wantVerify(t, "from below, with all", keccak.Sum(p[2]), "\x12", p, "", api.ErrProof)
	wantVerify(t, "from below, of the whole key", keccak.Sum(p[2]), "\x00\x12", p[2:], "", api.OK)
}

// P8, P10: texts that are no nodes, or may not stand where they do.
func TestNodes(t *testing.T) {
	hash, none, tiny := text(letters(32)), text(""), leaf("\x01", "v")
	for _, c := range []struct {
		name string
		kid  api.Item
		over []string
		want api.Errno
	}{
		{"a leaf", leaf("\x01", long), nil, api.OK},
		{"a short root", leaf("\x01", "v"), nil, api.OK},
		{"a value of 161", leaf("\x01", letters(161)), nil, api.ErrProof},
		{"no value", leaf("\x01", ""), nil, api.ErrProof},
		{"a list as the value", list(packed("\x01", true), list()), nil, api.ErrProof},
		{"a path that is none", list(text("\x40"), text(long)), nil, api.ErrProof},
		{"a list as the path", list(list(), text(long)), nil, api.ErrProof},
		{"a text", text(long), nil, api.ErrProof},
		{"the empty text", none, nil, api.OK}, // its hash is the empty map's root
		{"an empty list", list(), nil, api.ErrProof},
		{"three items", list(packed("\x01", true), text("v"), text("w")), nil, api.ErrProof},
		{"sixteen items", list(branch("", none, hash, hash).Kids[:16]...), nil, api.ErrProof},
		{"an extension", extension("\x01", hash), nil, api.OK},
		{"without a path", extension("", branch("v", none, tiny)), nil, api.ErrProof},
		{"over nothing", extension("\x01", none), nil, api.ErrProof},
		{"over 31 bytes", extension("\x01", text(letters(31))), nil, api.ErrProof},
		{"over a leaf within", extension("\x01", tiny), nil, api.ErrProof},
		{"over a branch within", extension("\x01", branch("v", tiny)), nil, api.OK},
		{"a branch of two", branch("", none, hash, hash), nil, api.OK},
		{"a branch of one", branch("", none, hash), nil, api.ErrProof},
		{"a branch's value alone", branch("v"), nil, api.ErrProof},
		{"a branch's value of 160", branch(letters(160), none, hash), nil, api.OK},
		{"a branch's value of 161", branch(letters(161), none, hash), nil, api.ErrProof},
		{"a child within of 31 bytes", branch("v", none, leaf("\x01", letters(28))), nil, api.OK},
		{"a child within of 32 bytes", branch("v", none, leaf("\x01", letters(29))), nil, api.ErrProof},
		{"a child of 33 bytes as a text", branch("v", none, text(letters(33))), nil, api.ErrProof},
		{"a child of 33 bytes beside others", branch("v", none, hash, text(letters(33))), nil, api.ErrProof},
		{"a child within of 32 bytes beside others", branch("v", none, hash, leaf("\x01", letters(29))), nil, api.ErrProof},
		{"a child at fault beside the way", branch("v", none, leaf("\x01", "")), nil, api.ErrProof},
		{"80 half bytes", leaf(noughts(80), "v"), nil, api.OK},
		{"81 half bytes", leaf(noughts(81), "v"), nil, api.ErrProof},
		{"of 32 bytes below a branch", leaf("\x01", letters(29)), []string{"branch"}, api.OK},
		{"of 31 bytes below a branch", leaf("\x01", letters(28)), []string{"branch"}, api.ErrProof},
		{"an extension below a branch", extension("\x01", hash), []string{"branch"}, api.OK},
		{"a branch below an extension", branch("", none, hash, hash), []string{"\x00"}, api.OK},
		{"a short branch below an extension", branch("v", none, tiny), []string{"\x00"}, api.ErrProof},
		{"a leaf below an extension", leaf("\x01", long), []string{"\x00"}, api.ErrProof},
		{"an extension below an extension", extension("\x01", hash), []string{"\x00"}, api.ErrProof},
		{"a leaf below both", leaf("\x01", long), []string{"\x00", "branch"}, api.OK},
		{"a leaf of one behind 80", leaf("\x00", long), []string{noughts(79), "branch"}, api.ErrProof},
		{"a branch behind 80", branch("v", none, hash), []string{noughts(80)}, api.ErrProof},
		{"a branch behind 79", branch("v", none, hash), []string{noughts(79)}, api.OK},
		{"a leaf of one within, behind 80", branch(long, none, leaf("\x00", "v")), []string{noughts(79)}, api.ErrProof},
		{"the longest way", leaf("", "v"+long), slices.Repeat([]string{"branch"}, 80), api.OK},
		{"a longer way", leaf("", "v"+long), slices.Repeat([]string{"branch"}, 81), api.ErrProof},
	} {
		root, p := chain(codeOf(c.kid), c.over...)
		if root == emptyRoot {
			p = nil
		}
		v, e := proof.Verify(root, noughts(40), p)
		if e != c.want || e != api.OK && v != "" {
			t.Errorf("%s: %q, %d, want %d", c.name, v, e, c.want)
		}
		q := slices.Clone(p)
		if len(q) > 0 {
			q[len(q)-1] += "\x00"
			wantVerify(t, c.name+", bent", root, noughts(40), q, "", api.ErrProof)
		}
	}
	for _, s := range []string{"", "\xc1", "\x80k", letters(4096), codeOf(branch("", hash, hash)) + "k"} {
		for _, over := range [][]string{nil, {"branch"}, {"\x00"}, {"\x00", "branch"}} {
			root, p := chain(s, over...)
			wantVerify(t, "no code", root, noughts(40), p, "", api.ErrProof)
		}
	}
}

// P10: what is right below a node on the way is not asked for, if it is beside
// the way.
func TestBeside(t *testing.T) {
	hash := text(letters(32))
	root, p := chain(codeOf(branch("here", text(""), hash, hash)), "branch", "\x00")
	wantVerify(t, "two hashes that nobody has", root, "\x00", p, "here", api.OK)
	wantVerify(t, "another way", root, "\x00\x30", p, "", api.OK)
	wantVerify(t, "by one of them", root, "\x00\x20", p, "", api.ErrProof)
}

// ends: nodes at the end of a way, with the rest of a key that has a value there.
var ends = []struct {
	it   api.Item
	rest string
}{
	{leaf("", long), ""},
	{leaf("\x01", long), "\x01"},
	{leaf("\x00\x01", letters(160)), "\x00\x01"},
	{leaf("\x00", letters(30)), "\x00"},
	{branch(long, leaf("\x01", "v")), ""},
	{branch(long, leaf("\x01", "v")), "\x00\x01"},
	{branch("", leaf("\x01", long[:20]), leaf("", "w")), "\x01"},
	{extension("\x00", branch("v", leaf("", letters(20)))), "\x00\x00"},
	{extension("\x00", text(letters(32))), "\x00"},
	{leaf("\x00", "v"), "\x00"},
	{branch("", leaf("", long[:20])), "\x00"},
}

// some: texts of nodes that mostly fit, and a key whose way leads by them.
func some(r *rand.Rand) (string, []string, string) {
	end := ends[r.Intn(len(ends))]
	var over []string
	path := ""
	for range r.Intn(5) {
		if r.Intn(4) == 0 {
			n := []int{1, 1, 1, 2, 3, 75, 78}[r.Intn(7)]
			over = append(over, noughts(n))
			path += noughts(n)
		}
		if r.Intn(6) > 0 {
			over = append(over, "branch")
			path += "\x00"
		}
	}
	root, p := chain(codeOf(end.it), over...)
	return root, shaken(r, p), keyOf(r, path+end.rest)
}

// keyOf: the key with a path, or one that is longer, shorter or another.
func keyOf(r *rand.Rand, path string) string {
	if len(path)%2 == 1 {
		path += "\x00"
	}
	key := []byte{}
	for i := 0; i < len(path) && i < 80; i += 2 {
		key = append(key, path[i]*16+path[i+1])
	}
	n := len(key)
	switch r.Intn(6) {
	case 0:
		if n < 40 {
			key = append(key, byte(r.Intn(2)))
		}
	case 1:
		key = key[:r.Intn(n+1)]
	case 2:
		if n > 0 {
			key[r.Intn(n)] = byte(r.Intn(20))
		}
	}
	return string(key)
}

// shaken: the same texts, or some of them, one more, or in another order.
func shaken(r *rand.Rand, p []string) []string {
	n := len(p)
	switch r.Intn(6) {
	case 0:
		return p[:r.Intn(n)]
	case 1:
		return append(p, p[r.Intn(n)])
	case 2:
		i, j := r.Intn(n), r.Intn(n)
		p[i], p[j] = p[j], p[i]
	}
	return p
}

// P10: a map over a store that has the proof's texts and no more: Verify takes
// just what that map proves, and tells what it tells.
func TestLikeAMap(t *testing.T) {
	r := rand.New(rand.NewSource(10))
	seen := map[string]int{}
	for range 30000 {
		root, p, key := some(r)
		st := store.New()
		for _, s := range p {
			st.Put(s)
		}
		x, _ := trie.Open(st, root)
		value, e := x.Get(key)
		q, _ := x.Prove(key)
		want := api.OK
		if e != api.OK || !slices.Equal(p, q) {
			value, want = "", api.ErrProof
		}
		wantVerify(t, "like a map", root, key, p, value, want)
		if t.Failed() {
			return
		}
		seen[fmt.Sprint(want, value != "", e)]++
	}
	for _, k := range []string{"0 true 0", "0 false 0", "12 false 0", "12 false 9", "12 false 11"} {
		if seen[k] < 1000 {
			t.Errorf("%s came %d times only: %v", k, seen[k], seen)
		}
	}
}

// P2: the list that is handed in is not written into, nor its spare room, and
// what was told of it stays.
func TestHandedIn(t *testing.T) {
	root, p := chain(codeOf(leaf("\x01", long)), "branch", "branch", "\x00")
	_, bad := chain(codeOf(leaf("\x01", long)), "branch", "branch")
	for _, l := range [][]string{p, bad, p[:2], append(slices.Clone(p), "k")} {
		room := append(slices.Clone(l), "spare", "room")
		before := slices.Clone(room)
		v, e := proof.Verify(root, "\x00\x00", room[:len(l)])
		w, f := proof.Verify(root, "\x00\x00", room[:len(l)])
		if !slices.Equal(room, before) || v != w || e != f {
			t.Errorf("%q, %d, then %q, %d; the list is %x", v, e, w, f, room)
		}
	}
	_, p = chain(codeOf(leaf("\x01", long)), "branch")
	v, _ := proof.Verify(keccak.Sum(p[0]), "\x01", p)
	p[1] = "mine"
	if v != long {
		t.Errorf("what was told is %q now", v)
	}
	wantVerify(t, "another list", keccak.Sum(p[0]), "\x01", p, "", api.ErrProof)
}
