package trie_test

import (
	"sort"
	"strings"
	"testing"

	"ledger/api"
	"ledger/keccak"
	"ledger/nib"
	"ledger/rlp"
)

// What P7 says, word for word, from the pairs alone: slow, and without anything
// of the program's own nodes.

// pairs: values under paths.
type pairs map[string]string

var emptyRoot = keccak.Sum("\x80")

func text(s string) api.Item { return api.Item{Text: s} }

func list(kids ...api.Item) api.Item { return api.Item{List: true, Kids: kids} }

func codeOf(it api.Item) string {
	code, e := rlp.Encode(it)
	if e != api.OK {
		panic(e)
	}
	return code
}

func packed(path string, leaf bool) api.Item {
	t, e := nib.Pack(path, leaf)
	if e != api.OK {
		panic(e)
	}
	return text(t)
}

func pathOf(key string) string {
	var b strings.Builder
	for i := range len(key) {
		b.WriteByte(key[i] / 16)
		b.WriteByte(key[i] % 16)
	}
	return b.String()
}

// under: those pairs whose paths begin so.
func (p pairs) under(head string) pairs {
	out := pairs{}
	for path, v := range p {
		if strings.HasPrefix(path, head) {
			out[path] = v
		}
	}
	return out
}

func (p pairs) paths() []string {
	var out []string
	for path := range p {
		out = append(out, path)
	}
	sort.Strings(out)
	return out
}

// shared: how many half bytes all paths share.
func (p pairs) shared() int {
	l := p.paths()
	first, last := l[0], l[len(l)-1]
	n := 0
	for n < len(first) && n < len(last) && first[n] == last[n] {
		n++
	}
	return n
}

// c: the node of pairs that share their first i half bytes.
func (p pairs) c(i int) api.Item {
	l := p.paths()
	if len(l) == 1 {
		return list(packed(l[0][i:], true), text(p[l[0]]))
	}
	if j := p.shared(); j > i {
		return list(packed(l[0][i:j], false), p.n(j))
	}
	it := list()
	for d := range 16 {
		it.Kids = append(it.Kids, p.under(l[0][:i]+string(rune(d))).n(i+1))
	}
	it.Kids = append(it.Kids, text(p[l[0][:i]]))
	return it
}

// n: by what a parent names it.
func (p pairs) n(i int) api.Item {
	if len(p) == 0 {
		return text("")
	}
	it := p.c(i)
	if code := codeOf(it); len(code) >= 32 {
		return text(keccak.Sum(code))
	}
	return it
}

func (p pairs) root() string {
	if len(p) == 0 {
		return emptyRoot
	}
	return keccak.Sum(codeOf(p.c(0)))
}

// place: a node that stands behind some half bytes.
type place struct {
	kind string
	code string
	next []string // where the nodes right below it stand
}

// places: all nodes, by the half bytes behind which they stand.
func (p pairs) places() map[string]place {
	out := map[string]place{}
	if len(p) > 0 {
		p.fill("", out)
	}
	return out
}

func (p pairs) fill(head string, out map[string]place) {
	x := place{code: codeOf(p.c(len(head)))}
	j := p.shared()
	switch {
	case len(p) == 1:
		x.kind = "leaf"
	case j > len(head):
		x.kind = "extension"
		x.next = []string{p.paths()[0][:j]}
	default:
		x.kind = "branch"
		for d := range 16 {
			if next := head + string(rune(d)); len(p.under(next)) > 0 {
				x.next = append(x.next, next)
			}
		}
	}
	out[head] = x
	for _, next := range x.next {
		p.under(next).fill(next, out)
	}
}

// P7: the words above give the document's own answers.
func TestSpec(t *testing.T) {
	for _, c := range known {
		p := pairs{}
		for i := 0; i < len(c.pairs); i += 2 {
			p[pathOf(c.pairs[i])] = c.pairs[i+1]
		}
		if got := toHex(p.root()); got != c.root {
			t.Errorf("%q: %s, want %s", c.pairs, got, c.root)
		}
	}
}
