package trie_test

import (
	"fmt"
	"math/rand"
	"slices"
	"sort"
	"strings"
	"testing"

	"ledger/api"
	"ledger/keccak"
	"ledger/store"
	"ledger/trie"
)

// A long game of maps over stores that lose texts or bend them, against a model
// that knows the pairs, and behind which half bytes nodes are in memory.

// model: what a map should be.
type model struct {
	has    pairs
	all    map[string]place // its nodes, by the half bytes behind which they stand
	memory map[string]bool  // which of them are in memory
}

func (m *model) root() string {
	if len(m.has) == 0 {
		return emptyRoot
	}
	return keccak.Sum(m.all[""].code)
}

// stock: what a store should have.
type stock map[string]string

// apart: whether the node at a place is named by its hash.
func apart(head string, x place) bool { return head == "" || len(x.code) >= 32 }

// read: what reading the node at a place answers.
func (m *model) read(s stock, head string, x place) api.Errno {
	if !apart(head, x) || m.memory[head] {
		return api.OK
	}
	got, there := s[keccak.Sum(x.code)]
	if !there {
		return api.ErrMissing
	}
	if got != x.code {
		return api.ErrBent
	}
	m.memory[head] = true
	return api.OK
}

// way: behind which half bytes the nodes on a path's way stand.
func (m *model) way(path string) []string {
	var out []string
	for n := 0; n <= len(path); n++ {
		if _, there := m.all[path[:n]]; there {
			out = append(out, path[:n])
		}
	}
	return out
}

// walk: what reading on a path's way answers.
func (m *model) walk(s stock, path string) api.Errno {
	for _, head := range m.way(path) {
		if e := m.read(s, head, m.all[head]); e != api.OK {
			return e
		}
	}
	return api.OK
}

// proof: the codes of those on a path's way that stand in no parent.
func (m *model) proof(path string) []string {
	var out []string
	for _, head := range m.way(path) {
		if x := m.all[head]; apart(head, x) {
			out = append(out, x.code)
		}
	}
	return out
}

// become: the pairs change; the nodes that were not there before are in memory.
func (m *model) become(now pairs) {
	all := now.places()
	memory := map[string]bool{}
	for head, x := range all {
		old, there := m.all[head]
		memory[head] = m.memory[head] || !there || old.code != x.code
	}
	m.has, m.all, m.memory = now, all, memory
}

func (m *model) with(path string, value string) pairs {
	now := pairs{path: value}
	for p, v := range m.has {
		if p != path {
			now[p] = v
		}
	}
	return now
}

func (m *model) without(path string) pairs {
	now := m.with(path, "")
	delete(now, path)
	return now
}

func (m *model) put(s stock, path string, value string) api.Errno {
	if e := m.walk(s, path); e != api.OK {
		return e
	}
	m.become(m.with(path, value))
	return api.OK
}

func (m *model) delete(s stock, path string) (bool, api.Errno) {
	if e := m.walk(s, path); e != api.OK {
		return false, e
	}
	if _, there := m.has[path]; !there {
		return false, api.OK
	}
	// The branch: the last on the way that has the value, and more than that.
	for n := len(path); n >= 0; n-- {
		x, there := m.all[path[:n]]
		if !there || x.kind != "branch" {
			continue
		}
		var left []string
		for _, head := range x.next {
			if !strings.HasPrefix(path, head) {
				left = append(left, head)
			}
		}
		if _, own := m.has[path[:n]]; len(left) == 1 && (!own || n == len(path)) {
			if e := m.read(s, left[0], m.all[left[0]]); e != api.OK {
				return false, e
			}
		}
		break
	}
	m.become(m.without(path))
	return true, api.OK
}

func (m *model) commit(s stock) {
	for head, x := range m.all {
		if apart(head, x) && m.memory[head] {
			s[keccak.Sum(x.code)] = x.code
		}
	}
}

func someKeys() []string {
	out := []string{"", "\x00", "\x01", "\x10", "\x11", "\x1f", "\x10\x00", "\x10\x01", "\x10\x10", "\x10\x00\x00", "\x11\x11\x11", "a", "ab", "abc", "abd", "b", "do", "dog", "doge", "horse"}
	return append(out, letters(40), letters(39), letters(39)+"j", "kkkk", "kk\x00")
}

func someKey(r *rand.Rand) string {
	l := someKeys()
	return l[r.Intn(len(l))]
}

// someValue: such as make nodes of about 32 bytes, and longer and shorter ones.
func someValue(r *rand.Rand) string {
	sizes := []int{1, 1, 2, 5, 10, 26, 27, 28, 29, 30, 31, 32, 45, 55, 56, 160}
	b := make([]byte, sizes[r.Intn(len(sizes))])
	b[0] = byte(r.Intn(256))
	return string(b)
}

// game: maps over one store, the models of both.
type game struct {
	t      *testing.T
	r      *rand.Rand
	st     *store.Store
	stock  stock
	maps   []*trie.Trie
	models []*model
	roots  map[string]pairs
	seen   map[string]int
}

func newGame(t *testing.T, seed int64) *game {
	g := &game{t: t, r: rand.New(rand.NewSource(seed)), st: store.New(), stock: stock{}, seen: map[string]int{}}
	g.roots = map[string]pairs{emptyRoot: {}}
	g.open(emptyRoot)
	return g
}

func (g *game) open(root string) {
	x, e := trie.Open(g.st, root)
	if e != api.OK {
		g.t.Fatalf("Open: %d", e)
	}
	g.maps = append(g.maps, x)
	g.models = append(g.models, &model{has: g.roots[root], all: g.roots[root].places(), memory: map[string]bool{}})
}

// same compares what the store has.
func (g *game) same() {
	var want []string
	for h := range g.stock {
		want = append(want, h)
	}
	sort.Strings(want)
	if !slices.Equal(g.st.Hashes(), want) {
		g.t.Fatalf("the store has %x, want %x", g.st.Hashes(), want)
	}
	for h, x := range g.stock {
		if got, _ := g.st.Get(h); got != x {
			g.t.Fatalf("under %x: %x, want %x", h, got, x)
		}
	}
}

// harm loses a text, bends one, or heals one.
func (g *game) harm() {
	l := g.st.Hashes()
	if len(l) == 0 {
		return
	}
	h := l[g.r.Intn(len(l))]
	switch g.r.Intn(3) {
	case 0:
		g.st.Lose(h)
		delete(g.stock, h)
	case 1:
		g.st.Lay(h, "bent")
		g.stock[h] = "bent"
	default:
		other := l[g.r.Intn(len(l))]
		x, _ := g.st.Get(other)
		g.st.Lay(h, x)
		g.stock[h] = x
	}
}

func (g *game) tell(what string, got any, want any) {
	if fmt.Sprint(got) != fmt.Sprint(want) {
		g.t.Fatalf("%s: %v, want %v", what, got, want)
	}
	g.seen[fmt.Sprint(what, " ", want)]++
}

func (g *game) step() {
	i := g.r.Intn(len(g.maps))
	x, m := g.maps[i], g.models[i]
	key, value := someKey(g.r), someValue(g.r)
	path := pathOf(key)
	switch k := g.r.Intn(23); {
	case k < 4:
		v, e := x.Get(key)
		want := m.walk(g.stock, path)
		g.tell("get", e, want)
		if e != api.OK && v != "" || e == api.OK && v != m.has[path] {
			g.t.Fatalf("Get(%q): %q, want %q", key, v, m.has[path])
		}
	case k < 10:
		g.tell("put", x.Put(key, value), m.put(g.stock, path, value))
	case k < 12:
		root, e := x.RootWith(key, value)
		want := m.walk(g.stock, path)
		g.tell("with", e, want)
		if e != api.OK && root != "" || e == api.OK && root != m.with(path, value).root() {
			g.t.Fatalf("RootWith(%q): %x", key, root)
		}
	case k < 17:
		was, e := x.Delete(key)
		had, want := m.delete(g.stock, path)
		g.tell("delete", fmt.Sprint(was, e), fmt.Sprint(had, want))
	case k < 18:
		root := x.Commit()
		m.commit(g.stock)
		g.same()
		g.roots[root] = m.has
		if len(g.maps) < 6 {
			g.open(root)
		}
	case k < 21:
		p, e := x.Prove(key)
		want := m.walk(g.stock, path)
		g.tell("prove", e, want)
		if e != api.OK && p != nil || e == api.OK && !slices.Equal(p, m.proof(path)) {
			g.t.Fatalf("Prove(%q): %x, want %x", key, p, m.proof(path))
		}
		wantVerify(g.t, x, key, p, e, m.has[path])
	default:
		if g.r.Intn(3) == 0 {
			g.harm()
		}
	}
	if x.Root() != m.root() {
		g.t.Fatalf("the root is %x, want %x", x.Root(), m.root())
	}
}

// P8 to P10: the errors of every call, every value, root, text and proof, step by
// step.
func TestGame(t *testing.T) {
	seen := map[string]int{}
	for seed := range int64(120) {
		g := newGame(t, seed)
		for range 150 {
			g.step()
		}
		g.same()
		for i := range g.maps {
			for _, k := range someKeys() {
				v, e := g.maps[i].Get(k)
				if want := g.models[i].walk(g.stock, pathOf(k)); e != want || e == api.OK && v != g.models[i].has[pathOf(k)] {
					t.Fatalf("at the end, Get(%q): %q, %d, want %d", k, v, e, want)
				}
			}
		}
		for k, n := range g.seen {
			seen[k] += n
		}
	}
	for _, k := range []string{"get 0", "get 9", "get 10", "put 0", "put 9", "put 10", "with 0", "with 9", "with 10", "delete true 0", "delete false 0", "delete false 9", "delete false 10", "prove 0", "prove 9", "prove 10"} {
		if seen[k] < 10 {
			t.Errorf("%s came %d times only: %v", k, seen[k], seen)
		}
	}
}
