package state_test

import (
	"fmt"
	"maps"
	"math/rand"
	"slices"
	"strconv"
	"testing"

	"ledger/api"
	"ledger/keccak"
	"ledger/state"
	"ledger/store"
	"ledger/trie"
)

// A long game of worlds over stores that lose texts or bend them, against a
// model that knows the values, and has maps over a store of its own, to which
// the same is done, for the errors of reading.

// model: what a world should be.
type model struct {
	has   world
	st    *store.Store
	top   *trie.Trie
	slots map[string]*trie.Trie // those that are open
}

func newModel(st *store.Store, root string, has world) *model {
	top, _ := trie.Open(st, root)
	return &model{has: maps.Clone(has), st: st, top: top, slots: map[string]*trie.Trie{}}
}

// read: the errors of Account.
func (m *model) read(a string) api.Errno {
	_, e := m.top.Get(keccak.Sum(a))
	return e
}

// set: an account becomes what it is to be.
func (m *model) set(a string, x account) api.Errno {
	if !x.none() {
		e := m.top.Put(keccak.Sum(a), x.record())
		if e == api.OK {
			m.has[a] = x
		}
		return e
	}
	_, e := m.top.Delete(keccak.Sum(a))
	if e == api.OK {
		delete(m.has, a)
		delete(m.slots, a)
	}
	return e
}

// open: the map of slots of an account.
func (m *model) open(a string) *trie.Trie {
	if m.slots[a] == nil {
		m.slots[a], _ = trie.Open(m.st, m.has[a].root())
	}
	return m.slots[a]
}

// get: the errors of Slot.
func (m *model) get(a string, s string) api.Errno {
	e := m.read(a)
	if _, there := m.has[a]; e != api.OK || !there {
		return e
	}
	_, e = m.open(a).Get(keccak.Sum(s))
	return e
}

func (m *model) setSlot(a string, s string, v string) api.Errno {
	if e := m.read(a); e != api.OK {
		return e
	}
	x, there := m.has[a]
	next := m.has.of(a).with(s, v)
	if v != "" {
		if e := m.open(a).Put(keccak.Sum(s), textCode(v)); e != api.OK {
			return e
		}
		return m.set(a, next)
	}
	if !there {
		return api.OK
	}
	if e := m.get(a, s); e != api.OK || x.slots[s] == "" {
		return e
	}
	if next.none() {
		// Its one slot has been read: only the world's map can fail.
		return m.set(a, next)
	}
	if _, e := m.open(a).Delete(keccak.Sum(s)); e != api.OK {
		return e
	}
	return m.set(a, next)
}

func (m *model) commit() {
	for _, x := range m.slots {
		x.Commit()
	}
	m.top.Commit()
}

// near: texts of which some hashes begin alike, so that maps of a few have many
// nodes, and some are the first and the last.
func near(text func(i int) string) []string {
	var out []string
	heads := []byte{0x12, 0x12, 0x12, 0x13, 0x14, 0x1f, 0x80, 0x00, 0xff}
	for i := 0; len(out) < len(heads); i++ {
		if h := keccak.Sum(text(i)); h[0] == heads[len(out)] {
			out = append(out, text(i))
		}
	}
	return out
}

var (
	addrs = near(func(i int) string { return fmt.Sprintf("%020d", i) })
	slots = near(func(i int) string { return fmt.Sprintf("%032d", i) })
)

// game: worlds over one store, the models of both.
type game struct {
	t      *testing.T
	r      *rand.Rand
	st     *store.Store
	other  *store.Store
	worlds []*state.State
	models []*model
	roots  map[string]world
	seen   map[string]int
}

func newGame(t *testing.T, seed int64) *game {
	g := &game{t: t, r: rand.New(rand.NewSource(seed)), st: store.New(), other: store.New(), seen: map[string]int{}}
	g.roots = map[string]world{emptyRoot: {}}
	g.open(emptyRoot)
	return g
}

func (g *game) open(root string) {
	g.worlds = append(g.worlds, open(g.t, g.st, root))
	g.models = append(g.models, newModel(g.other, root, g.roots[root]))
}

// harm loses a text, bends one, or lays it down again.
func (g *game) harm(lost map[string]string) {
	l := append(g.st.Hashes(), slices.Sorted(maps.Keys(lost))...)
	if len(l) == 0 {
		return
	}
	h := l[g.r.Intn(len(l))]
	if text, _ := g.st.Get(h); keccak.Sum(text) == h {
		lost[h] = text
	}
	how := g.r.Intn(3)
	for _, st := range []*store.Store{g.st, g.other} {
		switch how {
		case 0:
			st.Lay(h, "bent")
		case 1:
			st.Lose(h)
		default:
			st.Lay(h, lost[h])
		}
	}
}

func (g *game) tell(what string, got any, want any) {
	if fmt.Sprint(got) != fmt.Sprint(want) {
		g.t.Fatalf("%s: %v, want %v", what, got, want)
	}
	g.seen[fmt.Sprint(what, " ", want)]++
}

func (g *game) pick(l ...string) string { return l[g.r.Intn(len(l))] }

func (g *game) step(lost map[string]string) {
	i := g.r.Intn(len(g.worlds))
	w, m := g.worlds[i], g.models[i]
	a, s := g.pick(addrs...), g.pick(slots...)
	v := g.pick("", "", "\x01", "\x80", greatest)
	x, e := m.has.of(a), api.OK
	change := g.r.Intn(30)
	if change < 10 {
		e = m.read(a)
	}
	switch {
	case change < 3:
		n := g.r.Intn(2) * 300
		if x.nonce = n; e == api.OK {
			e = m.set(a, x)
		}
		g.tell("nonce", w.SetNonce(a, n), e)
	case change < 6:
		if x.balance = v; e == api.OK {
			e = m.set(a, x)
		}
		g.tell("balance", w.SetBalance(a, v), e)
	case change < 8:
		if x.code = g.pick(noCode, noCode, someCode); e == api.OK {
			e = m.set(a, x)
		}
		g.tell("code", w.SetCode(a, x.code), e)
	case change < 10:
		_, had := m.has[a]
		if e == api.OK {
			e = m.set(a, account{code: noCode})
		}
		was, f := w.Delete(a)
		g.tell("delete", fmt.Sprint(was, f), fmt.Sprint(had && e == api.OK, e))
	case change < 18:
		g.tell("set slot "+strconv.Quote(v[:min(len(v), 1)]), w.SetSlot(a, s, v), m.setSlot(a, s, v))
	case change < 26:
		g.look(w, m, a, s)
	case change < 28:
		g.commit(w, m)
	default:
		g.harm(lost)
	}
	if w.Root() != m.top.Root() {
		g.t.Fatalf("the root is %x, want %x", w.Root(), m.top.Root())
	}
}

// look: what is told of an account and a slot, and what is proved.
func (g *game) look(w *state.State, m *model, a string, s string) {
	x := m.has.of(a)
	acc, there, e := w.Account(a)
	g.tell("account", e, m.read(a))
	if e == api.OK && (acc != x.told() || there == x.none()) || e != api.OK && (acc != api.Account{} || there) {
		g.t.Fatalf("Account: %v, %v, %d, want %v", acc, there, e, x.told())
	}
	p, e := w.Prove(a)
	g.tell("prove", e, m.read(a))
	if e == api.OK {
		wantShown(g.t, w.Root(), a, p, x)
	}
	v, e := w.Slot(a, s)
	g.tell("slot", e, m.get(a, s))
	if e == api.OK && v != x.slots[s] || e != api.OK && v != "" {
		g.t.Fatalf("Slot: %x, %d, want %x", v, e, x.slots[s])
	}
	p, q, e := w.ProveSlot(a, s)
	g.tell("prove slot", e, m.get(a, s))
	if e == api.OK {
		wantShownSlot(g.t, w.Root(), a, s, p, q, x.slots[s])
	}
}

func (g *game) commit(w *state.State, m *model) {
	root := w.Commit()
	m.commit()
	g.same()
	if root != m.has.root() {
		g.t.Fatalf("Commit: %x, want %x", root, m.has.root())
	}
	g.roots[root] = maps.Clone(m.has)
	if len(g.worlds) < 5 {
		g.open(root)
	}
}

// same compares what the two stores have.
func (g *game) same() {
	if got, want := contents(g.st), contents(g.other); !maps.Equal(got, want) {
		g.t.Fatalf("the store has %x, want %x", got, want)
	}
}

// P11 to P14: the errors of every call, every value, root, text and proof, step
// by step.
func TestGame(t *testing.T) {
	seen := map[string]int{}
	for seed := range int64(100) {
		g := newGame(t, seed)
		lost := map[string]string{}
		for range 300 {
			g.step(lost)
		}
		g.same()
		for i := range g.worlds {
			for _, a := range addrs {
				for _, s := range slots {
					g.look(g.worlds[i], g.models[i], a, s)
				}
			}
		}
		for k, n := range g.seen {
			seen[k] += n
		}
	}
	for _, what := range []string{"nonce", "balance", "code", "delete false", "set slot \"\"", "set slot \"\\x01\"", "account", "prove", "slot", "prove slot"} {
		for _, e := range []api.Errno{api.OK, api.ErrMissing, api.ErrBent} {
			if k := fmt.Sprint(what, " ", int(e)); seen[k] < 10 {
				t.Errorf("%s came %d times only: %v", k, seen[k], seen)
			}
		}
	}
}
