package state_test

import (
	"maps"
	"math/big"
	"slices"
	"strings"
	"testing"

	"ledger/api"
	"ledger/keccak"
	"ledger/state"
	"ledger/store"
	"ledger/trie"
)

// What P11 says, from plain values: nothing here is the program's own but the
// hash and the maps.

var (
	emptyRoot = keccak.Sum("\x80")
	noCode    = keccak.Sum("")
	someCode  = strings.Repeat("c", 32)
	greatest  = strings.Repeat("\xff", 32)
)

func addr(c byte) string { return strings.Repeat("a", 19) + string([]byte{c}) }

func slot(c byte) string { return strings.Repeat("s", 31) + string([]byte{c}) }

// textCode and listCode: P4, of contents below 256 bytes.
func textCode(s string) string {
	if len(s) == 1 && s[0] < 128 {
		return s
	}
	if len(s) < 56 {
		return string([]byte{byte(128 + len(s))}) + s
	}
	return string([]byte{184, byte(len(s))}) + s
}

func listCode(codes ...string) string {
	s := strings.Join(codes, "")
	if len(s) < 56 {
		return string([]byte{byte(192 + len(s))}) + s
	}
	return string([]byte{248, byte(len(s))}) + s
}

// record: an account's code.
func record(nonce int, balance string, root string, code string) string {
	n := string(big.NewInt(int64(nonce)).Bytes())
	return listCode(textCode(n), textCode(balance), textCode(root), textCode(code))
}

// account: an account's values.
type account struct {
	nonce   int
	balance string
	code    string
	slots   map[string]string
}

// world: accounts under addresses; those that are none are not there.
type world map[string]account

// of: what an address has.
func (w world) of(a string) account {
	x, there := w[a]
	if !there {
		x.code = noCode
	}
	return x
}

func (x account) none() bool {
	return x.nonce == 0 && x.balance == "" && x.code == noCode && len(x.slots) == 0
}

func (x account) record() string { return record(x.nonce, x.balance, x.root(), x.code) }

// root: that of the account's map of slots.
func (x account) root() string {
	pairs := map[string]string{}
	for s, v := range x.slots {
		pairs[keccak.Sum(s)] = textCode(v)
	}
	return rootOf(pairs)
}

// told: what is told of an account.
func (x account) told() api.Account {
	return api.Account{Nonce: x.nonce, Balance: x.balance, Root: x.root(), Code: x.code}
}

// with: the account with another number in a slot.
func (x account) with(s string, v string) account {
	x.slots = maps.Clone(x.slots)
	if x.slots == nil {
		x.slots = map[string]string{}
	}
	x.slots[s] = v
	if v == "" {
		delete(x.slots, s)
	}
	return x
}

func (w world) root() string {
	pairs := map[string]string{}
	for a, x := range w {
		pairs[keccak.Sum(a)] = x.record()
	}
	return rootOf(pairs)
}

// mapOf: the map of these pairs, over a store.
func mapOf(st *store.Store, pairs map[string]string) *trie.Trie {
	x, e := trie.Open(st, emptyRoot)
	if e != api.OK {
		panic(e)
	}
	for _, k := range slices.Sorted(maps.Keys(pairs)) {
		if e := x.Put(k, pairs[k]); e != api.OK {
			panic(e)
		}
	}
	return x
}

func rootOf(pairs map[string]string) string { return mapOf(store.New(), pairs).Root() }

// laid commits a world into a store, by its maps alone, and tells its root.
func (w world) laid(st *store.Store) string {
	pairs := map[string]string{}
	for a, x := range w {
		slots := map[string]string{}
		for s, v := range x.slots {
			slots[keccak.Sum(s)] = textCode(v)
		}
		mapOf(st, slots).Commit()
		pairs[keccak.Sum(a)] = x.record()
	}
	return mapOf(st, pairs).Commit()
}

func open(t *testing.T, st *store.Store, root string) *state.State {
	t.Helper()
	w, e := state.Open(st, root)
	if e != api.OK {
		t.Fatalf("Open: %d", e)
	}
	return w
}

// fresh: the empty world over a new store.
func fresh(t *testing.T) (*store.Store, *state.State) {
	t.Helper()
	st := store.New()
	return st, open(t, st, emptyRoot)
}

// want compares a call's error.
func want(t *testing.T, what string, got api.Errno, e api.Errno) {
	t.Helper()
	if got != e {
		t.Errorf("%s: %d, want %d", what, got, e)
	}
}

func wantAccount(t *testing.T, w *state.State, a string, x account) {
	t.Helper()
	got, there, e := w.Account(a)
	if got != x.told() || there == x.none() || e != api.OK {
		t.Errorf("Account(%q): %v, %v, %d, want %v", a, got, there, e, x.told())
	}
}

func wantSlot(t *testing.T, w *state.State, a string, s string, v string, want api.Errno) {
	t.Helper()
	if got, e := w.Slot(a, s); got != v || e != want {
		t.Errorf("Slot(%q, %q): %x, %d, want %x, %d", a, s, got, e, v, want)
	}
}

func wantDelete(t *testing.T, w *state.State, a string, was bool, want api.Errno) {
	t.Helper()
	if got, e := w.Delete(a); got != was || e != want {
		t.Errorf("Delete(%q): %v, %d, want %v, %d", a, got, e, was, want)
	}
}

func wantRoot(t *testing.T, w *state.State, root string) {
	t.Helper()
	if got := w.Root(); got != root {
		t.Errorf("the root is %x, want %x", got, root)
	}
}

// contents: what lies in a store, bent texts and all.
func contents(st *store.Store) map[string]string {
	out := map[string]string{}
	for _, h := range st.Hashes() {
		out[h], _ = st.Get(h)
	}
	return out
}

func wantContents(t *testing.T, st *store.Store, want map[string]string) {
	t.Helper()
	if got := contents(st); !maps.Equal(got, want) {
		t.Errorf("the store has %x, want %x", got, want)
	}
}
