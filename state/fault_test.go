package state_test

import (
	"testing"

	"ledger/api"
	"ledger/keccak"
	"ledger/state"
	"ledger/store"
)

// last: the last text of an account's proof, which is the leaf that has it.
func last(t *testing.T, w *state.State, a string) string {
	t.Helper()
	p, e := w.Prove(a)
	if e != api.OK || len(p) == 0 {
		t.Fatalf("Prove: %d texts, %d", len(p), e)
	}
	return p[len(p)-1]
}

// faults: how a text that lies in a store goes wrong, and what is told then.
var faults = []struct {
	want api.Errno
	bend func(st *store.Store, text string)
}{
	{api.ErrMissing, func(st *store.Store, text string) { st.Lose(keccak.Sum(text)) }},
	{api.ErrBent, func(st *store.Store, text string) { st.Lay(keccak.Sum(text), text+"\x00") }},
}

// P1, P13: an account that is none now cannot be taken from the world's map,
// since the one beside it, which would take its place, cannot be read: then it
// is what it was, with its slots.
func TestCannotGo(t *testing.T) {
	a, s := addr('a'), slot('s')
	for _, c := range ways(a, s) {
		for _, f := range faults {
			st := store.New()
			m := world{a: c.x, addr('b'): {nonce: 1, code: noCode}}
			root := m.laid(st)
			beside := last(t, open(t, st, root), addr('b'))
			all := contents(st)
			f.bend(st, beside)
			w := open(t, st, root)
			for range 2 {
				want(t, c.name, c.gone(w), f.want)
				wantRoot(t, w, root)
				wantAccount(t, w, a, c.x)
				wantSlot(t, w, a, s, c.x.slots[s], api.OK)
				wantSlot(t, w, a, slot('t'), c.x.slots[slot('t')], api.OK)
			}
			// What was read has stayed, the map of slots too.
			if len(c.x.slots) > 0 {
				st.Lose(c.x.root())
				wantSlot(t, w, a, s, c.x.slots[s], api.OK)
			}
			if got := w.Commit(); got != root {
				t.Errorf("%s, Commit: %x, want %x", c.name, got, root)
			}
			st.Put(beside)
			wantContents(t, st, all)
			want(t, c.name, c.gone(w), api.OK)
			delete(m, a)
			wantRoot(t, w, m.root())
			wantSlot(t, w, a, s, "", api.OK)
		}
	}
}

// P13: with anything left the account is put, and nobody beside it is read.
func TestNobodyBeside(t *testing.T) {
	a, s := addr('a'), slot('s')
	x := account{nonce: 1, code: noCode}.with(s, "\x05")
	st := store.New()
	root := world{a: x, addr('b'): {nonce: 1, code: noCode}}.laid(st)
	st.Lose(keccak.Sum(last(t, open(t, st, root), addr('b'))))
	w := open(t, st, root)
	want(t, "SetSlot", w.SetSlot(a, s, ""), api.OK)
	want(t, "SetNonce", w.SetNonce(a, 2), api.OK)
	want(t, "SetBalance", w.SetBalance(a, "\x01"), api.OK)
	want(t, "SetCode", w.SetCode(a, someCode), api.OK)
	want(t, "SetSlot", w.SetSlot(a, slot('t'), "\x05"), api.OK)
	want(t, "SetSlot", w.SetSlot(addr('c'), slot('t'), "\x05"), api.OK)
	m := world{a: account{nonce: 2, balance: "\x01", code: someCode}.with(slot('t'), "\x05"), addr('b'): {nonce: 1, code: noCode}}
	m[addr('c')] = account{code: noCode}.with(slot('t'), "\x05")
	wantRoot(t, w, m.root())
}

// P1, P13: a slot that cannot be taken from its map, since the one beside it
// cannot be read, is what it was; one that is 0 already needs no more reading.
func TestSlotCannotGo(t *testing.T) {
	a := addr('a')
	for _, f := range faults {
		st := store.New()
		x := account{code: noCode}.with(slot('s'), "\x05").with(slot('t'), "\x06")
		root := world{a: x}.laid(st)
		_, q, _ := open(t, st, root).ProveSlot(a, slot('t'))
		if len(q) != 2 {
			t.Fatalf("%d texts, want a branch and a leaf", len(q))
		}
		f.bend(st, q[1])
		w := open(t, st, root)
		want(t, "SetSlot", w.SetSlot(a, slot('s'), ""), f.want)
		wantSlot(t, w, a, slot('s'), "\x05", api.OK)
		wantSlot(t, w, a, slot('t'), "", f.want)
		want(t, "SetSlot", w.SetSlot(a, slot('t'), ""), f.want)
		want(t, "SetSlot", w.SetSlot(a, slot('t'), "\x07"), f.want)
		wantRoot(t, w, root)
		want(t, "SetSlot", w.SetSlot(a, slot('u'), ""), api.OK)
		wantRoot(t, w, root)
		want(t, "SetSlot", w.SetSlot(a, slot('u'), "\x07"), api.OK)
		x = x.with(slot('u'), "\x07")
		wantRoot(t, w, world{a: x}.root())
		want(t, "SetSlot", w.SetSlot(a, slot('s'), "\x08"), api.OK)
		x = x.with(slot('s'), "\x08")
		wantRoot(t, w, world{a: x}.root())
		st.Put(q[1])
		want(t, "SetSlot", w.SetSlot(a, slot('s'), ""), api.OK)
		want(t, "SetSlot", w.SetSlot(a, slot('t'), ""), api.OK)
		want(t, "SetSlot", w.SetSlot(a, slot('u'), ""), api.OK)
		wantRoot(t, w, emptyRoot)
	}
}

// P13: no map of slots is read for what has nothing to do with slots.
func TestSlotsUnread(t *testing.T) {
	a := addr('a')
	st := store.New()
	x := account{nonce: 1, code: noCode}.with(slot('s'), "\x05")
	root := world{a: x}.laid(st)
	st.Lose(x.root())
	w := open(t, st, root)
	want(t, "SetNonce", w.SetNonce(a, 0), api.OK)
	x.nonce = 0
	wantRoot(t, w, world{a: x}.root())
	want(t, "SetBalance", w.SetBalance(a, "\x01"), api.OK)
	want(t, "SetCode", w.SetCode(a, someCode), api.OK)
	x.balance, x.code = "\x01", someCode
	wantRoot(t, w, world{a: x}.root())
	wantDelete(t, w, a, true, api.OK)
	wantRoot(t, w, emptyRoot)
	// It has lost its map of slots, and so what cannot be read of it.
	want(t, "SetNonce", w.SetNonce(a, 1), api.OK)
	wantSlot(t, w, a, slot('s'), "", api.OK)
}
