package state_test

import (
	"maps"
	"testing"

	"ledger/api"
	"ledger/keccak"
	"ledger/store"
)

// P13: what is laid down are the nodes of the maps of slots and of the world's
// map; then the world is there again.
func TestCommit(t *testing.T) {
	m := world{}
	st, w := fresh(t)
	if root := w.Commit(); root != emptyRoot || st.Len() != 0 {
		t.Errorf("the empty world: %x, %d texts", root, st.Len())
	}
	for i := range 30 {
		a := addr(byte(i))
		x := account{nonce: i, code: noCode}
		want(t, "SetNonce", w.SetNonce(a, i), api.OK)
		for k := range i % 4 {
			x = x.with(slot(byte(k)), string([]byte{byte(i), byte(k)}))
			want(t, "SetSlot", w.SetSlot(a, slot(byte(k)), x.slots[slot(byte(k))]), api.OK)
		}
		if !x.none() {
			m[a] = x
		}
	}
	if st.Len() != 0 {
		t.Errorf("ahead of Commit the store has %d texts", st.Len())
	}
	root := w.Commit()
	other := store.New()
	if want := m.laid(other); root != want {
		t.Errorf("Commit: %x, want %x", root, want)
	}
	wantContents(t, st, contents(other))
	wantRoot(t, w, root)
	w.Commit()
	wantContents(t, st, contents(other))
	again := open(t, st, root)
	for a, x := range m {
		wantAccount(t, again, a, x)
		for k := range 5 {
			wantSlot(t, again, a, slot(byte(k)), x.slots[slot(byte(k))], api.OK)
		}
	}
}

// P13: what was read is laid down too, of the maps of slots that are open.
func TestCommitOpen(t *testing.T) {
	st := store.New()
	m := world{}
	for i := range 12 {
		m[addr(byte(i))] = account{nonce: 1, code: noCode}.with(slot(byte(i)), "\x05").with(slot('x'), "\x06")
	}
	root := m.laid(st)
	all := contents(st)
	w := open(t, st, root)
	left := map[string]string{}
	for a, x := range m {
		wantAccount(t, w, a, x)
		p, _ := w.Prove(a)
		for _, text := range p {
			left[keccak.Sum(text)] = text
		}
		if a[19]%2 == 0 {
			continue
		}
		// Its map is open now; the leaf beside that slot stays unread.
		wantSlot(t, w, a, slot(a[19]), "\x05", api.OK)
		_, q, _ := open(t, st, root).ProveSlot(a, slot(a[19]))
		for _, text := range q {
			left[keccak.Sum(text)] = text
		}
	}
	for h := range all {
		st.Lose(h)
	}
	if got := w.Commit(); got != root {
		t.Errorf("Commit: %x, want %x", got, root)
	}
	wantContents(t, st, left)
}

// P13: an account that is gone has lost its map of slots: nothing of it is laid
// down.
func TestCommitGone(t *testing.T) {
	a, b := addr('a'), addr('b')
	for _, come := range []bool{false, true} {
		st, w := fresh(t)
		want(t, "SetSlot", w.SetSlot(b, slot('s'), "\x05"), api.OK)
		want(t, "SetSlot", w.SetSlot(a, slot('s'), "\x06"), api.OK)
		want(t, "SetSlot", w.SetSlot(a, slot('t'), "\x07"), api.OK)
		wantDelete(t, w, a, true, api.OK)
		m := world{b: account{code: noCode}.with(slot('s'), "\x05")}
		if come {
			want(t, "SetSlot", w.SetSlot(a, slot('u'), "\x08"), api.OK)
			m[a] = account{code: noCode}.with(slot('u'), "\x08")
		}
		root := w.Commit()
		other := store.New()
		if want := m.laid(other); root != want {
			t.Errorf("Commit: %x, want %x", root, want)
		}
		wantContents(t, st, contents(other))
	}
}

// P2: worlds over one store share it, and nothing else.
func TestTwoWorlds(t *testing.T) {
	a, s := addr('a'), slot('s')
	st := store.New()
	x := account{nonce: 1, code: noCode}.with(s, "\x05")
	root := world{a: x}.laid(st)
	v, w := open(t, st, root), open(t, st, root)
	wantSlot(t, v, a, s, "\x05", api.OK)
	wantSlot(t, w, a, s, "\x05", api.OK)
	want(t, "SetSlot", v.SetSlot(a, s, "\x06"), api.OK)
	want(t, "SetNonce", v.SetNonce(addr('b'), 1), api.OK)
	wantAccount(t, w, a, x)
	wantSlot(t, w, a, s, "\x05", api.OK)
	wantRoot(t, w, root)
	wantDelete(t, w, a, true, api.OK)
	wantSlot(t, v, a, s, "\x06", api.OK)
	before := contents(st)
	next := v.Commit()
	after := contents(st)
	for h, text := range before {
		if after[h] != text {
			t.Errorf("%x is gone", h)
		}
	}
	wantRoot(t, w, emptyRoot)
	if got := w.Commit(); got != emptyRoot {
		t.Errorf("Commit: %x", got)
	}
	if !maps.Equal(contents(st), after) {
		t.Errorf("a world without accounts has laid down something")
	}
	again := open(t, st, next)
	wantSlot(t, again, a, s, "\x06", api.OK)
	wantSlot(t, open(t, st, root), a, s, "\x05", api.OK)
}
