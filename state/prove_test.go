package state_test

import (
	"slices"
	"strings"
	"testing"

	"ledger/api"
	"ledger/keccak"
	"ledger/state"
	"ledger/store"
)

// some: accounts with and without slots.
func some() world {
	m := world{}
	for i := range 20 {
		x := account{nonce: i + 1, balance: "\x01\x00", code: noCode}
		for k := range i {
			x = x.with(slot(byte(k)), string([]byte{byte(i), byte(k)}))
		}
		m[addr(byte(i))] = x
	}
	return m
}

// proofs: those of an address and of a slot, told by the maps alone.
func (m world) proofs(t *testing.T, a string, s string) ([]string, []string) {
	t.Helper()
	pairs := map[string]string{}
	for b, x := range m {
		pairs[keccak.Sum(b)] = x.record()
	}
	p, e := mapOf(store.New(), pairs).Prove(keccak.Sum(a))
	want(t, "Prove", e, api.OK)
	pairs = map[string]string{}
	for k, v := range m[a].slots {
		pairs[keccak.Sum(k)] = textCode(v)
	}
	q, e := mapOf(store.New(), pairs).Prove(keccak.Sum(s))
	want(t, "Prove", e, api.OK)
	return p, q
}

func wantProve(t *testing.T, w *state.State, a string, s string, p []string, q []string) {
	t.Helper()
	got, e := w.Prove(a)
	if e != api.OK || !slices.Equal(got, p) || (got == nil) != (len(p) == 0) {
		t.Errorf("Prove: %x, %d, want %x", got, e, p)
	}
	got, second, e := w.ProveSlot(a, s)
	if e != api.OK || !slices.Equal(got, p) || (got == nil) != (len(p) == 0) {
		t.Errorf("ProveSlot: %x, %d, want %x", got, e, p)
	}
	if !slices.Equal(second, q) || (second == nil) != (len(q) == 0) {
		t.Errorf("ProveSlot, the second: %x, want %x", second, q)
	}
}

func wantShown(t *testing.T, root string, a string, p []string, x account) {
	t.Helper()
	got, there, e := state.VerifyAccount(root, a, p)
	if got != x.told() || there == x.none() || e != api.OK {
		t.Errorf("VerifyAccount: %v, %v, %d, want %v", got, there, e, x.told())
	}
}

func wantShownSlot(t *testing.T, root string, a string, s string, p []string, q []string, v string) {
	t.Helper()
	if got, e := state.VerifySlot(root, a, s, p, q); got != v || e != api.OK {
		t.Errorf("VerifySlot: %x, %d, want %x", got, e, v)
	}
}

// P14: the proofs are those of the maps, and they show what the world tells; of
// accounts and slots that are not there too.
func TestProve(t *testing.T) {
	m := some()
	st := store.New()
	root := m.laid(st)
	read := open(t, st, root)
	for i := range 24 {
		a := addr(byte(i))
		for k := range 21 {
			s := slot(byte(k))
			p, q := m.proofs(t, a, s)
			wantProve(t, read, a, s, p, q)
			wantShown(t, root, a, p, m.of(a))
			wantShownSlot(t, root, a, s, p, q, m[a].slots[s])
		}
	}
	wantRoot(t, read, root)
}

// P14: the empty world has no texts; an account without slots has a first proof
// alone, and so has what is no account.
func TestProveNothing(t *testing.T) {
	_, w := fresh(t)
	wantProve(t, w, addr('a'), slot('s'), nil, nil)
	wantShown(t, emptyRoot, addr('a'), nil, account{code: noCode})
	wantShownSlot(t, emptyRoot, addr('a'), slot('s'), nil, nil, "")
	wantShownSlot(t, emptyRoot, addr('a'), slot('s'), []string{}, []string{}, "")
	m := world{addr('b'): {nonce: 1, code: noCode}}
	want(t, "SetNonce", w.SetNonce(addr('b'), 1), api.OK)
	for _, a := range []string{addr('a'), addr('b')} {
		p, q := m.proofs(t, a, slot('s'))
		if len(p) != 1 || q != nil {
			t.Fatalf("%d texts and %d", len(p), len(q))
		}
		wantProve(t, w, a, slot('s'), p, nil)
		wantShown(t, m.root(), a, p, m.of(a))
		wantShownSlot(t, m.root(), a, slot('s'), p, nil, "")
	}
}

// P14: what has changed is proved without a store.
func TestProveChanged(t *testing.T) {
	st, w := fresh(t)
	m := some()
	for a, x := range m {
		want(t, "SetNonce", w.SetNonce(a, x.nonce), api.OK)
		want(t, "SetBalance", w.SetBalance(a, x.balance), api.OK)
		for s, v := range x.slots {
			want(t, "SetSlot", w.SetSlot(a, s, v), api.OK)
		}
	}
	for i := range 24 {
		p, q := m.proofs(t, addr(byte(i)), slot('\x03'))
		wantProve(t, w, addr(byte(i)), slot('\x03'), p, q)
	}
	if st.Len() != 0 {
		t.Errorf("the store has %d texts", st.Len())
	}
}

// P14: the errors of reading, in their order: those of the account go ahead of
// those of the slot.
func TestProveErrors(t *testing.T) {
	a, s := addr('\x09'), slot('\x03')
	m := some()
	st := store.New()
	root := m.laid(st)
	p, q := m.proofs(t, a, s)
	if len(p) < 2 || len(q) < 2 {
		t.Fatalf("%d texts and %d", len(p), len(q))
	}
	wantErrors := func(w *state.State, e api.Errno, f api.Errno) {
		t.Helper()
		got, g := w.Prove(a)
		if g != e || (got == nil) != (e != api.OK) {
			t.Errorf("Prove: %x, %d, want %d", got, g, e)
		}
		first, second, g := w.ProveSlot(a, s)
		if g != f || (first == nil) != (f != api.OK) || (second == nil) != (f != api.OK) {
			t.Errorf("ProveSlot: %x, %x, %d, want %d", first, second, g, f)
		}
		wantRoot(t, w, root)
	}
	for _, f := range faults {
		for _, text := range p {
			f.bend(st, text)
			wantErrors(open(t, st, root), f.want, f.want)
			st.Put(text)
		}
		for _, text := range q {
			f.bend(st, text)
			w := open(t, st, root)
			wantErrors(w, api.OK, f.want)
			st.Put(text)
			wantErrors(w, api.OK, api.OK)
			// It stays in memory.
			f.bend(st, text)
			wantErrors(w, api.OK, api.OK)
			st.Put(text)
		}
		// One of either is lost: the account's is told.
		st.Lay(keccak.Sum(q[0]), "bent")
		f.bend(st, p[1])
		wantErrors(open(t, st, root), f.want, f.want)
		st.Put(p[1])
		st.Put(q[0])
	}
}

// wantNoProof: what is told of a proof that is none.
func wantNoProof(t *testing.T, name string, root string, a string, s string, p []string, q []string, first api.Errno, second api.Errno) {
	t.Helper()
	acc, there, e := state.VerifyAccount(root, a, p)
	if e != first || e != api.OK && (acc != api.Account{} || there) {
		t.Errorf("%s, VerifyAccount: %v, %v, %d, want %d", name, acc, there, e, first)
	}
	v, e := state.VerifySlot(root, a, s, p, q)
	if e != second || e != api.OK && v != "" {
		t.Errorf("%s, VerifySlot: %x, %d, want %d", name, v, e, second)
	}
}

// turned: a proof with one text lacking, one too many, or another in the place
// of one.
func turned(p []string) [][]string {
	var out [][]string
	for i := range p {
		out = append(out, slices.Delete(slices.Clone(p), i, i+1))
		out = append(out, slices.Insert(slices.Clone(p), i, p[i]))
		other := slices.Clone(p)
		other[i] = p[(i+1)%len(p)] + "\x00"
		out = append(out, other)
		bent := slices.Clone(p)
		bent[i] = "\x00" + p[i][1:]
		out = append(out, bent)
		bent = slices.Clone(p)
		bent[i] = p[i][:len(p[i])-1] + string([]byte{p[i][len(p[i])-1] ^ 1})
		out = append(out, bent)
	}
	out = append(out, append(slices.Clone(p), ""))
	if len(p) > 1 {
		back := slices.Clone(p)
		slices.Reverse(back)
		out = append(out, back)
	}
	return out
}

// P14: proofs that are none of this address, this slot and this root.
func TestVerify(t *testing.T) {
	m := some()
	root := m.root()
	a, s := addr('\x09'), slot('\x03')
	p, q := m.proofs(t, a, s)
	for _, bad := range turned(p) {
		wantNoProof(t, "the first turned", root, a, s, bad, q, api.ErrProof, api.ErrProof)
	}
	for _, bad := range turned(q) {
		wantNoProof(t, "the second turned", root, a, s, p, bad, api.OK, api.ErrProof)
	}
	wantNoProof(t, "no first", root, a, s, nil, q, api.ErrProof, api.ErrProof)
	wantNoProof(t, "no second", root, a, s, p, nil, api.OK, api.ErrProof)
	wantNoProof(t, "the two exchanged", root, a, s, q, p, api.ErrProof, api.ErrProof)
	wantNoProof(t, "another root", someCode, a, s, p, q, api.ErrProof, api.ErrProof)
	wantNoProof(t, "the slots' root", m[a].root(), a, s, p, q, api.ErrProof, api.ErrProof)
	wantNoProof(t, "the empty root", emptyRoot, a, s, p, q, api.ErrProof, api.ErrProof)
	other, second := m.proofs(t, addr('\x08'), s)
	wantNoProof(t, "another's", root, a, s, other, q, api.ErrProof, api.ErrProof)
	wantNoProof(t, "another's second", root, a, s, p, second, api.OK, api.ErrProof)
	_, second = m.proofs(t, a, slot('\x04'))
	wantNoProof(t, "another slot's", root, a, s, p, second, api.OK, api.ErrProof)
	wantShownSlot(t, root, a, s, p, q, "\x09\x03")
}

// P14: to a slot of no account, and of one without slots, belongs no second
// proof.
func TestVerifyNoSecond(t *testing.T) {
	m := some()
	root := m.root()
	_, q := m.proofs(t, addr('\x09'), slot('\x03'))
	long := slices.Repeat([]string{"x"}, 97)
	for _, c := range []struct {
		a    string
		long api.Errno
	}{
		{addr('x'), api.ErrProof},   // no account: whatever there is
		{addr('\x00'), api.ErrLong}, // no slots: a proof against the empty map's root
	} {
		p, none := m.proofs(t, c.a, slot('\x03'))
		if none != nil {
			t.Fatalf("%d texts", len(none))
		}
		wantNoProof(t, "another's second", root, c.a, slot('\x03'), p, q, api.OK, api.ErrProof)
		wantNoProof(t, "an empty text", root, c.a, slot('\x03'), p, []string{""}, api.OK, api.ErrProof)
		wantNoProof(t, "the empty map's text", root, c.a, slot('\x03'), p, []string{"\x80"}, api.OK, api.ErrProof)
		wantNoProof(t, "the first again", root, c.a, slot('\x03'), p, p, api.OK, api.ErrProof)
		wantNoProof(t, "a long list", root, c.a, slot('\x03'), p, long, api.OK, c.long)
		wantNoProof(t, "a long text", root, c.a, slot('\x03'), p, []string{strings.Repeat("x", 4097)}, api.OK, c.long)
		wantShownSlot(t, root, c.a, slot('\x03'), p, nil, "")
	}
}

// P14: the errors in their order: lengths, those of the first proof, those of
// the second.
func TestVerifyErrors(t *testing.T) {
	m := some()
	root := m.root()
	a, s := addr('\x09'), slot('\x03')
	p, q := m.proofs(t, a, s)
	long := slices.Repeat([]string{"x"}, 97)
	fat := []string{strings.Repeat("x", 4097)}
	for _, n := range []int{0, 1, 19, 20, 21, 31, 32, 33, 64} {
		text := strings.Repeat("x", n)
		if n != 32 {
			wantNoProof(t, "a root", text, a, s, p, q, api.ErrLen, api.ErrLen)
			wantNoProof(t, "a root", text, a, s, long, fat, api.ErrLen, api.ErrLen)
			wantNoProof(t, "a slot", root, a, text, p, q, api.OK, api.ErrLen)
			wantNoProof(t, "a slot", root, a, text, long, q, api.ErrLong, api.ErrLen)
			wantNoProof(t, "a slot", root, a, text, nil, q, api.ErrProof, api.ErrLen)
		}
		if n != 20 {
			wantNoProof(t, "an address", root, text, s, p, q, api.ErrLen, api.ErrLen)
			wantNoProof(t, "an address", root, text, s, long, fat, api.ErrLen, api.ErrLen)
		}
	}
	wantNoProof(t, "a long first", root, a, s, long, q, api.ErrLong, api.ErrLong)
	wantNoProof(t, "a fat first", root, a, s, fat, q, api.ErrLong, api.ErrLong)
	wantNoProof(t, "a long second", root, a, s, p, long, api.OK, api.ErrLong)
	wantNoProof(t, "a fat second", root, a, s, p, fat, api.OK, api.ErrLong)
	wantNoProof(t, "no first, a long second", root, a, s, nil, long, api.ErrProof, api.ErrProof)
	wantNoProof(t, "96 texts", root, a, s, long[:96], q, api.ErrProof, api.ErrProof)
	wantNoProof(t, "96 texts", root, a, s, p, long[:96], api.OK, api.ErrProof)
}

// P14: a record that is none goes ahead of the second proof's faults.
func TestVerifyRecordFirst(t *testing.T) {
	st := store.New()
	root := having(st, "\x01")
	p, e := open(t, st, root).Prove(addr('a'))
	want(t, "Prove", e, api.OK)
	for _, q := range [][]string{nil, {"x"}, slices.Repeat([]string{"x"}, 97)} {
		wantNoProof(t, "no record", root, addr('a'), slot('s'), p, q, api.ErrRecord, api.ErrRecord)
	}
}

// P2: lists that come out are fresh; those that are handed in are not written
// into, nor their spare room.
func TestLists(t *testing.T) {
	m := some()
	st := store.New()
	root := m.laid(st)
	w := open(t, st, root)
	a, s := addr('\x09'), slot('\x03')
	p, q := m.proofs(t, a, s)
	spoil := func(l []string) {
		l = l[:cap(l)]
		for i := range l {
			l[i] = "mine"
		}
	}
	for range 3 {
		one, _ := w.Prove(a)
		first, second, _ := w.ProveSlot(a, s)
		spoil(first)
		if !slices.Equal(second, q) || !slices.Equal(one, p) {
			t.Fatalf("another list has changed")
		}
		spoil(one)
		spoil(second)
		wantProve(t, w, a, s, p, q)
	}
	room := func(l []string) []string {
		out := append(make([]string, 0, len(l)+8), l...)
		copy(out[len(l):cap(out)], slices.Repeat([]string{"room"}, 8))
		return out
	}
	in, second := room(p), room(q)
	wantShown(t, root, a, in, m[a])
	wantShownSlot(t, root, a, s, in, second, m[a].slots[s])
	if !slices.Equal(in[:cap(in)], room(p)[:cap(in)]) || !slices.Equal(second[:cap(second)], room(q)[:cap(second)]) {
		t.Errorf("a list that was handed in has changed")
	}
}
