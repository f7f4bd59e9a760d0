package state_test

import (
	"fmt"
	"math"
	"slices"
	"strings"
	"testing"

	"ledger/api"
	"ledger/keccak"
	"ledger/state"
	"ledger/store"
)

// P11: the maps of a world with one account, by their bytes: both are one leaf.
func TestBytes(t *testing.T) {
	leaf := func(key string, value string) string {
		return keccak.Sum(listCode(textCode("\x20"+keccak.Sum(key)), textCode(value)))
	}
	for _, c := range []struct {
		nonce   int
		n       string
		balance string
		code    string
		slot    string
	}{
		{0, "", "", noCode, "\x01"},
		{0, "", "\x05", noCode, ""},
		{1, "\x01", "", noCode, ""},
		{127, "\x7f", "\x7f", noCode, "\x7f"},
		{128, "\x81\x80", "\x80", someCode, "\x80"},
		{256, "\x82\x01\x00", greatest, emptyRoot, greatest},
		{math.MaxInt, "\x88\x7f\xff\xff\xff\xff\xff\xff\xff", "\x01\x00", someCode, "\x01\x00"},
	} {
		_, w := fresh(t)
		want(t, "SetNonce", w.SetNonce(addr('a'), c.nonce), api.OK)
		want(t, "SetBalance", w.SetBalance(addr('a'), c.balance), api.OK)
		want(t, "SetCode", w.SetCode(addr('a'), c.code), api.OK)
		want(t, "SetSlot", w.SetSlot(addr('a'), slot('s'), c.slot), api.OK)
		slots := emptyRoot
		if c.slot != "" {
			slots = leaf(slot('s'), textCode(c.slot))
		}
		if c.n == "" {
			c.n = "\x80"
		}
		wantRoot(t, w, leaf(addr('a'), listCode(c.n, textCode(c.balance), textCode(slots), textCode(c.code))))
		acc, there, e := w.Account(addr('a'))
		if acc != (api.Account{Nonce: c.nonce, Balance: c.balance, Root: slots, Code: c.code}) || !there || e != api.OK {
			t.Errorf("Account: %v, %v, %d", acc, there, e)
		}
		wantSlot(t, w, addr('a'), slot('s'), c.slot, api.OK)
	}
}

// P11, P13: whatever the order in which it was written, a world's root is that
// of its map.
func TestManyOrders(t *testing.T) {
	m := world{}
	for i := range 40 {
		x := account{nonce: i % 3, balance: []string{"", "\x01", greatest}[i%3], code: noCode}
		for k := range i % 4 {
			x = x.with(slot(byte(k)), string([]byte{byte(i + k + 1)}))
		}
		if x.none() {
			x.code = someCode
		}
		m[addr(byte(i))] = x
	}
	up, down := fill(t, m, false), fill(t, m, true)
	wantRoot(t, up, m.root())
	wantRoot(t, down, m.root())
	st := store.New()
	read := open(t, st, m.laid(st))
	for a, x := range m {
		for _, w := range []*state.State{up, down, read} {
			wantAccount(t, w, a, x)
			for k := range 5 {
				wantSlot(t, w, a, slot(byte(k)), x.slots[slot(byte(k))], api.OK)
			}
		}
	}
}

// fill writes a world's accounts one behind the other, or the other way round.
func fill(t *testing.T, m world, down bool) *state.State {
	_, w := fresh(t)
	for i := range 40 {
		if down {
			i = 39 - i
		}
		a := addr(byte(i))
		for k := range 4 {
			if down {
				k = 3 - k
			}
			want(t, "SetSlot", w.SetSlot(a, slot(byte(k)), m[a].slots[slot(byte(k))]), api.OK)
		}
		if down {
			want(t, "SetCode", w.SetCode(a, m[a].code), api.OK)
		}
		want(t, "SetNonce", w.SetNonce(a, m[a].nonce), api.OK)
		want(t, "SetBalance", w.SetBalance(a, m[a].balance), api.OK)
		want(t, "SetCode", w.SetCode(a, m[a].code), api.OK)
	}
	return w
}

// P12: a root of another length; nothing is read.
func TestOpen(t *testing.T) {
	st := store.New()
	for _, n := range []int{0, 1, 20, 31, 33, 64} {
		if w, e := state.Open(st, strings.Repeat("r", n)); w != nil || e != api.ErrLen {
			t.Errorf("a root of %d bytes: %v, %d", n, w == nil, e)
		}
	}
	lost := strings.Repeat("r", 32)
	w := open(t, st, lost)
	wantRoot(t, w, lost)
	if root := w.Commit(); root != lost || st.Len() != 0 {
		t.Errorf("Commit: %x, %d texts", root, st.Len())
	}
	_, _, e := w.Account(addr('a'))
	want(t, "Account", e, api.ErrMissing)
}

// P12, P13: what is told of an account that is not there.
func TestNone(t *testing.T) {
	st, w := fresh(t)
	other := open(t, st, world{addr('b'): {nonce: 1, code: noCode}}.laid(st))
	for _, w := range []*state.State{w, other} {
		root := w.Root()
		wantAccount(t, w, addr('a'), account{code: noCode})
		wantSlot(t, w, addr('a'), slot('s'), "", api.OK)
		wantDelete(t, w, addr('a'), false, api.OK)
		want(t, "SetNonce", w.SetNonce(addr('a'), 0), api.OK)
		want(t, "SetBalance", w.SetBalance(addr('a'), ""), api.OK)
		want(t, "SetCode", w.SetCode(addr('a'), noCode), api.OK)
		want(t, "SetSlot", w.SetSlot(addr('a'), slot('s'), ""), api.OK)
		wantAccount(t, w, addr('a'), account{code: noCode})
		wantRoot(t, w, root)
	}
}

// calls: what each call answers, its error first; an error with anything beside
// it is -1.
func calls(w *state.State, a string, s string, n int, v string, code string) map[string]api.Errno {
	out := map[string]api.Errno{}
	only := func(what string, e api.Errno, empty bool) {
		out[what] = e
		if e != api.OK && !empty {
			out[what] = -1
		}
	}
	acc, there, e := w.Account(a)
	only("Account", e, acc == api.Account{} && !there)
	got, e := w.Slot(a, s)
	only("Slot", e, got == "")
	p, e := w.Prove(a)
	only("Prove", e, p == nil)
	p, q, e := w.ProveSlot(a, s)
	only("ProveSlot", e, p == nil && q == nil)
	out["SetNonce"] = w.SetNonce(a, n)
	out["SetBalance"] = w.SetBalance(a, v)
	out["SetCode"] = w.SetCode(a, code)
	out["SetSlot"] = w.SetSlot(a, s, v)
	out["SetSlot to 0"] = w.SetSlot(a, s, "")
	was, e := w.Delete(a)
	only("Delete", e, !was)
	return out
}

// wantCalls: which of the calls answer an error; the others are OK.
func wantCalls(t *testing.T, name string, got map[string]api.Errno, want api.Errno, which string) {
	t.Helper()
	for call, e := range got {
		bad := slices.Contains(strings.Split(which, ", "), call)
		if bad && e != want || !bad && e != api.OK {
			t.Errorf("%s, %s: %d, want %d of %s", name, call, e, want, which)
		}
	}
}

const (
	allCalls  = "Account, Slot, Prove, ProveSlot, SetNonce, SetBalance, SetCode, SetSlot, SetSlot to 0, Delete"
	slotCalls = "Slot, ProveSlot, SetSlot, SetSlot to 0"
)

// P12 to P14: addresses, slots and codes of other lengths.
func TestLengths(t *testing.T) {
	for _, n := range []int{0, 1, 19, 20, 21, 31, 32, 33, 40, 41, 1 << 16} {
		text := strings.Repeat("x", n)
		if n != 20 {
			st, w := fresh(t)
			got := calls(w, text, slot('s'), 1, "\x01", someCode)
			wantCalls(t, fmt.Sprint("an address of ", n), got, api.ErrLen, allCalls)
			wantRoot(t, w, emptyRoot)
			if w.Commit(); st.Len() != 0 {
				t.Errorf("an address of %d: the store has %d texts", n, st.Len())
			}
		}
		if n != 32 {
			_, w := fresh(t)
			got := calls(w, addr('a'), text, 1, "\x01", someCode)
			wantCalls(t, fmt.Sprint("a slot of ", n), got, api.ErrLen, slotCalls)
			_, w = fresh(t)
			got = calls(w, addr('a'), slot('s'), 1, "\x01", text)
			wantCalls(t, fmt.Sprint("a code of ", n), got, api.ErrLen, "SetCode")
		}
	}
}

// P13: nonces below 0, and texts that are no numbers.
func TestArgs(t *testing.T) {
	for _, n := range []int{-1, -2, -256, math.MinInt} {
		_, w := fresh(t)
		wantCalls(t, "a nonce", calls(w, addr('a'), slot('s'), n, "\x01", someCode), api.ErrArg, "SetNonce")
		_, w = fresh(t)
		want(t, "SetNonce", w.SetNonce(addr('a'), n), api.ErrArg)
		wantRoot(t, w, emptyRoot)
	}
	for _, v := range []string{"\x00", "\x00\x01", "\x00" + greatest[1:], greatest + "\x00", "\x01" + greatest, strings.Repeat("\x01", 1<<16)} {
		_, w := fresh(t)
		wantCalls(t, "a number", calls(w, addr('a'), slot('s'), 1, v, someCode), api.ErrArg, "SetBalance, SetSlot")
		_, w = fresh(t)
		want(t, "SetBalance", w.SetBalance(addr('a'), v), api.ErrArg)
		want(t, "SetSlot", w.SetSlot(addr('a'), slot('s'), v), api.ErrArg)
		wantRoot(t, w, emptyRoot)
	}
}

// P1, P12, P13: lengths go ahead of ranges, and these ahead of the store.
func TestOrder(t *testing.T) {
	st := store.New()
	lost := strings.Repeat("r", 32)
	for _, w := range []*state.State{open(t, st, emptyRoot), open(t, st, lost)} {
		wantCalls(t, "an address", calls(w, "short", slot('s'), -1, "\x00", someCode), api.ErrLen, allCalls)
		want(t, "SetSlot", w.SetSlot(addr('a'), "short", "\x00"), api.ErrLen)
		want(t, "SetCode", w.SetCode("short", "short"), api.ErrLen)
		want(t, "SetCode", w.SetCode(addr('a'), "short"), api.ErrLen)
		want(t, "SetNonce", w.SetNonce(addr('a'), -1), api.ErrArg)
		want(t, "SetBalance", w.SetBalance(addr('a'), "\x00"), api.ErrArg)
		want(t, "SetSlot", w.SetSlot(addr('a'), slot('s'), "\x00"), api.ErrArg)
		_, e := w.Slot(addr('a'), "short")
		want(t, "Slot", e, api.ErrLen)
		_, _, e = w.ProveSlot(addr('a'), "short")
		want(t, "ProveSlot", e, api.ErrLen)
	}
}

// P12 to P14: the errors of reading the world's map are those of every call.
func TestWorldLost(t *testing.T) {
	for _, c := range []struct {
		name string
		want api.Errno
		lay  func(st *store.Store) string // tells a root
	}{
		{"nothing", api.ErrMissing, func(st *store.Store) string { return greatest }},
		{"another text", api.ErrBent, func(st *store.Store) string {
			st.Lay(greatest, "bent")
			return greatest
		}},
		{"no node", api.ErrNode, func(st *store.Store) string {
			root, _ := st.Put("no node")
			return root
		}},
		{"no account's leaf", api.ErrMissing, func(st *store.Store) string {
			m := world{addr('a'): {nonce: 1, code: noCode}, addr('b'): {nonce: 1, code: noCode}}
			root := m.laid(st)
			p, _ := open(t, st, root).Prove(addr('a'))
			st.Lose(keccak.Sum(p[len(p)-1]))
			return root
		}},
	} {
		st := store.New()
		root := c.lay(st)
		w := open(t, st, root)
		wantCalls(t, c.name, calls(w, addr('a'), slot('s'), 1, "\x01", someCode), c.want, allCalls)
		wantRoot(t, w, root)
	}
}

// P12 to P14: those of reading the map of slots are Slot's, SetSlot's and
// ProveSlot's; they come behind those of the account.
func TestSlotsLost(t *testing.T) {
	for _, c := range []struct {
		bend func(st *store.Store, h string)
		want api.Errno
	}{
		{func(st *store.Store, h string) { st.Lose(h) }, api.ErrMissing},
		{func(st *store.Store, h string) { st.Lay(h, "bent") }, api.ErrBent},
	} {
		st := store.New()
		x := account{nonce: 1, code: noCode}.with(slot('s'), "\x05")
		y := account{nonce: 2, code: noCode}
		root := world{addr('a'): x, addr('b'): y}.laid(st)
		slots, _ := st.Get(x.root())
		c.bend(st, x.root())
		w := open(t, st, root)
		wantAccount(t, w, addr('a'), x)
		wantSlot(t, w, addr('a'), slot('s'), "", c.want)
		want(t, "SetSlot", w.SetSlot(addr('a'), slot('s'), "\x06"), c.want)
		want(t, "SetSlot", w.SetSlot(addr('a'), slot('t'), "\x06"), c.want)
		want(t, "SetSlot to 0", w.SetSlot(addr('a'), slot('s'), ""), c.want)
		want(t, "SetSlot to 0", w.SetSlot(addr('a'), slot('t'), ""), c.want)
		wantRoot(t, w, root)
		wantAccount(t, w, addr('a'), x)
		wantSlot(t, w, addr('b'), slot('s'), "", api.OK)
		// Then, when it is mended, all is there.
		st.Put(slots)
		wantSlot(t, w, addr('a'), slot('s'), "\x05", api.OK)

		c.bend(st, x.root())
		w = open(t, st, root)
		wantCalls(t, "slots", calls(w, addr('a'), slot('s'), 1, "\x01", someCode), c.want, slotCalls)
		wantRoot(t, w, world{addr('b'): y}.root())
	}
}

// P12 to P14: a root of slots that is that of no map.
func TestSlotsNoNode(t *testing.T) {
	st := store.New()
	h, _ := st.Put("no node")
	w := open(t, st, having(st, record(1, "", h, noCode)))
	wantCalls(t, "slots", calls(w, addr('a'), slot('s'), 1, "\x01", someCode), api.ErrNode, slotCalls)
}

// P12: a map of slots is opened once and stays open: what was read of it is not
// read again, whatever becomes of the account, and of the store.
func TestSlotsStayOpen(t *testing.T) {
	st := store.New()
	x := account{nonce: 1, code: noCode}.with(slot('s'), "\x05")
	w := open(t, st, world{addr('a'): x}.laid(st))
	wantSlot(t, w, addr('a'), slot('s'), "\x05", api.OK)
	st.Lose(x.root())
	wantSlot(t, w, addr('a'), slot('s'), "\x05", api.OK)
	wantSlot(t, w, addr('a'), slot('t'), "", api.OK)
	want(t, "SetNonce", w.SetNonce(addr('a'), 7), api.OK)
	want(t, "SetBalance", w.SetBalance(addr('a'), "\x07"), api.OK)
	want(t, "SetCode", w.SetCode(addr('a'), someCode), api.OK)
	wantSlot(t, w, addr('a'), slot('s'), "\x05", api.OK)
	x = account{nonce: 7, balance: "\x07", code: someCode}.with(slot('s'), "\x05").with(slot('t'), "\x06")
	want(t, "SetSlot", w.SetSlot(addr('a'), slot('t'), "\x06"), api.OK)
	wantAccount(t, w, addr('a'), x)
	wantSlot(t, w, addr('a'), slot('s'), "\x05", api.OK)
	want(t, "SetSlot to 0", w.SetSlot(addr('a'), slot('s'), ""), api.OK)
	want(t, "SetSlot to 0", w.SetSlot(addr('a'), slot('t'), ""), api.OK)
	x.slots = nil
	wantAccount(t, w, addr('a'), x)
}

// P12: every account has a map of its own, also where two have the same root.
func TestSlotsApart(t *testing.T) {
	st := store.New()
	x := account{code: noCode}.with(slot('s'), "\x05")
	m := world{addr('a'): x, addr('b'): x}
	w := open(t, st, m.laid(st))
	wantSlot(t, w, addr('a'), slot('s'), "\x05", api.OK)
	st.Lose(x.root())
	wantSlot(t, w, addr('b'), slot('s'), "", api.ErrMissing)
	want(t, "SetSlot", w.SetSlot(addr('a'), slot('s'), "\x06"), api.OK)
	w.Commit()
	wantSlot(t, w, addr('b'), slot('s'), "", api.ErrMissing)
	wantSlot(t, w, addr('a'), slot('s'), "\x06", api.OK)
	m[addr('a')] = x.with(slot('s'), "\x06")
	wantRoot(t, w, m.root())
}

// P13: each field by itself; the others stay.
func TestSet(t *testing.T) {
	m := world{}
	_, w := fresh(t)
	for i, a := range []string{addr('a'), addr('b'), addr('a'), addr('c'), addr('a')} {
		x := m.of(a)
		x.nonce = i + 1
		want(t, "SetNonce", w.SetNonce(a, x.nonce), api.OK)
		m[a] = x
		wantAccount(t, w, a, x)
		wantRoot(t, w, m.root())
		x.balance = string([]byte{byte(i + 1), 0})
		want(t, "SetBalance", w.SetBalance(a, x.balance), api.OK)
		m[a] = x
		wantAccount(t, w, a, x)
		wantRoot(t, w, m.root())
		x.code = strings.Repeat(string([]byte{byte(i)}), 32)
		want(t, "SetCode", w.SetCode(a, x.code), api.OK)
		m[a] = x
		wantAccount(t, w, a, x)
		wantRoot(t, w, m.root())
		for _, v := range []string{"\x01", "\x7f", "\x80", greatest, "", "\x01\x00"} {
			x = x.with(slot(byte(i)), v)
			want(t, "SetSlot", w.SetSlot(a, slot(byte(i)), v), api.OK)
			m[a] = x
			wantSlot(t, w, a, slot(byte(i)), v, api.OK)
			wantAccount(t, w, a, x)
			wantRoot(t, w, m.root())
		}
	}
}

// P11, P13: numbers at their edges.
func TestEdges(t *testing.T) {
	_, w := fresh(t)
	a := addr('a')
	for _, v := range []string{"\x01", "\xff", "\x01\x00", greatest, "\x01" + strings.Repeat("\x00", 31)} {
		want(t, "SetBalance", w.SetBalance(a, v), api.OK)
		want(t, "SetSlot", w.SetSlot(a, slot('s'), v), api.OK)
		wantAccount(t, w, a, account{balance: v, code: noCode}.with(slot('s'), v))
		wantSlot(t, w, a, slot('s'), v, api.OK)
	}
	_, w = fresh(t)
	for _, n := range []int{1, 127, 128, 255, 256, 1 << 32, math.MaxInt} {
		want(t, "SetNonce", w.SetNonce(a, n), api.OK)
		wantAccount(t, w, a, account{nonce: n, code: noCode})
	}
}

// P13: the document's example.
func TestExample(t *testing.T) {
	_, w := fresh(t)
	for range 2 {
		want(t, "SetSlot", w.SetSlot(addr('a'), slot('s'), "\x05"), api.OK)
		wantAccount(t, w, addr('a'), account{code: noCode}.with(slot('s'), "\x05"))
		want(t, "SetSlot to 0", w.SetSlot(addr('a'), slot('s'), ""), api.OK)
		wantAccount(t, w, addr('a'), account{code: noCode})
		wantRoot(t, w, emptyRoot)
	}
}

// way: an account, and how it becomes none.
type way struct {
	name string
	x    account
	gone func(w *state.State) api.Errno
}

// ways: each of an account's values goes last, or all go at once.
func ways(a string, s string) []way {
	full := account{nonce: 1, balance: "\x01", code: someCode}.with(s, "\x01").with(slot('t'), "\x02")
	return []way{
		{"SetNonce", account{nonce: 1, code: noCode}, func(w *state.State) api.Errno { return w.SetNonce(a, 0) }},
		{"SetBalance", account{balance: "\x01", code: noCode}, func(w *state.State) api.Errno { return w.SetBalance(a, "") }},
		{"SetCode", account{code: someCode}, func(w *state.State) api.Errno { return w.SetCode(a, noCode) }},
		{"SetSlot", account{code: noCode}.with(s, greatest), func(w *state.State) api.Errno { return w.SetSlot(a, s, "") }},
		{"Delete", full, func(w *state.State) api.Errno {
			was, e := w.Delete(a)
			if was != (e == api.OK) {
				return -1
			}
			return e
		}},
	}
}

// P13: an account becomes none, whichever of its values goes last, and then it
// is not there; when it comes again its slots are all 0.
func TestBecomesNone(t *testing.T) {
	a, s := addr('a'), slot('s')
	for _, c := range ways(a, s) {
		for _, beside := range []world{{}, {addr('b'): {nonce: 1, code: noCode}}, {addr('b'): {nonce: 1, code: noCode}, addr('c'): {nonce: 1, code: noCode}}} {
			st := store.New()
			rest := beside.laid(st)
			beside[a] = c.x
			w := open(t, st, beside.laid(st))
			wantSlot(t, w, a, s, c.x.slots[s], api.OK)
			want(t, c.name, c.gone(w), api.OK)
			wantRoot(t, w, rest)
			wantAccount(t, w, a, account{code: noCode})
			wantSlot(t, w, a, s, "", api.OK)
			wantSlot(t, w, a, slot('t'), "", api.OK)
			wantDelete(t, w, a, false, api.OK)
			want(t, "SetNonce", w.SetNonce(a, 3), api.OK)
			wantAccount(t, w, a, account{nonce: 3, code: noCode})
			wantSlot(t, w, a, s, "", api.OK)
			wantSlot(t, w, a, slot('t'), "", api.OK)
			want(t, "SetSlot", w.SetSlot(a, slot('u'), "\x09"), api.OK)
			beside[a] = account{nonce: 3, code: noCode}.with(slot('u'), "\x09")
			wantRoot(t, w, beside.root())
		}
	}
}

// P13: an account is not none as long as it has anything.
func TestStaysThere(t *testing.T) {
	a, s := addr('a'), slot('s')
	full := account{nonce: 1, balance: "\x01", code: someCode}.with(s, "\x01")
	for keep := range 4 {
		st := store.New()
		w := open(t, st, world{a: full}.laid(st))
		x := full
		if keep != 0 {
			x.nonce = 0
			want(t, "SetNonce", w.SetNonce(a, 0), api.OK)
		}
		if keep != 1 {
			x.balance = ""
			want(t, "SetBalance", w.SetBalance(a, ""), api.OK)
		}
		if keep != 2 {
			x.code = noCode
			want(t, "SetCode", w.SetCode(a, noCode), api.OK)
		}
		if keep != 3 {
			x = x.with(s, "")
			want(t, "SetSlot", w.SetSlot(a, s, ""), api.OK)
		}
		wantAccount(t, w, a, x)
		wantRoot(t, w, world{a: x}.root())
		wantDelete(t, w, a, true, api.OK)
		wantRoot(t, w, emptyRoot)
	}
}
