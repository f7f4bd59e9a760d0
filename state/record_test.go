package state_test

import (
	"math/rand"
	"strings"
	"testing"

	"ledger/api"
	"ledger/keccak"
	"ledger/state"
	"ledger/store"
)

// having: a world's map that has any text under an address's hash, and beside
// it two accounts.
func having(st *store.Store, text string) string {
	pairs := map[string]string{keccak.Sum(addr('a')): text}
	for _, b := range []string{addr('b'), addr('c')} {
		pairs[keccak.Sum(b)] = record(1, "", emptyRoot, noCode)
	}
	return mapOf(st, pairs).Commit()
}

// P12: what is an account's code, and what is none.
func TestRecords(t *testing.T) {
	zero, one, root, code := textCode(""), textCode("\x01"), textCode(emptyRoot), textCode(noCode)
	long := textCode(strings.Repeat("b", 33))
	list := listCode
	for _, c := range []struct {
		name string
		text string
		want api.Errno
	}{
		{"a nonce", list(one, zero, root, code), api.OK},
		{"a balance", list(zero, one, root, code), api.OK},
		{"a root", list(zero, zero, code, code), api.OK},
		{"a code", list(zero, zero, root, root), api.OK},
		{"a root of noughts", list(zero, zero, textCode(strings.Repeat("\x00", 32)), code), api.OK},
		{"none", list(zero, zero, root, code), api.ErrRecord},
		{"a nonce below 2^63", list(textCode("\x7f\xff\xff\xff\xff\xff\xff\xff"), zero, root, code), api.OK},
		{"a nonce of 2^63", list(textCode("\x80\x00\x00\x00\x00\x00\x00\x00"), zero, root, code), api.ErrRecord},
		{"a nonce of 9 bytes", list(textCode("\x01\x00\x00\x00\x00\x00\x00\x00\x00"), zero, root, code), api.ErrRecord},
		{"a nonce of 32 bytes", list(textCode(greatest), zero, root, code), api.ErrRecord},
		{"a nonce of 33 bytes", list(long, zero, root, code), api.ErrRecord},
		{"a nonce of a nought", list("\x00", zero, root, code), api.ErrRecord},
		{"a nonce with a nought ahead", list(textCode("\x00\x01"), zero, root, code), api.ErrRecord},
		{"a balance of 32 bytes", list(zero, textCode(greatest), root, code), api.OK},
		{"a balance of 33 bytes", list(zero, long, root, code), api.ErrRecord},
		{"a balance of a nought", list(one, "\x00", root, code), api.ErrRecord},
		{"a balance with a nought ahead", list(one, textCode("\x00\x01"), root, code), api.ErrRecord},
		{"a root of 31 bytes", list(one, zero, textCode(emptyRoot[1:]), code), api.ErrRecord},
		{"a root of 33 bytes", list(one, zero, textCode(emptyRoot+"r"), code), api.ErrRecord},
		{"no root", list(one, zero, zero, code), api.ErrRecord},
		{"a code of 31 bytes", list(one, zero, root, textCode(noCode[1:])), api.ErrRecord},
		{"a code of 33 bytes", list(one, zero, root, textCode(noCode+"c")), api.ErrRecord},
		{"no code", list(one, zero, root, zero), api.ErrRecord},
		{"no item", list(), api.ErrRecord},
		{"three items", list(one, zero, root), api.ErrRecord},
		{"five items", list(one, zero, root, code, zero), api.ErrRecord},
		{"a list as the nonce", list(list(), one, root, code), api.ErrRecord},
		{"a list as the balance", list(one, list(), root, code), api.ErrRecord},
		{"a list as the root", list(one, zero, list(root[:32]), code), api.ErrRecord},
		{"a list as the code", list(one, zero, root, list(code)), api.ErrRecord},
		{"a text", textCode("account"), api.ErrRecord},
		{"a byte", "\x01", api.ErrRecord},
		{"the empty text's code", "\x80", api.ErrRecord},
		{"something behind it", list(one, zero, root, code) + "\x00", api.ErrRecord},
		{"not all of it", list(one, zero, root, code)[:60], api.ErrRecord},
		{"a longer form", list("\x81\x01", zero, root, code), api.ErrRecord},
		{"no code of an item", strings.Repeat("\xff", 160), api.ErrRecord},
	} {
		wantRecord(t, c.name, c.text, c.want)
	}
}

// wantRecord: what the calls answer over a text that is, or is not, an account's
// code.
func wantRecord(t *testing.T, name string, text string, e api.Errno) {
	t.Helper()
	a, s := addr('a'), slot('s')
	st := store.New()
	root := having(st, text)
	w := open(t, st, root)
	acc, there, got := w.Account(a)
	if got != e || there != (e == api.OK) || e != api.OK && acc != (api.Account{}) {
		t.Errorf("%s, Account: %v, %v, %d, want %d", name, acc, there, got, e)
	}
	if e == api.OK && record(acc.Nonce, acc.Balance, acc.Root, acc.Code) != text {
		t.Errorf("%s, Account: %v", name, acc)
	}
	p, got := w.Prove(a)
	if len(p) == 0 || got != api.OK {
		t.Errorf("%s, Prove: %x, %d", name, p, got)
	}
	shown, there, got := state.VerifyAccount(root, a, p)
	if got != e || there != (e == api.OK) || shown != acc {
		t.Errorf("%s, VerifyAccount: %v, %v, %d, want %d", name, shown, there, got, e)
	}
	if e == api.OK {
		want(t, name, w.SetNonce(a, 5), api.OK)
		wantDelete(t, w, a, true, api.OK)
		return
	}
	if v, got := state.VerifySlot(root, a, s, p, nil); v != "" || got != e {
		t.Errorf("%s, VerifySlot: %x, %d, want %d", name, v, got, e)
	}
	which := strings.Replace(allCalls, "Prove, ", "", 1)
	wantCalls(t, name, calls(w, a, s, 1, "\x01", someCode), e, which)
	wantRoot(t, w, root)
	wantAccount(t, w, addr('b'), account{nonce: 1, code: noCode})
}

// part tells the text with which a code begins, and what is behind it.
func part(code string) (string, string, bool) {
	switch {
	case code == "" || code[0] > 183:
		return "", "", false
	case code[0] < 128:
		return code[:1], code[1:], true
	}
	n := int(code[0]) - 127
	if len(code) < n || n == 2 && code[1] < 128 {
		return "", "", false
	}
	return code[1:n], code[n:], true
}

// isAccount: whether a text is an account's code, read by hand: its texts are
// shorter than 56 bytes, and so is none of the list's content.
func isAccount(text string) bool {
	if len(text) < 58 || text[0] != 248 || int(text[1]) != len(text)-2 {
		return false
	}
	rest, ok := text[2:], true
	var texts [4]string
	for i := range texts {
		if texts[i], rest, ok = part(rest); !ok {
			return false
		}
	}
	n, b := texts[0], texts[1]
	if rest != "" || strings.HasPrefix(n, "\x00") || strings.HasPrefix(b, "\x00") || len(b) > 32 {
		return false
	}
	if len(n) > 8 || len(n) == 8 && n[0] > 127 || len(texts[2]) != 32 || len(texts[3]) != 32 {
		return false
	}
	return n != "" || b != "" || texts[2] != emptyRoot || texts[3] != noCode
}

// P12: texts that are nearly an account's code.
func TestBentRecords(t *testing.T) {
	r := rand.New(rand.NewSource(1))
	seen := map[api.Errno]int{}
	numbers := []string{"", "\x01", "\x80", "\x00", greatest, strings.Repeat("\x11", 8), strings.Repeat("\x99", 8), strings.Repeat("\x22", 9), strings.Repeat("\x33", 33), "\x00\x01"}
	hashes := []string{emptyRoot, noCode, noCode, emptyRoot, someCode, noCode[1:], ""}
	for range 20000 {
		var codes []string
		for range 2 {
			codes = append(codes, textCode(numbers[r.Intn(len(numbers))]))
		}
		for range 2 {
			codes = append(codes, textCode(hashes[r.Intn(len(hashes))]))
		}
		text := []byte(listCode(codes...))
		if r.Intn(2) == 0 {
			text[r.Intn(len(text))] += byte(1 << r.Intn(8))
		}
		if r.Intn(10) == 0 {
			text = text[:1+r.Intn(len(text))]
		}
		e := api.ErrRecord
		if isAccount(string(text)) {
			e = api.OK
		}
		seen[e]++
		st := store.New()
		w := open(t, st, mapOf(st, map[string]string{keccak.Sum(addr('a')): string(text)}).Commit())
		acc, there, got := w.Account(addr('a'))
		if got != e || there != (e == api.OK) {
			t.Fatalf("%x: %v, %v, %d, want %d", text, acc, there, got, e)
		}
		if e == api.OK && record(acc.Nonce, acc.Balance, acc.Root, acc.Code) != string(text) {
			t.Fatalf("%x: %v", text, acc)
		}
	}
	if seen[api.OK] < 500 || seen[api.ErrRecord] < 500 {
		t.Errorf("%v", seen)
	}
}

// P12 to P14: what is the code of a number above 0, and what is none.
func TestSlotRecords(t *testing.T) {
	for _, c := range []struct {
		name string
		text string
		v    string
		want api.Errno
	}{
		{"1", "\x01", "\x01", api.OK},
		{"127", "\x7f", "\x7f", api.OK},
		{"128", "\x81\x80", "\x80", api.OK},
		{"256", "\x82\x01\x00", "\x01\x00", api.OK},
		{"32 bytes", textCode(greatest), greatest, api.OK},
		{"33 bytes", textCode(greatest + "\xff"), "", api.ErrRecord},
		{"56 bytes", textCode(strings.Repeat("n", 56)), "", api.ErrRecord},
		{"0", "\x80", "", api.ErrRecord},
		{"a nought", "\x00", "", api.ErrRecord},
		{"a nought ahead", textCode("\x00\x05"), "", api.ErrRecord},
		{"a nought ahead of 31 bytes", textCode("\x00" + greatest[1:]), "", api.ErrRecord},
		{"an empty list", "\xc0", "", api.ErrRecord},
		{"a list of a number", "\xc1\x05", "", api.ErrRecord},
		{"two numbers", "\x05\x05", "", api.ErrRecord},
		{"a longer form", "\x81\x05", "", api.ErrRecord},
		{"not all of it", "\x82\x05", "", api.ErrRecord},
		{"no code of an item", strings.Repeat("\xff", 160), "", api.ErrRecord},
	} {
		a, s := addr('a'), slot('s')
		st := store.New()
		slots := mapOf(st, map[string]string{keccak.Sum(s): c.text}).Commit()
		root := having(st, record(0, "", slots, noCode))
		w := open(t, st, root)
		wantSlot(t, w, a, s, c.v, c.want)
		wantSlot(t, w, a, slot('t'), "", api.OK)
		p, q, e := w.ProveSlot(a, s)
		want(t, c.name, e, api.OK)
		if v, e := state.VerifySlot(root, a, s, p, q); v != c.v || e != c.want {
			t.Errorf("%s, VerifySlot: %x, %d, want %x, %d", c.name, v, e, c.v, c.want)
		}
		if v, e := state.VerifySlot(root, a, slot('t'), p, q); v != "" || e != api.OK {
			t.Errorf("%s, VerifySlot of another: %x, %d", c.name, v, e)
		}
		wantRoot(t, w, root)
		// SetSlot reads the map alone: a text that is no number can be mended so.
		want(t, c.name, w.SetSlot(a, s, "\x09"), api.OK)
		wantSlot(t, w, a, s, "\x09", api.OK)
		w = open(t, st, root)
		want(t, c.name, w.SetSlot(a, s, ""), api.OK)
		wantSlot(t, w, a, s, "", api.OK)
		wantAccount(t, w, a, account{code: noCode})
	}
}
