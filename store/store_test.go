package store_test

import (
	"fmt"
	"math/rand"
	"slices"
	"sort"
	"strings"
	"testing"

	"ledger/api"
	"ledger/keccak"
	"ledger/store"
)

func letters(n int) string { return strings.Repeat("k", n) }

// P6: a new store has nothing.
func TestNew(t *testing.T) {
	s := store.New()
	if s.Len() != 0 || s.Hashes() != nil {
		t.Errorf("%d texts, %q", s.Len(), s.Hashes())
	}
	if x, e := s.Get(letters(32)); x != "" || e != api.ErrMissing {
		t.Errorf("Get: %q, %d", x, e)
	}
	if e := s.Lose(letters(32)); e != api.ErrMissing {
		t.Errorf("Lose: %d", e)
	}
}

// P6: a text lies under its own hash, once.
func TestPut(t *testing.T) {
	s := store.New()
	for i, x := range []string{"", "a", "abc", letters(4095), letters(4096), "\x00", "a"} {
		h, e := s.Put(x)
		if e != api.OK || h != keccak.Sum(x) {
			t.Errorf("Put of text %d: %x, %d", i, h, e)
		}
		if y, e := s.Get(h); e != api.OK || y != x {
			t.Errorf("Get of text %d: %.20q, %d", i, y, e)
		}
	}
	if s.Len() != 6 || len(s.Hashes()) != 6 {
		t.Errorf("%d texts, %d hashes", s.Len(), len(s.Hashes()))
	}
}

// P6: what lay under a hash is gone, by Put and by Lay.
func TestOver(t *testing.T) {
	s := store.New()
	h := keccak.Sum("abc")
	for _, x := range []string{"bent", "", letters(4096), "abc", "bent again"} {
		if e := s.Lay(h, x); e != api.OK {
			t.Errorf("Lay: %d", e)
		}
		if y, e := s.Get(h); e != api.OK || y != x || s.Len() != 1 {
			t.Errorf("Get: %.20q, %d; %d texts", y, e, s.Len())
		}
	}
	if got, e := s.Put("abc"); e != api.OK || got != h {
		t.Errorf("Put: %x, %d", got, e)
	}
	if y, e := s.Get(h); e != api.OK || y != "abc" || s.Len() != 1 {
		t.Errorf("Get behind Put: %.20q, %d; %d texts", y, e, s.Len())
	}
}

// P1, P6: the errors, which goes first, and that nothing comes of them.
func TestErrors(t *testing.T) {
	s := store.New()
	h := keccak.Sum("abc")
	s.Put("abc")
	for _, n := range []int{4097, 5000, 1 << 20} {
		if got, e := s.Put(letters(n)); got != "" || e != api.ErrLong {
			t.Errorf("Put of %d bytes: %x, %d", n, got, e)
		}
		if e := s.Lay(h, letters(n)); e != api.ErrLong {
			t.Errorf("Lay of %d bytes: %d", n, e)
		}
	}
	for _, bad := range []string{"", "k", letters(31), letters(33), h + h, h[:31], h + "\x00"} {
		if e := s.Lay(bad, "x"); e != api.ErrLen {
			t.Errorf("Lay under %d bytes: %d", len(bad), e)
		}
		if e := s.Lay(bad, letters(4097)); e != api.ErrLen {
			t.Errorf("Lay of a long text under %d bytes: %d", len(bad), e)
		}
		if x, e := s.Get(bad); x != "" || e != api.ErrLen {
			t.Errorf("Get of %d bytes: %q, %d", len(bad), x, e)
		}
		if e := s.Lose(bad); e != api.ErrLen {
			t.Errorf("Lose of %d bytes: %d", len(bad), e)
		}
	}
	if x, e := s.Get(h); x != "abc" || e != api.OK || s.Len() != 1 {
		t.Errorf("what was there: %q, %d; %d texts", x, e, s.Len())
	}
}

// P6: a text that is lost is lost once, and may come again.
func TestLose(t *testing.T) {
	s := store.New()
	h, _ := s.Put("abc")
	for range 2 {
		if e := s.Lose(h); e != api.OK {
			t.Errorf("Lose: %d", e)
		}
		if e := s.Lose(h); e != api.ErrMissing {
			t.Errorf("Lose once more: %d", e)
		}
		if x, e := s.Get(h); x != "" || e != api.ErrMissing || s.Len() != 0 || s.Hashes() != nil {
			t.Errorf("behind Lose: %q, %d, %d texts, %q", x, e, s.Len(), s.Hashes())
		}
		s.Put("abc")
		if x, e := s.Get(h); x != "abc" || e != api.OK {
			t.Errorf("put again: %q, %d", x, e)
		}
	}
}

// P2: the list of hashes is the caller's, spare room and all.
func TestHashesAreFresh(t *testing.T) {
	s := store.New()
	for i := range 9 {
		s.Put(letters(i))
	}
	want := fmt.Sprintf("%x", s.Hashes())
	l := s.Hashes()
	l = l[:cap(l)]
	for i := range l {
		l[i] = "mine"
	}
	if got := fmt.Sprintf("%x", s.Hashes()); got != want {
		t.Errorf("%s, want %s", got, want)
	}
	l = s.Hashes()
	s.Put("more")
	s.Lose(l[0])
	if got := fmt.Sprintf("%x", l); got != want {
		t.Errorf("an earlier list: %s, want %s", got, want)
	}
}

// P2: two stores have nothing in common.
func TestTwoStores(t *testing.T) {
	a, b := store.New(), store.New()
	h, _ := a.Put("abc")
	if _, e := b.Get(h); e != api.ErrMissing || b.Len() != 0 {
		t.Errorf("the other store: %d, %d texts", e, b.Len())
	}
	b.Lay(h, "bent")
	if x, e := a.Get(h); x != "abc" || e != api.OK {
		t.Errorf("the first store: %q, %d", x, e)
	}
}

// hashes: such as differ in their first, a middle or their last byte.
func hashes() []string {
	var out []string
	for _, first := range []byte{0, 1, 127, 128, 255} {
		for _, middle := range []byte{0, 128, 255} {
			for _, last := range []byte{0, 1, 127, 128, 255} {
				b := make([]byte, 32)
				b[0], b[15], b[31] = first, middle, last
				out = append(out, string(b))
			}
		}
	}
	return out
}

// compare tells whether a store has just what a Go map has.
func compare(t *testing.T, s *store.Store, want map[string]string, all []string) {
	t.Helper()
	var keys []string
	for h := range want {
		keys = append(keys, h)
	}
	sort.Strings(keys)
	if s.Len() != len(want) || !slices.Equal(s.Hashes(), keys) {
		t.Fatalf("%d texts, want %d; hashes %x, want %x", s.Len(), len(want), s.Hashes(), keys)
	}
	for _, h := range all {
		x, there := want[h]
		e := api.OK
		if !there {
			e = api.ErrMissing
		}
		if got, f := s.Get(h); got != x || f != e {
			t.Fatalf("Get(%x): %q, %d, want %q, %d", h, got, f, x, e)
		}
	}
}

// P6: a long game against a Go map.
func TestGame(t *testing.T) {
	r := rand.New(rand.NewSource(6))
	all := hashes()
	for i := range 30 {
		all = append(all, keccak.Sum(letters(i)))
	}
	s := store.New()
	want := map[string]string{}
	for i := range 6000 {
		h := all[r.Intn(len(all))]
		switch k := r.Intn(10); {
		case k < 4:
			x := letters(r.Intn(5))
			if e := s.Lay(h, x); e != api.OK {
				t.Fatalf("Lay: %d", e)
			}
			want[h] = x
		case k < 6:
			x := letters(r.Intn(30))
			if got, e := s.Put(x); e != api.OK || got != keccak.Sum(x) {
				t.Fatalf("Put: %d", e)
			}
			want[keccak.Sum(x)] = x
		default:
			_, there := want[h]
			if e := s.Lose(h); (e == api.OK) != there || !there && e != api.ErrMissing {
				t.Fatalf("Lose: %d", e)
			}
			delete(want, h)
		}
		if i%10 == 0 {
			compare(t, s, want, all)
		}
	}
	compare(t, s, want, all)
}

// P6: many texts, more than a shelf has at first.
func TestMany(t *testing.T) {
	s := store.New()
	want := map[string]string{}
	for i := range 20000 {
		x := fmt.Sprint("text ", i)
		h, _ := s.Put(x)
		want[h] = x
	}
	i := 0
	for _, h := range s.Hashes() {
		if i++; i%3 == 0 {
			s.Lose(h)
			delete(want, h)
		}
	}
	compare(t, s, want, s.Hashes())
}
