package rlp_test

import (
	"encoding/hex"
	"fmt"
	"strings"
	"testing"

	"ledger/api"
	"ledger/rlp"
)

func text(s string) api.Item { return api.Item{Text: s} }

func list(kids ...api.Item) api.Item { return api.Item{List: true, Kids: kids} }

// nest makes lists in one another, n levels of them, around what is given.
func nest(n int, inner ...api.Item) api.Item {
	it := list(inner...)
	for ; n > 1; n-- {
		it = list(it)
	}
	return it
}

// many makes a list of n times an item.
func many(n int, it api.Item) api.Item {
	l := list()
	for range n {
		l.Kids = append(l.Kids, it)
	}
	return l
}

func letters(n int) string { return strings.Repeat("k", n) }

func fromHex(t *testing.T, s string) string {
	b, e := hex.DecodeString(s)
	if e != nil {
		t.Fatal(s, e)
	}
	return string(b)
}

// same: whether two items are one, but for what is free.
func same(a, b api.Item) bool {
	if a.List != b.List || !a.List && a.Text != b.Text {
		return false
	}
	if !a.List {
		return true
	}
	if len(a.Kids) != len(b.Kids) {
		return false
	}
	for i := range a.Kids {
		if !same(a.Kids[i], b.Kids[i]) {
			return false
		}
	}
	return true
}

func nothing(it api.Item) bool { return !it.List && it.Text == "" && it.Kids == nil }

// check tells of an item with a code whether both calls know it.
func check(t *testing.T, it api.Item, code string) {
	t.Helper()
	got, e := rlp.Encode(it)
	if e != api.OK || got != code {
		t.Errorf("Encode: %.40x (%d bytes), %d, want %.40x", got, len(got), e, code)
	}
	back, e := rlp.Decode(code)
	if e != api.OK || !same(back, it) {
		t.Errorf("Decode(%.40x): %d", code, e)
	}
}

// P4: the document's answers, and small items.
func TestExamples(t *testing.T) {
	for _, c := range []struct {
		it   api.Item
		code string
	}{
		{text("dog"), "83646f67"},
		{text(""), "80"},
		{text("\x04\x00"), "820400"},
		{text("\x0f"), "0f"},
		{text("\x00"), "00"},
		{text("\x7f"), "7f"},
		{text("\x80"), "8180"},
		{text("\xff"), "81ff"},
		{text("\x00\x00"), "820000"},
		{list(text("cat"), text("dog")), "c88363617483646f67"},
		{list(), "c0"},
		{list(text("")), "c180"},
		{list(list()), "c1c0"},
		{list(list(), list(list()), list(list(), list(list()))), "c7c0c1c0c3c0c1c0"},
		{list(text("a"), list(text("b"), text("")), text("\x81")), "c661c262808181"},
		{nest(6), "c5c4c3c2c1c0"},
		{nest(6, text("a")), "c6c5c4c3c2c161"},
	} {
		check(t, c.it, fromHex(t, c.code))
	}
}

// P4: the forms of the head, at the lengths where they change.
func TestHeads(t *testing.T) {
	for _, c := range []struct {
		n          int
		text, list string
	}{
		{2, "82", "c2"},
		{54, "b6", "f6"},
		{55, "b7", "f7"},
		{56, "b838", "f838"},
		{57, "b839", "f839"},
		{255, "b8ff", "f8ff"},
		{256, "b90100", "f90100"},
		{257, "b90101", "f90101"},
		{4092, "b90ffc", "f90ffc"},
		{4093, "b90ffd", "f90ffd"},
	} {
		check(t, text(letters(c.n)), fromHex(t, c.text)+letters(c.n))
		kids, content := filling(c.n)
		if len(content) != c.n {
			t.Fatalf("%d bytes, want %d", len(content), c.n)
		}
		check(t, list(kids...), fromHex(t, c.list)+content)
	}
}

// filling tells items whose codes have n bytes together, and these codes.
func filling(n int) ([]api.Item, string) {
	if n <= 64 {
		return many(n, text("k")).Kids, letters(n)
	}
	if n <= 257 {
		return []api.Item{text(letters(n - 2))}, string([]byte{184, byte(n - 2)}) + letters(n-2)
	}
	return []api.Item{text(letters(n - 3))}, string([]byte{185, byte((n - 3) >> 8), byte(n - 3)}) + letters(n-3)
}

// P4: what an item has that its kind does not use is not looked at.
func TestUnusedFields(t *testing.T) {
	code, e := rlp.Encode(api.Item{Text: "dog", Kids: []api.Item{nest(7), text(letters(5000))}})
	if e != api.OK || code != "\x83dog" {
		t.Errorf("a text with kids: %x, %d", code, e)
	}
	code, e = rlp.Encode(api.Item{List: true, Text: letters(5000), Kids: []api.Item{text("a")}})
	if e != api.OK || code != "\xc1a" {
		t.Errorf("a list with a text: %x, %d", code, e)
	}
	code, e = rlp.Encode(api.Item{Text: "a", Kids: many(65, text("")).Kids})
	if e != api.OK || code != "a" {
		t.Errorf("a text with 65 kids: %x, %d", code, e)
	}
}

// P1, P4: the bounds of Encode; ErrDepth goes ahead of ErrLong.
func TestEncodeBounds(t *testing.T) {
	long := text(letters(5000))
	for _, c := range []struct {
		name string
		it   api.Item
		want api.Errno
	}{
		{"six levels", nest(6, text("a")), api.OK},
		{"seven levels", nest(7), api.ErrDepth},
		{"seven levels behind others", list(text("a"), list(), nest(6)), api.ErrDepth},
		{"six levels behind others", list(text("a"), list(), nest(5)), api.OK},
		{"hundred levels", nest(100), api.ErrDepth},
		{"64 items", many(64, text("")), api.OK},
		{"65 items", many(65, text("")), api.ErrDepth},
		{"65 items at the sixth level", nest(6, many(65, text("")).Kids...), api.ErrDepth},
		{"64 items at the sixth level", nest(6, many(64, text("")).Kids...), api.OK},
		{"64 lists of 61 items", many(64, many(61, text(""))), api.OK},
		{"64 lists of 64 items", many(64, many(64, text(""))), api.ErrLong},
		{"4,096 bytes", text(letters(4093)), api.OK},
		{"4,097 bytes", text(letters(4094)), api.ErrLong},
		{"a text of 4,096 bytes", text(letters(4096)), api.ErrLong},
		{"a text of 2^20 bytes", text(letters(1 << 20)), api.ErrLong},
		{"a list of 4,096 bytes", list(text(letters(4090))), api.OK},
		{"a list of 4,097 bytes", list(text(letters(4091))), api.ErrLong},
		{"a list of two", list(text(letters(2044)), text(letters(2043))), api.OK},
		{"a list of two, longer", list(text(letters(2044)), text(letters(2044))), api.ErrLong},
		{"long, then deep", list(long, nest(6)), api.ErrDepth},
		{"deep, then long", list(nest(6), long), api.ErrDepth},
		{"long, then wide", list(long, many(65, text(""))), api.ErrDepth},
		{"long and wide", many(65, long), api.ErrDepth},
		{"long", list(long, nest(5)), api.ErrLong},
	} {
		code, e := rlp.Encode(c.it)
		if e != c.want || (code == "") != (e != api.OK) || len(code) > 4096 {
			t.Errorf("%s: %d bytes, %d, want %d", c.name, len(code), e, c.want)
		}
		if e != api.OK {
			continue
		}
		if back, e := rlp.Decode(code); e != api.OK || !same(back, c.it) {
			t.Errorf("%s and back: %d", c.name, e)
		}
	}
}

// P1: lists that lie in themselves, or in many places.
func TestEncodeEnds(t *testing.T) {
	for _, n := range []int{1, 2, 64} {
		kids := make([]api.Item, n)
		for i := range kids {
			kids[i] = api.Item{List: true, Kids: kids}
		}
		if code, e := rlp.Encode(list(kids...)); e != api.ErrDepth || code != "" {
			t.Errorf("%d lists in themselves: %d", n, e)
		}
	}
	it := text("")
	for range 6 {
		it = many(16, it)
	}
	if code, e := rlp.Encode(it); e != api.ErrLong || code != "" {
		t.Errorf("16 lists of 16 lists, six times: %d", e)
	}
	if code, e := rlp.Encode(list(it)); e != api.ErrDepth || code != "" {
		t.Errorf("16 lists of 16 lists, seven levels: %d", e)
	}
}

// P4: Decode's faults; where there are two, which one is told.
func TestDecodeFaults(t *testing.T) {
	for _, c := range []struct {
		code string
		want api.Errno
	}{
		{"8100", api.ErrForm},
		{"b80101", api.ErrForm},
		{"c2820102", api.ErrEnd},
		{"83646f", api.ErrEnd},
		{"0f00", api.ErrExtra},
		{"", api.ErrEnd},
		// a head alone
		{"81", api.ErrEnd}, {"b7", api.ErrEnd}, {"b8", api.ErrEnd}, {"bf", api.ErrEnd},
		{"c1", api.ErrEnd}, {"f7", api.ErrEnd}, {"f8", api.ErrEnd}, {"ff", api.ErrEnd},
		// bytes of the length that are not there go ahead of their form
		{"b900", api.ErrEnd}, {"f900", api.ErrEnd}, {"bf00000000000000", api.ErrEnd},
		// the form of the length goes ahead of the content
		{"b800", api.ErrForm}, {"b837", api.ErrForm}, {"f800", api.ErrForm}, {"f837", api.ErrForm},
		{"b90000", api.ErrForm}, {"b900ff", api.ErrForm}, {"b90038", api.ErrForm}, {"bf0000000000000000", api.ErrForm},
		{"b838", api.ErrEnd}, {"f838", api.ErrEnd}, {"b90100", api.ErrEnd},
		// lengths that no int has
		{"bfffffffffffffffff", api.ErrEnd}, {"ffffffffffffffffff", api.ErrEnd},
		{"bf8000000000000000", api.ErrEnd}, {"ff8000000000000000", api.ErrEnd},
		{"bf7fffffffffffffff", api.ErrEnd}, {"ff7fffffffffffffff", api.ErrEnd},
		{"ff0100000000000000", api.ErrEnd},
		// a byte below 128 behind a head
		{"817f", api.ErrForm}, {"8180", api.OK}, {"c28100", api.ErrForm}, {"810000", api.ErrForm},
		// what is left is that of the innermost list
		{"c1b838", api.ErrEnd}, {"c18161", api.ErrEnd}, {"c3c18180", api.ErrEnd}, {"c2c261", api.ErrEnd},
		{"c2c16161", api.ErrExtra},
		// an item behind the item, and a fault ahead of it
		{"c000", api.ErrExtra}, {"8080", api.ErrExtra}, {"c18100", api.ErrEnd}, {"c2810000", api.ErrForm}, {"0081", api.ErrExtra},
		// levels: a head's own faults go ahead of its level
		{"c5c4c3c2c1c0", api.OK}, {"c6c5c4c3c2c1c0", api.ErrDepth}, {"c6c5c4c3c2c1c1", api.ErrEnd},
		{"c6c5c4c3c2c1f8", api.ErrEnd}, {"c7c6c5c4c3c2f800", api.ErrForm}, {"c7c6c5c4c3c2c181", api.ErrDepth},
		{"c6c5c4c3c2c16100", api.ErrExtra}, {"c6c5c4c3c2c1c000", api.ErrDepth},
		{"c0c6c5c4c3c2c1c0", api.ErrExtra},
	} {
		it, e := rlp.Decode(fromHex(t, c.code))
		if e != c.want || e != api.OK && !nothing(it) {
			t.Errorf("%s: %d, want %d", c.code, e, c.want)
		}
	}
}

// P4: a list's 65th item, and what goes ahead of it or behind.
func TestDecodeItems(t *testing.T) {
	full := strings.Repeat("\x80", 64)
	for _, c := range []struct {
		name string
		code string
		want api.Errno
	}{
		{"64", "\xf8\x40" + full, api.OK},
		{"65", "\xf8\x41" + full + "\x80", api.ErrDepth},
		{"the 65th at fault", "\xf8\x41" + full + "\x81", api.ErrDepth},
		{"the 65th at fault in its form", "\xf8\x42" + full + "\x81\x00", api.ErrDepth},
		{"the 64th at fault", "\xf8\x41" + full[1:] + "\x81\x00", api.ErrForm},
		{"the 64th ends", "\xf8\x40" + full[1:] + "\x81", api.ErrEnd},
		{"64, something behind", "\xf8\x40" + full + "\x80", api.ErrExtra},
		{"64 in a list, and one behind", "\xf8\x43\xf8\x40" + full + "\x80", api.OK},
		{"65 in a list", "\xf8\x43\xf8\x41" + full + "\x80", api.ErrDepth},
		{"the list ends ahead of its 65 items", "\xf8\x41" + full, api.ErrEnd},
	} {
		it, e := rlp.Decode(c.code)
		if e != c.want || e != api.OK && !nothing(it) {
			t.Errorf("%s: %d, want %d", c.name, e, c.want)
		}
	}
}

// P1, P4: ErrLong goes ahead of all that s may be.
func TestDecodeLong(t *testing.T) {
	for _, c := range []struct {
		code string
		want api.Errno
	}{
		{"\xb9\x0f\xfd" + letters(4093), api.OK},
		{"\xb9\x0f\xfe" + letters(4094), api.ErrLong},
		{"a" + letters(4095), api.ErrExtra},
		{"a" + letters(4096), api.ErrLong},
		{strings.Repeat("\xff", 4097), api.ErrLong},
		{strings.Repeat("\xc1", 4096), api.ErrEnd},
		{strings.Repeat("\xc0", 1<<20), api.ErrLong},
	} {
		it, e := rlp.Decode(c.code)
		if e != c.want || e != api.OK && !nothing(it) {
			t.Errorf("%.3x, %d bytes: %d, want %d", c.code, len(c.code), e, c.want)
		}
	}
}

// P2: Encode writes neither into a list nor into its spare room.
func TestEncodeWritesNothing(t *testing.T) {
	room := []api.Item{text("a"), list(text("b")), text("spare"), text("more")}
	it := api.Item{List: true, Kids: room[:2]}
	before := fmt.Sprint(room)
	if code, e := rlp.Encode(it); e != api.OK || code != "\xc3a\xc1b" {
		t.Errorf("%x, %d", code, e)
	}
	if fmt.Sprint(room) != before {
		t.Errorf("%v is %v now", before, room)
	}
}

// P2: the lists of an answer are the caller's, spare room and all.
func TestDecodeIsFresh(t *testing.T) {
	code := "\xcc\xc2ab\xc3cde\xc0\xc3\xc2fg"
	first, e := rlp.Decode(code)
	if e != api.OK {
		t.Fatal(e)
	}
	// Each list is filled up to its last spare place; the others stay.
	spoil(first.Kids[0].Kids)
	if got, _ := rlp.Encode(api.Item{List: true, Kids: first.Kids[1:]}); got != "\xc9\xc3cde\xc0\xc3\xc2fg" {
		t.Errorf("a list's room is another's: %x", got)
	}
	spoil(first.Kids[1].Kids)
	spoil(first.Kids[3].Kids[0].Kids)
	spoil(first.Kids)
	second, e := rlp.Decode(code)
	if got, _ := rlp.Encode(second); e != api.OK || got != code {
		t.Errorf("the second answer is changed: %x, %d", got, e)
	}
}

func spoil(l []api.Item) {
	l = l[:cap(l)]
	for i := range l {
		l[i] = text("spoilt")
	}
}
