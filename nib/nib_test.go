package nib_test

import (
	"encoding/hex"
	"strings"
	"testing"

	"ledger/api"
	"ledger/nib"
)

// paths tells all paths of n half bytes.
func paths(n int) []string {
	if n == 0 {
		return []string{""}
	}
	var l []string
	for _, p := range paths(n - 1) {
		for d := range 16 {
			l = append(l, p+string([]byte{byte(d)}))
		}
	}
	return l
}

// P5: the document's answers, and both forms of both kinds.
func TestExamples(t *testing.T) {
	for _, c := range []struct {
		path string
		leaf bool
		want string
	}{
		{"\x01\x02\x03\x04\x05", false, "112345"},
		{"\x00\x0f\x01\x0c\x0b\x08", true, "200f1cb8"},
		{"\x00\x01\x02\x03\x04\x05", false, "00012345"},
		{"\x0f\x01\x0c\x0b\x08", true, "3f1cb8"},
		{"", false, "00"},
		{"", true, "20"},
		{"\x00", false, "10"},
		{"\x00", true, "30"},
		{"\x0f", false, "1f"},
		{"\x00\x00", false, "0000"},
		{"\x0f\x0f", true, "20ff"},
	} {
		got, e := nib.Pack(c.path, c.leaf)
		if e != api.OK || hex.EncodeToString([]byte(got)) != c.want {
			t.Errorf("Pack(%x, %v): %x, %d, want %s", c.path, c.leaf, got, e, c.want)
		}
		path, leaf, e := nib.Unpack(got)
		if e != api.OK || path != c.path || leaf != c.leaf {
			t.Errorf("Unpack(%s): %x, %v, %d", c.want, path, leaf, e)
		}
	}
}

// P5: Unpack takes just what Pack makes: all texts of at most two bytes.
func TestUnpackTakesWhatPackMakes(t *testing.T) {
	type origin struct {
		path string
		leaf bool
	}
	made := map[string]origin{}
	for n := range 4 {
		for _, p := range paths(n) {
			for _, leaf := range []bool{false, true} {
				text, e := nib.Pack(p, leaf)
				if _, twice := made[text]; twice || e != api.OK || len(text) != n/2+1 {
					t.Fatalf("Pack(%x, %v): %x, %d", p, leaf, text, e)
				}
				made[text] = origin{p, leaf}
			}
		}
	}
	texts := []string{""}
	for a := range 256 {
		texts = append(texts, string([]byte{byte(a)}))
		for b := range 256 {
			texts = append(texts, string([]byte{byte(a), byte(b)}))
		}
	}
	for _, s := range texts {
		path, leaf, e := nib.Unpack(s)
		want, ok := made[s]
		if ok && (e != api.OK || path != want.path || leaf != want.leaf) {
			t.Errorf("%x: %x, %v, %d", s, path, leaf, e)
		}
		if !ok && (e != api.ErrForm || path != "" || leaf) {
			t.Errorf("%x is Pack of nothing: %x, %v, %d", s, path, leaf, e)
		}
	}
}

// P5: there and back, at all lengths up to some and at the longest.
func TestLengths(t *testing.T) {
	var l []int
	for n := range 200 {
		l = append(l, n)
	}
	for _, n := range append(l, 8189, 8190, 8191) {
		b := make([]byte, n)
		for i := range b {
			b[i] = byte((i*7 + n) % 16)
		}
		for _, leaf := range []bool{false, true} {
			text, e := nib.Pack(string(b), leaf)
			if e != api.OK || len(text) != n/2+1 {
				t.Fatalf("%d half bytes: %d bytes, %d", n, len(text), e)
			}
			path, back, e := nib.Unpack(text)
			if e != api.OK || path != string(b) || back != leaf {
				t.Errorf("%d half bytes and back: %d", n, e)
			}
		}
	}
}

// P1, P5: wrong paths; what is named first is told first.
func TestPackErrors(t *testing.T) {
	noughts := strings.Repeat("\x00", 8190)
	for _, c := range []struct {
		path string
		want api.Errno
	}{
		{noughts + "\x0f", api.OK},
		{noughts + "\x00\x00", api.ErrLong},
		{noughts + "\x00\x10", api.ErrLong},
		{noughts + noughts, api.ErrLong},
		{noughts + "\x10", api.ErrArg},
		{"\x10" + noughts, api.ErrArg},
		{"\x10", api.ErrArg},
		{"\xff", api.ErrArg},
		{"\x01\x10", api.ErrArg},
		{"\x10\x01", api.ErrArg},
		{"\x01\x02\x80", api.ErrArg},
	} {
		for _, leaf := range []bool{false, true} {
			got, e := nib.Pack(c.path, leaf)
			if e != c.want || (got == "") != (e != api.OK) {
				t.Errorf("%d half bytes, %v: %d, want %d", len(c.path), leaf, e, c.want)
			}
		}
	}
	for b := range 256 {
		for _, path := range []string{string([]byte{byte(b)}), string([]byte{0, byte(b)}), string([]byte{byte(b), 0})} {
			if _, e := nib.Pack(path, true); (e == api.ErrArg) != (b > 15) {
				t.Errorf("%x: %d", path, e)
			}
		}
	}
}

// P1, P5: texts that are too long, of whatever form, and the longest ones.
func TestUnpackErrors(t *testing.T) {
	rest := strings.Repeat("\xab", 4095)
	for _, c := range []struct {
		t    string
		want api.Errno
		n    int
		leaf bool
	}{
		{"\x00" + rest, api.OK, 8190, false},
		{"\x1a" + rest, api.OK, 8191, false},
		{"\x20" + rest, api.OK, 8190, true},
		{"\x3a" + rest, api.OK, 8191, true},
		{"\x01" + rest, api.ErrForm, 0, false},
		{"\x2f" + rest, api.ErrForm, 0, false},
		{"\x40" + rest, api.ErrForm, 0, false},
		{"\x20" + rest + "a", api.ErrLong, 0, false},
		{"\xff" + rest + "a", api.ErrLong, 0, false},
		{"\x20" + rest + rest, api.ErrLong, 0, false},
		{"", api.ErrForm, 0, false},
	} {
		path, leaf, e := nib.Unpack(c.t)
		if e != c.want || len(path) != c.n || leaf != c.leaf {
			t.Errorf("%.4x, %d bytes: %d half bytes, %v, %d, want %d", c.t, len(c.t), len(path), leaf, e, c.want)
		}
	}
}
