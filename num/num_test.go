package num_test

import (
	"math"
	"math/big"
	"math/rand"
	"strings"
	"testing"

	"ledger/num"
)

// P11: the highest byte first, the first not 0; empty for 0.
func TestText(t *testing.T) {
	for _, c := range []struct {
		n    int
		want string
	}{
		{0, ""},
		{1, "\x01"},
		{127, "\x7f"},
		{128, "\x80"},
		{255, "\xff"},
		{256, "\x01\x00"},
		{257, "\x01\x01"},
		{65535, "\xff\xff"},
		{65536, "\x01\x00\x00"},
		{math.MaxInt, "\x7f\xff\xff\xff\xff\xff\xff\xff"},
		{-1, ""},
		{math.MinInt, ""},
	} {
		if got := num.Text(c.n); got != c.want {
			t.Errorf("Text(%d): %x, want %x", c.n, got, c.want)
		}
	}
}

// P11: of at most 32 bytes.
func TestIs(t *testing.T) {
	for _, c := range []struct {
		text string
		want bool
	}{
		{"", true},
		{"\x00", false},
		{"\x01", true},
		{"\xff", true},
		{"\x00\x01", false},
		{"\x01\x00", true},
		{strings.Repeat("\xff", 31), true},
		{strings.Repeat("\xff", 32), true},
		{strings.Repeat("\xff", 33), false},
		{"\x00" + strings.Repeat("\xff", 31), false},
		{strings.Repeat("\x01", 1<<16), false},
	} {
		if got := num.Is(c.text); got != c.want {
			t.Errorf("Is(%x): %v, want %v", c.text, got, c.want)
		}
	}
}

// P12: a nonce is below 2^63.
func TestInt(t *testing.T) {
	for _, c := range []struct {
		text string
		want int
		ok   bool
	}{
		{"", 0, true},
		{"\x01", 1, true},
		{"\x80", 128, true},
		{"\x01\x00", 256, true},
		{"\x80\x00\x00\x00\x00\x00\x00", 1 << 55, true},
		{"\x7f\xff\xff\xff\xff\xff\xff\xff", math.MaxInt, true},
		{"\x80\x00\x00\x00\x00\x00\x00\x00", 0, false},
		{"\xff\xff\xff\xff\xff\xff\xff\xff", 0, false},
		{"\x01\x00\x00\x00\x00\x00\x00\x00\x00", 0, false},
		{"\x00", 0, false},
		{"\x00\x01", 0, false},
		{strings.Repeat("\x01", 32), 0, false},
		{strings.Repeat("\x01", 33), 0, false},
	} {
		if got, ok := num.Int(c.text); got != c.want || ok != c.ok {
			t.Errorf("Int(%x): %d, %v, want %d, %v", c.text, got, ok, c.want, c.ok)
		}
	}
}

// P11: numbers of every size, there and back.
func TestBothWays(t *testing.T) {
	r := rand.New(rand.NewSource(1))
	for range 20000 {
		n := r.Int() >> r.Intn(63)
		text := num.Text(n)
		if want := string(big.NewInt(int64(n)).Bytes()); text != want {
			t.Fatalf("Text(%d): %x, want %x", n, text, want)
		}
		if got, ok := num.Int(text); got != n || !ok || !num.Is(text) {
			t.Fatalf("Int(%x): %d, %v, want %d", text, got, ok, n)
		}
	}
}
