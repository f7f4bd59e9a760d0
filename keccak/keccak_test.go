package keccak_test

import (
	"crypto/sha3"
	"encoding/hex"
	"math/rand"
	"strings"
	"testing"

	"ledger/keccak"
)

// pattern makes a text of n bytes with no short period.
func pattern(n int) string {
	b := make([]byte, n)
	for i := range b {
		b[i] = byte(i*i*7 + i>>8 + 3)
	}
	return string(b)
}

// slow does P3 bit by bit of its words, with any padding byte.
func slow(s string, pad byte) string {
	text := []byte(s)
	text = append(text, pad)
	for len(text)%136 != 0 {
		text = append(text, 0)
	}
	text[len(text)-1] ^= 128
	var w [5][5]uint64
	for at := 0; at < len(text); at += 136 {
		for i := 0; i < 136; i++ {
			w[i/8%5][i/8/5] ^= uint64(text[at+i]) << (i % 8 * 8)
		}
		w = slowRounds(w)
	}
	out := make([]byte, 32)
	for i := range out {
		out[i] = byte(w[i/8%5][i/8/5] >> (i % 8 * 8))
	}
	return string(out)
}

// slowRounds makes its own r and k from the rules of Keccak, not from tables.
func slowRounds(w [5][5]uint64) [5][5]uint64 {
	left := func(v uint64, n int) uint64 { return v<<(n%64) | v>>(64-n%64) }
	bits := 1
	for range 24 {
		var c [5]uint64
		for x := range 5 {
			for y := range 5 {
				c[x] ^= w[x][y]
			}
		}
		for x := range 5 {
			for y := range 5 {
				w[x][y] ^= c[(x+4)%5] ^ left(c[(x+1)%5], 1)
			}
		}
		var v [5][5]uint64
		v[0][0] = w[0][0]
		x, y := 1, 0
		for t := range 24 {
			v[y][(2*x+3*y)%5] = left(w[x][y], (t+1)*(t+2)/2)
			x, y = y, (2*x+3*y)%5
		}
		for x := range 5 {
			for y := range 5 {
				w[x][y] = v[x][y] ^ ^v[(x+1)%5][y]&v[(x+2)%5][y]
			}
		}
		for j := range 7 {
			w[0][0] ^= uint64(bits&1) << (1<<j - 1)
			bits <<= 1
			if bits > 255 {
				bits ^= 0x171
			}
		}
	}
	return w
}

// lengths are those around the blocks' ends, and some others.
func lengths() []int {
	var l []int
	for n := 0; n <= 300; n++ {
		l = append(l, n)
	}
	return append(l, 406, 407, 408, 409, 543, 544, 545, 1000, 4095, 4096, 4097, 20000)
}

// P3: the answers that the document gives.
func TestExamples(t *testing.T) {
	for _, c := range []struct{ s, want string }{
		{"", "c5d2460186f7233c927e7db2dcc703c0e500b653ca82273b7bfad8045d85a470"},
		{"abc", "4e03657aea45a94fc7d47ba826c8d667c0d1e6e33a64a036ec44f58fa12d6c45"},
		{"\x80", "56e81f171bcc55a6ff8345e692c0f86e5b48e01b996cadc001622fb5e363b421"},
	} {
		if got := hex.EncodeToString([]byte(keccak.Sum(c.s))); got != c.want {
			t.Errorf("%q: %s, want %s", c.s, got, c.want)
		}
	}
}

// P3: all lengths around a block's end, against the slow way; which is right,
// since with the padding byte 6 it is SHA-3.
func TestAgainstSlow(t *testing.T) {
	for _, n := range lengths() {
		s := pattern(n)
		other := sha3.Sum256([]byte(s))
		if slow(s, 6) != string(other[:]) {
			t.Fatalf("%d bytes: the slow way is wrong", n)
		}
		got := keccak.Sum(s)
		if got != slow(s, 1) {
			t.Errorf("%d bytes: %x", n, got)
		}
		if got == string(other[:]) {
			t.Errorf("%d bytes: the hash is SHA-3's", n)
		}
	}
}

// P3: the pieces in which a text comes do not matter.
func TestPieces(t *testing.T) {
	r := rand.New(rand.NewSource(1))
	for _, n := range lengths() {
		s := pattern(n)
		h := keccak.New()
		for at := 0; at < n; {
			k := min(n-at, r.Intn(200))
			h.Write(s[at : at+k])
			h.Write("")
			at += k
			if h.Sum() != keccak.Sum(s[:at]) {
				t.Fatalf("%d of %d bytes", at, n)
			}
		}
		if h.Sum() != keccak.Sum(s) {
			t.Errorf("%d bytes in pieces", n)
		}
	}
	one := keccak.New()
	s := pattern(700)
	for i := range len(s) {
		one.Write(s[i : i+1])
	}
	if one.Sum() != keccak.Sum(s) {
		t.Error("byte by byte")
	}
}

// P3: Sum changes nothing.
func TestSumChangesNothing(t *testing.T) {
	for _, n := range []int{0, 1, 135, 136, 137, 272} {
		h := keccak.New()
		h.Write(pattern(n))
		first := h.Sum()
		for range 3 {
			if h.Sum() != first {
				t.Errorf("%d bytes: another Sum is another", n)
			}
		}
		h.Write("more")
		if h.Sum() != keccak.Sum(pattern(n)+"more") {
			t.Errorf("%d bytes, and more behind a Sum", n)
		}
	}
}

// P3: behind Reset nothing has been taken, wherever in a block it comes.
func TestReset(t *testing.T) {
	for _, n := range []int{0, 1, 135, 136, 137, 200, 272} {
		h := keccak.New()
		h.Write(pattern(n))
		h.Reset()
		if h.Sum() != keccak.Sum("") {
			t.Errorf("Reset behind %d bytes", n)
		}
		h.Write("abc")
		if h.Sum() != keccak.Sum("abc") {
			t.Errorf("abc, and Reset behind %d bytes", n)
		}
	}
}

// P2, P3: a copy and what it was made of do not change one another.
func TestCopy(t *testing.T) {
	for _, n := range []int{0, 1, 135, 136, 137, 271, 272} {
		s := pattern(n)
		h := keccak.New()
		h.Write(s)
		c := h.Copy()
		if c.Sum() != keccak.Sum(s) {
			t.Errorf("%d bytes: the copy has taken something else", n)
		}
		h.Write(pattern(150))
		if c.Sum() != keccak.Sum(s) {
			t.Errorf("%d bytes: the copy took what came behind", n)
		}
		c.Write("other")
		d := c.Copy()
		c.Reset()
		if h.Sum() != keccak.Sum(s+pattern(150)) || c.Sum() != keccak.Sum("") || d.Sum() != keccak.Sum(s+"other") {
			t.Errorf("%d bytes: a copy changed another", n)
		}
	}
}

// P2: two that are used by turns are as if each were alone.
func TestTwoAtOnce(t *testing.T) {
	a, b := keccak.New(), keccak.New()
	for range 50 {
		a.Write("seven b")
		b.Write("nine byte")
	}
	if a.Sum() != keccak.Sum(strings.Repeat("seven b", 50)) || b.Sum() != keccak.Sum(strings.Repeat("nine byte", 50)) {
		t.Error("one changed the other")
	}
}

// P1: a long text, and all single bytes.
func TestEnds(t *testing.T) {
	seen := map[string]bool{}
	for b := range 256 {
		seen[keccak.Sum(string([]byte{byte(b)}))] = true
	}
	if len(seen) != 256 {
		t.Errorf("%d hashes of 256 bytes", len(seen))
	}
	if got := keccak.Sum(strings.Repeat("a", 1<<22)); len(got) != 32 {
		t.Errorf("a long text's hash has %d bytes", len(got))
	}
}
