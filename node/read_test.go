package node_test

import (
	"math/rand"
	"strings"
	"testing"

	"ledger/api"
	"ledger/keccak"
	"ledger/nib"
	"ledger/node"
	"ledger/rlp"
)

func text(s string) api.Item { return api.Item{Text: s} }

func list(kids ...api.Item) api.Item { return api.Item{List: true, Kids: kids} }

func letters(n int) string { return strings.Repeat("k", n) }

func codeOf(it api.Item) string {
	code, e := rlp.Encode(it)
	if e != api.OK {
		panic(e)
	}
	return code
}

func packed(path string, leaf bool) api.Item {
	t, e := nib.Pack(path, leaf)
	if e != api.OK {
		panic(e)
	}
	return text(t)
}

// fault: why P8 says that a text is no node behind so many half bytes; empty if
// it is one.
func fault(s string, depth int, below bool) string {
	it, e := rlp.Decode(s)
	if e != api.OK {
		return "no code"
	}
	if why := itemFault(it, depth, below); why != "" {
		return why
	}
	if depth > 0 && len(s) < 32 {
		return "short"
	}
	return ""
}

func itemFault(it api.Item, depth int, below bool) string {
	switch {
	case !it.List:
		return "a text"
	case len(it.Kids) == 17:
		return branchFault(it, depth)
	case len(it.Kids) != 2:
		return "so many items"
	case it.Kids[0].List:
		return "a list as the path"
	}
	path, leaf, e := nib.Unpack(it.Kids[0].Text)
	switch {
	case e != api.OK:
		return "no path"
	case below:
		return "right below an extension"
	case depth+len(path) > 80:
		return "a deep path"
	case !leaf && path == "":
		return "no half byte"
	case leaf && it.Kids[1].List:
		return "a list as the value"
	case leaf && it.Kids[1].Text == "":
		return "no value"
	case leaf && len(it.Kids[1].Text) > 160:
		return "a long value"
	case leaf:
		return ""
	case !it.Kids[1].List && it.Kids[1].Text == "":
		return "no child"
	}
	return childFault(it.Kids[1], depth+len(path), true)
}

func branchFault(it api.Item, depth int) string {
	own := it.Kids[16]
	if own.List {
		return "a list as the branch's value"
	}
	if len(own.Text) > 160 {
		return "a long value of a branch"
	}
	count := min(len(own.Text), 1)
	for _, kid := range it.Kids[:16] {
		if !kid.List && kid.Text == "" {
			continue
		}
		count++
		if why := childFault(kid, depth+1, false); why != "" {
			return why
		}
	}
	if count < 2 {
		return "a bare branch"
	}
	return ""
}

func childFault(it api.Item, depth int, below bool) string {
	switch {
	case depth > 80:
		return "a deep child"
	case it.List && len(codeOf(it)) >= 32:
		return "a long child"
	case it.List:
		if itemFault(it, depth, below) != "" {
			return "a child at fault"
		}
	case len(it.Text) != 32:
		return "no hash"
	}
	return ""
}

// maker makes items that are nodes, or nearly.
type maker struct{ r *rand.Rand }

func (m maker) one(sizes ...int) int { return sizes[m.r.Intn(len(sizes))] }

// rare: seldom, so that most items have one fault at the most.
func (m maker) rare() bool { return m.r.Intn(60) == 0 }

func (m maker) path(depth int) string {
	n := m.one(0, 1, 2, 3, 5, 79-depth, 80-depth)
	if m.rare() {
		n = m.one(81, 82) - depth
	}
	b := make([]byte, max(n, 0))
	for i := range b {
		b[i] = byte(m.r.Intn(16))
	}
	return string(b)
}

func (m maker) value() api.Item {
	if m.rare() {
		return []api.Item{text(""), text(letters(161)), text(letters(200)), list(), list(text("k"))}[m.r.Intn(5)]
	}
	return text(letters(m.one(1, 1, 2, 10, 25, 31, 32, 33, 159, 160)))
}

// small: a node of few bytes.
func (m maker) small(depth int, below bool) api.Item {
	if !below || m.rare() {
		return list(packed(m.path(max(depth, 76)), true), text(letters(m.one(1, 2, 20, 26, 27, 28))))
	}
	return m.branch(depth, 2, true)
}

func (m maker) kid(depth int, below bool, tiny bool) api.Item {
	switch {
	case m.rare():
		return []api.Item{text(""), text("k"), text(letters(31)), text(letters(33)), list(), text(letters(64)), m.leaf(depth), list(text("k"))}[m.r.Intn(8)]
	case tiny:
		return list(packed(m.path(max(depth, 79)), true), text("k"))
	case m.r.Intn(2) == 0:
		return m.small(depth, below)
	}
	return text(letters(32))
}

func (m maker) branch(depth int, count int, tiny bool) api.Item {
	it := list()
	for range 16 {
		it.Kids = append(it.Kids, text(""))
	}
	own := text("")
	if m.r.Intn(2) == 0 {
		own = m.value()
		if tiny {
			own = text("k")
		}
		count--
	}
	for _, d := range m.r.Perm(16)[:max(count, 0)] {
		it.Kids[d] = m.kid(depth+1, false, tiny)
	}
	it.Kids = append(it.Kids, own)
	return it
}

func (m maker) leaf(depth int) api.Item {
	return list(packed(m.path(depth), true), m.value())
}

func (m maker) item(depth int) api.Item {
	var it api.Item
	switch m.r.Intn(3) {
	case 0:
		it = m.leaf(depth)
	case 1:
		path := m.path(depth)
		it = list(packed(path, false), m.kid(depth+len(path), true, false))
	default:
		count := m.one(2, 2, 3, 8, 16)
		if m.rare() {
			count = m.one(0, 1)
		}
		it = m.branch(depth, count, false)
	}
	if m.rare() {
		it.Kids = append(it.Kids, text("k"))
	}
	if m.rare() {
		it.Kids = it.Kids[1:]
	}
	if m.rare() {
		it.Kids[0] = list()
	}
	if m.rare() {
		it.Kids[0] = text([]string{"", "\x01", "\x40", "\x2f\x00"}[m.r.Intn(4)])
	}
	return it
}

// P8: what is a node that may stand there, and what is none.
func TestRead(t *testing.T) {
	m := maker{rand.New(rand.NewSource(8))}
	seen := map[string]int{}
	for range 200000 {
		depth := m.one(0, 0, 1, 2, 40, 75, 77, 78, 79, 80)
		s := codeOf(m.item(depth))
		if m.rare() {
			s += "x"
		}
		if m.rare() {
			s = letters(m.one(0, 1, 31, 32))
		}
		below := depth > 0 && m.r.Intn(3) == 0
		why := fault(s, depth, below)
		seen[why]++
		n := node.Named(keccak.Sum(s))
		e := n.Read(s, depth, below)
		if (e == api.OK) != (why == "") || e != api.OK && e != api.ErrNode {
			t.Fatalf("%x behind %d, %v: %d, want %q", s, depth, below, e, why)
		}
		if n.Hash != keccak.Sum(s) || e != api.OK && *n != *node.Named(n.Hash) {
			t.Fatalf("%x: the hash is %x, the kind %d", s, n.Hash, n.Kind)
		}
		if e == api.OK && n.Code() != s {
			t.Fatalf("%x: the code is %x", s, n.Code())
		}
	}
	for _, why := range []string{"", "no code", "a text", "so many items", "a list as the path", "no path", "right below an extension", "a deep path", "no half byte", "a list as the value", "no value", "a long value", "no child", "a list as the branch's value", "a long value of a branch", "a bare branch", "a deep child", "a long child", "a child at fault", "no hash", "short"} {
		if seen[why] < 20 {
			t.Errorf("%q came %d times only", why, seen[why])
		}
		delete(seen, why)
	}
	if len(seen) > 0 {
		t.Errorf("more faults: %v", seen)
	}
}

// P1, P8: another hash goes ahead of another text; nothing is read then.
func TestReadBent(t *testing.T) {
	good := codeOf(list(packed("\x01", true), text(letters(40))))
	for _, s := range []string{"", "k", good + "x", good[1:], letters(4096), strings.Repeat("\xc1", 4096)} {
		n := node.Named(keccak.Sum(good))
		if e := n.Read(s, 0, false); e != api.ErrBent || n.Kind != node.Unread {
			t.Errorf("%.20x: %d", s, e)
		}
		n = node.Named(keccak.Sum(s))
		if e := n.Read(s, 0, false); e != api.ErrNode || n.Kind != node.Unread {
			t.Errorf("%.20x, under its hash: %d", s, e)
		}
	}
}
