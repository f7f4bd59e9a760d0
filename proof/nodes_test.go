package proof_test

import (
	"strings"

	"ledger/api"
	"ledger/keccak"
	"ledger/nib"
	"ledger/rlp"
)

// Nodes by hand.

var emptyRoot = keccak.Sum("\x80")

var long = strings.Repeat("v", 40)

func letters(n int) string { return strings.Repeat("k", n) }

func noughts(n int) string { return strings.Repeat("\x00", n) }

func text(s string) api.Item { return api.Item{Text: s} }

func list(kids ...api.Item) api.Item { return api.Item{List: true, Kids: kids} }

func codeOf(it api.Item) string {
	code, e := rlp.Encode(it)
	if e != api.OK {
		panic(e)
	}
	return code
}

func packed(path string, leaf bool) api.Item {
	t, e := nib.Pack(path, leaf)
	if e != api.OK {
		panic(e)
	}
	return text(t)
}

func leaf(path string, value string) api.Item { return list(packed(path, true), text(value)) }

func extension(path string, kid api.Item) api.Item { return list(packed(path, false), kid) }

func branch(value string, kids ...api.Item) api.Item {
	it := list(kids...)
	for len(it.Kids) < 16 {
		it.Kids = append(it.Kids, text(""))
	}
	it.Kids = append(it.Kids, text(value))
	return it
}

// chain: the texts of a node and of those over it, each of which names the next
// by its hash: "branch" has it behind a nought, another is an extension's path.
// The root is the first one's hash.
func chain(kid string, over ...string) (string, []string) {
	l := []string{kid}
	for i := len(over) - 1; i >= 0; i-- {
		name := text(keccak.Sum(l[0]))
		if over[i] == "branch" {
			l = append([]string{codeOf(branch("v", name))}, l...)
		} else {
			l = append([]string{codeOf(extension(over[i], name))}, l...)
		}
	}
	return keccak.Sum(l[0]), l
}
