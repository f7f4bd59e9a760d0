// Package node: the nodes of a map, in memory and as texts: see P7 and P8 of
// DOC.md. A map and the check of a proof share it.
package node

import (
	"ledger/api"
	"ledger/keccak"
)

// What a node is. Of an unread one the hash alone is known.
const (
	Unread    = 0
	Leaf      = 1
	Extension = 2
	Branch    = 3
)

// kidCount is how many children a branch has room for: one for each half byte.
const kidCount = 16

// emptyCode is the code of the empty text, which stands for the empty map.
const emptyCode = "\x80"

// Node is a node of a map; nil stands for no pair.
//
// Hash is that of its code, by which a parent names it; it is empty, if the code
// has fewer than 32 bytes and stands in the parent itself. The root has no
// parent: one that was read has its hash, however short its code is. Nothing
// changes a node but Read, and that leaves its Hash: so nodes that were made
// may share those below them.
type Node struct {
	Kind  int
	Hash  string
	Path  string          // a leaf's, an extension's
	Value string          // a leaf's; a branch's, empty if it has none
	Kid   *Node           // an extension's
	Kids  [kidCount]*Node // a branch's
}

// Named is the node with a hash, unread.
func Named(hash string) *Node { return &Node{Kind: Unread, Hash: hash} }

// Top is the uppermost node of the map with a root, unread; nil of the empty
// map, which has no node.
func Top(root string) *Node {
	if root == EmptyRoot() {
		return nil
	}
	return Named(root)
}

// NewLeaf makes a leaf.
func NewLeaf(path string, value string) *Node {
	return hashed(&Node{Kind: Leaf, Path: path, Value: value})
}

// NewExtension makes an extension; the kid is a branch, or unread.
func NewExtension(path string, kid *Node) *Node {
	return hashed(&Node{Kind: Extension, Path: path, Kid: kid})
}

// NewBranch makes a branch.
func NewBranch(kids [kidCount]*Node, value string) *Node {
	return hashed(&Node{Kind: Branch, Kids: kids, Value: value})
}

// hashed gives a node that was made its hash, if it is to have one.
func hashed(n *Node) *Node {
	code := n.Code()
	if len(code) >= api.MaxMerge {
		n.Hash = keccak.Sum(code)
	}
	return n
}

// EmptyRoot tells the root of the empty map.
func EmptyRoot() string { return keccak.Sum(emptyCode) }

// Root tells the root of a map by its uppermost node.
func Root(n *Node) string {
	if n == nil {
		return EmptyRoot()
	}
	if n.Hash != "" {
		return n.Hash
	}
	return keccak.Sum(n.Code())
}
