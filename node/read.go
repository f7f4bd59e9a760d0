package node

import (
	"ledger/api"
	"ledger/keccak"
	"ledger/nib"
	"ledger/rlp"
)

// maxDepth is how many half bytes the longest key's path has.
const maxDepth = 2 * api.MaxKey

// Read makes of an unread node what the text says that lies under its hash
// (P8). The node begins behind depth half bytes; at 0 it is the root, since
// every other has a branch or a path ahead of it. below: it is right below an
// extension.
func (n *Node) Read(text string, depth int, below bool) api.Errno {
	if keccak.Sum(text) != n.Hash {
		return api.ErrBent
	}
	if depth > 0 && len(text) < api.MaxMerge {
		return api.ErrNode
	}
	it, e := rlp.Decode(text)
	if e != api.OK {
		return api.ErrNode
	}
	got := nodeOf(it, depth, below)
	if got == nil {
		return api.ErrNode
	}
	got.Hash = n.Hash
	*n = *got
	return api.OK
}

// nodeOf tells the node that an item is, without its hash; nil if it is none that
// may stand there.
func nodeOf(it api.Item, depth int, below bool) *Node {
	if !it.List {
		return nil
	}
	if len(it.Kids) == 2 && !below {
		return pathNode(it.Kids[0], it.Kids[1], depth)
	}
	if len(it.Kids) == kidCount+1 {
		return branchOf(it.Kids, depth)
	}
	return nil
}

// pathNode tells the leaf or the extension of two items.
func pathNode(first api.Item, second api.Item, depth int) *Node {
	if first.List {
		return nil
	}
	path, leaf, e := nib.Unpack(first.Text)
	if e != api.OK || depth+len(path) > maxDepth {
		return nil
	}
	if leaf {
		if second.List || second.Text == "" || len(second.Text) > api.MaxValue {
			return nil
		}
		return &Node{Kind: Leaf, Path: path, Value: second.Text}
	}
	kid, ok := kidOf(second, depth+len(path), true)
	if !ok || kid == nil || path == "" {
		return nil
	}
	return &Node{Kind: Extension, Path: path, Kid: kid}
}

// branchOf tells the branch of seventeen items.
func branchOf(items []api.Item, depth int) *Node {
	last := items[kidCount]
	if last.List || len(last.Text) > api.MaxValue {
		return nil
	}
	n := &Node{Kind: Branch, Value: last.Text}
	count := 0
	if n.Value != "" {
		count++
	}
	for i := 0; i < kidCount; i++ {
		kid, ok := kidOf(items[i], depth+1, false)
		if !ok {
			return nil
		}
		if kid != nil {
			count++
		}
		n.Kids[i] = kid
	}
	if count < 2 {
		return nil
	}
	return n
}

// kidOf tells the node that an item in a parent names, nil of the empty text;
// false if it may not stand there.
func kidOf(it api.Item, depth int, below bool) (*Node, bool) {
	if it.List {
		return withinParent(it, depth, below)
	}
	if it.Text == "" {
		return nil, true
	}
	if len(it.Text) != api.HashLen || depth > maxDepth {
		return nil, false
	}
	return Named(it.Text), true
}

// withinParent tells a node that stands in its parent as a list.
func withinParent(it api.Item, depth int, below bool) (*Node, bool) {
	code, e := rlp.Encode(it)
	if e != api.OK || len(code) >= api.MaxMerge {
		return nil, false
	}
	n := nodeOf(it, depth, below)
	return n, n != nil
}
