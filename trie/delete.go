package trie

import (
	"ledger/api"
	"ledger/node"
)

// without tells the node that stands for that of a place when the key has no
// value any more. It has one, and the nodes on its way have been read.
func (t *Trie) without(at node.Way) (*node.Node, api.Errno) {
	n := at.At
	if n.Kind == node.Leaf {
		return nil, api.OK
	}
	if n.Kind == node.Branch && at.Rest == "" {
		return t.shrunk(n.Kids, "", at.Depth)
	}
	kid, e := t.without(at.Next())
	if e != api.OK {
		return nil, e
	}
	if n.Kind == node.Extension {
		return join(n.Path, kid), api.OK
	}
	kids := n.Kids
	kids[at.Rest[0]&15] = kid
	return t.shrunk(kids, n.Value, at.Depth)
}

// shrunk tells what a branch becomes that may have lost a child or its value: a
// leaf or the child itself, if no more than that is left.
func (t *Trie) shrunk(kids [16]*node.Node, value string, depth int) (*node.Node, api.Errno) {
	count := 0
	half := 0
	for i := 0; i < len(kids); i++ {
		if kids[i] != nil {
			count++
			half = i
		}
	}
	if count == 0 {
		return node.NewLeaf("", value), api.OK
	}
	if count > 1 || value != "" {
		return node.NewBranch(kids, value), api.OK
	}
	kid := kids[half]
	// How it joins with what is ahead of it hangs on what it is.
	e := t.read(kid, depth+1, false)
	if e != api.OK {
		return nil, e
	}
	return join(string([]byte{byte(half)}), kid), api.OK
}
