package trie

import (
	"ledger/api"
	"ledger/node"
)

// walk reads the nodes on a key's way and tells its last place.
func (t *Trie) walk(key string) (node.Way, api.Errno) {
	at := node.Start(t.root, key)
	last := at
	for at.At != nil {
		e := t.read(at.At, at.Depth, at.Below)
		if e != api.OK {
			return node.Way{}, e
		}
		last = at
		at = at.Next()
	}
	return last, api.OK
}

// read reads a node from the store, unless that has been done.
func (t *Trie) read(n *node.Node, depth int, below bool) api.Errno {
	if n.Kind != node.Unread {
		return api.OK
	}
	text, e := t.st.Get(n.Hash)
	if e != api.OK {
		return e
	}
	return n.Read(text, depth, below)
}

// lay puts into the store what is in memory of a node and those below it; top:
// it is the root, which goes there however short it is.
func (t *Trie) lay(n *node.Node, top bool) {
	if n == nil || n.Kind == node.Unread {
		return
	}
	t.lay(n.Kid, false)
	for i := 0; i < len(n.Kids); i++ {
		t.lay(n.Kids[i], false)
	}
	if top || n.Hash != "" {
		code := n.Code()
		// No node's code is too long for a store.
		t.st.Put(code)
	}
}
