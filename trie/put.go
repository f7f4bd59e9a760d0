package trie

import (
	"ledger/api"
	"ledger/node"
)

// put tells the uppermost node that the map would have behind Put.
func (t *Trie) put(key string, value string) (*node.Node, api.Errno) {
	if len(key) > api.MaxKey || len(value) > api.MaxValue {
		return nil, api.ErrLong
	}
	if value == "" {
		return nil, api.ErrEmpty
	}
	_, e := t.walk(key)
	if e != api.OK {
		return nil, e
	}
	return with(t.root, node.PathOf(key), value), api.OK
}

// with tells the node that stands for n when the path has the value. The nodes
// on the path's way are not unread.
func with(n *node.Node, path string, value string) *node.Node {
	if n == nil {
		return node.NewLeaf(path, value)
	}
	if n.Kind == node.Branch {
		return branchWith(n, path, value)
	}
	same := node.Shared(n.Path, path)
	if n.Kind == node.Extension && same == len(n.Path) {
		kid := with(n.Kid, path[same:], value)
		return node.NewExtension(n.Path, kid)
	}
	if n.Kind == node.Leaf && n.Path == path {
		return node.NewLeaf(path, value)
	}
	return split(n, path, value, same)
}

func branchWith(n *node.Node, path string, value string) *node.Node {
	if path == "" {
		return node.NewBranch(n.Kids, value)
	}
	kids := n.Kids
	half := path[0] & 15
	kids[half] = with(n.Kids[half], path[1:], value)
	return node.NewBranch(kids, n.Value)
}

// split parts a leaf or an extension from a path that shares only the first
// half bytes with it: a branch stands where they part.
func split(n *node.Node, path string, value string, same int) *node.Node {
	var kids [16]*node.Node
	own := ""
	if same < len(n.Path) {
		kids[n.Path[same]&15] = tail(n, n.Path[same+1:])
	} else {
		own = n.Value
	}
	if same < len(path) {
		kids[path[same]&15] = node.NewLeaf(path[same+1:], value)
	} else {
		own = value
	}
	return join(path[:same], node.NewBranch(kids, own))
}

// tail tells what a leaf or an extension is, when only the last part of its
// path is left to it.
func tail(n *node.Node, path string) *node.Node {
	if n.Kind == node.Leaf {
		return node.NewLeaf(path, n.Value)
	}
	return join(path, n.Kid)
}

// join tells the node that stands for n when a path lies ahead of it.
func join(path string, n *node.Node) *node.Node {
	if path == "" {
		return n
	}
	switch n.Kind {
	case node.Leaf:
		return node.NewLeaf(path+n.Path, n.Value)
	case node.Extension:
		return node.NewExtension(path+n.Path, n.Kid)
	}
	// An unread one too: it lay below an extension's path, so it is a branch.
	return node.NewExtension(path, n)
}
