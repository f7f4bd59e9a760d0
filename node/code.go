package node

import (
	"ledger/api"
	"ledger/nib"
	"ledger/rlp"
)

// Code tells the code of a node that is not unread.
func (n *Node) Code() string {
	// Encode has no error of a node: a branch has some 700 bytes at most, and
	// nodes within nodes make no more than four levels.
	code, _ := rlp.Encode(n.item())
	return code
}

// item tells a node as the list that P7 says.
func (n *Node) item() api.Item {
	if n.Kind == Branch {
		kids := make([]api.Item, 0, kidCount+1)
		for i := 0; i < kidCount; i++ {
			kids = append(kids, inParent(n.Kids[i]))
		}
		kids = append(kids, api.Item{Text: n.Value})
		return api.Item{List: true, Kids: kids}
	}
	// A path has at most 80 half bytes, none above 15: Pack takes it.
	packed, _ := nib.Pack(n.Path, n.Kind == Leaf)
	second := api.Item{Text: n.Value}
	if n.Kind == Extension {
		second = inParent(n.Kid)
	}
	return api.Item{List: true, Kids: []api.Item{{Text: packed}, second}}
}

// inParent tells the item by which a parent names a node.
func inParent(n *Node) api.Item {
	if n == nil {
		return api.Item{}
	}
	if n.Hash != "" {
		return api.Item{Text: n.Hash}
	}
	return n.item()
}
