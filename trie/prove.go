package trie

import "ledger/node"

// codes tells the codes of the nodes from a key's first place on that stand in
// no parent. The nodes on its way have been read.
func codes(at node.Way) []string {
	var list []string
	for at.At != nil {
		// The root stands in no parent, however short it is.
		if at.Depth == 0 || at.At.Hash != "" {
			list = append(list, at.At.Code())
		}
		at = at.Next()
	}
	return list
}
