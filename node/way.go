package node

// Way is a place on a key's way: at the node At, nil behind the last one. Rest
// is what is left there of the key's path, Depth how many half bytes lie behind;
// Below: the node is right below an extension.
type Way struct {
	At    *Node
	Rest  string
	Depth int
	Below bool
}

// Start tells a key's way at its first place.
func Start(root *Node, key string) Way {
	return Way{At: root, Rest: PathOf(key)}
}

// PathOf tells a key's path.
func PathOf(key string) string {
	path := make([]byte, 0, 2*len(key))
	for i := 0; i < len(key); i++ {
		path = append(path, key[i]>>4, key[i]&15)
	}
	return string(path)
}

// Next tells the place behind w, whose node is not unread.
func (w Way) Next() Way {
	n := w.At
	if n.Kind == Branch && w.Rest != "" {
		return Way{At: n.Kids[w.Rest[0]&15], Rest: w.Rest[1:], Depth: w.Depth + 1}
	}
	size := len(n.Path)
	if n.Kind == Extension && Shared(w.Rest, n.Path) == size {
		return Way{At: n.Kid, Rest: w.Rest[size:], Depth: w.Depth + size, Below: true}
	}
	return Way{}
}

// Value tells the value of a key whose way's last place this is, or the empty
// text.
func (w Way) Value() string {
	n := w.At
	if n == nil {
		return ""
	}
	// The path of a branch is empty: its value is that of a path that ends there.
	if n.Kind != Extension && w.Rest == n.Path {
		return n.Value
	}
	return ""
}

// Shared tells how many half bytes two paths share.
func Shared(a string, b string) int {
	n := 0
	for n < len(a) && n < len(b) && a[n] == b[n] {
		n++
	}
	return n
}
