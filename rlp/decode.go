package rlp

import "ledger/api"

// span: where an item's content lies in what is left.
type span struct {
	list bool
	from int
	to   int
}

// read tells the item with which s begins, and how many bytes it takes: at
// least one, so that readAll ends.
func read(s string, level int) (api.Item, int, api.Errno) {
	at, e := find(s)
	if e != api.OK {
		return api.Item{}, 0, e
	}
	content := s[at.from:at.to]
	if !at.list {
		if at.from > 0 && bare(content) {
			return api.Item{}, 0, api.ErrForm
		}
		return api.Item{Text: content}, at.to, api.OK
	}
	if level > api.MaxDepth {
		return api.Item{}, 0, api.ErrDepth
	}
	kids, e := readAll(content, level+1)
	if e != api.OK {
		return api.Item{}, 0, e
	}
	return api.Item{List: true, Kids: kids}, at.to, api.OK
}

// readAll tells the items of a list's content.
func readAll(content string, level int) ([]api.Item, api.Errno) {
	var kids []api.Item
	for len(content) > 0 {
		if len(kids) == api.MaxItems {
			return nil, api.ErrDepth
		}
		kid, used, e := read(content, level)
		if e != api.OK {
			return nil, e
		}
		kids = append(kids, kid)
		content = content[used:]
	}
	return kids, api.OK
}

// find tells where the content lies of the item with which s begins.
func find(s string) (span, api.Errno) {
	if len(s) == 0 {
		return span{}, api.ErrEnd
	}
	first := int(s[0])
	if first < textHead {
		return span{to: 1}, api.OK
	}
	list := first >= listHead
	n := first - textHead
	if list {
		n = first - listHead
	}
	if n <= maxShort {
		return spanOf(s, list, 1, uint64(n))
	}
	size, e := lengthOf(s[1:], n-maxShort)
	if e != api.OK {
		return span{}, e
	}
	return spanOf(s, list, 1+n-maxShort, size)
}

// spanOf tells the span of size bytes that begins at from, which lies in s.
// The size is compared as it was read: as an int it might be below 0.
func spanOf(s string, list bool, from int, size uint64) (span, api.Errno) {
	if size > uint64(len(s)-from) {
		return span{}, api.ErrEnd
	}
	return span{list: list, from: from, to: from + int(size)}, api.OK
}

// lengthOf tells the length that the first n bytes of s are; n is 1 to 8.
func lengthOf(s string, n int) (uint64, api.Errno) {
	if n > len(s) {
		return 0, api.ErrEnd
	}
	var size uint64
	for i := 0; i < n; i++ {
		size = size<<8 | uint64(s[i])
	}
	if s[0] == 0 || size <= maxShort {
		return 0, api.ErrForm
	}
	return size, api.OK
}
