package rlp

import (
	"ledger/api"
	"ledger/num"
)

// within: whether a list at this level, and all lists in it, keep to the
// bounds of levels and items. It goes no deeper than they, so that it ends also
// where a list lies in itself.
func within(kids []api.Item, level int) bool {
	if level > api.MaxDepth || len(kids) > api.MaxItems {
		return false
	}
	for i := 0; i < len(kids); i++ {
		if kids[i].List && !within(kids[i].Kids, level+1) {
			return false
		}
	}
	return true
}

// codeOf tells the code of an item that is within the bounds; false if it is
// too long.
func codeOf(it api.Item) (string, bool) {
	if it.List {
		return listCode(it.Kids)
	}
	if bare(it.Text) {
		return it.Text, true
	}
	return headed(textHead, it.Text)
}

// listCode gives up as soon as the code is too long: one list may lie in many
// places of an item, which is then small in memory and has a code of any size.
func listCode(kids []api.Item) (string, bool) {
	var body []byte
	for i := 0; i < len(kids); i++ {
		code, ok := codeOf(kids[i])
		if !ok {
			return "", false
		}
		body = append(body, code...)
		if len(body) > api.MaxText {
			return "", false
		}
	}
	return headed(listHead, string(body))
}

// headed tells a content behind its head; false if that is too long.
func headed(kind int, content string) (string, bool) {
	head := headOf(kind, len(content))
	if len(head)+len(content) > api.MaxText {
		return "", false
	}
	return head + content, true
}

// headOf tells the head of a content of n bytes.
func headOf(kind int, n int) string {
	if n <= maxShort {
		return string([]byte{byte(kind + n)})
	}
	length := num.Text(n)
	return string([]byte{byte(kind + maxShort + len(length))}) + length
}
