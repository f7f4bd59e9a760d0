package state

import (
	"ledger/api"
	"ledger/keccak"
	"ledger/node"
	"ledger/num"
	"ledger/rlp"
)

// none tells what is told of an account that is not there.
func none() api.Account {
	return api.Account{Root: node.EmptyRoot(), Code: keccak.Sum("")}
}

// recordOf tells what the world's map has of an account.
func recordOf(acc api.Account) string {
	kids := []api.Item{
		{Text: num.Text(acc.Nonce)},
		{Text: acc.Balance},
		{Text: acc.Root},
		{Text: acc.Code},
	}
	// Four texts of at most 32 bytes have a code.
	code, _ := rlp.Encode(api.Item{List: true, Kids: kids})
	return code
}

// accountOf tells the account that the world's map has, and whether there is
// one; it has the empty text of none.
func accountOf(record string) (api.Account, bool, api.Errno) {
	if record == "" {
		return none(), false, api.OK
	}
	texts, ok := fourTexts(record)
	if !ok {
		return api.Account{}, false, api.ErrRecord
	}
	nonce, ok := num.Int(texts[0])
	acc := api.Account{Nonce: nonce, Balance: texts[1], Root: texts[2], Code: texts[3]}
	if !ok || !fits(acc) {
		return api.Account{}, false, api.ErrRecord
	}
	return acc, true, api.OK
}

// fourTexts tells the texts of which a record is the list's code; false if it
// is not the code of such a list.
func fourTexts(record string) ([4]string, bool) {
	var texts [4]string
	it, e := rlp.Decode(record)
	if e != api.OK || !it.List || len(it.Kids) != len(texts) {
		return texts, false
	}
	for i := 0; i < len(texts); i++ {
		if it.Kids[i].List {
			return texts, false
		}
		texts[i] = it.Kids[i].Text
	}
	return texts, true
}

// fits: whether an account that was read may be one.
func fits(acc api.Account) bool {
	if !num.Is(acc.Balance) || len(acc.Root) != api.HashLen || len(acc.Code) != api.HashLen {
		return false
	}
	return acc != none()
}

// slotCode tells what a map of slots has of a number above 0.
func slotCode(v string) string {
	// A text of at most 32 bytes has a code.
	code, _ := rlp.Encode(api.Item{Text: v})
	return code
}

// slotOf tells the number that a map of slots has; it has the empty text of 0.
func slotOf(record string) (string, api.Errno) {
	if record == "" {
		return "", api.OK
	}
	it, e := rlp.Decode(record)
	if e != api.OK || it.List || it.Text == "" || !num.Is(it.Text) {
		return "", api.ErrRecord
	}
	return it.Text, api.OK
}
