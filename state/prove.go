package state

import (
	"ledger/api"
	"ledger/keccak"
	"ledger/proof"
)

// Prove tells the proof of an account (P14).
func (s *State) Prove(addr string) ([]string, api.Errno) {
	if len(addr) != api.AddrLen {
		return nil, api.ErrLen
	}
	return s.world.Prove(keccak.Sum(addr))
}

// ProveSlot tells the proofs of an account and of a slot (P14).
func (s *State) ProveSlot(addr string, slot string) ([]string, []string, api.Errno) {
	if len(addr) != api.AddrLen || len(slot) != api.SlotLen {
		return nil, nil, api.ErrLen
	}
	hash := keccak.Sum(addr)
	acc, there, e := s.account(hash)
	if e != api.OK {
		return nil, nil, e
	}
	var second []string
	if there {
		slots := s.slotsOf(hash, acc.Root)
		second, e = slots.Prove(keccak.Sum(slot))
		if e != api.OK {
			return nil, nil, e
		}
	}
	first, e := s.world.Prove(hash)
	if e != api.OK {
		return nil, nil, e
	}
	return first, second, api.OK
}

// VerifyAccount tells the account that addr has in the world with this root (P14).
func VerifyAccount(root string, addr string, p []string) (api.Account, bool, api.Errno) {
	if len(root) != api.HashLen || len(addr) != api.AddrLen {
		return api.Account{}, false, api.ErrLen
	}
	record, e := proof.Verify(root, keccak.Sum(addr), p)
	if e != api.OK {
		return api.Account{}, false, e
	}
	return accountOf(record)
}

// VerifySlot tells the slot's number in the world with this root (P14).
func VerifySlot(root string, addr string, slot string, p []string, q []string) (string, api.Errno) {
	if len(slot) != api.SlotLen {
		return "", api.ErrLen
	}
	acc, there, e := VerifyAccount(root, addr, p)
	if e != api.OK {
		return "", e
	}
	if !there {
		return noSlot(q)
	}
	record, e := proof.Verify(acc.Root, keccak.Sum(slot), q)
	if e != api.OK {
		return "", e
	}
	return slotOf(record)
}

// noSlot tells the number of a slot of no account, to which no proof belongs.
func noSlot(q []string) (string, api.Errno) {
	if len(q) > 0 {
		return "", api.ErrProof
	}
	return "", api.OK
}
