package state

import (
	"ledger/api"
	"ledger/keccak"
	"ledger/num"
)

// Slot tells a slot's number (P12).
func (s *State) Slot(addr string, slot string) (string, api.Errno) {
	if len(addr) != api.AddrLen || len(slot) != api.SlotLen {
		return "", api.ErrLen
	}
	hash := keccak.Sum(addr)
	acc, there, e := s.account(hash)
	if e != api.OK || !there {
		return "", e
	}
	slots := s.slotsOf(hash, acc.Root)
	record, e := slots.Get(keccak.Sum(slot))
	if e != api.OK {
		return "", e
	}
	return slotOf(record)
}

// SetSlot gives a slot a number (P13).
func (s *State) SetSlot(addr string, slot string, v string) api.Errno {
	if len(addr) != api.AddrLen || len(slot) != api.SlotLen {
		return api.ErrLen
	}
	if !num.Is(v) {
		return api.ErrArg
	}
	hash := keccak.Sum(addr)
	acc, there, e := s.account(hash)
	if e != api.OK {
		return e
	}
	if v != "" {
		return s.fillSlot(hash, acc, keccak.Sum(slot), slotCode(v))
	}
	if !there {
		return api.OK
	}
	return s.clearSlot(hash, acc, keccak.Sum(slot))
}

// fillSlot gives a slot a number above 0, whose code is given.
func (s *State) fillSlot(hash string, acc api.Account, key string, code string) api.Errno {
	slots := s.slotsOf(hash, acc.Root)
	root, e := slots.RootWith(key, code)
	if e != api.OK {
		return e
	}
	// The account goes first: if it cannot be put, the slot has not changed.
	acc.Root = root
	e = s.set(hash, acc)
	if e != api.OK {
		return e
	}
	return slots.Put(key, code)
}

// clearSlot makes a slot 0.
func (s *State) clearSlot(hash string, acc api.Account, key string) api.Errno {
	slots := s.slotsOf(hash, acc.Root)
	record, e := slots.Get(key)
	if e != api.OK || record == "" {
		return e
	}
	_, e = slots.Delete(key)
	if e != api.OK {
		return e
	}
	acc.Root = slots.Root()
	e = s.set(hash, acc)
	if e != api.OK {
		// The slot's way is in memory, so that it can be put back.
		slots.Put(key, record)
	}
	return e
}
