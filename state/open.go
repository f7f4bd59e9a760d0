package state

import "ledger/trie"

// shelfCount: the open maps of slots lie on shelves by the first byte of their
// accounts' hashes, which rise on each: so they rise from shelf to shelf, and
// few are passed when one is looked for.
const shelfCount = 256

// slotMap: the map of slots of the account with a hash.
type slotMap struct {
	hash  string
	slots *trie.Trie
}

// place tells where an account's map of slots lies on its shelf, or would lie,
// and whether it is open.
func (s *State) place(hash string) (int, bool) {
	shelf := s.open[hash[0]]
	at := 0
	for at < len(shelf) && shelf[at].hash < hash {
		at++
	}
	return at, at < len(shelf) && shelf[at].hash == hash
}

// slotsOf tells an account's map of slots and opens it, unless that has been
// done.
func (s *State) slotsOf(hash string, root string) *trie.Trie {
	at, there := s.place(hash)
	if there {
		return s.open[hash[0]][at].slots
	}
	// An account's root has 32 bytes, and nothing is read.
	slots, _ := trie.Open(s.st, root)
	s.open[hash[0]] = append(s.open[hash[0]], slotMap{})
	shelf := s.open[hash[0]]
	for i := len(shelf) - 1; i > at; i-- {
		shelf[i] = shelf[i-1]
	}
	shelf[at] = slotMap{hash: hash, slots: slots}
	return slots
}

// closeSlots drops an account's map of slots, if it is open.
func (s *State) closeSlots(hash string) {
	at, there := s.place(hash)
	if !there {
		return
	}
	shelf := s.open[hash[0]]
	last := len(shelf) - 1
	for i := at; i < last; i++ {
		shelf[i] = shelf[i+1]
	}
	// The spare room must not hold on to a map that is gone.
	shelf[last] = slotMap{}
	s.open[hash[0]] = shelf[:last]
}
