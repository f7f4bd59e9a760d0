package store

// find tells where a hash of 32 bytes lies on its shelf, or would lie, and
// whether it does.
func (s *Store) find(hash string) (int, bool) {
	shelf := s.shelves[hash[0]]
	low := 0
	high := len(shelf)
	for low < high {
		middle := low + (high-low)/2
		if shelf[middle].hash < hash {
			low = middle + 1
		} else {
			high = middle
		}
	}
	return low, low < len(shelf) && shelf[low].hash == hash
}

// set lays a text under a hash of 32 bytes.
func (s *Store) set(hash string, text string) {
	at, there := s.find(hash)
	if !there {
		s.makeRoom(hash[0], at)
	}
	s.shelves[hash[0]][at] = entry{hash: hash, text: text}
}

// makeRoom moves the entries of a shelf up, from a place on that is no greater
// than how many there are.
func (s *Store) makeRoom(shelf byte, at int) {
	s.shelves[shelf] = append(s.shelves[shelf], entry{})
	for i := len(s.shelves[shelf]) - 1; i > at; i-- {
		s.shelves[shelf][i] = s.shelves[shelf][i-1]
	}
}

// takeOff takes the entry at a place from its shelf.
func (s *Store) takeOff(shelf byte, at int) {
	last := len(s.shelves[shelf]) - 1
	for i := at; i < last; i++ {
		s.shelves[shelf][i] = s.shelves[shelf][i+1]
	}
	// The spare room must not hold on to a text that is gone.
	s.shelves[shelf][last] = entry{}
	s.shelves[shelf] = s.shelves[shelf][:last]
}
