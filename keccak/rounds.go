package keccak

// turns is r of P3: by how many bits the word x + 5y is turned.
var turns = [25]uint64{
	0, 1, 62, 28, 27,
	36, 44, 6, 55, 20,
	3, 10, 43, 25, 39,
	41, 45, 15, 21, 8,
	18, 2, 61, 56, 14,
}

// moves tells where the word x + 5y goes: to y + 5(2x + 3y), the bracket
// modulo 5. To work that out in every round would take longer than the rest.
var moves = [25]int{
	0, 10, 20, 5, 15,
	16, 1, 11, 21, 6,
	7, 17, 2, 12, 22,
	23, 8, 18, 3, 13,
	14, 24, 9, 19, 4,
}

// roundWords is k of P3: what makes one round unlike another.
var roundWords = [24]uint64{
	0x1, 0x8082, 0x800000000000808a, 0x8000000080008000,
	0x808b, 0x80000001, 0x8000000080008081, 0x8000000000008009,
	0x8a, 0x88, 0x80008009, 0x8000000a,
	0x8000808b, 0x800000000000008b, 0x8000000000008089, 0x8000000000008003,
	0x8000000000008002, 0x8000000000000080, 0x800a, 0x800000008000000a,
	0x8000000080008081, 0x8000000000008080, 0x80000001, 0x8000000080008008,
}

// mix does the 24 rounds.
func (h *Hasher) mix() {
	for i := 0; i < len(roundWords); i++ {
		h.mixColumns()
		h.moveAndMixRows()
		h.words[0] ^= roundWords[i]
	}
}

// mixColumns is a round's first step; a to e are c(0) to c(4) of P3.
func (h *Hasher) mixColumns() {
	a := h.column(0)
	b := h.column(1)
	c := h.column(2)
	d := h.column(3)
	e := h.column(4)
	for row := 0; row < 25; row += 5 {
		h.words[row] ^= e ^ turned(b, 1)
		h.words[row+1] ^= a ^ turned(c, 1)
		h.words[row+2] ^= b ^ turned(d, 1)
		h.words[row+3] ^= c ^ turned(e, 1)
		h.words[row+4] ^= d ^ turned(a, 1)
	}
}

// column tells the xor of the words of column x, which is below 5.
func (h *Hasher) column(x int) uint64 {
	return h.words[x] ^ h.words[x+5] ^ h.words[x+10] ^ h.words[x+15] ^ h.words[x+20]
}

// moveAndMixRows is a round's second and third step; a to e are a row of v of
// P3.
func (h *Hasher) moveAndMixRows() {
	var v [25]uint64
	for i := 0; i < len(v); i++ {
		v[moves[i]] = turned(h.words[i], turns[i])
	}
	for row := 0; row < 25; row += 5 {
		a := v[row]
		b := v[row+1]
		c := v[row+2]
		d := v[row+3]
		e := v[row+4]
		h.words[row] = a ^ (c &^ b)
		h.words[row+1] = b ^ (d &^ c)
		h.words[row+2] = c ^ (e &^ d)
		h.words[row+3] = d ^ (a &^ e)
		h.words[row+4] = e ^ (b &^ a)
	}
}

// turned tells w turned left by some bits, fewer than 64. With the masks the
// two shifts are one turn of the machine's.
func turned(w uint64, by uint64) uint64 {
	return w<<(by&63) | w>>((64-by)&63)
}
