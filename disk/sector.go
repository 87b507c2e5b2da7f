package disk

import (
	"slices"

	"penstock/api"
)

// bits that say behind a fall which writes are kept.
const bits = 64

// block of a sector's bytes.
type block [api.Sector]byte

// write that isn't kept yet, and the bit that says whether it will be.
type write struct {
	bit  int
	data block
}

// sector: what is kept, and what was written since, in order. Writes of one bit are kept or lost together: of these only
// the last one can be seen, so that no other is held, however many there are.
type sector struct {
	kept   block
	writes []write
}

// text of a sector, as it is read.
func (s *sector) text() string {
	if last := len(s.writes) - 1; last >= 0 {
		return string(s.writes[last].data[:])
	}
	return string(s.kept[:])
}

// write data, and noughts behind it.
func (s *sector) write(bit int, data string) {
	w := write{bit: bit}
	copy(w.data[:], data)
	s.writes = slices.DeleteFunc(s.writes, func(old write) bool { return old.bit == bit })
	s.writes = append(s.writes, w)
}

// settle: the writes whose bits are set are kept, the others lost.
func (s *sector) settle(keep uint64) {
	for _, w := range s.writes {
		if keep>>w.bit&1 == 1 {
			s.kept = w.data
		}
	}
	s.writes = nil
}
