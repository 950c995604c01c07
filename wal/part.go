package wal

import (
	"iter"

	"headrace/api"
	"headrace/octet"
	"headrace/sum"
)

const (
	dataLen     = 48      // bytes of a part in one sector
	lenLen      = 4       // bytes that say how many a part has
	stampLen    = 12      // bytes that say whose a sector is
	snapshotBit = 1 << 15 // what a snapshot's sectors have more
)

// stamp says whose a sector is: the turn in which it was laid, its part's number, the how manieth it is of how many.
type stamp struct {
	turn, number uint32
	k, count     uint16
	snapshot     bool
}

// bytes tells the stamp as it stands in a sector.
func (s stamp) bytes() []byte {
	count := s.count
	if s.snapshot {
		count |= snapshotBit
	}
	b := octet.Put32(octet.Put32(nil, s.turn), s.number)
	return octet.Put16(octet.Put16(b, s.k), count)
}

// block tells the sector of this stamp that holds the data.
func (s stamp) block(data []byte) (b api.Block) {
	head := s.bytes()
	whole := make([]byte, stampLen+dataLen)
	copy(whole, head)
	copy(whole[stampLen:], data)
	copy(b[:], octet.Put32(head, sum.Sum32(whole)))
	copy(b[stampLen+lenLen:], whole[stampLen:])
	return b
}

// readStamp tells a sector's stamp and data, if it is one that was laid.
func readStamp(b api.Block) (stamp, []byte, bool) {
	r := octet.Read(b[:])
	s := stamp{turn: r.U32(), number: r.U32(), k: r.U16(), count: r.U16()}
	s.snapshot = s.count&snapshotBit != 0
	s.count &^= snapshotBit
	data := b[stampLen+lenLen:]
	return s, data, s.block(data) == b
}

// part is what was laid at once, and how many sectors it has.
type part struct {
	bytes   []byte
	sectors int
}

// cut tells the sectors of a part.
func cut(turn, number uint32, snapshot bool, b []byte) []api.Block {
	rest := append(octet.Put32(nil, uint32(len(b))), b...)
	out := make([]api.Block, Sectors(len(b)))
	for k := range out {
		n := min(len(rest), dataLen)
		s := stamp{turn: turn, number: number, k: uint16(k), count: uint16(len(out)), snapshot: snapshot}
		out[k] = s.block(rest[:n])
		rest = rest[n:]
	}
	return out
}

// begins tells whether a part of that number may begin with this sector, in a log with so much room.
func (h head) begins(s stamp, data []byte, number uint32, room int) bool {
	n := octet.Read(data).U32()
	return s.turn <= h.turn && s.number == number && s.k == 0 && s.snapshot == (number == h.number) &&
		n <= api.MaxTx && int(s.count) == Sectors(int(n)) && int(s.count) <= room
}

// part reads the part of that number whose sectors stand from at on; one without sectors is none.
func (h head) part(number uint32, at int, get func(at int) (api.Block, api.Errno)) (part, api.Errno) {
	var first stamp
	var all []byte
	for k := 0; k == 0 || k < int(first.count); k++ {
		b, err := get(at + k)
		if err != api.OK {
			return part{}, err
		}
		s, data, ok := readStamp(b)
		if k == 0 {
			ok = ok && h.begins(s, data, number, int(h.area)-at)
			first = s
		}
		first.k = uint16(k)
		if !ok || s != first {
			return part{}, api.OK
		}
		all = append(all, data...)
	}
	n := int(octet.Read(all).U32())
	for _, x := range all[lenLen+n:] {
		if x != 0 {
			return part{}, api.OK
		}
	}
	return part{bytes: all[lenLen : lenLen+n], sectors: int(first.count)}, api.OK
}

// parts reads the snapshot and what follows it, as far as that is whole; an error of the disk ends it.
func (h head) parts(get func(at int) (api.Block, api.Errno)) iter.Seq2[part, api.Errno] {
	return func(yield func(part, api.Errno) bool) {
		at := 0
		for number := h.number; at < int(h.area); number++ {
			p, err := h.part(number, at, get)
			if err == api.OK && p.sectors == 0 {
				return
			}
			if !yield(p, err) || err != api.OK {
				return
			}
			at += p.sectors
		}
	}
}
