package wal

import (
	"headrace/api"
	"headrace/disk"
	"headrace/octet"
	"headrace/sum"
)

const (
	letters = "headrace"
	headLen = 60 // bytes of a head ahead of their sum
)

// head says where a log begins: in which turn, in which area, at which place, with a snapshot of which number.
type head struct {
	turn, area, place, number uint32
}

// block tells the sector of a head.
func (h head) block() (b api.Block) {
	row := []byte(letters)
	for _, x := range []uint32{h.turn, h.area, h.place, h.number} {
		row = octet.Put32(row, x)
	}
	whole := make([]byte, headLen)
	copy(whole, row)
	copy(b[:], sum.Seal32(whole))
	return b
}

// readHead tells a sector's head, if that is right.
func readHead(b api.Block) (head, bool) {
	r := octet.Read(b[len(letters):])
	h := head{turn: r.U32(), area: r.U32(), place: r.U32(), number: r.U32()}
	may := h.turn >= 1 && h.turn <= api.MaxTurn && mayBeArea(int(h.area)) && h.place < 2*h.area && h.number >= 1 && h.number <= api.MaxLaid
	return h, may && h.block() == b
}

func mayBeArea(area int) bool {
	return area >= api.MinArea && area <= api.MaxArea
}

// fits tells whether a disk of so many sectors has room for both heads and all places.
func fits(area, sectors int) bool {
	return sectors >= api.WalHeads+2*area
}

// counts tells the head that counts of those of both sectors.
func counts(blocks [api.WalHeads]api.Block) (head, bool) {
	var last head
	for _, b := range blocks {
		// A turn is at least 1, and of two heads of one turn the first one stays.
		if h, ok := readHead(b); ok && h.turn > last.turn {
			last = h
		}
	}
	return last, last.turn > 0
}

// sector tells where the place is that stands so far behind the log's begin.
func (h head) sector(at int) int {
	return api.WalHeads + (int(h.place)+at)%(2*int(h.area))
}

// next tells the head of the turn that follows.
func (h head) next() head {
	h.turn++
	return h
}

// write is a block, and the sector that it goes to.
type write struct {
	sector int
	block  api.Block
}

// write tells where a head goes: the one ahead of it stays where it is.
func (h head) write() []write {
	return []write{{int(h.turn % api.WalHeads), h.block()}}
}

// writes tells where the sectors of a part go that begins so far behind the log's begin.
func (h head) writes(at int, blocks []api.Block) []write {
	out := make([]write, len(blocks))
	for k, b := range blocks {
		out[k] = write{h.sector(at + k), b}
	}
	return out
}

// lay writes rows one behind the other, each with a sync behind it, up to the first error.
func lay(d *disk.Disk, rows ...[]write) (err api.Errno) {
rows:
	for _, row := range rows {
		for _, w := range row {
			if err = d.Write(w.sector, w.block); err != api.OK {
				break rows
			}
		}
		if err = d.Sync(); err != api.OK {
			break rows
		}
	}
	return err
}
