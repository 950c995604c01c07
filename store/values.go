package store

import (
	"iter"
	"strconv"
	"strings"

	"headrace/api"
	"headrace/keys"
	"headrace/lease"
	"headrace/octet"
	"headrace/region"
	"headrace/retain"
	"headrace/snap"
)

// The names of the values that there is one of.
const (
	nameLease = "lease"
	nameGraph = "graph"
	nameState = "state"
	nameShelf = "shelf"
)

// The flags of a row of the shelf.
const (
	flagSave = 1
	flagOpen = 2
)

// nameInput tells the name of a source's input.
func nameInput(source int) string { return "in" + strconv.Itoa(source) }

// padded tells a number's digits, with noughts ahead up to a length.
func padded(x uint64, base, length int) string {
	digits := strconv.FormatUint(x, base)
	return strings.Repeat("0", max(0, length-len(digits))) + digits
}

// nameSnap tells the name of a subtask's snapshot of a checkpoint.
func nameSnap(number uint64, task int) string {
	return "c" + padded(number, 16, 16) + "." + padded(uint64(task), 10, 2)
}

// layLease tells the value of a lease.
func layLease(l api.Lease) []byte {
	b := append(octet.Put64(nil, l.Epoch), byte(l.Holder))
	return octet.Put64(b, uint64(l.Until))
}

// readLease tells the lease that a value is of.
func readLease(b []byte) (api.Lease, bool) {
	r := octet.Read(b)
	l := api.Lease{Epoch: r.U64(), Holder: int(r.U8()), Until: int64(r.U64())}
	return l, r.Err() == api.OK && r.Left() == 0 && lease.Check(l) == api.OK && l.Epoch > 0
}

// layInput tells the value of an input.
func layInput(x api.Input) []byte {
	b := []byte{byte(len(x.Records))}
	for _, r := range x.Records {
		b = octet.Put64(append(b, byte(r.Key)), uint64(r.Value))
	}
	return b
}

// readInput tells the input of a source that a value is of.
func readInput(source int, b []byte) (api.Input, bool) {
	r := octet.Read(b)
	x := api.Input{Source: source}
	for range r.U8() {
		x.Records = append(x.Records, api.Record{Source: source, Key: int(r.U8()), Value: int64(r.U64())})
	}
	return x, r.Err() == api.OK && r.Left() == 0 && keys.CheckInput(x) == api.OK
}

// layShelf tells the value of a shelf.
func layShelf(s api.Shelf) []byte {
	b := []byte{byte(s.Keep), byte(len(s.Rows))}
	for _, row := range s.Rows {
		var flags byte
		if row.Save {
			flags |= flagSave
		}
		if row.Open {
			flags |= flagOpen
		}
		b = append(octet.Put64(b, row.Number), flags)
	}
	return b
}

// readShelf tells the shelf that a value is of.
func readShelf(b []byte) (api.Shelf, bool) {
	r := octet.Read(b)
	s := api.Shelf{Keep: int(r.U8())}
	may := true
	for range r.U8() {
		row := api.Kept{Number: r.U64()}
		flags := r.U8()
		row.Save, row.Open = flags&flagSave != 0, flags&flagOpen != 0
		may = may && flags <= flagSave|flagOpen
		s.Rows = append(s.Rows, row)
	}
	return s, may && r.Err() == api.OK && r.Left() == 0 && retain.Check(s) == api.OK
}

// readSnap tells the snapshot that bytes are of, if it is of that subtask, and fits the graph.
func readSnap(g api.Graph, task int, b []byte) (api.Snap, bool) {
	s, err := snap.Decode(b)
	if err != api.OK {
		return api.Snap{}, false
	}
	op, index, err := region.Op(g, task)
	if err != api.OK || s.Op != op || s.Index != index || !snap.Fits(g, s) {
		return api.Snap{}, false
	}
	return s, true
}

// sources tells the numbers of a graph's sources, rising.
func sources(g api.Graph) iter.Seq[int] {
	return func(yield func(int) bool) {
		for source := range api.MaxSources {
			for _, o := range g.Ops {
				if o.Tag == api.OpSource && o.A == int64(source) && !yield(source) {
					return
				}
			}
		}
	}
}
