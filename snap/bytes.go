package snap

import (
	"headrace/api"
	"headrace/octet"
	"headrace/table"
)

// rowLen is how many bytes a row of a table has.
const rowLen = 18

// flag tells 1, if it is so, else 0.
func flag(is bool) byte {
	if is {
		return 1
	}
	return 0
}

// Encode tells a snapshot's bytes.
func Encode(s api.Snap) ([]byte, api.Errno) {
	if err := Check(s); err != api.OK {
		return nil, err
	}
	cells, _ := table.Encode(s.Table)
	out := append([]byte{byte(s.Op), byte(s.Index), byte(s.Width), flag(s.Ended)}, cells...)
	for _, n := range s.Offsets {
		out = append(out, byte(n))
	}
	out = append(out, byte(len(s.Txs)))
	for _, n := range s.Txs {
		out = append(out, byte(n.Sink))
		out = octet.Put32(octet.Put32(out, uint32(n.Attempt)), uint32(n.Serial))
	}
	return out, api.OK
}

// cells reads the bytes of a table, as many as its count says.
func cells(r *octet.Reader) []byte {
	count := r.U16()
	return append(octet.Put16(nil, count), r.Raw(rowLen*int(count))...)
}

// Decode tells the snapshot that the bytes are of.
func Decode(b []byte) (api.Snap, api.Errno) {
	r := octet.Read(b)
	s := api.Snap{Op: int(r.U8()), Index: int(r.U8()), Width: int(r.U8())}
	ended := r.U8()
	s.Ended = ended == 1
	rows := cells(r)
	for g := range s.Offsets {
		s.Offsets[g] = int(r.U8())
	}
	for range r.U8() {
		s.Txs = append(s.Txs, api.TxName{Sink: int(r.U8()), Attempt: int(r.U32()), Serial: int(r.U32())})
	}
	if r.Err() != api.OK {
		return api.Snap{}, r.Err()
	}
	var err api.Errno
	if s.Table, err = table.Decode(rows); err != api.OK || ended > 1 || r.Left() > 0 || !mayBe(s) {
		return api.Snap{}, api.ErrSnap
	}
	return s, api.OK
}
