package register

import (
	"headrace/api"
	"headrace/octet"
)

// mayBeSet tells whether a Set may be.
func mayBeSet(s api.Set) bool {
	side := func(is bool, b []byte) bool { return len(b) <= api.MaxValue && (is || len(b) == 0) }
	return len(s.Name) >= 1 && len(s.Name) <= api.MaxName && side(s.Was, s.Old) && side(s.Is, s.New)
}

// mayBe tells whether a batch may be.
func mayBe(b api.Batch) bool {
	if b.Epoch > api.MaxNumber || len(b.Sets) > api.MaxNames {
		return false
	}
	names := map[string]int{}
	for _, s := range b.Sets {
		names[s.Name]++
		if !mayBeSet(s) || names[s.Name] > 1 {
			return false
		}
	}
	return true
}

// flag tells 1, if it is so, else 0.
func flag(is bool) byte {
	if is {
		return 1
	}
	return 0
}

// side tells the bytes of one side of a Set: whether there is a value, and which.
func side(is bool, b []byte) []byte {
	head := octet.Put16([]byte{flag(is)}, uint16(len(b)))
	return append(head, b...)
}

// lay tells the bytes of a batch that may be.
func lay(b api.Batch) []byte {
	out := append(octet.Put64(nil, b.Epoch), flag(b.Large), byte(len(b.Sets)))
	for _, s := range b.Sets {
		out = append(append(out, byte(len(s.Name))), s.Name...)
		out = append(out, side(s.Was, s.Old)...)
		out = append(out, side(s.Is, s.New)...)
	}
	return out
}

// Encode tells the bytes of a batch.
func Encode(b api.Batch) ([]byte, api.Errno) {
	if !mayBe(b) {
		return nil, api.ErrArg
	}
	return lay(b), api.OK
}

// reader reads batches, and keeps whether all was as it has to be.
type reader struct {
	*octet.Reader
	wrong bool
}

// flag reads whether something is so.
func (r *reader) flag() bool {
	x := r.U8()
	r.wrong = r.wrong || x > 1
	return x == 1
}

// side reads one side of a Set.
func (r *reader) side() (bool, []byte) {
	is := r.flag()
	return is, r.Raw(int(r.U16()))
}

// set reads a Set.
func (r *reader) set() (s api.Set) {
	s.Name = string(r.Raw(int(r.U8())))
	s.Was, s.Old = r.side()
	s.Is, s.New = r.side()
	return s
}

// Decode tells the batch that the bytes are of.
func Decode(b []byte) (api.Batch, api.Errno) {
	r := &reader{Reader: octet.Read(b)}
	x := api.Batch{Epoch: r.U64(), Large: r.flag()}
	for range r.U8() {
		x.Sets = append(x.Sets, r.set())
	}
	if r.Err() != api.OK {
		return api.Batch{}, r.Err()
	}
	if r.wrong || r.Left() > 0 || !mayBe(x) {
		return api.Batch{}, api.ErrArg
	}
	return x, api.OK
}
