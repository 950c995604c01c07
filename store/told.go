package store

import (
	"slices"

	"headrace/api"
	"headrace/graph"
	"headrace/register"
)

// The values of a register that is a store; of one that is none they are zero.

func (k kept) lease() api.Lease {
	b, _ := k.reg.Value(nameLease)
	l, ok := readLease(b)
	if !ok {
		return api.Lease{}
	}
	return l
}

func (k kept) graph() (api.Graph, bool) {
	b, _ := k.reg.Value(nameGraph)
	g, err := graph.Decode(b)
	return g, err == api.OK
}

func (k kept) state() []byte {
	b, _ := k.reg.Value(nameState)
	return b
}

func (k kept) shelf() api.Shelf {
	b, _ := k.reg.Value(nameShelf)
	s, ok := readShelf(b)
	if !ok {
		return api.Shelf{}
	}
	return s
}

// snaps tells all snapshots of a checkpoint, by rising subtasks, and whether all are there.
func (k kept) snaps(number uint64) (out []api.Snap, ok bool) {
	g, _ := k.graph()
	for _, b := range k.snapValues(number) {
		s, ok := readSnap(g, len(out), b)
		if !ok {
			return nil, false
		}
		out = append(out, s)
	}
	return out, true
}

// inputs tells the inputs of the graph's sources, by rising sources, and whether all are there.
func (k kept) inputs() (out []api.Input, ok bool) {
	g, _ := k.graph()
	for source := range sources(g) {
		b, _ := k.reg.Value(nameInput(source))
		x, ok := readInput(source, b)
		if !ok {
			return nil, false
		}
		out = append(out, x)
	}
	return out, true
}

// isStore tells whether a register is a store: each value is what it has to be, and there is no other one.
func (k kept) isStore() bool {
	has := func(name string) bool { return slices.Contains(k.reg.Names(), name) }
	count := 1 // the shelf, which is always there
	b, _ := k.reg.Value(nameShelf)
	shelf, ok := readShelf(b)
	if !ok {
		return false
	}
	if has(nameLease) {
		count++
	}
	if k.lease().Epoch != k.reg.Epoch() || has(nameLease) != (k.reg.Epoch() > 0) {
		return false
	}
	if has(nameState) {
		if n := len(k.state()); n < 1 || n > api.MaxState {
			return false
		}
		count++
	}
	g, there := k.graph()
	if there != has(nameGraph) || !there && len(shelf.Rows) > 0 {
		return false
	}
	inputs, ok := k.inputs()
	if !ok {
		return false
	}
	if there {
		count += 1 + len(inputs)
	}
	for _, row := range shelf.Rows {
		if _, ok := k.snaps(row.Number); !ok {
			return false
		}
		count += graph.Subtasks(g)
	}
	return count == len(k.reg.Names())
}

// Lease tells the lease.
func (s *Store) Lease() api.Lease {
	if s == nil {
		return api.Lease{}
	}
	return s.lease()
}

// Graph tells the graph, and whether there is one.
func (s *Store) Graph() (api.Graph, bool) {
	if s == nil {
		return api.Graph{}, false
	}
	return s.graph()
}

// Inputs tells the inputs, by rising sources.
func (s *Store) Inputs() []api.Input {
	if s == nil {
		return nil
	}
	out, _ := s.inputs()
	return out
}

// State tells the job's state.
func (s *Store) State() []byte {
	if s == nil {
		return nil
	}
	return s.state()
}

// Shelf tells the shelf.
func (s *Store) Shelf() api.Shelf {
	if s == nil {
		return api.Shelf{}
	}
	return s.shelf()
}

// Snaps tells the snapshots of a row of the shelf, by rising subtasks.
func (s *Store) Snaps(number uint64) ([]api.Snap, api.Errno) {
	if err := s.ready(); err != api.OK {
		return nil, err
	}
	if !slices.ContainsFunc(s.shelf().Rows, func(row api.Kept) bool { return row.Number == number }) {
		return nil, api.ErrNone
	}
	out, _ := s.snaps(number)
	return out, api.OK
}

// Register tells the register that a store is.
func (s *Store) Register() *register.Register {
	if s == nil {
		return nil
	}
	return s.reg
}
