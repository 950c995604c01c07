package store_test

import (
	"bytes"
	"fmt"
	"math"
	"math/rand"
	"slices"
	"testing"

	"headrace/api"
	"headrace/coord"
	"headrace/disk"
	"headrace/graph"
	"headrace/plan"
	"headrace/register"
	"headrace/retain"
	"headrace/sample"
	"headrace/snap"
	"headrace/store"
	"headrace/table"
)

func rec(source, key int, value int64) api.Record {
	return api.Record{Source: source, Key: key, Value: value}
}

func lease(epoch uint64, holder int, until int64) api.Lease {
	return api.Lease{Epoch: epoch, Holder: holder, Until: until}
}

var (
	plain = api.Graph{Ops: []api.Op{{Tag: api.OpSource, Width: 1}, {Tag: api.OpSink, Width: 1, Inputs: []int{0}}}}
	sum   = api.Graph{Ops: []api.Op{{Tag: api.OpSource, Width: 2, A: 2}, {Tag: api.OpReduce, Width: 3, Inputs: []int{0}}, {Tag: api.OpSink, Width: 1, Inputs: []int{1}}}}
	none  = []api.Input{{}}
)

func formatted(t *testing.T, area, keep int) (*disk.Disk, *store.Store) {
	t.Helper()
	d, err := disk.New(2 + 2*area)
	if err != api.OK {
		t.Fatal(err)
	}
	s, err := store.Format(d, area, keep)
	if err != api.OK || s == nil {
		t.Fatalf("Format: %d", err)
	}
	return d, s
}

// leads makes a store of a graph, with the lease of the epoch 1.
func leads(t *testing.T, g api.Graph, inputs ...api.Input) (*disk.Disk, *store.Store) {
	t.Helper()
	d, s := formatted(t, 300, 2)
	if err := s.SetJob(0, g, inputs); err != api.OK {
		t.Fatalf("SetJob: %d", err)
	}
	if err := s.SetLease(api.Lease{}, lease(1, 1, 9)); err != api.OK {
		t.Fatalf("SetLease: %d", err)
	}
	return d, s
}

// snaps makes snapshots of all subtasks of a graph; change alters the whole of each operator's.
func snaps(t *testing.T, g api.Graph, change func(op int, s *api.Snap)) (out []api.Snap) {
	t.Helper()
	for i, o := range g.Ops {
		whole, _ := snap.Zero(i, 0, 1)
		change(i, &whole)
		l, err := snap.Rescale([]api.Snap{whole}, o.Width)
		if err != api.OK {
			t.Fatal(err)
		}
		for j := range l {
			if j == 0 {
				l[j].Txs = whole.Txs
			}
		}
		out = append(out, l...)
	}
	return out
}

func nothing(int, *api.Snap) {}

func acks(t *testing.T, l []api.Snap) (out []api.Ack) {
	t.Helper()
	for task, s := range l {
		b, err := snap.Encode(s)
		if err != api.OK {
			t.Fatal(err)
		}
		out = append(out, api.Ack{Task: task, Bytes: b})
	}
	return out
}

// state is all that a store tells.
func state(s *store.Store) string {
	g, there := s.Graph()
	out := fmt.Sprint(s.Lease(), g, there, s.Inputs(), s.State(), s.Shelf(), s.Register().Epoch())
	for _, row := range s.Shelf().Rows {
		l, err := s.Snaps(row.Number)
		out += fmt.Sprint(l, err)
	}
	return out
}

func number(epoch, counter uint64) uint64 { return coord.Number(epoch, counter) }

func want(t *testing.T, name string, got, want api.Errno) {
	t.Helper()
	if got != want {
		t.Errorf("%s: %d, not %d", name, got, want)
	}
}

// refused checks that a call answers an error, and changes nothing.
func refused(t *testing.T, name string, s *store.Store, call func() api.Errno, err api.Errno) {
	t.Helper()
	was, ops := state(s), s.Register().Wal().Disk().Ops()
	want(t, name, call(), err)
	if state(s) != was || s.Register().Wal().Disk().Ops() != ops {
		t.Errorf("%s: changes something", name)
	}
}

// The chapter's examples.
func TestExamples(t *testing.T) {
	_, s := formatted(t, 200, 2)
	want(t, "SetJob", s.SetJob(0, plain, none), api.OK)
	want(t, "SetJob again", s.SetJob(0, plain, none), api.ErrThere)
	if s.Lease() != (api.Lease{}) {
		t.Errorf("Lease: %v", s.Lease())
	}
	want(t, "SetLease", s.SetLease(api.Lease{}, lease(1, 1, 9)), api.OK)
	want(t, "SetState", s.SetState(0, nil, []byte{1}), api.ErrPast)
	want(t, "SetState", s.SetState(1, nil, []byte{1}), api.OK)
	l := acks(t, snaps(t, plain, nothing))
	want(t, "Complete", s.Complete(number(1, 1), false, l), api.OK)
	if got, err := s.Snaps(number(1, 1)); err != api.OK || len(got) != 2 || !retain.Same(s.Shelf(), api.Shelf{Keep: 2, Rows: []api.Kept{{Number: number(1, 1), Open: true}}}) {
		t.Errorf("Shelf: %v, %v", s.Shelf(), got)
	}
	want(t, "Complete again", s.Complete(number(1, 1), false, l), api.ErrArg)
	want(t, "Settle", s.Settle(1, number(1, 1)), api.OK)
	want(t, "SetLease", s.SetLease(api.Lease{}, lease(2, 2, 9)), api.ErrMoved)
}

// P24.1, P24.6: Format, Open; of nil.
func TestFormat(t *testing.T) {
	d, _ := disk.New(42)
	for _, keep := range []int{0, 5, -1, math.MaxInt} {
		if s, err := store.Format(d, 20, keep); err != api.ErrArg || s != nil || d.Ops() != 0 {
			t.Errorf("Format with %d: %d", keep, err)
		}
	}
	if s, err := store.Format(d, 21, 1); err != api.ErrArg || s != nil {
		t.Errorf("Format: %d", err)
	}
	if s, err := store.Format(nil, 20, 1); err != api.ErrNil || s != nil {
		t.Errorf("Format(nil): %d", err)
	}
	if s, err := store.Open(nil); err != api.ErrNil || s != nil {
		t.Errorf("Open(nil): %d", err)
	}
	if s, err := store.Open(d); err != api.ErrWal || s != nil {
		t.Errorf("Open of noughts: %d", err)
	}
	register.Format(d, 20)
	if s, err := store.Open(d); err != api.ErrStore || s != nil {
		t.Errorf("Open of a register of nothing: %d", err)
	}
	ops := d.Ops()
	s, err := store.Format(d, 20, 3)
	steps := d.Ops() - ops
	if err != api.OK || state(s) != state(s) || s.Shelf().Keep != 3 || len(s.Shelf().Rows) > 0 || s.Lease() != (api.Lease{}) || len(s.Inputs())+len(s.State()) > 0 || s.Register() == nil {
		t.Errorf("Format: %d", err)
	}
	if b, ok := s.Register().Value("shelf"); !ok || !bytes.Equal(b, []byte{3, 0}) || !slices.Equal(s.Register().Names(), []string{"shelf"}) {
		t.Errorf("the shelf: %v", b)
	}
	if g, there := s.Graph(); len(g.Ops) > 0 || there {
		t.Errorf("a graph of nothing")
	}
	d.Fail(steps - 1)
	if s, err := store.Format(d, 20, 3); err != api.ErrIo || s != nil {
		t.Errorf("Format: %d", err)
	}
	var n *store.Store
	if g, there := n.Graph(); len(g.Ops) > 0 || there || n.Lease() != (api.Lease{}) || len(n.Inputs())+len(n.State()) > 0 || !retain.Same(n.Shelf(), api.Shelf{}) || n.Register() != nil {
		t.Errorf("nil tells something")
	}
	l, err := n.Snaps(1)
	for i, err := range []api.Errno{err, n.SetLease(api.Lease{}, api.Lease{}), n.SetJob(9, api.Graph{}, nil), n.SetState(0, nil, make([]byte, 99)), n.Complete(0, false, nil), n.Rescale(0, 0, nil), n.Settle(0, 0), n.Release(0, 0), n.Mark(0, 0)} {
		if err != api.ErrNil || len(l) > 0 {
			t.Errorf("call %d of nil: %d", i, err)
		}
	}
}

// Errors: ErrIo of what is broken, ahead of all else.
func TestBroken(t *testing.T) {
	d, s := leads(t, plain, none...)
	want(t, "Complete", s.Complete(number(1, 1), false, acks(t, snaps(t, plain, nothing))), api.OK)
	was := state(s)
	d.Fail(0)
	want(t, "SetState", s.SetState(1, nil, []byte{1}), api.ErrIo)
	l, err := s.Snaps(number(1, 1))
	for i, err := range []api.Errno{err, s.SetLease(api.Lease{}, api.Lease{}), s.SetJob(9, api.Graph{}, nil), s.SetState(0, nil, make([]byte, 99)), s.Complete(0, false, nil), s.Rescale(0, 0, nil), s.Settle(0, 0), s.Release(0, 0), s.Mark(0, 0)} {
		if err != api.ErrIo || len(l) > 0 {
			t.Errorf("call %d: %d", i, err)
		}
	}
	if s.Lease() != lease(1, 1, 9) || len(s.Shelf().Rows) != 1 || was == "" {
		t.Errorf("told of what is broken: %v", state(s))
	}
}

// P24.2: SetLease.
func TestSetLease(t *testing.T) {
	_, s := formatted(t, 100, 1)
	for i, next := range []api.Lease{{}, lease(1, 0, 5), lease(1, 4, 5), lease(1, 1, -1), lease(api.MaxEpoch+1, 1, 5)} {
		refused(t, fmt.Sprint("SetLease ", i), s, func() api.Errno { return s.SetLease(lease(9, 9, 9), next) }, api.ErrArg)
	}
	refused(t, "another one", s, func() api.Errno { return s.SetLease(lease(1, 1, 5), lease(2, 1, 5)) }, api.ErrMoved)
	want(t, "the first one", s.SetLease(api.Lease{}, lease(7, 2, 258)), api.OK)
	if b, _ := s.Register().Value("lease"); !bytes.Equal(b, []byte{0, 0, 0, 0, 0, 0, 0, 7, 2, 0, 0, 0, 0, 0, 0, 1, 2}) || s.Register().Epoch() != 7 {
		t.Errorf("the lease: %v", b)
	}
	refused(t, "past", s, func() api.Errno { return s.SetLease(api.Lease{}, lease(6, 1, 5)) }, api.ErrPast)
	refused(t, "moved", s, func() api.Errno { return s.SetLease(api.Lease{}, lease(8, 1, 5)) }, api.ErrMoved)
	refused(t, "the same", s, func() api.Errno { return s.SetLease(lease(7, 2, 258), lease(7, 2, 258)) }, api.OK)
	want(t, "renewed", s.SetLease(lease(7, 2, 258), lease(7, 2, 300)), api.OK)
	want(t, "the next one", s.SetLease(lease(7, 2, 300), lease(9, 1, 5)), api.OK)
	if s.Lease() != lease(9, 1, 5) || s.Register().Epoch() != 9 {
		t.Errorf("Lease: %v", s.Lease())
	}
}

// P24.2: SetJob.
func TestSetJob(t *testing.T) {
	union := api.Graph{Ops: []api.Op{{Tag: api.OpSource, Width: 1, A: 3}, {Tag: api.OpSource, Width: 1, A: 1}, {Tag: api.OpUnion, Width: 1, Inputs: []int{0, 1}}, {Tag: api.OpSink, Width: 1, Inputs: []int{2}}}}
	one, three := api.Input{Source: 1, Records: []api.Record{rec(1, 31, -1), rec(1, 0, 258)}}, api.Input{Source: 3}
	_, s := formatted(t, 100, 1)
	want(t, "SetLease", s.SetLease(api.Lease{}, lease(2, 1, 5)), api.OK)
	for i, x := range []struct {
		epoch  uint64
		g      api.Graph
		inputs []api.Input
		err    api.Errno
	}{
		{2, api.Graph{}, nil, api.ErrArg}, {0, api.Graph{Ops: plain.Ops[:1]}, none, api.ErrArg}, {2, union, nil, api.ErrArg}, {2, union, []api.Input{one}, api.ErrArg}, {2, union, []api.Input{three, one}, api.ErrArg}, {2, union, []api.Input{one, three, three}, api.ErrArg}, {2, union, []api.Input{one, one}, api.ErrArg}, {2, union, []api.Input{{Source: 2}, three}, api.ErrArg},
		{0, union, []api.Input{{Source: 1, Records: []api.Record{rec(3, 0, 0)}}, three}, api.ErrArg}, {2, union, []api.Input{{Source: 1, Records: slices.Repeat(one.Records, 21)}, three}, api.ErrArg},
		{1, union, []api.Input{one, three}, api.ErrPast}, {3, union, []api.Input{one, three}, api.ErrArg},
	} {
		refused(t, fmt.Sprint("SetJob ", i), s, func() api.Errno { return s.SetJob(x.epoch, x.g, x.inputs) }, x.err)
	}
	want(t, "SetJob", s.SetJob(2, union, []api.Input{one, three}), api.OK)
	refused(t, "SetJob again", s, func() api.Errno { return s.SetJob(2, plain, none) }, api.ErrThere)
	refused(t, "SetJob again, past", s, func() api.Errno { return s.SetJob(1, plain, none) }, api.ErrPast)
	row, _ := graph.Encode(union)
	b, _ := s.Register().Value("graph")
	in, _ := s.Register().Value("in1")
	none, _ := s.Register().Value("in3")
	if !bytes.Equal(b, row) || !bytes.Equal(in, []byte{2, 31, 255, 255, 255, 255, 255, 255, 255, 255, 0, 0, 0, 0, 0, 0, 0, 1, 2}) || !bytes.Equal(none, []byte{0}) || len(s.Register().Names()) != 5 {
		t.Errorf("the values: %v %v %v", b, in, none)
	}
	g, there := s.Graph()
	l := s.Inputs()
	if !there || !graph.Same(g, union) || len(l) != 2 || l[0].Source != 1 || !slices.Equal(l[0].Records, one.Records) || l[1].Source != 3 || len(l[1].Records) > 0 {
		t.Errorf("told: %v %v", g, l)
	}
}

// P24.2: SetState.
func TestSetState(t *testing.T) {
	_, s := formatted(t, 100, 1)
	want(t, "SetLease", s.SetLease(api.Lease{}, lease(2, 1, 5)), api.OK)
	long := bytes.Repeat([]byte{7}, api.MaxState+1)
	refused(t, "long", s, func() api.Errno { return s.SetState(0, []byte{1}, long) }, api.ErrLong)
	refused(t, "past", s, func() api.Errno { return s.SetState(1, []byte{1}, long[1:]) }, api.ErrPast)
	refused(t, "above", s, func() api.Errno { return s.SetState(3, []byte{1}, long[1:]) }, api.ErrArg)
	refused(t, "moved", s, func() api.Errno { return s.SetState(2, []byte{1}, long[1:]) }, api.ErrMoved)
	refused(t, "nothing to nothing", s, func() api.Errno { return s.SetState(2, nil, nil) }, api.OK)
	want(t, "the longest", s.SetState(2, []byte{}, long[1:]), api.OK)
	if b, _ := s.Register().Value("state"); !bytes.Equal(b, long[1:]) || !bytes.Equal(s.State(), long[1:]) {
		t.Errorf("the state: %v", b)
	}
	refused(t, "moved", s, func() api.Errno { return s.SetState(2, nil, []byte{1}) }, api.ErrMoved)
	want(t, "another one", s.SetState(2, long[1:], []byte{1, 2}), api.OK)
	want(t, "none", s.SetState(2, []byte{1, 2}, nil), api.OK)
	if _, ok := s.Register().Value("state"); ok || len(s.State()) > 0 {
		t.Errorf("the state: %v", s.State())
	}
}

// P24.3: Complete.
func TestComplete(t *testing.T) {
	_, s := leads(t, sum, api.Input{Source: 2, Records: []api.Record{rec(2, 3, 4)}})
	first := snaps(t, sum, func(op int, x *api.Snap) {
		switch op {
		case 0:
			x.Offsets[3] = 1
		case 1:
			x.Table.Rows = []api.KeyCell{{Source: 2, Key: 3, Cell: api.Cell{Count: 1, Sum: 4}}}
		case 2:
			x.Txs = []api.TxName{{Sink: 5, Attempt: 1, Serial: 1}}
		}
	})
	good := acks(t, first)
	swapped := slices.Clone(good)
	swapped[0], swapped[1] = good[1], good[0]
	shift := slices.Clone(good)
	shift[3].Task = 4
	other := slices.Clone(good)
	other[0].Bytes = good[1].Bytes
	bad := slices.Clone(good)
	bad[5].Bytes = append(bytes.Clone(good[5].Bytes), 0)
	unfit := slices.Clone(good)
	z, _ := snap.Zero(1, 0, 1)
	unfit[2].Bytes, _ = snap.Encode(z)
	n := number(1, 3)
	for i, x := range []struct {
		number uint64
		acks   []api.Ack
		err    api.Errno
	}{
		{0, nil, api.ErrArg}, {1 << 31, nil, api.ErrArg}, {math.MaxUint64, good, api.ErrArg}, {number(2, 1), good, api.ErrArg},
		{n, nil, api.ErrArg}, {n, good[:5], api.ErrArg}, {n, append(slices.Clone(good), good[5]), api.ErrArg}, {n, swapped, api.ErrArg}, {n, shift, api.ErrArg},
		{n, other, api.ErrSnap}, {n, bad, api.ErrSnap}, {n, unfit, api.ErrSnap}, {n, []api.Ack{{Task: 0}, {Task: 1}, {Task: 2}, {Task: 3}, {Task: 4}, {Task: 5}}, api.ErrSnap},
	} {
		refused(t, fmt.Sprint("Complete ", i), s, func() api.Errno { return s.Complete(x.number, true, x.acks) }, x.err)
	}
	want(t, "SetLease", s.SetLease(lease(1, 1, 9), lease(2, 1, 9)), api.OK)
	refused(t, "past", s, func() api.Errno { return s.Complete(n, true, nil) }, api.ErrPast)
	n = number(2, 3)
	want(t, "Complete", s.Complete(n, true, good), api.OK)
	l, err := s.Snaps(n)
	if err != api.OK || !slices.EqualFunc(l, first, snap.Same) || !retain.Same(s.Shelf(), api.Shelf{Keep: 2, Rows: []api.Kept{{Number: n, Save: true, Open: true}}}) {
		t.Errorf("Complete: %v %v", s.Shelf(), l)
	}
	for task := range first {
		if b, ok := s.Register().Value(fmt.Sprintf("c0000000100000003.%02d", task)); !ok || !bytes.Equal(b, good[task].Bytes) {
			t.Errorf("the snapshot of %d: %v", task, b)
		}
	}
	if b, _ := s.Register().Value("shelf"); !bytes.Equal(b, []byte{2, 1, 0, 0, 0, 1, 0, 0, 0, 3, 3}) {
		t.Errorf("the shelf: %v", b)
	}
	refused(t, "again", s, func() api.Errno { return s.Complete(n, true, good) }, api.ErrArg)
	if l, err := s.Snaps(n + 1); err != api.ErrNone || len(l) > 0 {
		t.Errorf("Snaps of none: %d", err)
	}
	_, empty := formatted(t, 100, 1)
	want(t, "SetLease", empty.SetLease(api.Lease{}, lease(1, 1, 5)), api.OK)
	refused(t, "no graph", empty, func() api.Errno { return empty.Complete(number(1, 1), true, nil) }, api.ErrNone)
}

// P24.3: what the shelf drops goes; a Large batch leaves some room.
func TestDropped(t *testing.T) {
	_, s := leads(t, plain, none...)
	l := acks(t, snaps(t, plain, nothing))
	for i := uint64(1); i <= 5; i++ {
		want(t, "Complete", s.Complete(number(1, i), i == 2, l), api.OK)
		want(t, "Settle", s.Settle(1, number(1, i)), api.OK)
	}
	var left []uint64
	for _, row := range s.Shelf().Rows {
		left = append(left, row.Number)
	}
	if !slices.Equal(left, []uint64{number(1, 2), number(1, 4), number(1, 5)}) || len(s.Register().Names()) != 4+3*2 {
		t.Errorf("left: %v, %v", left, s.Register().Names())
	}
	refused(t, "Settle", s, func() api.Errno { return s.Settle(1, number(1, 5)) }, api.ErrOpen)
	refused(t, "Settle none", s, func() api.Errno { return s.Settle(1, number(1, 3)) }, api.ErrNone)
	refused(t, "Release", s, func() api.Errno { return s.Release(1, number(1, 4)) }, api.ErrArg)
	refused(t, "Mark", s, func() api.Errno { return s.Mark(1, number(1, 2)) }, api.ErrThere)
	for name, call := range map[string]func(epoch, number uint64) api.Errno{"Settle": s.Settle, "Release": s.Release, "Mark": s.Mark} {
		refused(t, name, s, func() api.Errno { return call(0, 99) }, api.ErrPast)
		refused(t, name, s, func() api.Errno { return call(2, 99) }, api.ErrArg)
		refused(t, name, s, func() api.Errno { return call(1, 99) }, api.ErrNone)
	}
	want(t, "Mark", s.Mark(1, number(1, 4)), api.OK)
	want(t, "Release", s.Release(1, number(1, 2)), api.OK)
	if rows := s.Shelf().Rows; len(rows) != 3 || !rows[1].Save || rows[0].Save {
		t.Errorf("the shelf: %v", rows)
	}
	want(t, "Complete", s.Complete(number(1, 6), false, l), api.OK)
	want(t, "Settle", s.Settle(1, number(1, 6)), api.OK)
	if _, err := s.Snaps(number(1, 2)); err != api.ErrNone || len(s.Shelf().Rows) != 3 {
		t.Errorf("the shelf: %v", s.Shelf())
	}
	_, small := formatted(t, 12, 1)
	want(t, "SetJob", small.SetJob(0, plain, none), api.OK)
	want(t, "SetLease", small.SetLease(api.Lease{}, lease(1, 1, 5)), api.OK)
	refused(t, "no room", small, func() api.Errno { return small.Complete(number(1, 1), false, l) }, api.ErrFull)
}

// P24.4: Rescale.
func TestRescale(t *testing.T) {
	_, s := leads(t, sum, api.Input{Source: 2})
	first := snaps(t, sum, func(op int, x *api.Snap) {
		if op == 1 {
			for key := range 8 {
				x.Table.Rows = append(x.Table.Rows, api.KeyCell{Source: 2, Key: key, Cell: api.Cell{Count: 1, Sum: int64(key)}})
			}
		}
		if op == 2 {
			x.Txs = []api.TxName{{Sink: 5, Attempt: 1, Serial: 1}}
		}
	})
	one, two := number(1, 1), number(1, 2)
	good := []int{1, 2, 3}
	refused(t, "no row", s, func() api.Errno { return s.Rescale(one, two, good) }, api.ErrNone)
	want(t, "Complete", s.Complete(one, false, acks(t, first)), api.OK)
	refused(t, "open", s, func() api.Errno { return s.Rescale(one, two, nil) }, api.ErrOpen)
	want(t, "Settle", s.Settle(1, one), api.OK)
	want(t, "Complete", s.Complete(two, true, acks(t, first)), api.OK)
	refused(t, "one is open", s, func() api.Errno { return s.Rescale(one, number(1, 5), good) }, api.ErrOpen)
	want(t, "Settle", s.Settle(1, two), api.OK)
	for i, x := range []struct {
		number, next uint64
		widths       []int
		err          api.Errno
	}{
		{9, 0, nil, api.ErrArg}, {9, 1 << 31, nil, api.ErrArg}, {9, number(2, 9), good, api.ErrArg}, {9, number(1, 9), nil, api.ErrNone},
		{one, number(1, 9), good, api.ErrArg}, {two, two, good, api.ErrArg}, {two, one, good, api.ErrArg}, {two, number(1, 9), nil, api.ErrArg}, {two, number(1, 9), []int{1, 2}, api.ErrArg}, {two, number(1, 9), []int{1, 2, 3, 1}, api.ErrArg}, {two, number(1, 9), []int{1, 0, 3}, api.ErrArg}, {two, number(1, 9), []int{1, 4, 3}, api.ErrArg}, {two, number(1, 9), []int{-1, math.MaxInt, 3}, api.ErrArg},
	} {
		refused(t, fmt.Sprint("Rescale ", i), s, func() api.Errno { return s.Rescale(x.number, x.next, x.widths) }, x.err)
	}
	want(t, "Rescale", s.Rescale(two, number(1, 9), good), api.OK)
	wide := api.Graph{Ops: slices.Clone(sum.Ops)}
	for i, w := range good {
		wide.Ops[i].Width = w
	}
	g, _ := s.Graph()
	if !graph.Same(g, wide) || !retain.Same(s.Shelf(), api.Shelf{Keep: 2, Rows: []api.Kept{{Number: number(1, 9), Save: true}}}) || len(s.Register().Names()) != 4+6 {
		t.Errorf("Rescale: %v %v %v", g, s.Shelf(), s.Register().Names())
	}
	l, err := s.Snaps(number(1, 9))
	var all api.Table
	for _, x := range l {
		if !snap.Fits(wide, x) || len(x.Txs) > 0 {
			t.Errorf("the snapshot %v", x)
		}
		all, _ = table.Join(all, x.Table)
	}
	if err != api.OK || len(l) != 6 || len(all.Rows) != 8 || len(l[1].Table.Rows) != 4 {
		t.Errorf("the cells: %v %d", l, err)
	}
	want(t, "SetLease", s.SetLease(lease(1, 1, 9), lease(2, 1, 9)), api.OK)
	refused(t, "past", s, func() api.Errno { return s.Rescale(9, number(1, 10), nil) }, api.ErrPast)
	// Names that do not rise, put together.
	names := snaps(t, sum, nothing)
	_, s = leads(t, api.Graph{Ops: []api.Op{sum.Ops[0], sum.Ops[1], {Tag: api.OpSink, Width: 2, Inputs: []int{1}}}}, api.Input{Source: 2})
	g, _ = s.Graph()
	names = snaps(t, g, nothing)
	names[5].Txs, names[6].Txs = []api.TxName{{Sink: 6, Attempt: 1, Serial: 1}}, []api.TxName{{Sink: 5, Attempt: 1, Serial: 1}}
	want(t, "Complete", s.Complete(one, false, acks(t, names)), api.OK)
	want(t, "Settle", s.Settle(1, one), api.OK)
	refused(t, "names", s, func() api.Errno { return s.Rescale(one, two, good) }, api.ErrParts)
}

// P24.1: registers that are stores, and that are none.
func TestOpen(t *testing.T) {
	_, s := leads(t, sum, api.Input{Source: 2})
	want(t, "SetState", s.SetState(1, nil, []byte{1}), api.OK)
	n := number(1, 1)
	want(t, "Complete", s.Complete(n, false, acks(t, snaps(t, sum, nothing))), api.OK)
	values := map[string][]byte{}
	for _, name := range s.Register().Names() {
		values[name], _ = s.Register().Value(name)
	}
	c := func(task int) string { return fmt.Sprintf("c%016x.%02d", n, task) }
	unread, _ := graph.Encode(plain)
	// Each change is of one name's value: nil takes it away.
	for i, x := range []struct {
		epoch  uint64
		change map[string][]byte
		ok     bool
	}{
		{1, nil, true}, {1, map[string][]byte{"state": nil}, true}, {1, map[string][]byte{"state": bytes.Repeat([]byte{1}, 64)}, true},
		{1, map[string][]byte{"state": {}}, false}, {1, map[string][]byte{"state": bytes.Repeat([]byte{1}, 65)}, false},
		{2, nil, false}, {0, nil, false}, {0, map[string][]byte{"lease": nil}, true}, {1, map[string][]byte{"lease": nil}, false}, {1, map[string][]byte{"lease": values["lease"][1:]}, false}, {1, map[string][]byte{"lease": append(slices.Clone(values["lease"]), 0)}, false}, {0, map[string][]byte{"lease": make([]byte, 17)}, false},
		{1, map[string][]byte{"shelf": nil}, false}, {1, map[string][]byte{"shelf": {2, 0}}, false}, {1, map[string][]byte{"shelf": {5, 1, 0, 0, 0, 0, 128, 0, 0, 1, 2}}, false}, {1, map[string][]byte{"shelf": {1, 1, 0, 0, 0, 0, 128, 0, 0, 1, 3}}, true}, {1, map[string][]byte{"shelf": {1, 1, 0, 0, 0, 0, 128, 0, 0, 1, 4}}, false}, {1, map[string][]byte{"shelf": {1, 1, 0, 0, 0, 0, 128, 0, 0, 1}}, false}, {1, map[string][]byte{"shelf": {1, 1, 0, 0, 0, 0, 128, 0, 0, 2, 3}}, false}, {1, map[string][]byte{"shelf": {1, 1, 0, 0, 0, 0, 128, 0, 0, 1, 3, 0}}, false},
		{1, map[string][]byte{"graph": nil}, false}, {1, map[string][]byte{"graph": unread}, false}, {1, map[string][]byte{"graph": values["graph"][1:]}, false},
		{1, map[string][]byte{"in2": nil}, false}, {1, map[string][]byte{"in2": {1}}, false}, {1, map[string][]byte{"in2": {0, 0}}, false}, {1, map[string][]byte{"in2": {1, 32, 0, 0, 0, 0, 0, 0, 0, 0}}, false}, {1, map[string][]byte{"in2": {1, 31, 0, 0, 0, 0, 0, 0, 0, 0}}, true}, {1, map[string][]byte{"in0": {0}}, false}, {1, map[string][]byte{"in2": append([]byte{41}, make([]byte, 41*9)...)}, false},
		{1, map[string][]byte{c(0): nil}, false}, {1, map[string][]byte{c(5): nil}, false}, {1, map[string][]byte{c(6): values[c(5)]}, false}, {1, map[string][]byte{c(0): values[c(1)]}, false}, {1, map[string][]byte{c(2): append(slices.Clone(values[c(2)]), 0)}, false},
		{1, map[string][]byte{"other": {1}}, false}, {1, map[string][]byte{"c": {}}, false},
	} {
		d, _ := disk.New(602)
		r, _ := register.Format(d, 300)
		b := api.Batch{Epoch: x.epoch}
		all := map[string][]byte{}
		for name, v := range values {
			all[name] = v
		}
		for name, v := range x.change {
			if all[name] = v; v == nil {
				delete(all, name)
			}
		}
		for name, v := range all {
			b.Sets = append(b.Sets, api.Set{Name: name, Is: true, New: v})
		}
		want(t, "Commit", r.Commit(b), api.OK)
		s, err := store.Open(d)
		if x.ok && (err != api.OK || s == nil) || !x.ok && (err != api.ErrStore || s != nil) {
			t.Errorf("register %d: %d", i, err)
		}
	}
	// Without a graph there are no rows, and no inputs.
	for i, l := range [][]api.Set{{{Name: "shelf", Is: true, New: []byte{1, 0}}}, {{Name: "shelf", Is: true, New: []byte{1, 0}}, {Name: "in0", Is: true, New: []byte{0}}}, {{Name: "shelf", Is: true, New: []byte{1, 1, 0, 0, 0, 0, 128, 0, 0, 1, 3}}}} {
		d, _ := disk.New(602)
		r, _ := register.Format(d, 300)
		want(t, "Commit", r.Commit(api.Batch{Sets: l}), api.OK)
		if _, err := store.Open(d); (err == api.OK) != (i == 0) {
			t.Errorf("without a graph %d: %d", i, err)
		}
	}
}

// R3: nothing is shared.
func TestShares(t *testing.T) {
	in := api.Input{Source: 2, Records: []api.Record{rec(2, 3, 4)}}
	_, s := leads(t, sum, in)
	l := acks(t, snaps(t, sum, nothing))
	b := []byte{1}
	want(t, "SetState", s.SetState(1, nil, b), api.OK)
	want(t, "Complete", s.Complete(number(1, 1), false, l), api.OK)
	was := state(s)
	b[0], l[0].Bytes[0], in.Records[0].Key = 9, 9, 9
	g, _ := s.Graph()
	g.Ops[1].Inputs[0] = 9
	s.Inputs()[0].Records[0].Key = 9
	s.State()[0] = 9
	s.Shelf().Rows[0].Number = 9
	x, _ := s.Snaps(number(1, 1))
	x[0].Width = 9
	if state(s) != was {
		t.Errorf("shares: %v", state(s))
	}
}

// P24.7: wherever the power goes, a call is done, or not; opened again all is the same.
func TestCrash(t *testing.T) {
	rnd := rand.New(rand.NewSource(24))
	for round := range 120 {
		g := sample.Graph(rnd.Intn)
		subs, _ := plan.Subs(g)
		if len(subs) > 8 {
			continue
		}
		d, s := formatted(t, 200, 1+rnd.Intn(2))
		epoch, counter := uint64(0), uint64(0)
		for range 40 {
			was := state(s)
			if rnd.Intn(5) == 0 {
				d.Arm(rnd.Intn(12))
			}
			ahead := d.Copy()
			var err api.Errno
			call := func(s *store.Store) api.Errno {
				last, _ := retain.Latest(s.Shelf())
				open, _ := retain.Next(s.Shelf())
				switch counter % 9 {
				case 0:
					return s.SetLease(s.Lease(), lease(epoch+1, 1, int64(counter)))
				case 1:
					return s.SetJob(epoch, g, sample.Inputs(g, 0, rnd.Intn))
				case 2:
					return s.SetState(epoch, s.State(), []byte{byte(counter)})
				case 3, 4:
					return s.Complete(number(epoch, counter), counter%2 > 0, acks(t, snaps(t, g, nothing)))
				case 5, 6:
					return s.Settle(epoch, open)
				case 7:
					return s.Mark(epoch, last.Number)
				}
				return s.Release(epoch, last.Number)
			}
			err = call(s)
			if s.Register().Epoch() > epoch {
				epoch++
			}
			if err != api.ErrDead {
				counter++
				if err != api.OK && state(s) != was {
					t.Fatalf("refused, and changed: %d", err)
				}
				continue
			}
			// What would be, without the loss of power.
			ahead.Arm(-1)
			would, oerr := store.Open(ahead)
			if oerr != api.OK {
				t.Fatal(oerr)
			}
			call(would)
			keep := make([]bool, len(d.Pending()))
			for i := range keep {
				keep[i] = rnd.Intn(2) > 0
			}
			d.Crash(keep)
			o, oerr := store.Open(d)
			if oerr != api.OK || state(o) != was && state(o) != state(would) {
				t.Fatalf("round %d: %d behind a crash: %v", round, oerr, state(o))
			}
			if again, oerr := store.Open(d); oerr != api.OK || state(again) != state(o) {
				t.Fatalf("opened again: %d", oerr)
			}
			s, _ = store.Open(d)
			epoch = s.Register().Epoch()
			counter++
		}
	}
}
