package task_test

import (
	"math"
	"math/rand"
	"slices"
	"testing"

	"headrace/api"
	"headrace/deno"
	"headrace/keys"
	"headrace/plan"
	"headrace/sample"
	"headrace/sink"
	"headrace/snap"
	"headrace/table"
	"headrace/task"
)

func rec(key int, value int64) api.Record { return api.Record{Key: key, Value: value} }

func elem(r api.Record) api.Elem { return api.Elem{Kind: api.ElRecord, Record: r} }

func bar(n uint64) api.Elem { return api.Elem{Kind: api.ElBarrier, Number: n} }

func emit(channel int, e api.Elem) api.Emit { return api.Emit{Channel: channel, Elem: e} }

func name(sub, attempt, serial int) api.TxName {
	return api.TxName{Sink: sub, Attempt: attempt, Serial: serial}
}

var (
	end = api.Elem{Kind: api.ElEnd}
	g   = sample.Plain(api.Op{Tag: api.OpReduce, Width: 1}) // s 0, r 1, k 2
	in  = api.Input{Records: []api.Record{rec(1, 2), rec(1, 3)}}
	// The source, the sum and the sink of two subtasks each: channels 0 to 0, 1 to 1 and so on.
	wide = api.Graph{Ops: []api.Op{{Tag: api.OpSource, Width: 2}, {Tag: api.OpReduce, Width: 3, Inputs: []int{0}}, {Tag: api.OpSink, Width: 2, Inputs: []int{1}}, {Tag: api.OpSink, Width: 1, Inputs: []int{1}}}}
)

// made makes a task of nothing.
func made(t *testing.T, g api.Graph, sub, attempt int, x api.Input) api.Task {
	t.Helper()
	subs, _ := plan.Subs(g)
	at := subs[sub]
	z, _ := snap.Zero(at.Op, at.Index, g.Ops[at.Op].Width)
	y, err := task.New(g, sub, attempt, x, z)
	if err != api.OK || task.Check(y) != api.OK {
		t.Fatalf("New(%d): %d", sub, err)
	}
	return y
}

func with(x api.Task, change func(x *api.Task)) api.Task {
	x.Gate.Queues = slices.Clone(x.Gate.Queues)
	change(&x)
	return x
}

func zeroTask(x api.Task) bool { return task.Same(x, api.Task{}) }

func zeroDeed(d api.Deed) bool {
	return len(d.Emits)+len(d.Acts) == 0 && snap.Same(d.Snap, api.Snap{}) && d.Number == 0 && !d.Ended
}

// The chapter's examples.
func TestExamples(t *testing.T) {
	s := made(t, g, 0, 1, in)
	s, d, err := task.Step(s, 0, []int{4})
	if err != api.OK || !slices.Equal(d.Emits, []api.Emit{emit(0, elem(rec(1, 2)))}) || d.Number != 0 || d.Ended {
		t.Fatalf("Step: %v %d", d, err)
	}
	s, d, err = task.Trigger(s, 7, []int{4})
	if err != api.OK || !slices.Equal(d.Emits, []api.Emit{emit(0, bar(7))}) || d.Number != 7 || d.Snap.Offsets != (api.Offsets{0, 1}) || d.Snap.Width != 1 || d.Ended || s.Done != 7 {
		t.Fatalf("Trigger: %v %d", d, err)
	}
	s, d, err = task.Step(s, 0, []int{1})
	if err != api.OK || !slices.Equal(d.Emits, []api.Emit{emit(0, elem(rec(1, 3)))}) || s.Ended {
		t.Fatalf("Step: %v %d", d, err)
	}
	s, d, err = task.Step(s, 0, []int{1})
	if err != api.OK || !slices.Equal(d.Emits, []api.Emit{emit(0, end)}) || !d.Ended || !s.Ended || d.Number != 0 {
		t.Fatalf("Step: %v %d", d, err)
	}
	if x, d, err := task.Step(s, 0, []int{1}); err != api.ErrArg || !zeroTask(x) || !zeroDeed(d) || len(task.Choices(s)) > 0 {
		t.Errorf("Step behind the end: %d", err)
	}
	r := made(t, g, 1, 1, api.Input{})
	r, _ = task.Push(r, 0, elem(rec(1, 2)))
	r, err = task.Push(r, 0, elem(rec(1, 3)))
	if err != api.OK || task.Room(r, 0) != 2 || !slices.Equal(task.Choices(r), []int{0}) {
		t.Fatalf("Push: %d, %d", err, task.Room(r, 0))
	}
	for _, want := range []int64{2, 5} {
		if r, d, err = task.Step(r, 0, []int{1}); err != api.OK || !slices.Equal(d.Emits, []api.Emit{emit(1, elem(rec(1, want)))}) {
			t.Errorf("Step: %v %d", d, err)
		}
	}
	if table.Get(r.Table, rec(1, 0)) != (api.Cell{Count: 2, Sum: 5}) {
		t.Errorf("the table: %v", r.Table)
	}
	if x, d, err := task.Step(made(t, g, 0, 1, in), 0, []int{0}); err != api.ErrFull || !zeroTask(x) || !zeroDeed(d) {
		t.Errorf("Step without room: %d", err)
	}
	if x, d, err := task.Step(made(t, g, 1, 1, api.Input{}), 0, []int{1}); err != api.ErrArg || !zeroTask(x) || !zeroDeed(d) {
		t.Errorf("Step of nothing: %d", err)
	}
}

// P19.1: Check; what may not be is refused ahead of all else.
func TestCheck(t *testing.T) {
	s, r, k := made(t, wide, 0, 1, in), made(t, wide, 3, 2, api.Input{}), made(t, wide, 5, 3, api.Input{})
	cells := func(key int) api.Table {
		return api.Table{Rows: []api.KeyCell{{Key: key, Cell: api.Cell{Count: 1, Sum: 1}}}}
	}
	for i, x := range []api.Task{
		s, r, k,
		with(s, func(x *api.Task) { x.Offsets[1] = 2 }), with(s, func(x *api.Task) { x.Offsets[1] = 2; x.Ended = true }), with(s, func(x *api.Task) { x.Attempt = api.MaxAttempt; x.Done = api.MaxNumber }),
		with(r, func(x *api.Task) { x.Table = cells(3) }), with(r, func(x *api.Task) { x.Gate.Queues[0].Elems = []api.Elem{end} }),
		with(r, func(x *api.Task) { x.Gate.Queues = []api.Queue{{Ended: true}, {Ended: true}}; x.Ended = true }),
		with(k, func(x *api.Task) { x.Sink.Serial = 3; x.Sink.Open = true; x.Sink.Ready = []api.TxName{name(5, 2, 9)} }),
	} {
		if err := task.Check(x); err != api.OK {
			t.Errorf("Check %d: %d", i, err)
		}
	}
	for i, x := range []api.Task{
		{}, with(s, func(x *api.Task) { x.Graph = api.Graph{} }), with(s, func(x *api.Task) { x.Sub = -1 }), with(s, func(x *api.Task) { x.Sub = 8 }), with(s, func(x *api.Task) { x.Sub = math.MaxInt }), with(s, func(x *api.Task) { x.Sub = 2 }),
		with(s, func(x *api.Task) { x.Attempt = 0 }), with(s, func(x *api.Task) { x.Attempt = api.MaxAttempt + 1 }), with(s, func(x *api.Task) { x.Done = api.MaxNumber + 1 }),
		with(s, func(x *api.Task) { x.Input.Source = 1 }), with(s, func(x *api.Task) { x.Input = api.Input{Source: 1} }), with(s, func(x *api.Task) { x.Input.Records = []api.Record{rec(99, 0)} }),
		with(s, func(x *api.Task) { x.Offsets[1] = 3 }), with(s, func(x *api.Task) { x.Offsets[1] = -1 }),
		with(s, func(x *api.Task) { x.Input.Records = []api.Record{rec(7, 0)}; x.Offsets[7] = 1 }), // another one's group
		with(s, func(x *api.Task) { x.Ended = true }), with(s, func(x *api.Task) { x.Gate = r.Gate }), with(s, func(x *api.Task) { x.Gate.Done = 1 }), with(s, func(x *api.Task) { x.Table = cells(1) }), with(s, func(x *api.Task) { x.Sink = k.Sink }),
		with(r, func(x *api.Task) { x.Input = in }), with(r, func(x *api.Task) { x.Input.Source = 1 }), with(r, func(x *api.Task) { x.Offsets[0] = 1 }), with(r, func(x *api.Task) { x.Table = cells(0) }), with(r, func(x *api.Task) { x.Table = cells(6) }),
		with(r, func(x *api.Task) { x.Gate.Queues = x.Gate.Queues[:1] }), with(r, func(x *api.Task) { x.Gate = api.Gate{} }), with(r, func(x *api.Task) { x.Gate.Number = 1 }), with(r, func(x *api.Task) { x.Sink = k.Sink }),
		with(r, func(x *api.Task) { x.Ended = true }), with(r, func(x *api.Task) { x.Gate.Queues = []api.Queue{{Ended: true}, {Ended: true}} }),
		with(k, func(x *api.Task) { x.Sink = api.Sink{} }), with(k, func(x *api.Task) { x.Sink.Sub = 6 }), with(k, func(x *api.Task) { x.Sink.Attempt = 2 }), with(k, func(x *api.Task) { x.Sink.Open = true }), with(k, func(x *api.Task) { x.Table = cells(0) }),
	} {
		a, d, err := task.Step(x, 99, nil)
		b, err2 := task.Push(x, 99, api.Elem{})
		c, d2, err3 := task.Trigger(x, 0, nil)
		e, err4 := task.Snap(x)
		f, err5 := task.Told(x, nil)
		for j, err := range []api.Errno{task.Check(x), err, err2, err3, err4, err5} {
			if err != api.ErrTask {
				t.Errorf("call %d of %d: %d", j, i, err)
			}
		}
		if !zeroTask(a) || !zeroTask(b) || !zeroTask(c) || !zeroTask(f) || !zeroDeed(d) || !zeroDeed(d2) || !snap.Same(e, api.Snap{}) || len(task.Choices(x)) > 0 || task.Room(x, 0) != 0 {
			t.Errorf("something beside an error: %d", i)
		}
	}
}

// P19.1: Same.
func TestSame(t *testing.T) {
	k := made(t, wide, 5, 3, api.Input{})
	for i, change := range []func(x *api.Task){
		func(x *api.Task) { x.Graph = g }, func(x *api.Task) { x.Sub++ }, func(x *api.Task) { x.Attempt++ }, func(x *api.Task) { x.Input.Source++ }, func(x *api.Task) { x.Input = in }, func(x *api.Task) { x.Offsets[7]++ },
		func(x *api.Task) { x.Gate.Queues[0].Last = 1 }, func(x *api.Task) { x.Gate.Done = 1 }, func(x *api.Task) { x.Table.Rows = make([]api.KeyCell, 1) }, func(x *api.Task) { x.Sink.Serial++ }, func(x *api.Task) { x.Done++ }, func(x *api.Task) { x.Ended = true },
	} {
		if other := with(k, change); task.Same(k, other) || !task.Same(other, other) {
			t.Errorf("change %d makes nothing else", i)
		}
	}
}

// P19.1: New.
func TestNew(t *testing.T) {
	zero := func(op, index, width int) api.Snap {
		s, err := snap.Zero(op, index, width)
		if err != api.OK {
			t.Fatal(err)
		}
		return s
	}
	alter := func(s api.Snap, change func(s *api.Snap)) api.Snap {
		change(&s)
		return s
	}
	ended := func(s *api.Snap) { s.Ended = true }
	cells := func(s *api.Snap) {
		s.Table = api.Table{Rows: []api.KeyCell{{Key: 3, Cell: api.Cell{Count: 1, Sum: 1}}}}
	}
	read := func(s *api.Snap) { s.Offsets[1] = 2 }
	names := func(l ...api.TxName) func(s *api.Snap) { return func(s *api.Snap) { s.Txs = l } }
	none := api.Input{}
	for i, r := range []struct {
		sub, attempt int
		x            api.Input
		s            api.Snap
		err          api.Errno
	}{
		{0, 1, in, zero(0, 0, 2), api.OK}, {0, api.MaxAttempt, in, alter(zero(0, 0, 2), read), api.OK}, {1, 1, in, alter(zero(0, 1, 2), ended), api.OK}, {0, 1, in, alter(alter(zero(0, 0, 2), read), ended), api.OK},
		{3, 1, none, alter(zero(1, 1, 3), cells), api.OK}, {3, 1, none, alter(alter(zero(1, 1, 3), cells), ended), api.OK}, {5, 3, none, alter(zero(2, 0, 2), names(name(5, 2, 1), name(5, 2, 2))), api.OK},
		{-1, 1, in, zero(0, 0, 2), api.ErrArg}, {8, 1, in, zero(0, 0, 2), api.ErrArg}, {math.MaxInt, 1, in, zero(0, 0, 2), api.ErrArg}, {0, 0, in, zero(0, 0, 2), api.ErrArg}, {0, api.MaxAttempt + 1, in, zero(0, 0, 2), api.ErrArg},
		{0, 1, in, zero(1, 0, 3), api.ErrArg}, {0, 1, in, zero(0, 1, 2), api.ErrArg}, {0, 1, in, zero(0, 0, 1), api.ErrArg}, {0, 1, in, api.Snap{}, api.ErrArg}, {0, 1, in, alter(zero(0, 0, 2), cells), api.ErrArg}, {3, 1, none, alter(zero(1, 0, 3), cells), api.ErrArg},
		{5, 2, none, alter(zero(2, 0, 2), names(name(5, 2, 1))), api.ErrSink}, {5, 2, none, alter(zero(2, 0, 2), names(name(6, 1, 1))), api.ErrSink}, {5, 2, in, alter(zero(2, 0, 2), names(name(6, 1, 1))), api.ErrSink}, {0, 2, in, alter(zero(0, 0, 2), names(name(0, 1, 1))), api.ErrArg},
		{0, 1, none, alter(zero(0, 0, 2), read), api.ErrArg}, {0, 1, api.Input{Source: 1}, zero(0, 0, 2), api.ErrArg}, {0, 1, api.Input{Records: []api.Record{rec(99, 0)}}, zero(0, 0, 2), api.ErrArg}, {3, 1, in, zero(1, 1, 3), api.ErrArg}, {3, 1, api.Input{Source: 1}, zero(1, 1, 3), api.ErrArg},
		{0, 1, in, alter(zero(0, 0, 2), ended), api.ErrArg},
	} {
		x, err := task.New(wide, r.sub, r.attempt, r.x, r.s)
		if err != r.err || (err != api.OK) != zeroTask(x) {
			t.Errorf("New %d: %d", i, err)
			continue
		}
		if err != api.OK {
			continue
		}
		if got, err := task.Snap(x); err != api.OK || !snap.Same(got, r.s) {
			t.Errorf("New %d: its snapshot: %v %d", i, got, err)
		}
		want := api.Task{Graph: wide, Sub: r.sub, Attempt: r.attempt, Input: r.x, Offsets: r.s.Offsets, Table: r.s.Table, Ended: r.s.Ended}
		channels, _ := plan.In(wide, r.sub)
		for range channels {
			want.Gate.Queues = append(want.Gate.Queues, api.Queue{Ended: r.s.Ended})
		}
		if r.sub == 5 {
			want.Sink, _ = sink.New(5, r.attempt, r.s.Txs)
		}
		if !task.Same(x, want) {
			t.Errorf("New %d: %v", i, x)
		}
	}
	if x, err := task.New(api.Graph{Ops: wide.Ops[:1]}, 99, 0, in, api.Snap{}); err != api.ErrUnread || !zeroTask(x) {
		t.Errorf("New of no graph: %d", err)
	}
}

// P19.2: Push, Room, Choices.
func TestPush(t *testing.T) {
	chans, _ := plan.Chans(wide)
	r := made(t, wide, 3, 1, api.Input{}) // the sum of the groups 3 to 5: from both sources
	channels, _ := plan.In(wide, 3)
	if len(channels) != 2 || len(task.Choices(r)) > 0 {
		t.Fatalf("channels: %v", channels)
	}
	for c := -1; c <= len(chans); c++ {
		x, err := task.Push(r, c, end)
		if slices.Contains(channels, c) {
			if err != api.OK || task.Room(r, c) != 4 || task.Room(x, c) != 0 || !slices.Equal(task.Choices(x), []int{slices.Index(channels, c)}) {
				t.Errorf("Push(%d): %d", c, err)
			}
		} else if err != api.ErrArg || !zeroTask(x) || task.Room(r, c) != 0 {
			t.Errorf("Push(%d): %d", c, err)
		}
	}
	if x, err := task.Push(r, channels[0], api.Elem{}); err != api.ErrElem || !zeroTask(x) {
		t.Errorf("Push of nothing: %d", err)
	}
	for range 4 {
		r, _ = task.Push(r, channels[1], elem(rec(4, 1)))
	}
	if x, err := task.Push(r, channels[1], end); err != api.ErrFull || !zeroTask(x) || task.Room(r, channels[1]) != 0 {
		t.Errorf("Push of too many: %d", err)
	}
	if got := task.Choices(made(t, wide, 0, 1, in)); !slices.Equal(got, []int{0}) {
		t.Errorf("Choices of a source: %v", got)
	}
}

// P19.3: what Step refuses.
func TestStepRefuses(t *testing.T) {
	r := made(t, wide, 3, 1, api.Input{})
	channels, _ := plan.In(wide, 3)
	outs, _ := plan.Out(wide, 3)
	if len(outs) != 3 {
		t.Fatalf("channels: %v", outs)
	}
	r, _ = task.Push(r, channels[0], elem(rec(4, 1)))
	for _, x := range []struct {
		queue int
		rooms []int
		err   api.Errno
	}{
		{1, []int{1, 1, 1}, api.ErrArg}, {-1, []int{1, 1, 1}, api.ErrArg}, {2, []int{1, 1, 1}, api.ErrArg}, {0, []int{1, 1}, api.ErrArg}, {0, nil, api.ErrArg}, {0, []int{1, 1, 1, 1}, api.ErrArg}, {0, []int{1, 1, -1}, api.ErrArg}, {0, []int{-1, 1, 1}, api.ErrArg},
		{0, []int{1, 0, 1}, api.ErrFull}, {0, []int{1, 1, 0}, api.ErrFull}, {0, []int{0, 1, 1}, api.OK}, {0, []int{math.MaxInt, math.MaxInt, math.MaxInt}, api.OK},
	} {
		y, d, err := task.Step(r, x.queue, x.rooms)
		if err != x.err || err != api.OK && (!zeroTask(y) || !zeroDeed(d)) {
			t.Errorf("Step(%d, %v): %d", x.queue, x.rooms, err)
		}
		if err == api.OK && !slices.Equal(d.Emits, []api.Emit{emit(outs[1], elem(rec(4, 1))), emit(outs[2], elem(rec(4, 1)))}) {
			t.Errorf("Step(%d, %v): %v", x.queue, x.rooms, d)
		}
	}
	r, _ = task.Push(made(t, wide, 3, 1, api.Input{}), channels[0], elem(rec(0, 1)))
	if y, d, err := task.Step(r, 0, []int{9, 9, 9}); err != api.ErrArg || !zeroTask(y) || !zeroDeed(d) {
		t.Errorf("a record of another group: %d", err)
	}
	// An end goes by all channels: each has to have room.
	r, _ = task.Push(made(t, wide, 3, 1, api.Input{}), channels[0], end)
	r, _ = task.Push(r, channels[1], end)
	r, d, err := task.Step(r, 1, []int{0, 0, 0})
	if err != api.OK || !zeroDeed(d) || r.Ended {
		t.Errorf("the first end: %v %d", d, err)
	}
	if _, _, err := task.Step(r, 0, []int{1, 1, 0}); err != api.ErrFull {
		t.Errorf("the last end without room: %d", err)
	}
	r, d, err = task.Step(r, 0, []int{1, 1, 1})
	if err != api.OK || !slices.Equal(d.Emits, []api.Emit{emit(outs[0], end), emit(outs[1], end), emit(outs[2], end)}) || !d.Ended || !r.Ended || d.Number != 0 {
		t.Errorf("the last end: %v %d", d, err)
	}
	full := made(t, g, 1, 1, api.Input{})
	full.Table = api.Table{Rows: []api.KeyCell{{Key: 1, Cell: api.Cell{Count: math.MaxInt64, Sum: 1}}}}
	full, _ = task.Push(full, 0, elem(rec(1, 1)))
	if y, d, err := task.Step(full, 0, []int{1}); err != api.ErrFull || !zeroTask(y) || !zeroDeed(d) {
		t.Errorf("a full cell: %d", err)
	}
}

// P19.3: a sink.
func TestSink(t *testing.T) {
	k := made(t, g, 2, 5, api.Input{})
	for _, e := range []api.Elem{elem(rec(1, 2)), elem(rec(9, 3)), bar(4), elem(rec(1, 5))} {
		k, _ = task.Push(k, 1, e)
	}
	n, m := name(2, 5, 1), name(2, 5, 2)
	k, d, err := task.Step(k, 0, nil)
	if err != api.OK || !slices.Equal(d.Acts, []api.TxAct{{Kind: api.ActOpen, Name: n}, {Kind: api.ActWrite, Name: n, Record: rec(1, 2)}}) || len(d.Emits) > 0 || d.Number != 0 {
		t.Errorf("the first record: %v %d", d, err)
	}
	k, d, _ = task.Step(k, 0, nil)
	if !slices.Equal(d.Acts, []api.TxAct{{Kind: api.ActWrite, Name: n, Record: rec(9, 3)}}) {
		t.Errorf("the second record: %v", d)
	}
	k, d, err = task.Step(k, 0, nil)
	if err != api.OK || !slices.Equal(d.Acts, []api.TxAct{{Kind: api.ActReady, Name: n}}) || d.Number != 4 || !slices.Equal(d.Snap.Txs, []api.TxName{n}) || k.Done != 4 || d.Snap.Op != 2 || d.Ended {
		t.Errorf("the barrier: %v %d", d, err)
	}
	k, _, _ = task.Step(k, 0, nil)
	told, err := task.Told(k, []api.TxName{m, n, {}})
	if err != api.OK || len(told.Sink.Ready) > 0 || !told.Sink.Open || len(k.Sink.Ready) != 1 {
		t.Errorf("Told: %v %d", told.Sink, err)
	}
	k, _ = task.Push(k, 1, end)
	k, d, err = task.Step(k, 0, nil)
	if err != api.OK || !slices.Equal(d.Acts, []api.TxAct{{Kind: api.ActReady, Name: m}}) || !d.Ended || d.Number != 0 || !snap.Same(d.Snap, api.Snap{}) || !slices.Equal(k.Sink.Ready, []api.TxName{n, m}) {
		t.Errorf("the end: %v %d", d, err)
	}
	k, d, err = task.Trigger(k, 9, nil)
	if err != api.OK || d.Number != 9 || !d.Snap.Ended || !slices.Equal(d.Snap.Txs, []api.TxName{n, m}) || len(d.Acts) > 0 || d.Ended || k.Done != 9 {
		t.Errorf("Trigger behind the end: %v %d", d, err)
	}
	// No room for names: what is refused has not happened.
	full := made(t, g, 2, 5, api.Input{})
	full.Sink.Serial, full.Sink.Open = 25, true
	for i := range api.MaxTxs {
		full.Sink.Ready = append(full.Sink.Ready, name(2, 5, 1+i))
	}
	for _, e := range []api.Elem{bar(4), end} {
		x, err := task.Push(full, 1, e)
		if err != api.OK {
			t.Fatal(err)
		}
		if y, d, err := task.Step(x, 0, nil); err != api.ErrFull || !zeroTask(y) || !zeroDeed(d) {
			t.Errorf("no room for names: %d", err)
		}
	}
	last := made(t, g, 2, 5, api.Input{})
	last.Sink.Serial = api.MaxAttempt
	last, _ = task.Push(last, 1, elem(rec(1, 1)))
	if y, d, err := task.Step(last, 0, nil); err != api.ErrFull || !zeroTask(y) || !zeroDeed(d) {
		t.Errorf("no serial: %d", err)
	}
	r := made(t, g, 1, 1, api.Input{})
	if x, err := task.Told(r, []api.TxName{n}); err != api.OK || !task.Same(x, r) {
		t.Errorf("Told of no sink: %d", err)
	}
}

// P19.4: Trigger.
func TestTrigger(t *testing.T) {
	s, r := made(t, g, 0, 1, in), made(t, g, 1, 1, api.Input{})
	done := with(s, func(x *api.Task) { x.Done = 5 })
	over := with(s, func(x *api.Task) { x.Offsets[1] = 2; x.Ended = true })
	doneOver := with(over, func(x *api.Task) { x.Done = 5 })
	for i, x := range []struct {
		t      api.Task
		number uint64
		rooms  []int
		err    api.Errno
	}{
		{s, 0, []int{1}, api.ErrArg}, {s, api.MaxNumber + 1, []int{1}, api.ErrArg}, {s, 1, nil, api.ErrArg}, {s, 1, []int{1, 1}, api.ErrArg}, {s, 1, []int{-1}, api.ErrArg},
		{s, 1, []int{0}, api.ErrFull}, {s, api.MaxNumber, []int{1}, api.OK}, {done, 5, []int{0}, api.ErrThere}, {done, 4, []int{1}, api.ErrThere}, {done, 6, []int{1}, api.OK},
		{r, 1, []int{1}, api.ErrNone}, {with(r, func(x *api.Task) { x.Done = 1 }), 1, []int{1}, api.ErrThere}, {r, 0, []int{1}, api.ErrArg},
		{over, 3, []int{0}, api.OK}, {over, 3, nil, api.ErrArg}, {doneOver, 5, []int{0}, api.ErrThere}, {doneOver, 6, []int{0}, api.OK},
	} {
		y, d, err := task.Trigger(x.t, x.number, x.rooms)
		if err != x.err || err != api.OK && (!zeroTask(y) || !zeroDeed(d)) {
			t.Errorf("Trigger %d: %d", i, err)
			continue
		}
		if err != api.OK {
			continue
		}
		want, _ := task.Snap(x.t)
		emits := []api.Emit{emit(0, bar(x.number))}
		if x.t.Ended {
			emits = nil
		}
		if d.Number != x.number || y.Done != x.number || !snap.Same(d.Snap, want) || !slices.Equal(d.Emits, emits) || d.Ended || !task.Same(with(y, func(y *api.Task) { y.Done = x.t.Done }), x.t) {
			t.Errorf("Trigger %d: %v", i, d)
		}
	}
}

// R3: what is handed in stays as it was, and is not shared; no two lists of one answer are.
func TestShares(t *testing.T) {
	k := made(t, g, 2, 5, api.Input{})
	k.Sink.Ready = append(make([]api.TxName, 0, 8), name(2, 1, 1))
	k, _ = task.Push(k, 1, bar(3))
	r := made(t, g, 1, 1, api.Input{})
	r, _ = task.Push(r, 0, elem(rec(1, 1)))
	r, _, _ = task.Step(r, 0, []int{1})
	r, _ = task.Push(r, 0, bar(3))
	for i, x := range []api.Task{k, r, made(t, g, 0, 1, in)} {
		was, _ := task.Told(x, nil)
		rooms := []int{5}
		if i == 0 {
			rooms = nil
		}
		y, d, err := task.Step(x, 0, rooms)
		if err != api.OK {
			t.Fatal(err)
		}
		state, _ := task.Told(y, nil)
		spoilSnap(d.Snap)
		if !task.Same(y, state) {
			t.Errorf("task %d: the deed shares with the task", i)
		}
		spoil(y)
		p, _ := task.Told(x, nil)
		spoil(p)
		s, _ := task.Snap(x)
		spoilSnap(s)
		if i == 2 {
			y, d, _ = task.Trigger(x, 9, rooms)
			spoil(y)
			spoilSnap(d.Snap)
		} else {
			y, _ = task.Push(x, []int{1, 0}[i], elem(rec(1, 1)))
			spoil(y)
		}
		if !task.Same(x, was) || len(rooms) > 0 && rooms[0] != 5 {
			t.Errorf("task %d is changed", i)
		}
	}
}

func spoil(x api.Task) {
	for i := range x.Graph.Ops {
		x.Graph.Ops[i].Width = 9
		for j := range x.Graph.Ops[i].Inputs {
			x.Graph.Ops[i].Inputs[j] = 9
		}
	}
	for i := range x.Gate.Queues {
		x.Gate.Queues[i].Last = 99
		for j := range x.Gate.Queues[i].Elems {
			x.Gate.Queues[i].Elems[j].Kind = 99
		}
	}
	for i := range x.Input.Records {
		x.Input.Records[i].Key = 99
	}
	for i := range x.Table.Rows {
		x.Table.Rows[i].Key = 99
	}
	for i := range x.Sink.Ready {
		x.Sink.Ready[i].Sink = 99
	}
}

func spoilSnap(s api.Snap) {
	for i := range s.Table.Rows {
		s.Table.Rows[i].Key = 99
	}
	for i := range s.Txs {
		s.Txs[i].Sink = 99
	}
}

// flow is a work whose tasks hand elements to one another without links.
type flow struct {
	w     api.Work
	tasks []api.Task
	chans []api.Chan
	snaps map[uint64]map[int]api.Snap
	wrote map[api.TxName][]api.Record
	state map[api.TxName]int
}

func begun(t *testing.T, w api.Work, attempt int, from []api.Snap) *flow {
	t.Helper()
	f := &flow{w: w, snaps: map[uint64]map[int]api.Snap{}, wrote: map[api.TxName][]api.Record{}, state: map[api.TxName]int{}}
	f.chans, _ = plan.Chans(w.Graph)
	subs, _ := plan.Subs(w.Graph)
	for n, s := range subs {
		o := w.Graph.Ops[s.Op]
		z, _ := snap.Zero(s.Op, s.Index, o.Width)
		if from != nil {
			z = from[n]
			z.Txs = nil
		}
		var x api.Input
		for _, y := range w.Inputs {
			if o.Tag == api.OpSource && int64(y.Source) == o.A {
				x = y
			}
		}
		y, err := task.New(w.Graph, n, attempt, x, z)
		if err != api.OK {
			t.Fatalf("New(%d): %d", n, err)
		}
		f.tasks = append(f.tasks, y)
	}
	return f
}

// rooms tells what there is room for in the queues that a task's channels lead to.
func (f *flow) rooms(n int) (out []int) {
	for c, x := range f.chans {
		if x.From == n {
			out = append(out, task.Room(f.tasks[x.To], c))
		}
	}
	return out
}

func (f *flow) do(t *testing.T, n int, x api.Task, d api.Deed) {
	t.Helper()
	if task.Check(x) != api.OK {
		t.Fatalf("may not be: %v", x)
	}
	f.tasks[n] = x
	for _, e := range d.Emits {
		to := f.chans[e.Channel].To
		next, err := task.Push(f.tasks[to], e.Channel, e.Elem)
		if err != api.OK {
			t.Fatalf("Push(%d): %d", e.Channel, err)
		}
		f.tasks[to] = next
	}
	for _, a := range d.Acts {
		// Opened once, then written, then ready: what a log outside would ask.
		if want := map[int]int{api.ActOpen: 0, api.ActWrite: api.TxOpen, api.ActReady: api.TxOpen}[a.Kind]; f.state[a.Name] != want {
			t.Fatalf("%v in the state %d", a, f.state[a.Name])
		}
		f.state[a.Name] = api.TxOpen
		switch a.Kind {
		case api.ActWrite:
			f.wrote[a.Name] = append(f.wrote[a.Name], a.Record)
		case api.ActReady:
			f.state[a.Name] = api.TxReady
		}
	}
	if d.Number > 0 {
		if f.snaps[d.Number] == nil {
			f.snaps[d.Number] = map[int]api.Snap{}
		}
		f.snaps[d.Number][n] = d.Snap
	}
}

// step lets a task do something, if it can.
func (f *flow) step(t *testing.T, n int, rnd *rand.Rand) {
	t.Helper()
	choices := task.Choices(f.tasks[n])
	if len(choices) == 0 {
		return
	}
	was := f.tasks[n]
	x, d, err := task.Step(was, choices[rnd.Intn(len(choices))], f.rooms(n))
	switch err {
	case api.OK:
		f.do(t, n, x, d)
	case api.ErrFull:
		if !task.Same(was, f.tasks[n]) {
			t.Fatalf("refused, and changed")
		}
	default:
		t.Fatalf("Step: %d", err)
	}
}

// trigger triggers all sources and all that have ended, as far as there is room; it tells whether all are.
func (f *flow) trigger(t *testing.T, number uint64) bool {
	t.Helper()
	all := true
	for n, x := range f.tasks {
		y, d, err := task.Trigger(x, number, f.rooms(n))
		if err == api.OK {
			f.do(t, n, y, d)
		}
		all = all && err != api.ErrFull
	}
	return all
}

// P19.6: whatever is taken in whatever order; snapshots are the state behind what came ahead; begun anew it goes on the same.
func TestFollows(t *testing.T) {
	rnd := rand.New(rand.NewSource(19))
	completed, again := 0, 0
	for range 60 {
		w := api.Work{Graph: sample.Graph(rnd.Intn)}
		w.Inputs = sample.Inputs(w.Graph, 12, rnd.Intn)
		f := begun(t, w, 1, nil)
		var pending uint64
		for step := range 600 {
			f.step(t, rnd.Intn(len(f.tasks)), rnd)
			if step%60 == 20 {
				pending++
			}
			if pending > 0 && len(f.snaps[pending]) < len(f.tasks) {
				f.trigger(t, pending)
			}
		}
		f.finish(t, pending, rnd)
		pending++
		f.trigger(t, pending)
		whole, _ := deno.Whole(w)
		f.compare(t, whole, pending, nil)
		for _, l := range f.snaps {
			if len(l) < len(f.tasks) {
				continue
			}
			completed++
			at := f.at(l)
			f.consistent(t, at, l)
			if !someEnded(l) {
				f.again(t, l, rnd)
				again++
			}
		}
	}
	if completed < 100 || again < 20 {
		t.Errorf("only %d barriers came through, %d begun anew from", completed, again)
	}
}

// someEnded tells whether a task has ended: begun anew it says its end to nobody any more.
func someEnded(l map[int]api.Snap) bool {
	for _, s := range l {
		if s.Ended {
			return true
		}
	}
	return false
}

// at tells the place that snapshots say.
func (f *flow) at(l map[int]api.Snap) api.At {
	at := make(api.At, len(f.w.Inputs))
	for _, s := range l {
		o := f.w.Graph.Ops[s.Op]
		for i, x := range f.w.Inputs {
			if o.Tag == api.OpSource && int64(x.Source) == o.A {
				at[i], _ = keys.Joined(s.Offsets, at[i], s.Index, s.Width)
			}
		}
	}
	return at
}

// consistent checks that snapshots are the denotation's state at their place.
func (f *flow) consistent(t *testing.T, at api.At, l map[int]api.Snap) {
	t.Helper()
	for i := range f.w.Graph.Ops {
		var all api.Table
		for _, s := range l {
			if s.Op == i {
				all, _ = table.Join(all, s.Table)
			}
		}
		if want, err := deno.Table(f.w, at, i); err != api.OK || !table.Same(all, want) {
			t.Fatalf("%v at %v: the operator %d keeps %v, not %v", f.w, at, i, all, want)
		}
	}
}

// compare checks that all has ended, and that what is ready is what the denotation says; ahead is what was ready already.
func (f *flow) compare(t *testing.T, at api.At, number uint64, ahead map[int][]api.Record) {
	t.Helper()
	subs, _ := plan.Subs(f.w.Graph)
	for i, o := range f.w.Graph.Ops {
		if o.Tag != api.OpSink {
			continue
		}
		rows := map[api.Record][]int64{}
		for n, x := range f.tasks {
			if !x.Ended {
				t.Fatalf("%v: %d has not ended", f.w, n)
			}
			if subs[n].Op != i {
				continue
			}
			for _, r := range slices.Concat(ahead[n], f.ready(f.snaps[number][n])) {
				k := api.Record{Source: r.Source, Key: r.Key}
				rows[k] = append(rows[k], r.Value)
			}
		}
		want, _ := deno.Rows(f.w, at, i)
		for _, row := range want {
			if got := rows[api.Record{Source: row.Source, Key: row.Key}]; !slices.Equal(got, row.Values) {
				t.Fatalf("%v: %v, not %v", f.w, got, row)
			}
		}
		if len(rows) != len(want) {
			t.Fatalf("%v: %v, not %v", f.w, rows, want)
		}
	}
}

// ready tells the records of the transactions that a snapshot names.
func (f *flow) ready(s api.Snap) (out []api.Record) {
	for _, n := range s.Txs {
		if f.state[n] == api.TxReady {
			out = append(out, f.wrote[n]...)
		}
	}
	return out
}

// finish goes on till all has ended; barriers that lack room somewhere are triggered again.
func (f *flow) finish(t *testing.T, number uint64, rnd *rand.Rand) {
	t.Helper()
	for range 20000 {
		if !slices.ContainsFunc(f.tasks, func(x api.Task) bool { return !x.Ended }) {
			return
		}
		if number > 0 && rnd.Intn(20) == 0 {
			f.trigger(t, number)
		}
		f.step(t, rnd.Intn(len(f.tasks)), rnd)
	}
}

// again begins anew from snapshots, and goes on to the end: what comes then completes what was ready.
func (f *flow) again(t *testing.T, l map[int]api.Snap, rnd *rand.Rand) {
	t.Helper()
	var from []api.Snap
	ahead := map[int][]api.Record{}
	for n := range f.tasks {
		from = append(from, l[n])
		ahead[n] = f.ready(l[n])
	}
	g := begun(t, f.w, 2, from)
	g.finish(t, 0, rnd)
	g.trigger(t, 1)
	whole, _ := deno.Whole(f.w)
	g.compare(t, whole, 1, ahead)
}
