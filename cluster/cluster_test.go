package cluster_test

import (
	"math"
	"slices"
	"testing"

	"headrace/api"
	"headrace/cluster"
	"headrace/frame"
	"headrace/link"
	"headrace/plan"
	"headrace/sample"
	"headrace/snap"
	"headrace/task"
)

func rec(key int, value int64) api.Record { return api.Record{Key: key, Value: value} }

func elem(key int, value int64) api.Elem {
	return api.Elem{Kind: api.ElRecord, Record: rec(key, value)}
}

func bar(n uint64) api.Elem { return api.Elem{Kind: api.ElBarrier, Number: n} }

var (
	end  = api.Elem{Kind: api.ElEnd}
	none = api.Host{}
	// The source and the sink of the chapter's examples, both at the worker 1.
	pair = laid(sample.Plain(), []api.Input{{Records: []api.Record{rec(1, 2)}}}, 1, 1)
	// A source of two subtasks, a sum and a sink; at the workers 1 and 2.
	parted = laid(api.Graph{Ops: []api.Op{{Tag: api.OpSource, Width: 2}, {Tag: api.OpReduce, Width: 1, Inputs: []int{0}}, {Tag: api.OpSink, Width: 1, Inputs: []int{1}}}},
		[]api.Input{{Records: []api.Record{rec(1, 2), rec(5, 3), rec(1, 4)}}}, 1, 2, 1, 2)
)

func laid(g api.Graph, inputs []api.Input, workers ...int) api.Laid {
	l := api.Laid{Work: api.Work{Graph: g, Inputs: inputs}}
	for t, w := range workers {
		l.Places = append(l.Places, api.Place{Task: t, Worker: w})
	}
	return l
}

// zero tells the snapshot of a subtask with nothing in it.
func zero(g api.Graph, sub int) api.Snap {
	subs, _ := plan.Subs(g)
	s, _ := snap.Zero(subs[sub].Op, subs[sub].Index, g.Ops[subs[sub].Op].Width)
	return s
}

// msg makes a message of the manager 1 to a worker, of the Epoch 5.
func msg(kind, worker, attempt int) api.Msg {
	return api.Msg{Kind: kind, From: 1, To: 3 + worker, Epoch: 5, Attempt: attempt}
}

func deploy(l api.Laid, sub, attempt int) api.Msg {
	m := msg(api.MsgDeploy, l.Places[sub].Worker, attempt)
	m.Task, m.Laid, m.Snap = sub, l, zero(l.Work.Graph, sub)
	return m
}

func trigger(worker, attempt int, number uint64) api.Msg {
	m := msg(api.MsgTrigger, worker, attempt)
	m.Number = number
	return m
}

func told(worker, attempt int, names ...api.TxName) api.Msg {
	m := msg(api.MsgTold, worker, attempt)
	m.Names = names
	return m
}

// data makes a message of a worker to another one.
func data(from, to, attempt, channel int, p api.Packet) api.Msg {
	return api.Msg{Kind: api.MsgData, From: 3 + from, To: 3 + to, Epoch: 5, Attempt: attempt, Task: channel, Packet: p}
}

func ack(session uint32, seq, limit uint64) api.Packet {
	return api.Packet{Kind: api.PkAck, Session: session, Seq: seq, Limit: limit}
}

func packet(session uint32, seq uint64, e api.Elem) api.Packet {
	return api.Packet{Kind: api.PkData, Session: session, Seq: seq, Elem: e}
}

func made(t *testing.T, id int) api.Host {
	t.Helper()
	h, err := cluster.New(id)
	if err != api.OK || cluster.Check(h) != api.OK {
		t.Fatalf("New(%d): %d", id, err)
	}
	return h
}

// hear lets a host hear messages, none of which is refused; it tells what is said.
func hear(t *testing.T, h api.Host, l ...api.Msg) (api.Host, []api.Msg) {
	t.Helper()
	var all []api.Msg
	for i, m := range l {
		next, said, err := cluster.Hear(h, m)
		if err != api.OK || cluster.Check(next) != api.OK {
			t.Fatalf("Hear %d: %d", i, err)
		}
		valid(t, said)
		h, all = next, append(all, said...)
	}
	return h, all
}

// valid checks that messages may be.
func valid(t *testing.T, l []api.Msg) {
	t.Helper()
	for _, m := range l {
		if err := frame.Check(m); err != api.OK {
			t.Fatalf("%v: %d", m, err)
		}
	}
}

// both makes a host with source and sink.
func both(t *testing.T, attempt int) api.Host {
	t.Helper()
	h, said := hear(t, made(t, 1), deploy(pair, 0, attempt), deploy(pair, 1, attempt))
	if len(said) > 0 {
		t.Fatalf("said: %v", said)
	}
	return h
}

func with(h api.Host, change func(h *api.Host)) api.Host {
	h.Tasks, h.Ins, h.Outs, h.Lasts, h.Begun, h.Laid.Places = slices.Clone(h.Tasks), slices.Clone(h.Ins), slices.Clone(h.Outs), slices.Clone(h.Lasts), slices.Clone(h.Begun), slices.Clone(h.Laid.Places)
	change(&h)
	return h
}

func work(t *testing.T, h api.Host, sub, queue int) (api.Host, []api.Msg, []api.TxAct) {
	t.Helper()
	next, said, acts, err := cluster.Work(h, sub, queue)
	if err != api.OK || cluster.Check(next) != api.OK {
		t.Fatalf("Work(%d, %d): %d", sub, queue, err)
	}
	valid(t, said)
	return next, said, acts
}

func pump(t *testing.T, h api.Host) (api.Host, []api.Msg) {
	t.Helper()
	next, said, err := cluster.Pump(h)
	if err != api.OK || cluster.Check(next) != api.OK {
		t.Fatalf("Pump: %d", err)
	}
	valid(t, said)
	return next, said
}

// sameMsgs tells whether messages are the same, in order.
func sameMsgs(a []api.Msg, b ...api.Msg) bool { return slices.EqualFunc(a, b, frame.Same) }

func fell(worker, attempt, sub int) api.Msg {
	return api.Msg{Kind: api.MsgFell, From: 3 + worker, To: 1, Epoch: 5, Attempt: attempt, Task: sub}
}

// answer is a task's answer to a barrier.
func answer(worker, attempt, sub int, number uint64, s api.Snap) api.Msg {
	return api.Msg{Kind: api.MsgAck, From: 3 + worker, To: 1, Epoch: 5, Attempt: attempt, Task: sub, Number: number, Snap: s}
}

// The chapter's examples.
func TestExamples(t *testing.T) {
	h := made(t, 1)
	if x, said, err := cluster.Hear(h, trigger(1, 1, 7)); err != api.ErrNone || len(said) > 0 || !cluster.Same(x, none) {
		t.Errorf("Hear(MsgTrigger): %d", err)
	}
	h = both(t, 2)
	if x, said := hear(t, h, deploy(pair, 0, 2)); len(said) > 0 || !cluster.Same(x, h) {
		t.Errorf("Hear(MsgDeploy) again: %v", said)
	}
	if got := cluster.Choices(h); !slices.Equal(got, [][2]int{{0, 0}}) {
		t.Errorf("Choices: %v", got)
	}
	h, said, acts := work(t, h, 0, 0)
	if len(said)+len(acts) > 0 {
		t.Errorf("Work: %v %v", said, acts)
	}
	for range 2 {
		h, said = pump(t, h)
		h, _ = hear(t, h, said...)
	}
	h, _ = pump(t, h)
	if got := h.Tasks[1].Gate.Queues[0].Elems; !slices.Equal(got, []api.Elem{elem(1, 2)}) || !slices.Equal(cluster.Choices(h), [][2]int{{0, 0}, {1, 0}}) {
		t.Errorf("the sink's queue: %v", got)
	}
	h, said = hear(t, h, msg(api.MsgCancel, 1, 2), deploy(pair, 1, 2))
	if !sameMsgs(said, fell(1, 2, 1)) {
		t.Errorf("MsgCancel, MsgDeploy: %v", said)
	}
	if x, said, err := cluster.Hear(h, trigger(1, 2, 7)); err != api.ErrAttempt || len(said) > 0 || !cluster.Same(x, none) {
		t.Errorf("Hear(MsgTrigger): %d", err)
	}
}

// P29.1: New.
func TestNew(t *testing.T) {
	for id := 1; id <= 4; id++ {
		if h := made(t, id); !cluster.Same(h, api.Host{Id: id}) {
			t.Errorf("New(%d): %v", id, h)
		}
	}
	for _, id := range []int{0, 5, -1, math.MaxInt, math.MinInt} {
		if h, err := cluster.New(id); err != api.ErrArg || !cluster.Same(h, none) {
			t.Errorf("New(%d): %d", id, err)
		}
	}
}

// busy makes a host with both tasks, of which the source has answered a barrier.
func busy(t *testing.T) api.Host {
	t.Helper()
	h, said := hear(t, both(t, 2), trigger(1, 2, 7))
	if len(said) != 1 || len(h.Lasts) != 1 {
		t.Fatalf("said: %v", said)
	}
	return h
}

// P29.1: Check, of hosts that may be.
func TestCheck(t *testing.T) {
	h := busy(t)
	one, _ := hear(t, made(t, 1), deploy(pair, 1, 2))
	rest := api.Host{Id: 4, Lead: 3, Epoch: api.MaxEpoch, Attempt: api.MaxAttempt, Closed: true, Laid: pair}
	for i, x := range []api.Host{
		{Id: 1}, {Id: 4, Lead: 3}, {Id: 1, Epoch: api.MaxEpoch}, {Id: 1, Attempt: api.MaxAttempt}, {Id: 1, Closed: true}, rest, with(rest, func(h *api.Host) { h.Closed = false }), {Id: 1, Laid: pair, Begun: []int{0, 1}}, {Id: 1, Laid: pair, Begun: []int{1}}, h, one, with(one, func(h *api.Host) { h.Begun = []int{0, 1} }),
	} {
		if err := cluster.Check(x); err != api.OK {
			t.Errorf("Check %d: %d", i, err)
		}
	}
}

// wrongHosts tells hosts that may not be.
func wrongHosts(t *testing.T) []api.Host {
	h := busy(t)
	other := both(t, 3)
	out := []api.Host{
		none, {Id: 5}, {Id: -1}, {Id: 1, Lead: 4}, {Id: 1, Lead: -1}, {Id: 1, Epoch: api.MaxEpoch + 1}, {Id: 1, Attempt: -1}, {Id: 1, Attempt: api.MaxAttempt + 1},
		{Id: 1, Ins: h.Ins}, {Id: 1, Outs: h.Outs}, {Id: 1, Lasts: h.Lasts}, {Id: 1, Begun: []int{0}}, {Id: 1, Laid: pair, Begun: []int{0}, Closed: true}, {Id: 1, Laid: pair, Begun: []int{1, 0}}, {Id: 1, Laid: pair, Begun: []int{0, 0}}, {Id: 1, Laid: pair, Begun: []int{2}}, {Id: 1, Laid: pair, Begun: []int{-1}}, {Id: 2, Laid: pair, Begun: []int{0}},
		{Id: 1, Laid: api.Laid{Work: pair.Work}}, {Id: 1, Laid: api.Laid{Places: pair.Places}}, {Id: 1, Laid: laid(pair.Work.Graph, nil, 1, 1)}, {Id: 1, Laid: laid(pair.Work.Graph, pair.Work.Inputs, 1, 5)},
	}
	for _, change := range []func(h *api.Host){
		func(h *api.Host) { h.Lead = 0 }, func(h *api.Host) { h.Epoch = 0 }, func(h *api.Host) { h.Attempt = 0 }, func(h *api.Host) { h.Attempt = 3 }, func(h *api.Host) { h.Closed = true }, func(h *api.Host) { h.Id = 2 },
		func(h *api.Host) { h.Laid = api.Laid{} }, func(h *api.Host) { h.Laid = parted }, func(h *api.Host) { h.Laid.Places[0].Worker = 2 }, func(h *api.Host) { h.Laid.Places = h.Laid.Places[:1] },
		func(h *api.Host) { h.Tasks = h.Tasks[:1] }, func(h *api.Host) { slices.Reverse(h.Tasks) }, func(h *api.Host) { h.Tasks[1] = h.Tasks[0] }, func(h *api.Host) { h.Tasks[1] = other.Tasks[1] }, func(h *api.Host) { h.Tasks[0].Offsets[0] = 9 }, func(h *api.Host) { h.Tasks = nil },
		func(h *api.Host) { h.Begun = nil }, func(h *api.Host) { h.Begun = []int{0} }, func(h *api.Host) { h.Begun = []int{1, 0} }, func(h *api.Host) { h.Begun = []int{0, 1, 2} },
		func(h *api.Host) { h.Ins = nil }, func(h *api.Host) { h.Ins = append(h.Ins, h.Ins[0]) }, func(h *api.Host) { h.Ins[0].Channel = 1 }, func(h *api.Host) { h.Ins[0].Receiver.Room = 3 }, func(h *api.Host) { h.Ins[0].Receiver.Session = 3 }, func(h *api.Host) { h.Ins[0].Receiver.Next = 0 },
		func(h *api.Host) { h.Outs = nil }, func(h *api.Host) { h.Outs = append(h.Outs, h.Outs[0]) }, func(h *api.Host) { h.Outs[0].Channel = 1 }, func(h *api.Host) { h.Outs[0].Sender.Session = 3 }, func(h *api.Host) { h.Outs[0].Sender.Base = 0 },
		func(h *api.Host) { h.Lasts = nil }, func(h *api.Host) {
			h.Lasts = append(h.Lasts, api.Last{Sub: 1, Number: 7, Snap: zero(h.Laid.Work.Graph, 1)})
		}, func(h *api.Host) { h.Lasts[0].Number = 8 }, func(h *api.Host) { h.Lasts[0].Sub = 1 }, func(h *api.Host) { h.Lasts[0].Snap = zero(h.Laid.Work.Graph, 1) }, func(h *api.Host) { h.Lasts[0].Snap.Width = 2 }, func(h *api.Host) { h.Tasks[0].Done = 0 }, func(h *api.Host) { h.Tasks[1].Done = 7 },
		func(h *api.Host) { h.Tasks[0].Graph = parted.Work.Graph },
	} {
		out = append(out, with(h, change))
	}
	wide := laid(sample.Plain(), pair.Work.Inputs, 1, 1)
	wide.Work.Graph.Ops[1].Width = 2
	wide.Places = append(wide.Places, api.Place{Task: 2, Worker: 1})
	x, _ := hear(t, made(t, 1), deploy(wide, 0, 2))
	return append(out, with(x, func(h *api.Host) { h.Laid = pair }))
}

// P29.1, P29.5: what may not be is refused ahead of all else.
func TestWrong(t *testing.T) {
	for i, h := range wrongHosts(t) {
		a, said, err := cluster.Hear(h, api.Msg{})
		b, said2, acts, err2 := cluster.Work(h, 99, 99)
		c, said3, err3 := cluster.Pump(h)
		d, said4, err4 := cluster.Fall(h, 99)
		e, err5 := cluster.Dead(h)
		for j, err := range []api.Errno{cluster.Check(h), err, err2, err3, err4, err5} {
			if err != api.ErrHost {
				t.Errorf("call %d of %d: %d", j, i, err)
			}
		}
		m, ok := cluster.Beat(h)
		for _, x := range []api.Host{a, b, c, d, e} {
			if !cluster.Same(x, none) {
				t.Errorf("a host beside an error: %d", i)
			}
		}
		if len(said)+len(said2)+len(said3)+len(said4)+len(acts)+len(cluster.Choices(h))+cluster.Full(h) > 0 || !frame.Same(m, api.Msg{}) || ok {
			t.Errorf("something of what may not be: %d", i)
		}
	}
}

// P29.1: Same.
func TestSame(t *testing.T) {
	h := busy(t)
	for i, change := range []func(h *api.Host){
		func(h *api.Host) { h.Id++ }, func(h *api.Host) { h.Lead++ }, func(h *api.Host) { h.Epoch++ }, func(h *api.Host) { h.Attempt++ }, func(h *api.Host) { h.Closed = true }, func(h *api.Host) { h.Laid = api.Laid{} }, func(h *api.Host) { h.Laid.Places[1].Worker = 2 },
		func(h *api.Host) { h.Tasks = h.Tasks[:1] }, func(h *api.Host) { h.Tasks[0].Done++ }, func(h *api.Host) { h.Ins[0].Channel++ }, func(h *api.Host) { h.Ins[0].Receiver.Next++ }, func(h *api.Host) { h.Outs[0].Channel++ }, func(h *api.Host) { h.Outs[0].Sender.Limit++ },
		func(h *api.Host) { h.Lasts = nil }, func(h *api.Host) { h.Lasts[0].Sub++ }, func(h *api.Host) { h.Lasts[0].Number++ }, func(h *api.Host) { h.Lasts[0].Snap.Ended = true }, func(h *api.Host) { h.Begun = []int{0} },
	} {
		if x := with(h, change); cluster.Same(h, x) || !cluster.Same(x, x) {
			t.Errorf("change %d makes nothing else", i)
		}
	}
	if !cluster.Same(none, api.Host{Tasks: []api.Task{}, Ins: []api.Inlet{}, Outs: []api.Outlet{}, Lasts: []api.Last{}, Begun: []int{}}) {
		t.Errorf("nil and empty")
	}
}

// P29.2: what Hear refuses, and with which error first.
func TestHearRefuses(t *testing.T) {
	h := both(t, 3)
	closed, _ := hear(t, h, msg(api.MsgCancel, 1, 3))
	past := func(m api.Msg) api.Msg { m.Epoch = 4; return m }
	beat := api.Msg{Kind: api.MsgBeat, From: 4, To: 1, Epoch: 5, Attempt: 3}
	for i, x := range []struct {
		h   api.Host
		m   api.Msg
		err api.Errno
	}{
		{h, api.Msg{}, api.ErrMsg}, {h, past(msg(api.MsgTrigger, 1, 3)), api.ErrMsg}, {h, trigger(2, 3, 7), api.ErrMsg}, {h, beat, api.ErrMsg}, {h, data(2, 2, 3, 0, packet(3, 1, end)), api.ErrMsg},
		{h, past(trigger(1, 2, 7)), api.ErrStale}, {h, past(msg(api.MsgCancel, 1, 9)), api.ErrStale}, {h, past(data(2, 1, 3, 0, packet(3, 1, end))), api.ErrStale}, {h, past(deploy(pair, 0, 9)), api.ErrStale},
		{h, trigger(1, 2, 7), api.ErrAttempt}, {h, msg(api.MsgCancel, 1, 2), api.ErrAttempt}, {h, deploy(pair, 0, 2), api.ErrAttempt}, {closed, trigger(1, 3, 7), api.ErrAttempt}, {closed, told(1, 3, api.TxName{Attempt: 1, Serial: 1}), api.ErrAttempt}, {closed, data(2, 1, 3, 0, packet(3, 1, end)), api.ErrAttempt}, {closed, trigger(1, 2, 7), api.ErrAttempt},
		{h, trigger(1, 4, 7), api.ErrNone}, {h, told(1, 4, api.TxName{Attempt: 1, Serial: 1}), api.ErrNone}, {h, data(2, 1, 4, 0, packet(3, 1, end)), api.ErrNone}, {closed, trigger(1, 4, 7), api.ErrNone}, {made(t, 1), trigger(1, 4, 7), api.ErrNone}, {made(t, 1), told(1, 4, api.TxName{Attempt: 1, Serial: 1}), api.ErrNone}, {made(t, 1), data(2, 1, 1, 0, ack(3, 1, 1)), api.ErrNone},
		{h, data(2, 1, 3, 1, packet(3, 1, end)), api.ErrNone}, {h, data(2, 1, 3, 1, ack(3, 1, 1)), api.ErrNone},
		{h, deploy(laid(pair.Work.Graph, pair.Work.Inputs, 1, 2), 0, 3), api.ErrArg}, {h, deploy(laid(pair.Work.Graph, []api.Input{{}}, 1, 1), 0, 3), api.ErrArg},
	} {
		if got, said, err := cluster.Hear(x.h, x.m); err != x.err || len(said) > 0 || !cluster.Same(got, none) {
			t.Errorf("Hear %d: %d, not %d", i, err, x.err)
		}
	}
}

// P29.2: MsgDeploy.
func TestDeploy(t *testing.T) {
	h, said := hear(t, made(t, 1), deploy(parted, 2, 4))
	want, _ := task.New(parted.Work.Graph, 2, 4, api.Input{}, zero(parted.Work.Graph, 2))
	listen, _ := link.Listen(4, 2)
	open, _ := link.Open(4)
	host := api.Host{Id: 1, Lead: 1, Epoch: 5, Attempt: 4, Laid: parted, Tasks: []api.Task{want}, Ins: []api.Inlet{{Channel: 0, Receiver: listen}, {Channel: 1, Receiver: listen}}, Outs: []api.Outlet{{Channel: 2, Sender: open}}, Begun: []int{2}}
	if len(said) > 0 || !cluster.Same(h, host) {
		t.Fatalf("MsgDeploy: %v %v", h, said)
	}
	h, said = hear(t, h, deploy(parted, 0, 4))
	source, _ := task.New(parted.Work.Graph, 0, 4, parted.Work.Inputs[0], zero(parted.Work.Graph, 0))
	host.Tasks, host.Outs, host.Begun = []api.Task{source, want}, []api.Outlet{{Channel: 0, Sender: open}, {Channel: 2, Sender: open}}, []int{0, 2}
	if len(said) > 0 || !cluster.Same(h, host) {
		t.Fatalf("MsgDeploy: %v %v", h, said)
	}
	// In one attempt nobody begins twice; another manager says so, too.
	h, said, err := cluster.Fall(h, 0)
	if err != api.OK || !sameMsgs(said, fell(1, 4, 0)) {
		t.Errorf("Fall: %v %d", said, err)
	}
	m := deploy(parted, 0, 4)
	m.From, m.Epoch = 2, 6
	again, said := hear(t, h, m)
	f := fell(1, 4, 0)
	f.To, f.Epoch = 2, 6
	if !sameMsgs(said, f) || !cluster.Same(again, with(h, func(h *api.Host) { h.Lead, h.Epoch = 2, 6 })) {
		t.Errorf("MsgDeploy again: %v", said)
	}
	// Of a task that is there nothing more, but who leads.
	m = deploy(parted, 2, 4)
	m.From, m.Epoch = 3, 7
	again, said = hear(t, h, m)
	if len(said) > 0 || !cluster.Same(again, with(h, func(h *api.Host) { h.Lead, h.Epoch = 3, 7 })) {
		t.Errorf("MsgDeploy of what is there: %v", said)
	}
	// A greater attempt: all is new.
	next, said := hear(t, h, deploy(pair, 1, 5))
	if len(said) > 0 || len(next.Tasks) != 1 || next.Attempt != 5 || !slices.Equal(next.Begun, []int{1}) || len(next.Outs) > 0 || len(next.Ins) != 1 || next.Ins[0].Receiver.Session != 5 || len(next.Laid.Places) != 2 {
		t.Errorf("MsgDeploy of a greater attempt: %v", next)
	}
	closed, _ := hear(t, h, msg(api.MsgCancel, 1, 4))
	if !cluster.Same(closed, api.Host{Id: 1, Lead: 1, Epoch: 5, Attempt: 4, Closed: true, Laid: parted}) {
		t.Errorf("MsgCancel: %v", closed)
	}
	m = deploy(pair, 1, 4)
	m.Epoch = 9
	after, said := hear(t, closed, m)
	f = fell(1, 4, 1)
	f.Epoch = 9
	if !sameMsgs(said, f) || !cluster.Same(after, with(closed, func(h *api.Host) { h.Epoch = 9 })) {
		t.Errorf("MsgDeploy while closed: %v", said)
	}
	if open, _ := hear(t, closed, deploy(pair, 1, 5)); open.Closed || len(open.Tasks) != 1 {
		t.Errorf("MsgDeploy of a greater attempt: %v", open)
	}
	// Refused by task.New: nothing has happened, a greater attempt neither.
	m = deploy(pair, 1, 5)
	m.Snap.Txs = []api.TxName{{Sink: 1, Attempt: 5, Serial: 1}}
	if x, said, err := cluster.Hear(h, m); err != api.ErrSink || len(said) > 0 || !cluster.Same(x, none) {
		t.Errorf("MsgDeploy of a wrong snapshot: %d", err)
	}
	m = deploy(pair, 0, 5)
	m.Snap.Ended = true
	if _, _, err := cluster.Hear(h, m); err != api.ErrArg {
		t.Errorf("MsgDeploy of a wrong snapshot: %d", err)
	}
	if x, _ := hear(t, made(t, 1), msg(api.MsgCancel, 1, 3)); !cluster.Same(x, api.Host{Id: 1, Lead: 1, Epoch: 5, Attempt: 3, Closed: true}) {
		t.Errorf("MsgCancel of nothing: %v", x)
	}
}

// P29.2: MsgTrigger, MsgTold.
func TestTrigger(t *testing.T) {
	h := both(t, 2)
	m := trigger(1, 2, 7)
	h, said := hear(t, h, m)
	if !sameMsgs(said, answer(1, 2, 0, 7, zero(pair.Work.Graph, 0))) || !slices.Equal(h.Outs[0].Sender.Queue, []api.Elem{bar(7)}) || len(h.Lasts) != 1 || h.Tasks[0].Done != 7 {
		t.Errorf("MsgTrigger: %v", said)
	}
	// Triggered again it answers again; another number that is not above is passed over.
	again, said := hear(t, h, m)
	if !sameMsgs(said, answer(1, 2, 0, 7, zero(pair.Work.Graph, 0))) || !cluster.Same(again, h) {
		t.Errorf("MsgTrigger again: %v", said)
	}
	if x, said := hear(t, h, trigger(1, 2, 6)); len(said) > 0 || !cluster.Same(x, h) {
		t.Errorf("MsgTrigger of a lesser one: %v", said)
	}
	other := m
	other.From, other.Epoch = 2, 9
	if x, said := hear(t, h, other); len(said) != 1 || said[0].To != 2 || said[0].Epoch != 9 || x.Lead != 2 || x.Epoch != 9 {
		t.Errorf("MsgTrigger of another manager: %v", said)
	}
	// Without room nothing is said.
	full := h
	for n := range uint64(7) {
		full, _ = hear(t, full, trigger(1, 2, 8+n))
	}
	x, said := hear(t, full, trigger(1, 2, 20))
	if len(full.Outs[0].Sender.Queue) != 8 || len(said) > 0 || !cluster.Same(x, full) {
		t.Errorf("MsgTrigger without room: %v", said)
	}
	// Both have ended: both answer by their last state.
	h = both(t, 2)
	var acts []api.TxAct
	for len(h.Tasks[1].Gate.Queues) > 0 && !h.Tasks[1].Ended {
		for _, c := range cluster.Choices(h) {
			var more []api.TxAct
			h, _, more = work(t, h, c[0], c[1])
			acts = append(acts, more...)
		}
		h, said = pump(t, h)
		h, _ = hear(t, h, said...)
	}
	name := api.TxName{Sink: 1, Attempt: 2, Serial: 1}
	if !slices.Equal(acts, []api.TxAct{{Kind: api.ActOpen, Name: name}, {Kind: api.ActWrite, Name: name, Record: rec(1, 2)}, {Kind: api.ActReady, Name: name}}) {
		t.Errorf("the acts: %v", acts)
	}
	h, said = hear(t, h, trigger(1, 2, 9))
	if len(said) != 2 || said[0].Task != 0 || said[1].Task != 1 || !said[0].Snap.Ended || !said[1].Snap.Ended || !slices.Equal(said[1].Snap.Txs, []api.TxName{name}) || len(h.Lasts) != 2 {
		t.Errorf("MsgTrigger behind the end: %v", said)
	}
	h, said = hear(t, h, told(1, 2, api.TxName{Sink: 0, Attempt: 1, Serial: 1}, name))
	if len(said) > 0 || len(h.Tasks[1].Sink.Ready) > 0 {
		t.Errorf("MsgTold: %v", said)
	}
	_, said = hear(t, h, trigger(1, 2, 10))
	if len(said) != 2 || len(said[1].Snap.Txs) > 0 {
		t.Errorf("MsgTrigger behind MsgTold: %v", said)
	}
}

// P29.2: MsgData.
func TestData(t *testing.T) {
	h := both(t, 2)
	h, _, _ = work(t, h, 0, 0)
	x, said := hear(t, h, data(3, 1, 2, 0, packet(2, 1, elem(1, 9))))
	if len(said) > 0 || !slices.Equal(x.Ins[0].Receiver.Buffer, []api.Elem{elem(1, 9)}) {
		t.Errorf("PkData: %v", x.Ins)
	}
	// What the link does not know changes nothing, nor does a worker's Epoch.
	late := data(3, 1, 2, 0, packet(1, 1, elem(1, 9)))
	late.Epoch = 8
	if y, _ := hear(t, h, late, data(3, 1, 2, 0, packet(2, 2, elem(1, 9))), data(3, 1, 2, 0, ack(1, 1, 1))); !cluster.Same(y, h) {
		t.Errorf("PkData of another one: %v", y)
	}
	x, _ = hear(t, h, data(3, 1, 2, 0, ack(2, 1, 4)))
	if x.Outs[0].Sender.Limit != 4 || len(x.Outs[0].Sender.Queue) != 1 {
		t.Errorf("PkAck: %v", x.Outs)
	}
	x, _ = hear(t, x, data(3, 1, 2, 0, ack(2, 2, 4)))
	if len(x.Outs[0].Sender.Queue) != 0 || x.Outs[0].Sender.Base != 2 {
		t.Errorf("PkAck: %v", x.Outs)
	}
}

// P29.3: Choices, Work.
func TestWork(t *testing.T) {
	h, _ := hear(t, made(t, 1), deploy(parted, 0, 4), deploy(parted, 2, 4))
	h, _ = hear(t, h, data(2, 1, 4, 1, packet(4, 1, elem(5, 3))), data(2, 1, 4, 1, packet(4, 2, bar(9))))
	h, _ = pump(t, h)
	if got := cluster.Choices(h); !slices.Equal(got, [][2]int{{0, 0}, {2, 1}}) {
		t.Fatalf("Choices: %v", got)
	}
	for _, x := range []struct {
		sub, queue int
		err        api.Errno
	}{{1, 0, api.ErrNone}, {-1, 0, api.ErrNone}, {math.MinInt, 0, api.ErrNone}, {math.MaxInt, 0, api.ErrNone}, {2, 0, api.ErrArg}, {2, 2, api.ErrArg}, {0, 1, api.ErrArg}} {
		if got, said, acts, err := cluster.Work(h, x.sub, x.queue); err != x.err || len(said)+len(acts) > 0 || !cluster.Same(got, none) {
			t.Errorf("Work(%d, %d): %d", x.sub, x.queue, err)
		}
	}
	h, said, acts := work(t, h, 2, 1)
	if len(said)+len(acts) > 0 || !slices.Equal(h.Outs[1].Sender.Queue, []api.Elem{elem(5, 3)}) {
		t.Errorf("Work: %v %v", said, h.Outs)
	}
	h, said, _ = work(t, h, 2, 1) // the barrier of the one channel
	if len(said) > 0 || len(h.Lasts) > 0 {
		t.Errorf("Work: %v", said)
	}
	h, _ = hear(t, h, data(1, 1, 4, 0, packet(4, 1, bar(9))))
	h, _ = pump(t, h)
	h, said, _ = work(t, h, 2, 0)
	s, _ := task.Snap(h.Tasks[1])
	if !sameMsgs(said, answer(1, 4, 2, 9, s)) || len(s.Table.Rows) != 1 || len(h.Lasts) != 1 || h.Lasts[0].Sub != 2 || h.Lasts[0].Number != 9 || !slices.Equal(h.Outs[1].Sender.Queue, []api.Elem{elem(5, 3), bar(9)}) {
		t.Errorf("Work: %v", said)
	}
	// The source goes on till its sender is full.
	full := both(t, 2)
	full.Laid = laid(pair.Work.Graph, []api.Input{{Records: slices.Repeat([]api.Record{rec(1, 1)}, 20)}}, 1, 1)
	full, _ = hear(t, made(t, 1), deploy(full.Laid, 0, 2))
	for range api.MaxHold {
		full, _, _ = work(t, full, 0, 0)
	}
	if got, _, _, err := cluster.Work(full, 0, 0); err != api.ErrFull || !cluster.Same(got, none) || cluster.Full(full) != 8 {
		t.Errorf("Work without room: %d", err)
	}
}

// P29.4: Pump.
func TestPump(t *testing.T) {
	h, _ := hear(t, made(t, 1), deploy(parted, 0, 4), deploy(parted, 2, 4))
	h, _, _ = work(t, h, 0, 0)
	h, _ = hear(t, h, data(1, 1, 4, 0, ack(4, 1, 2)), data(2, 1, 4, 1, packet(4, 1, elem(5, 3))), data(2, 1, 4, 1, packet(4, 2, elem(5, 4))))
	h, said := pump(t, h)
	want := []api.Msg{data(1, 1, 4, 0, ack(4, 1, 2)), data(1, 2, 4, 1, ack(4, 3, 4)), data(1, 1, 4, 0, packet(4, 1, elem(1, 2)))}
	if !sameMsgs(said, want...) || len(h.Tasks[1].Gate.Queues[1].Elems) != 2 || len(h.Ins[1].Receiver.Buffer) != 0 {
		t.Errorf("Pump: %v", said)
	}
	// What there is no room for stays: a queue has room for four.
	for seq := uint64(3); seq <= 6; seq++ {
		h, _ = hear(t, h, data(2, 1, 4, 1, packet(4, seq, elem(5, 9))))
		h, _ = pump(t, h)
	}
	h, said = pump(t, h)
	if len(h.Tasks[1].Gate.Queues[1].Elems) != 4 || len(h.Ins[1].Receiver.Buffer) != 2 || !frame.Same(said[1], data(1, 2, 4, 1, ack(4, 7, 6))) || cluster.Full(h) != 7 {
		t.Errorf("Pump: %v, %d", said, cluster.Full(h))
	}
	// What is refused in pushing falls: a barrier that does not rise.
	h, _ = hear(t, made(t, 1), deploy(parted, 0, 4), deploy(parted, 2, 4))
	h, _ = hear(t, h, data(1, 1, 4, 0, packet(4, 1, elem(1, 1))), data(2, 1, 4, 1, packet(4, 1, bar(5))), data(2, 1, 4, 1, packet(4, 2, bar(5))))
	h, said = pump(t, h)
	want = []api.Msg{data(1, 1, 4, 0, ack(4, 2, 3)), fell(1, 4, 2)}
	if !sameMsgs(said, want...) || len(h.Tasks) != 1 || len(h.Ins) != 0 || len(h.Outs) != 1 || !slices.Equal(h.Begun, []int{0, 2}) {
		t.Errorf("Pump of what is refused: %v", said)
	}
}

// P29.5: Fall, Beat, Dead, Full.
func TestFall(t *testing.T) {
	h := busy(t)
	for _, sub := range []int{-1, 2, math.MaxInt, math.MinInt} {
		if x, said, err := cluster.Fall(h, sub); err != api.ErrNone || len(said) > 0 || !cluster.Same(x, none) {
			t.Errorf("Fall(%d): %d", sub, err)
		}
	}
	x, said, err := cluster.Fall(h, 0)
	if want := with(h, func(h *api.Host) { h.Tasks, h.Outs, h.Lasts = h.Tasks[1:], nil, nil }); err != api.OK || !sameMsgs(said, fell(1, 2, 0)) || !cluster.Same(x, want) || cluster.Check(x) != api.OK {
		t.Errorf("Fall: %v %d", said, err)
	}
	x, said, err = cluster.Fall(h, 1)
	if want := with(h, func(h *api.Host) { h.Tasks, h.Ins = h.Tasks[:1], nil }); err != api.OK || !sameMsgs(said, fell(1, 2, 1)) || !cluster.Same(x, want) {
		t.Errorf("Fall: %v %d", said, err)
	}
	x, _, _ = cluster.Fall(x, 0)
	if want := (api.Host{Id: 1, Lead: 1, Epoch: 5, Attempt: 2, Laid: pair, Begun: []int{0, 1}}); !cluster.Same(x, want) || cluster.Check(x) != api.OK {
		t.Errorf("Fall of both: %v", x)
	}
	beat := api.Msg{Kind: api.MsgBeat, From: 4, To: 1, Epoch: 5, Attempt: 2}
	if m, ok := cluster.Beat(x); !ok || !frame.Same(m, beat) {
		t.Errorf("Beat: %v %v", m, ok)
	}
	beat.Up = []int{0, 1}
	if m, ok := cluster.Beat(h); !ok || !frame.Same(m, beat) {
		t.Errorf("Beat: %v %v", m, ok)
	}
	over := busy(t)
	over, _, _ = work(t, over, 0, 0)
	over, _, _ = work(t, over, 0, 0)
	beat.Ended = []int{0}
	if m, ok := cluster.Beat(over); !ok || !frame.Same(m, beat) || cluster.Full(over) != 3 {
		t.Errorf("Beat: %v %v", m, ok)
	}
	for i, x := range []api.Host{{Id: 1}, {Id: 1, Epoch: 1, Attempt: 1}, {Id: 1, Lead: 1, Attempt: 1}, {Id: 1, Lead: 1, Epoch: 1}} {
		if m, ok := cluster.Beat(x); ok || !frame.Same(m, api.Msg{}) {
			t.Errorf("Beat %d: %v", i, m)
		}
	}
	for i, x := range []struct{ h, want api.Host }{
		{h, api.Host{Id: 1, Lead: 1, Epoch: 5, Attempt: 2, Closed: true}}, {made(t, 3), made(t, 3)}, {api.Host{Id: 2, Lead: 3, Epoch: 4, Laid: pair}, api.Host{Id: 2, Lead: 3, Epoch: 4}}, {api.Host{Id: 2, Closed: true}, api.Host{Id: 2}}, {api.Host{Id: 2, Attempt: 1, Closed: true}, api.Host{Id: 2, Attempt: 1, Closed: true}}, {api.Host{Id: 2, Attempt: 1}, api.Host{Id: 2, Attempt: 1, Closed: true}},
	} {
		if got, err := cluster.Dead(x.h); err != api.OK || !cluster.Same(got, x.want) || cluster.Check(got) != api.OK {
			t.Errorf("Dead %d: %v %d", i, got, err)
		}
	}
}
