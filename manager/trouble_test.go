package manager_test

import (
	"fmt"
	"math/rand"
	"slices"
	"testing"

	"headrace/api"
	"headrace/coord"
	"headrace/frame"
	"headrace/graph"
	"headrace/lease"
	"headrace/manager"
	"headrace/retain"
	"headrace/sample"
	"headrace/slots"
	"headrace/snap"
	"headrace/store"
	"headrace/txlog"
)

// another makes the manager 2 on the same stage, which takes over at a tick.
func (g *stage) another(now int64) (*stage, []api.Msg) {
	g.t.Helper()
	x := &stage{t: g.t, m: made(g.t, 2), disk: g.disk, s: g.s, log: g.log}
	said := x.tick(now)
	return x, said
}

// left checks that a manager has left, and says nothing.
func (g *stage) left(what string, said []api.Msg) {
	g.t.Helper()
	if !manager.Same(g.m, api.Manager{Id: g.m.Id, Now: g.m.Now}) || len(said) > 0 {
		g.t.Errorf("%s: it leads: %v", what, g.m)
	}
}

// P30.3: what the store, or the log outside, refuses while a checkpoint is completed.
func TestCompleteRefused(t *testing.T) {
	n := name(1, 2, 1)
	ready := func(t *testing.T) (*stage, []api.Msg) {
		g := up(t, pair, empty)
		number := g.save()
		g.ready(n)
		acks := g.acks(number, g.zeros(func(task int, s *api.Snap) {
			if task == 1 {
				s.Txs = []api.TxName{n}
			}
		}))
		g.hear(acks[0])
		return g, acks
	}
	// Each step of the disk fails: it is stored, or not; what is committed is what is stored.
	ops := 0
	for fail := 0; ; fail++ {
		g, acks := ready(t)
		before := g.disk.Ops()
		g.disk.Fail(fail)
		said := g.hear(acks[1])
		if g.m.Lease.Epoch > 0 {
			ops = g.disk.Ops() - before
			g.told(said, []api.TxName{n}, 2)
			break
		}
		g.left(fmt.Sprint("a failure at ", fail), said)
		rows := g.s.Shelf().Rows
		if (txlog.State(g.log, n) == 3) != (len(rows) > 0) || len(rows) > 0 && !rows[0].Open {
			t.Fatalf("a failure at %d: %v, %v", fail, rows, g.log)
		}
		// The next one finds what was stored, commits it, and begins from it.
		s, err := store.Open(g.disk)
		if err != api.OK {
			t.Fatal(err)
		}
		g.s = s
		x, _ := g.another(40)
		if rows = s.Shelf().Rows; len(rows) > 0 && (rows[0].Open || txlog.State(x.log, n) != 3) || len(rows) == 0 && txlog.State(x.log, n) != 0 {
			t.Fatalf("a failure at %d: taken over: %v, %v", fail, rows, x.log)
		}
		x.keeps("taken over", restarting(1), 3)
	}
	if ops < 4 {
		t.Errorf("only %d steps", ops)
	}
	// The log outside refuses: the job is full, and the row stays as it is.
	g, acks := ready(t)
	g.log = noLog
	g.nothing(g.hear(acks[1]))
	g.keeps("the log refuses", over(api.JobFailed, 0), 2)
	if rows := g.s.Shelf().Rows; len(rows) != 1 || !rows[0].Open || len(g.log.Done) > 0 {
		t.Errorf("the log refuses: %v", rows)
	}
	// The store has no room: the job is full.
	wide := api.Graph{Ops: []api.Op{{Tag: api.OpSource, Width: 3}, {Tag: api.OpReduce, Width: 3, Inputs: []int{0}}, {Tag: api.OpMap, Width: 3, Inputs: []int{1}}, {Tag: api.OpMap, Width: 3, Inputs: []int{2}}, {Tag: api.OpSink, Width: 3, Inputs: []int{3}}}}
	g = up(t, wide, empty)
	for i := range 3 {
		number := g.save()
		g.nothing(g.hear(g.acks(number, g.zeros(same))...))
		if i < 2 {
			g.keeps("room", running(0), 2)
		}
	}
	g.keeps("no room", over(api.JobFailed, 0), 2)
	if len(g.s.Shelf().Rows) != 2 || len(g.m.Coord.Pendings) != 1 {
		t.Errorf("no room: %v", g.s.Shelf())
	}
	// A snapshot that does not fit is refused by the store: it leaves.
	g = up(t, pair, empty)
	number := g.save()
	l := g.acks(number, g.zeros(same))
	l[1].Snap.Op = 3
	g.hear(l[0])
	g.left("a wrong snapshot", g.hear(l[1]))
	// A job whose state can't be stored: it leaves, and says nothing, though all is committed.
	for fail := 0; ; fail++ {
		g := up(t, pair, empty)
		g.ask(api.Request{Kind: api.ReqStop})
		g.tick(2)
		g.ready(n)
		acks := g.acks(g.m.Coord.Pendings[0].Number, g.zeros(func(task int, s *api.Snap) {
			if task == 1 {
				s.Txs = []api.TxName{n}
			}
		}))
		g.hear(acks[0])
		g.disk.Fail(fail)
		said := g.hear(acks[1])
		if rows := g.s.Shelf().Rows; len(rows) == 0 || rows[0].Open {
			continue
		}
		if g.m.Lease.Epoch > 0 {
			g.keeps("stopped", over(api.JobStopped, 0), 2)
			break
		}
		g.left("the state", said)
	}
}

// P30.2: who takes over commits what is open, and begins anew.
func TestTakeOver(t *testing.T) {
	// A manager falls between completing and committing.
	g := up(t, pair, empty)
	n, m, lost := name(1, 2, 1), name(1, 2, 2), name(1, 1, 9)
	l := g.zeros(func(task int, s *api.Snap) {
		if task == 1 {
			s.Txs = []api.TxName{n}
		}
	})
	var rows [][]api.Ack
	for _, x := range [][]api.TxName{{n}, {n, m}} {
		l[1].Txs = x
		var acks []api.Ack
		for task, s := range l {
			b, _ := snap.Encode(s)
			acks = append(acks, api.Ack{Task: task, Bytes: b})
		}
		rows = append(rows, acks)
	}
	g.s.Complete(number(1, 1), false, rows[0])
	g.s.Complete(number(1, 2), true, rows[1])
	g.ready(n, m, lost)
	x, said := g.another(21)
	if x.m.Lease != (api.Lease{Epoch: 2, Holder: 2, Until: 41}) || !slices.Equal(x.log.Done, []api.TxName{n, m}) || len(x.log.Txs) > 0 {
		t.Errorf("taken over: %v, %v", x.m.Lease, x.log)
	}
	x.keeps("taken over", restarting(1), 3)
	if want := (api.Shelf{Keep: 2, Rows: []api.Kept{{Number: number(1, 1)}, {Number: number(1, 2), Save: true}}}); !retain.Same(x.s.Shelf(), want) {
		t.Errorf("the shelf: %v", x.s.Shelf())
	}
	x.nothing(x.deployed(x.cancelled(said, 2, 3, 4), l, 0, 1))
	if !coord.Same(x.m.Coord, api.Coord{Epoch: 2, Tasks: 2, Attempt: 3, Span: api.MaxSpan}) || x.m.Last != 21 || len(x.m.Up) > 0 {
		t.Errorf("taken over: %v", x.m)
	}
	// Numbers of the next epoch are greater.
	x.beats()
	x.tick(22)
	x.keeps("up", running(1), 3)
	if got := x.save(); got != number(2, 1) {
		t.Errorf("the number %d", got)
	}
	// What can't be committed: the job is full; later rows stay.
	g = up(t, pair, empty)
	g.s.Complete(number(1, 1), false, rows[0])
	g.s.Complete(number(1, 2), true, rows[1])
	g.ready(m)
	x, said = g.another(21)
	x.keeps("can't be committed", over(api.JobFailed, 0), 2)
	if rows := x.s.Shelf().Rows; !rows[0].Open || !rows[1].Open || txlog.State(x.log, m) != api.TxReady {
		t.Errorf("can't be committed: %v %v", rows, x.log)
	}
	x.nothing(x.cancelled(said, 2, 1, 2, 3, 4))
	// Nothing of a row that is open is aborted ahead of its commit: n of the first row, m of the second one, of attempts that are over.
	g = up(t, pair, empty)
	g.s.Complete(number(1, 1), false, rows[0])
	g.s.Complete(number(1, 2), true, rows[1])
	g.s.SetState(1, g.s.State(), state(running(0), 7))
	g.ready(n, m, name(1, 7, 1))
	x, _ = g.another(21)
	if !slices.Equal(x.log.Done, []api.TxName{n, m}) {
		t.Errorf("aborted: %v", x.log)
	}
	x.keeps("taken over", restarting(1), 8)
}

// P30.2: what is stored when somebody takes over.
func TestStored(t *testing.T) {
	long := append(state(running(2), 5), 0)
	for i, x := range []struct {
		state   []byte
		job     api.Job
		attempt int
	}{
		{state(running(2), 5), restarting(3), 6}, {state(over(api.JobStopping, 0), 2), restarting(1), 3}, {state(restarting(3), 9), restarting(4), 10}, {state(running(4), 9), over(api.JobFailed, 4), 9}, {state(over(api.JobFinished, 1), 3), over(api.JobFinished, 1), 3}, {state(over(api.JobStopped, 1), 3), over(api.JobStopped, 1), 3},
		{state(running(0), api.MaxAttempt), over(api.JobFailed, 1), api.MaxAttempt}, {state(running(0), api.MaxAttempt-1), restarting(1), api.MaxAttempt},
		{nil, restarting(1), 2}, {[]byte{1}, restarting(1), 2}, {long, restarting(1), 2}, {long[:6], restarting(1), 2}, {state(running(2), 1), restarting(1), 2}, {state(running(2), 0), restarting(1), 2}, {state(running(2), api.MaxAttempt+1), restarting(1), 2}, {state(over(0, 0), 5), restarting(1), 2}, {state(over(8, 0), 5), restarting(1), 2}, {state(over(1, 5), 5), restarting(1), 2},
	} {
		g := up(t, pair, empty)
		if err := g.s.SetState(1, g.s.State(), x.state); err != api.OK {
			t.Fatal(err)
		}
		y, said := g.another(30)
		if y.m.Job != x.job || y.m.Attempt != x.attempt || !slices.Equal(y.m.Floor.Workers, g.m.Floor.Workers) {
			t.Errorf("stored %d: %v %d", i, y.m.Job, y.m.Attempt)
		}
		if x.job.State == api.JobRestarting {
			y.keeps("begun anew", x.job, x.attempt)
			y.nothing(y.deployed(y.cancelled(said, x.attempt-1, 3, 4), y.zeros(same), 0, 1))
		} else {
			y.nothing(y.cancelled(said, x.attempt, 1, 2, 3, 4))
		}
	}
}

// P30.2 to P30.4: at each step of the disk that fails, or at which the power goes, it leaves, or is refused; nobody is told.
func TestStoreFails(t *testing.T) {
	for _, x := range []struct {
		name string
		make func(t *testing.T) *stage
		do   func(g *stage) []api.Msg
	}{
		{"take over", func(t *testing.T) *stage {
			g := up(t, pair, empty)
			g.m = made(t, 2)
			return g
		}, func(g *stage) []api.Msg { return g.tick(30) }},
		{"fall", func(t *testing.T) *stage { return up(t, pair, empty) }, func(g *stage) []api.Msg {
			return g.hear(api.Msg{Kind: api.MsgFell, From: 4, To: 1, Epoch: 1, Attempt: 2})
		}},
		{"renew", func(t *testing.T) *stage { return up(t, pair, empty) }, func(g *stage) []api.Msg { return g.tick(11) }},
		{"go", func(t *testing.T) *stage { return up(t, pair, empty) }, func(g *stage) []api.Msg { return g.tick(9) }},
		{"cancel", func(t *testing.T) *stage { return up(t, pair, empty) }, func(g *stage) []api.Msg { return g.ask(api.Request{Kind: api.ReqCancel}) }},
		{"stop", func(t *testing.T) *stage { return up(t, pair, empty) }, func(g *stage) []api.Msg { return g.ask(api.Request{Kind: api.ReqStop}) }},
	} {
		for fail := 0; ; fail++ {
			g := x.make(t)
			g.ready(name(1, 2, 1))
			log := g.log
			g.disk.Fail(fail)
			said := x.do(g)
			if g.m.Lease.Epoch > 0 {
				if fail < 2 {
					t.Errorf("%s: only %d steps", x.name, fail)
				}
				break
			}
			g.left(fmt.Sprint(x.name, ", a failure at ", fail), said)
			if !txlog.Same(g.log, log) {
				t.Errorf("%s, a failure at %d: the log is another one", x.name, fail)
			}
		}
	}
}

// P30.4: ReqSubmit.
func TestSubmit(t *testing.T) {
	g := newStage(t)
	g.tick(1)
	for w := 1; w <= 2; w++ {
		g.hear(g.beat(w, nil, nil))
	}
	g.tick(8)
	for w := 1; w <= 2; w++ {
		g.hear(g.beat(w, nil, nil))
	}
	g.tick(9) // the workers 3 and 4 have gone: eight slots are left
	submit := func(g api.Graph, inputs []api.Input) api.Request {
		return api.Request{Kind: api.ReqSubmit, Graph: g, Inputs: inputs}
	}
	wide := api.Graph{Ops: []api.Op{{Tag: api.OpSource, Width: 3}, {Tag: api.OpReduce, Width: 3, Inputs: []int{0}}, {Tag: api.OpSink, Width: 3, Inputs: []int{1}}}}
	g.refused("no graph", submit(api.Graph{}, nil), api.ErrGraph)
	g.refused("unread", submit(api.Graph{Ops: wide.Ops[:2]}, nil), api.ErrUnread)
	g.refused("no slots", submit(wide, nil), api.ErrFull)
	g.refused("no inputs", submit(pair, nil), api.ErrArg)
	g.refused("cancel none", api.Request{Kind: api.ReqCancel}, api.ErrNone)
	g.refused("stop none", api.Request{Kind: api.ReqStop}, api.ErrNone)
	g.refused("save none", api.Request{Kind: api.ReqSave}, api.ErrState)
	g.refused("release none", api.Request{Kind: api.ReqRelease, Number: 1}, api.ErrNone)
	g.refused("rescale none", api.Request{Kind: api.ReqRescale, Number: 1, Widths: []int{1, 1}}, api.ErrState)
	wide.Ops[0].Width = 2
	in := []api.Input{{Records: []api.Record{{Key: 1, Value: 2}}}}
	said := g.ask(submit(wide, in))
	g.keeps("ReqSubmit", running(0), 2)
	g.nothing(g.deployed(g.cancelled(said, 1, 3, 4), g.zeros(same), 0, 1, 2, 3, 4, 5, 6, 7))
	if got, _ := g.s.Graph(); !graph.Same(got, wide) || len(g.s.Inputs()[0].Records) != 1 || g.m.Last != 9 || !coord.Same(g.m.Coord, api.Coord{Epoch: 1, Tasks: 8, Attempt: 2, Span: api.MaxSpan}) || slots.Free(g.m.Floor) != 0 {
		t.Errorf("ReqSubmit: %v", g.m)
	}
	g.refused("again", submit(wide, in), api.ErrThere)
	// The state can't be stored: it leaves, and the graph stays.
	for fail := 0; ; fail++ {
		g = newStage(t)
		g.tick(1)
		g.disk.Fail(fail)
		m, l, said, err := manager.Ask(g.m, g.s, g.log, submit(pair, empty))
		_, there := g.s.Graph()
		if err != api.OK {
			if err != api.ErrIo || there {
				t.Fatalf("a failure at %d: %d", fail, err)
			}
			continue
		}
		if g.take(m, l, said, err); g.m.Lease.Epoch > 0 {
			break
		}
		if g.left("the state", said); !there {
			t.Errorf("a failure at %d: no graph", fail)
		}
		// The next one finds a graph without a state.
		g.s, _ = store.Open(g.disk)
		lasts := len(g.s.State()) > 0 // what was written, though not synced, may last
		x, _ := g.another(30)
		if lasts {
			x.keeps("taken over", restarting(1), 3)
		} else {
			x.keeps("taken over, without a state", restarting(1), 2)
		}
	}
}

// P30.4: ReqCancel, ReqStop, ReqSave, ReqRelease.
func TestAsk(t *testing.T) {
	g := up(t, pair, empty)
	g.ready(name(1, 2, 1))
	n := g.save()
	if p := g.m.Coord.Pendings[0]; !p.Save || p.Begun != 1 || n != number(1, 1) || g.m.Last != 1 {
		t.Errorf("ReqSave: %v", g.m.Coord)
	}
	g.save()
	g.refused("a third one", api.Request{Kind: api.ReqSave}, api.ErrFull)
	said := g.ask(api.Request{Kind: api.ReqCancel})
	g.keeps("ReqCancel", over(api.JobCancelled, 0), 2)
	g.nothing(g.cancelled(said, 2, 1, 2, 3, 4))
	if len(g.log.Txs) > 0 {
		t.Errorf("ReqCancel: %v", g.log)
	}
	for kind, err := range map[int]api.Errno{api.ReqCancel: api.ErrJobOver, api.ReqStop: api.ErrJobOver, api.ReqSave: api.ErrState} {
		g.refused("over", api.Request{Kind: kind}, err)
	}
	g.refused("over", api.Request{Kind: api.ReqSubmit, Graph: pair, Inputs: empty}, api.ErrThere)
	g.refused("over", api.Request{Kind: api.ReqRescale, Number: n, Widths: []int{1, 1}}, api.ErrState)
	g = up(t, pair, empty)
	n = g.save()
	g.tick(3)
	if g.m.Last != 1 {
		t.Errorf("Last: %d", g.m.Last)
	}
	said = g.ask(api.Request{Kind: api.ReqSave})
	if g.m.Last != 3 {
		t.Errorf("Last: %d", g.m.Last)
	}
	g.nothing(g.triggered(g.triggered(g.cancelled(said, 1, 3, 4), n, 1, 2), n+1, 1, 2))
	g.hear(g.acks(n, g.zeros(same))...)
	g.refused("no such savepoint", api.Request{Kind: api.ReqRelease, Number: n + 1}, api.ErrNone)
	g.ask(api.Request{Kind: api.ReqRelease, Number: n})
	if rows := g.s.Shelf().Rows; len(rows) != 1 || rows[0].Save {
		t.Errorf("ReqRelease: %v", rows)
	}
	g.refused("no savepoint any more", api.Request{Kind: api.ReqRelease, Number: n}, api.ErrArg)
	g.hear(api.Msg{Kind: api.MsgFell, From: 4, To: 1, Epoch: 1, Attempt: 2})
	g.refused("ReqStop while it is begun anew", api.Request{Kind: api.ReqStop}, api.ErrBusy)
	g.refused("ReqSave while it is begun anew", api.Request{Kind: api.ReqSave}, api.ErrState)
}

// stopped makes a stage whose job is stopped, with a savepoint.
func stopped(t *testing.T) (*stage, uint64) {
	t.Helper()
	sum := api.Graph{Ops: []api.Op{{Tag: api.OpSource, Width: 1}, {Tag: api.OpReduce, Width: 1, Inputs: []int{0}}, {Tag: api.OpSink, Width: 1, Inputs: []int{1}}}}
	g := up(t, sum, empty)
	g.ask(api.Request{Kind: api.ReqStop})
	g.tick(2)
	n := g.m.Coord.Pendings[0].Number
	g.hear(g.acks(n, g.zeros(func(task int, s *api.Snap) {
		if task == 1 {
			s.Table.Rows = []api.KeyCell{{Key: 0, Cell: api.Cell{Count: 1, Sum: 5}}, {Key: 7, Cell: api.Cell{Count: 2, Sum: 6}}}
		}
	}))...)
	g.keeps("stopped", over(api.JobStopped, 0), 2)
	return g, n
}

// P30.4: ReqRescale.
func TestRescale(t *testing.T) {
	g, n := stopped(t)
	rescale := func(n uint64, widths ...int) api.Request {
		return api.Request{Kind: api.ReqRescale, Number: n, Widths: widths}
	}
	g.refused("no such row", rescale(n+1, 2, 3, 1), api.ErrNone)
	g.refused("too few widths", rescale(n, 2, 3), api.ErrArg)
	g.m.Floor.Workers = g.m.Floor.Workers[:1]
	g.m.Floor.Places, g.m.Up = nil, nil
	g.refused("too few slots", rescale(n+1, 2, 2, 1), api.ErrFull)
	g, n = stopped(t)
	last := g.m
	g.m.Attempt, g.m.Coord.Attempt = api.MaxAttempt, api.MaxAttempt
	g.refused("no attempt", rescale(n+1, 2, 3, 1), api.ErrFull)
	g.m = last
	g.m.Coord.Counter = api.MaxCounter
	g.refused("no counter", rescale(n+1, 2, 3, 1), api.ErrFull)
	g.m = last
	said := g.ask(rescale(n, 2, 3, 1))
	g.keeps("ReqRescale", running(0), 3)
	l, err := g.s.Snaps(n + 1)
	if err != api.OK || len(l) != 6 || len(l[2].Table.Rows) != 1 || len(l[4].Table.Rows) != 1 {
		t.Errorf("ReqRescale: %v %d", l, err)
	}
	if !coord.Same(g.m.Coord, api.Coord{Epoch: 1, Counter: 2, Tasks: 6, Attempt: 3, Span: api.MaxSpan}) || g.m.Last != 2 || len(g.m.Up)+len(g.m.Ended) > 0 || len(g.m.Floor.Places) != 6 {
		t.Errorf("ReqRescale: %v", g.m)
	}
	g.nothing(g.deployed(said, l, 0, 1, 2, 3, 4, 5))
	g.refused("it runs", rescale(n+1, 1, 1, 1), api.ErrState)
	// Another manager rescales it, too, from the first counter on.
	g, n = stopped(t)
	x, _ := g.another(40)
	if x.m.Job != over(api.JobStopped, 0) || !coord.Same(x.m.Coord, api.Coord{}) {
		t.Fatalf("taken over: %v", x.m)
	}
	x.ask(rescale(n, 1, 1, 3))
	x.keeps("ReqRescale", running(0), 3)
	if row, _ := retain.Latest(x.s.Shelf()); row.Number != number(2, 1) || !row.Save || row.Open || x.m.Coord.Counter != 1 {
		t.Errorf("ReqRescale: %v", row)
	}
}

// R3: what is handed in stays as it was, and is not shared.
func TestShares(t *testing.T) {
	fresh := func() *stage {
		g := up(t, pair, empty)
		n := g.save()
		g.ready(name(1, 2, 1))
		g.hear(g.acks(n, g.zeros(same))[0])
		return g
	}
	spoil := func(m api.Manager, l api.TxLog, said []api.Msg) {
		for i := range m.Floor.Workers {
			m.Floor.Workers[i].Id = 99
		}
		for i := range m.Floor.Places {
			m.Floor.Places[i].Task = 99
		}
		for i := range m.Heart.Pulses {
			m.Heart.Pulses[i].Worker = 99
		}
		for i := range m.Coord.Pendings {
			for j := range m.Coord.Pendings[i].Acks {
				for k := range m.Coord.Pendings[i].Acks[j].Bytes {
					m.Coord.Pendings[i].Acks[j].Bytes[k] = 99
				}
				m.Coord.Pendings[i].Acks[j].Task = 99
			}
			m.Coord.Pendings[i].Number = 99
		}
		for _, l := range [][]int{m.Up, m.Ended} {
			for i := range l {
				l[i] = 99
			}
		}
		for i := range l.Txs {
			l.Txs[i].Records[0].Key = 99
			l.Txs[i].State = 99
		}
		for i := range l.Done {
			l.Done[i].Sink = 99
		}
		for _, x := range said {
			for i := range x.Laid.Places {
				x.Laid.Places[i].Task = 99
			}
			for i := range x.Laid.Work.Graph.Ops {
				x.Laid.Work.Graph.Ops[i].Width = 99
			}
		}
	}
	for i, call := range []func(g *stage) (api.Manager, api.TxLog, []api.Msg, api.Errno){
		func(g *stage) (api.Manager, api.TxLog, []api.Msg, api.Errno) {
			return manager.Tick(g.m, g.s, g.log, 2)
		},
		func(g *stage) (api.Manager, api.TxLog, []api.Msg, api.Errno) {
			return manager.Hear(g.m, g.s, g.log, g.beat(1, nil, nil))
		},
		func(g *stage) (api.Manager, api.TxLog, []api.Msg, api.Errno) {
			return manager.Hear(g.m, g.s, g.log, g.acks(number(1, 1), g.zeros(same))[1])
		},
		func(g *stage) (api.Manager, api.TxLog, []api.Msg, api.Errno) {
			return manager.Ask(g.m, g.s, g.log, api.Request{Kind: api.ReqStop})
		},
	} {
		g, was := fresh(), fresh()
		m, l, said, err := call(g)
		if err != api.OK {
			t.Fatal(err)
		}
		spoil(m, l, said)
		if !manager.Same(g.m, was.m) || !txlog.Same(g.log, was.log) {
			t.Errorf("call %d changes what it is handed", i)
		}
	}
}

// P30.5: of two managers one leads at most; who leads no more changes neither store nor log; what is committed grows.
func TestFollows(t *testing.T) {
	rnd := rand.New(rand.NewSource(30))
	for range 60 {
		d, s := formatted(t)
		g := []*stage{{t: t, m: made(t, 1), disk: d, s: s}, {t: t, m: made(t, 2), disk: d, s: s}}
		var now int64
		var log api.TxLog
		for range 150 {
			x := g[rnd.Intn(2)]
			x.log = log
			was, shelf := x.stored(), s.Shelf()
			led := manager.Leads(x.m, x.m.Now)
			switch rnd.Intn(6) {
			case 0:
				now += int64(1 + rnd.Intn(9))
				x.tick(now)
				led = true
			case 1:
				r := api.Request{Kind: 1 + rnd.Intn(5)}
				if r.Kind == api.ReqSubmit {
					r.Graph = sample.Graph(rnd.Intn)
					r.Inputs = sample.Inputs(r.Graph, 3, rnd.Intn)
				}
				m, l, said, err := manager.Ask(x.m, s, x.log, r)
				if err == api.OK {
					x.take(m, l, said, err)
				} else if x.stored() != was {
					t.Fatalf("refused, and changed: %d", err)
				}
			case 2:
				if len(x.m.Coord.Pendings) > 0 {
					p := x.m.Coord.Pendings[rnd.Intn(len(x.m.Coord.Pendings))]
					acks := x.acks(p.Number, x.zeros(same))
					x.hear(acks[rnd.Intn(len(acks))])
				}
			default:
				w := 1 + rnd.Intn(4)
				b := api.Msg{Kind: api.MsgBeat, From: 3 + w, To: x.m.Id, Epoch: 1, Attempt: 1}
				if x.m.Lease.Epoch > 0 {
					b = x.beat(w, slots.At(x.m.Floor, w), nil)
				}
				if frame.Check(b) == api.OK {
					x.hear(b)
				}
			}
			if !led && (x.stored() != was || !txlog.Same(x.log, log)) {
				t.Fatalf("who leads nothing changes something")
			}
			if len(x.log.Done) < len(log.Done) || !slices.Equal(x.log.Log[:len(log.Log)], log.Log) {
				t.Fatalf("what is committed shrinks")
			}
			if a, ok := retain.Latest(shelf); ok {
				if b, _ := retain.Latest(s.Shelf()); b.Number < a.Number {
					t.Fatalf("%v behind %v", b, a)
				}
			}
			log = x.log
			// A manager that has not heard of a tick leads at most till its lease ends, by its own word; at now one does.
			leads := 0
			for _, y := range g {
				if manager.Leads(y.m, now) && lease.Holds(s.Lease(), y.m.Id, y.m.Lease.Epoch, now) {
					leads++
				}
			}
			if leads > 1 || manager.Leads(g[0].m, now) && manager.Leads(g[1].m, now) {
				t.Fatalf("%d lead", leads)
			}
		}
	}
}
