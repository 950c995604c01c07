package manager_test

import (
	"fmt"
	"slices"
	"testing"

	"headrace/api"
	"headrace/coord"
	"headrace/disk"
	"headrace/frame"
	"headrace/manager"
	"headrace/region"
	"headrace/sample"
	"headrace/slots"
	"headrace/snap"
	"headrace/store"
	"headrace/txlog"
)

var (
	none  = api.Manager{}
	noLog = api.TxLog{}
	pair  = sample.Plain()
	empty = []api.Input{{}}
)

func made(t *testing.T, id int) api.Manager {
	t.Helper()
	m, err := manager.New(id)
	if err != api.OK {
		t.Fatalf("New(%d): %d", id, err)
	}
	return m
}

func formatted(t *testing.T) (*disk.Disk, *store.Store) {
	t.Helper()
	d, _ := disk.New(402)
	s, err := store.Format(d, 200, 2)
	if err != api.OK {
		t.Fatalf("Format: %d", err)
	}
	return d, s
}

// stage is a manager, with what it acts on.
type stage struct {
	t    *testing.T
	m    api.Manager
	disk *disk.Disk
	s    *store.Store
	log  api.TxLog
}

func newStage(t *testing.T) *stage {
	t.Helper()
	d, s := formatted(t)
	return &stage{t: t, m: made(t, 1), disk: d, s: s}
}

func (g *stage) take(m api.Manager, l api.TxLog, said []api.Msg, err api.Errno) []api.Msg {
	g.t.Helper()
	if err != api.OK {
		g.t.Fatalf("refused: %d", err)
	}
	if manager.Check(m) != api.OK || txlog.Check(l) != api.OK {
		g.t.Fatalf("may not be: %v", m)
	}
	for _, x := range said {
		if frame.Check(x) != api.OK {
			g.t.Fatalf("may not be: %v", x)
		}
	}
	if !manager.Leads(m, m.Now) && len(said) > 0 {
		g.t.Fatalf("who leads nothing says %v", said)
	}
	g.m, g.log = m, l
	return said
}

func (g *stage) tick(now int64) []api.Msg {
	g.t.Helper()
	return g.take(manager.Tick(g.m, g.s, g.log, now))
}

func (g *stage) hear(l ...api.Msg) (all []api.Msg) {
	g.t.Helper()
	for _, x := range l {
		all = append(all, g.take(manager.Hear(g.m, g.s, g.log, x))...)
	}
	return all
}

func (g *stage) ask(r api.Request) []api.Msg {
	g.t.Helper()
	return g.take(manager.Ask(g.m, g.s, g.log, r))
}

// refused checks that a request is refused, and changes nothing.
func (g *stage) refused(what string, r api.Request, want api.Errno) {
	g.t.Helper()
	was := g.stored()
	m, l, said, err := manager.Ask(g.m, g.s, g.log, r)
	if err != want || !manager.Same(m, none) || !txlog.Same(l, noLog) || len(said) > 0 || g.stored() != was {
		g.t.Errorf("%s: %d, not %d", what, err, want)
	}
}

// stored tells all that the store has.
func (g *stage) stored() string {
	graph, there := g.s.Graph()
	return fmt.Sprint(g.s.Lease(), graph, there, g.s.Inputs(), g.s.State(), g.s.Shelf(), g.s.Register().Epoch())
}

func state(j api.Job, attempt int) []byte {
	return []byte{byte(j.State), byte(j.Falls), byte(j.Most), byte(attempt >> 24), byte(attempt >> 16), byte(attempt >> 8), byte(attempt)}
}

// keeps checks the job, and that it is stored.
func (g *stage) keeps(what string, j api.Job, attempt int) {
	g.t.Helper()
	if g.m.Job != j || g.m.Attempt != attempt || !slices.Equal(g.s.State(), state(j, attempt)) {
		g.t.Errorf("%s: %v, %d; stored %v", what, g.m.Job, g.m.Attempt, g.s.State())
	}
}

func running(falls int) api.Job    { return api.Job{State: api.JobRunning, Falls: falls, Most: 4} }
func restarting(falls int) api.Job { return api.Job{State: api.JobRestarting, Falls: falls, Most: 4} }

// over tells a job in another state.
func over(state, falls int) api.Job { return api.Job{State: state, Falls: falls, Most: 4} }

// submitted makes a stage whose manager leads, since tick 1, and has submitted a job.
func submitted(t *testing.T, g api.Graph, inputs []api.Input) *stage {
	t.Helper()
	x := newStage(t)
	x.tick(1)
	x.ask(api.Request{Kind: api.ReqSubmit, Graph: g, Inputs: inputs})
	return x
}

// beat makes a beat of a worker, of the manager's Epoch and Attempt.
func (g *stage) beat(worker int, up, ended []int) api.Msg {
	return api.Msg{Kind: api.MsgBeat, From: 3 + worker, To: g.m.Id, Epoch: g.m.Lease.Epoch, Attempt: g.m.Attempt, Up: up, Ended: ended}
}

// beats lets all workers beat, with all their subtasks up.
func (g *stage) beats() {
	g.t.Helper()
	for worker := 1; worker <= 4; worker++ {
		g.hear(g.beat(worker, slots.At(g.m.Floor, worker), nil))
	}
}

// up makes a stage whose job runs, with all subtasks up.
func up(t *testing.T, g api.Graph, inputs []api.Input) *stage {
	t.Helper()
	x := submitted(t, g, inputs)
	x.beats()
	if len(x.m.Up) == 0 {
		t.Fatalf("nothing is up: %v", x.m)
	}
	return x
}

// zero tells the snapshot of a subtask with nothing in it.
func zero(g api.Graph, task int) api.Snap {
	op, index, _ := region.Op(g, task)
	s, _ := snap.Zero(op, index, g.Ops[op].Width)
	return s
}

// zeros tells those of all subtasks, altered.
func (g *stage) zeros(change func(task int, s *api.Snap)) (out []api.Snap) {
	graph, _ := g.s.Graph()
	for task := 0; ; task++ {
		if _, _, err := region.Op(graph, task); err != api.OK {
			return out
		}
		s := zero(graph, task)
		change(task, &s)
		out = append(out, s)
	}
}

func same(int, *api.Snap) {}

// acks makes the answers of all subtasks to a barrier.
func (g *stage) acks(number uint64, l []api.Snap) (out []api.Msg) {
	for task, s := range l {
		worker, placed := slots.Where(g.m.Floor, task)
		if !placed {
			worker = 1
		}
		out = append(out, api.Msg{Kind: api.MsgAck, From: 3 + worker, To: g.m.Id, Epoch: g.m.Lease.Epoch, Attempt: g.m.Attempt, Task: task, Number: number, Snap: s})
	}
	return out
}

// save asks for a savepoint, and tells its number.
func (g *stage) save() uint64 {
	g.t.Helper()
	g.ask(api.Request{Kind: api.ReqSave})
	return g.m.Coord.Pendings[len(g.m.Coord.Pendings)-1].Number
}

// ready lays transactions that are ready into the log outside.
func (g *stage) ready(names ...api.TxName) {
	g.t.Helper()
	for _, n := range names {
		l, err := txlog.Open(g.log, n)
		if err == api.OK {
			l, err = txlog.Write(l, n, []api.Record{{Key: n.Serial, Value: int64(n.Attempt)}})
		}
		if err == api.OK {
			l, err = txlog.Ready(l, n)
		}
		if err != api.OK {
			g.t.Fatalf("%v: %d", n, err)
		}
		g.log = l
	}
}

func name(sub, attempt, serial int) api.TxName {
	return api.TxName{Sink: sub, Attempt: attempt, Serial: serial}
}

func kinds(l []api.Msg) (out []int) {
	for _, x := range l {
		out = append(out, x.Kind)
	}
	return out
}

// cancelled checks that messages are a MsgCancel of an attempt to each of these workers, and what is left of them.
func (g *stage) cancelled(l []api.Msg, attempt int, workers ...int) []api.Msg {
	g.t.Helper()
	for _, w := range workers {
		want := api.Msg{Kind: api.MsgCancel, From: g.m.Id, To: 3 + w, Epoch: g.m.Lease.Epoch, Attempt: attempt}
		if len(l) == 0 || !frame.Same(l[0], want) {
			g.t.Fatalf("no MsgCancel of %d to %d: %v", attempt, w, l)
		}
		l = l[1:]
	}
	return l
}

// deployed checks that messages are a MsgDeploy of each of these subtasks, from snapshots, and what is left of them.
func (g *stage) deployed(l []api.Msg, from []api.Snap, tasks ...int) []api.Msg {
	g.t.Helper()
	graph, _ := g.s.Graph()
	for _, task := range tasks {
		worker, _ := slots.Where(g.m.Floor, task)
		want := api.Msg{Kind: api.MsgDeploy, From: g.m.Id, To: 3 + worker, Epoch: g.m.Lease.Epoch, Attempt: g.m.Attempt, Task: task, Snap: from[task]}
		want.Laid = api.Laid{Work: api.Work{Graph: graph, Inputs: g.s.Inputs()}, Places: g.m.Floor.Places}
		if len(l) == 0 || !frame.Same(l[0], want) {
			g.t.Fatalf("no MsgDeploy of %d to %d: %v", task, worker, l)
		}
		l = l[1:]
	}
	return l
}

// triggered checks that messages are a MsgTrigger of a number to each of these workers, and what is left of them.
func (g *stage) triggered(l []api.Msg, number uint64, workers ...int) []api.Msg {
	g.t.Helper()
	for _, w := range workers {
		want := api.Msg{Kind: api.MsgTrigger, From: g.m.Id, To: 3 + w, Epoch: g.m.Lease.Epoch, Attempt: g.m.Attempt, Number: number}
		if len(l) == 0 || !frame.Same(l[0], want) {
			g.t.Fatalf("no MsgTrigger to %d: %v", w, l)
		}
		l = l[1:]
	}
	return l
}

func (g *stage) nothing(l []api.Msg) {
	g.t.Helper()
	if len(l) > 0 {
		g.t.Errorf("said besides: %v", l)
	}
}

// told checks that messages are a MsgTold of names to each of these workers, and nothing besides.
func (g *stage) told(l []api.Msg, names []api.TxName, workers ...int) {
	g.t.Helper()
	for _, w := range workers {
		want := api.Msg{Kind: api.MsgTold, From: g.m.Id, To: 3 + w, Epoch: g.m.Lease.Epoch, Attempt: g.m.Attempt, Names: names}
		if len(l) == 0 || !frame.Same(l[0], want) {
			g.t.Fatalf("no MsgTold to %d: %v", w, l)
		}
		l = l[1:]
	}
	g.nothing(l)
}

func number(epoch, counter uint64) uint64 { return coord.Number(epoch, counter) }
