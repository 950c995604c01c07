package world_test

import (
	"math/rand"
	"slices"
	"testing"

	"headrace/api"
	"headrace/cluster"
	"headrace/deno"
	"headrace/keys"
	"headrace/manager"
	"headrace/net"
	"headrace/region"
	"headrace/retain"
	"headrace/sample"
	"headrace/table"
	"headrace/txlog"
	"headrace/world"
)

// cellKey is a sink's operator, and a key.
type cellKey struct{ op, source, key int }

// play is a world that is watched: what is committed, sink by sink, and which checkpoints are completed.
type play struct {
	t         *testing.T
	w         *world.World
	rnd       *rand.Rand
	work      api.Work
	log       api.TxLog
	committed map[cellKey][]int64
	last      api.Kept
	rescaled  bool
}

func newPlay(t *testing.T, area int, rnd *rand.Rand) *play {
	t.Helper()
	w, err := world.New(area)
	if err != api.OK {
		t.Fatal(err)
	}
	return &play{t: t, w: w, rnd: rnd, committed: map[cellKey][]int64{}}
}

// step lets an event happen, and watches what comes of it.
func (p *play) step(e api.Event) api.Outcome {
	p.t.Helper()
	o := p.w.Step(e)
	if o.Err != api.OK && o.Err != api.ErrNone {
		p.t.Fatalf("%v: %d", e, o.Err)
	}
	p.watch(e)
	return o
}

// parts checks that all parts may be, and that one manager leads at most.
func (p *play) parts(e api.Event) {
	p.t.Helper()
	leads := 0
	for id := 1; id <= 2; id++ {
		m, up := p.w.Manager(id)
		if manager.Check(m) != api.OK || !up && !manager.Same(m, api.Manager{Id: id}) {
			p.t.Fatalf("behind %v: %v", e, m)
		}
		if manager.Leads(m, p.w.Now()) {
			leads++
		}
	}
	if leads > 1 {
		p.t.Fatalf("behind %v: two managers lead", e)
	}
	for id := 1; id <= 4; id++ {
		h, up := p.w.Host(id)
		if cluster.Check(h) != api.OK || !up && len(h.Tasks) > 0 {
			p.t.Fatalf("behind %v: %v", e, h)
		}
	}
	if net.Check(p.w.Net()) != api.OK || txlog.Check(p.w.Log()) != api.OK {
		p.t.Fatalf("behind %v: %v", e, p.w.Net())
	}
}

func (p *play) watch(e api.Event) {
	p.t.Helper()
	p.parts(e)
	log := p.w.Log()
	was := p.log
	p.log = log
	if len(log.Done) < len(was.Done) || !slices.Equal(log.Done[:len(was.Done)], was.Done) || !slices.Equal(log.Log[:len(was.Log)], was.Log) {
		p.t.Fatalf("behind %v: what is committed is another one", e)
	}
	p.commits(was, log.Done[len(was.Done):])
	if p.w.Store() == nil {
		return
	}
	shelf := p.w.Store().Shelf()
	row, there := retain.Latest(shelf)
	if !there {
		return
	}
	if row.Number < p.last.Number {
		p.t.Fatalf("behind %v: the checkpoint %v behind %v", e, row, p.last)
	}
	if row != p.last {
		p.completed(row)
	}
	p.last = row
}

// commits notes what was committed, and checks that it is a beginning of what the denotation says.
func (p *play) commits(was api.TxLog, names []api.TxName) {
	p.t.Helper()
	for _, n := range names {
		op, _, err := region.Op(p.work.Graph, n.Sink)
		if err != api.OK {
			p.t.Fatalf("%v is committed", n)
		}
		for _, tx := range was.Txs {
			if tx.Name != n {
				continue
			}
			for _, r := range tx.Records {
				k := cellKey{op, r.Source, r.Key}
				p.committed[k] = append(p.committed[k], r.Value)
			}
		}
	}
	if len(names) == 0 {
		return
	}
	whole, _ := deno.Whole(p.work)
	for k, got := range p.committed {
		want, err := deno.Values(p.work, whole, k.op, api.Record{Source: k.source, Key: k.key})
		if err != api.OK || len(got) > len(want) || !slices.Equal(got, want[:len(got)]) {
			p.t.Fatalf("%v: of %v %v is committed, not %v", p.work, k, got, want)
		}
	}
}

// completed checks a checkpoint that has come, or that is settled: it is the denotation's state at its place.
func (p *play) completed(row api.Kept) {
	p.t.Helper()
	g, _ := p.w.Store().Graph()
	p.work.Graph = g
	l, err := p.w.Store().Snaps(row.Number)
	if err == api.ErrIo {
		return
	}
	if err != api.OK {
		p.t.Fatalf("%v: %d", row, err)
	}
	at := make(api.At, len(p.work.Inputs))
	tables := make([]api.Table, len(g.Ops))
	for _, s := range l {
		tables[s.Op], _ = table.Join(tables[s.Op], s.Table)
		for i, x := range p.work.Inputs {
			if o := g.Ops[s.Op]; o.Tag == api.OpSource && int64(x.Source) == o.A {
				at[i], _ = keys.Joined(s.Offsets, at[i], s.Index, s.Width)
			}
		}
	}
	for i, o := range g.Ops {
		if want, err := deno.Table(p.work, at, i); err != api.OK || !table.Same(want, tables[i]) {
			p.t.Fatalf("%v at %v: %d keeps %v, not %v: %d", p.work, at, i, tables[i], want, err)
		}
		if row.Open || o.Tag != api.OpSink {
			continue
		}
		rows, _ := deno.Rows(p.work, at, i)
		for _, r := range rows {
			if got := p.committed[cellKey{i, r.Source, r.Key}]; !slices.Equal(got, r.Values) {
				p.t.Fatalf("%v at %v: of %d %v is committed, not %v", p.work, at, i, got, r)
			}
		}
	}
}

// submit submits a job to whoever leads.
func (p *play) submit(g api.Graph, inputs []api.Input) {
	p.t.Helper()
	p.work = api.Work{Graph: g, Inputs: inputs}
	p.step(api.Event{Kind: api.EvTick, N: 1})
	if o := p.step(api.Event{Kind: api.EvAsk, Node: 1, Request: api.Request{Kind: api.ReqSubmit, Graph: g, Inputs: inputs}}); o.Answer != api.OK {
		p.t.Fatalf("submit: %d", o.Answer)
	}
}

// leader tells the node of who leads, and its job.
func (p *play) leader() (int, api.Job) {
	for id := 1; id <= 2; id++ {
		if m, _ := p.w.Manager(id); manager.Leads(m, p.w.Now()) {
			return id, m.Job
		}
	}
	return 0, api.Job{}
}

// deliver lets all that is on its way come, as it is.
func (p *play) deliver() {
	p.t.Helper()
	for range 400 {
		if p.step(api.Event{Kind: api.EvCome}).Err != api.OK {
			return
		}
	}
}

// round lets everybody do something, and all messages come.
func (p *play) round() {
	p.t.Helper()
	for node := 4; node <= 7; node++ {
		p.step(api.Event{Kind: api.EvBeat, Node: node})
		p.deliver()
		for range 6 {
			p.step(api.Event{Kind: api.EvWork, Node: node, N: p.rnd.Intn(100)})
		}
		p.step(api.Event{Kind: api.EvPump, Node: node})
		p.deliver()
	}
}

// finish lets the world go on without trouble, till the job is over.
func (p *play) finish(rounds int) api.Job {
	p.t.Helper()
	if !p.w.Power() || p.w.Store() == nil || p.w.Store().Register().Broken() {
		p.step(api.Event{Kind: api.EvCrash, Keep: slices.Repeat([]bool{true}, 50)})
	}
	p.w.Step(api.Event{Kind: api.EvArm})
	p.step(api.Event{Kind: api.EvCrash})
	for _, node := range []int{1, 2, 4, 5, 6, 7} {
		p.step(api.Event{Kind: api.EvUp, Node: node})
	}
	for range rounds {
		p.round()
		p.step(api.Event{Kind: api.EvTick, N: 1 + p.rnd.Intn(2)})
		p.deliver()
		if _, j := p.leader(); j.State > api.JobStopping {
			return j
		}
	}
	_, j := p.leader()
	return j
}

// whole checks that all is committed.
func (p *play) whole() {
	p.t.Helper()
	at, _ := deno.Whole(p.work)
	for i, o := range p.work.Graph.Ops {
		if o.Tag != api.OpSink {
			continue
		}
		rows, _ := deno.Rows(p.work, at, i)
		for _, r := range rows {
			if got := p.committed[cellKey{i, r.Source, r.Key}]; !slices.Equal(got, r.Values) {
				p.t.Fatalf("%v: of %d %v is committed, not %v", p.work, i, got, r)
			}
		}
	}
}

// small tells a work that a world of a small area has room for.
func small(rnd *rand.Rand) api.Work {
	for {
		g := sample.Graph(rnd.Intn)
		n := 0
		for _, o := range g.Ops {
			n += o.Width
		}
		if n <= 9 {
			return api.Work{Graph: g, Inputs: sample.Inputs(g, 8, rnd.Intn)}
		}
	}
}
