package world_test

import (
	"fmt"
	"math"
	"math/rand"
	"slices"
	"testing"

	"headrace/api"
	"headrace/cluster"
	"headrace/coord"
	"headrace/manager"
	"headrace/net"
	"headrace/sample"
	"headrace/store"
	"headrace/txlog"
	"headrace/world"
)

var (
	pair  = sample.Plain()
	input = []api.Input{{Records: []api.Record{{Key: 1, Value: 2}, {Key: 9, Value: 3}, {Key: 1, Value: 4}}}}
)

func submit(g api.Graph, inputs []api.Input) api.Request {
	return api.Request{Kind: api.ReqSubmit, Graph: g, Inputs: inputs}
}

func ask(node int, r api.Request) api.Event {
	return api.Event{Kind: api.EvAsk, Node: node, Request: r}
}

func event(kind, node, n int) api.Event { return api.Event{Kind: kind, Node: node, N: n} }

// P31.1, P31.3: New, and what a world is to begin with; of nil.
func TestNew(t *testing.T) {
	for _, area := range []int{39, 301, 0, -1, math.MaxInt, math.MinInt} {
		if w, err := world.New(area); err != api.ErrArg || w != nil {
			t.Errorf("New(%d): %d", area, err)
		}
	}
	for _, area := range []int{40, 300} {
		w, err := world.New(area)
		if err != api.OK || w.Now() != 0 || !w.Power() || w.Store() == nil || w.Store().Shelf().Keep != 2 || w.Store().Register().Area() != area || w.Store().Register().Wal().Disk().Len() != 2*area+2 {
			t.Fatalf("New(%d): %d", area, err)
		}
		for id := -1; id < 6; id++ {
			m, up := w.Manager(id)
			if want := id == 1 || id == 2; up != want || want && !manager.Same(m, api.Manager{Id: id}) || !want && !manager.Same(m, api.Manager{}) {
				t.Errorf("Manager(%d): %v %v", id, m, up)
			}
			h, up := w.Host(id)
			if want := id >= 1 && id <= 4; up != want || want && !cluster.Same(h, api.Host{Id: id}) || !want && !cluster.Same(h, api.Host{}) {
				t.Errorf("Host(%d): %v %v", id, h, up)
			}
		}
		if !txlog.Same(w.Log(), api.TxLog{}) || !net.Same(w.Net(), api.Net{}) {
			t.Errorf("New(%d): %v %v", area, w.Log(), w.Net())
		}
	}
	var n *world.World
	m, a := n.Manager(1)
	h, b := n.Host(1)
	if n.Now() != 0 || !manager.Same(m, api.Manager{}) || a || !cluster.Same(h, api.Host{}) || b || !txlog.Same(n.Log(), api.TxLog{}) || !net.Same(n.Net(), api.Net{}) || n.Store() != nil || n.Power() {
		t.Errorf("nil tells something")
	}
	if o := n.Step(event(api.EvTick, 0, 1)); o != (api.Outcome{Err: api.ErrNil}) {
		t.Errorf("Step of nil: %v", o)
	}
}

// P31.1: Check.
func TestCheck(t *testing.T) {
	nodes := map[int][]int{}
	for kind := api.EvTick; kind <= api.EvCrash; kind++ {
		nodes[kind] = []int{0}
	}
	for _, kind := range []int{api.EvBeat, api.EvWork, api.EvPump, api.EvFall} {
		nodes[kind] = []int{4, 5, 6, 7}
	}
	nodes[api.EvDie], nodes[api.EvUp], nodes[api.EvAsk] = []int{1, 2, 4, 5, 6, 7}, []int{1, 2, 4, 5, 6, 7}, []int{1, 2}
	w, _ := world.New(40)
	wrong := func(e api.Event) {
		t.Helper()
		if err := world.Check(e); err != api.ErrEvent {
			t.Errorf("Check(%v): %d", e, err)
		}
		if o := w.Step(e); o != (api.Outcome{Err: api.ErrEvent}) {
			t.Errorf("Step(%v): %v", e, o)
		}
	}
	for kind, good := range nodes {
		for node := -1; node < 10; node++ {
			e := event(kind, node, 1)
			if slices.Contains(good, node) {
				if err := world.Check(e); err != api.OK {
					t.Errorf("Check(%v): %d", e, err)
				}
				continue
			}
			wrong(e)
		}
		for _, n := range []int{-1, api.MaxN + 1, math.MaxInt, math.MinInt} {
			wrong(event(kind, good[0], n))
		}
		if kind != api.EvTick {
			for _, n := range []int{0, api.MaxN} {
				if err := world.Check(event(kind, good[0], n)); err != api.OK {
					t.Errorf("Check of %d with %d: %d", kind, n, err)
				}
			}
		}
		for i, r := range []api.Request{{Kind: 1}, {Graph: pair}, {Inputs: input}, {Number: 1}, {Widths: []int{1}}} {
			e := event(kind, good[0], 1)
			e.Request = r
			if kind != api.EvAsk {
				wrong(e)
			} else if err := world.Check(e); err != api.OK {
				t.Errorf("Check of the request %d: %d", i, err)
			}
		}
		for _, n := range []int{1, api.MaxKeeps, api.MaxKeeps + 1} {
			e := event(kind, good[0], 1)
			e.Keep = make([]bool, n)
			if kind != api.EvCrash || n > api.MaxKeeps {
				wrong(e)
			} else if err := world.Check(e); err != api.OK {
				t.Errorf("Check with %d places: %d", n, err)
			}
		}
	}
	for _, kind := range []int{0, 15, -1, math.MaxInt} {
		wrong(event(kind, 0, 1))
	}
	for n, err := range map[int]api.Errno{0: api.ErrEvent, 1: api.OK, 20: api.OK, 21: api.ErrEvent} {
		if got := world.Check(event(api.EvTick, 0, n)); got != err {
			t.Errorf("Check of %d ticks: %d", n, got)
		}
	}
	if w.Now() != 0 {
		t.Errorf("something has happened")
	}
}

// The chapter's examples.
func TestExamples(t *testing.T) {
	w, _ := world.New(40)
	step := func(e api.Event, want api.Outcome) {
		t.Helper()
		if o := w.Step(e); o != want {
			t.Errorf("%v: %v, not %v", e, o, want)
		}
	}
	none := api.Outcome{Err: api.ErrNone}
	step(event(api.EvTick, 0, 1), api.Outcome{Said: 4})
	if m, _ := w.Manager(1); !manager.Leads(m, 1) || w.Net().Sent != 4 {
		t.Errorf("the manager 1 does not lead")
	}
	step(ask(1, submit(pair, input)), api.Outcome{Said: 4})
	step(ask(2, submit(pair, input)), api.Outcome{Answer: api.ErrLate})
	step(ask(1, api.Request{}), api.Outcome{Answer: api.ErrRequest})
	step(event(api.EvWork, 4, 0), none)
	for range 8 {
		step(event(api.EvCome, 0, 0), api.Outcome{})
	}
	step(event(api.EvCome, 0, 0), none)
	step(event(api.EvWork, 4, 0), api.Outcome{})
	step(event(api.EvDie, 1, 0), api.Outcome{})
	step(event(api.EvDie, 1, 0), none)
	step(ask(1, submit(pair, input)), none)
	for _, e := range []api.Event{event(api.EvTick, 0, 0), event(api.EvTick, 0, 21), event(api.EvBeat, 1, 0)} {
		step(e, api.Outcome{Err: api.ErrEvent})
	}
}

// P31.2: what finds nothing.
func TestNothing(t *testing.T) {
	w, _ := world.New(40)
	none := func(e api.Event) {
		t.Helper()
		if o := w.Step(e); o != (api.Outcome{Err: api.ErrNone}) {
			t.Errorf("%v: %v", e, o)
		}
	}
	ok := func(e api.Event) {
		t.Helper()
		if o := w.Step(e); o.Err != api.OK {
			t.Errorf("%v: %v", e, o)
		}
	}
	for _, kind := range []int{api.EvCome, api.EvTwice, api.EvLose} {
		none(event(kind, 0, 5))
	}
	for node := 4; node <= 7; node++ {
		none(event(api.EvBeat, node, 0))
		none(event(api.EvWork, node, 3))
		none(event(api.EvFall, node, 3))
		ok(event(api.EvPump, node, 0))
	}
	for _, node := range []int{1, 2, 4, 5, 6, 7} {
		none(event(api.EvUp, node, 0))
		ok(event(api.EvDie, node, 0))
		none(event(api.EvDie, node, 0))
		if node < 3 {
			none(ask(node, submit(pair, input)))
		} else {
			for _, kind := range []int{api.EvBeat, api.EvWork, api.EvPump, api.EvFall} {
				none(event(kind, node, 0))
			}
		}
		ok(event(api.EvUp, node, 0))
		none(event(api.EvUp, node, 0))
	}
	ok(event(api.EvArm, 0, 0))
	ok(event(api.EvTick, 0, 1)) // the power goes
	if w.Power() {
		t.Errorf("the power is there yet")
	}
	none(event(api.EvArm, 0, 0))
	none(event(api.EvFail, 0, 0))
	ok(event(api.EvCrash, 0, 0))
	if !w.Power() || w.Store() == nil {
		t.Errorf("the power is not back")
	}
	ok(event(api.EvFail, 0, 0))
}

// P31.2: EvTick of all that is up, up to the last tick.
func TestTick(t *testing.T) {
	w, _ := world.New(40)
	w.Step(event(api.EvDie, 1, 0))
	if o := w.Step(event(api.EvTick, 0, 20)); o != (api.Outcome{Said: 4}) || w.Now() != 20 {
		t.Errorf("EvTick: %v %d", o, w.Now())
	}
	if m, _ := w.Manager(2); m.Lease != (api.Lease{Epoch: 1, Holder: 2, Until: 40}) || m.Now != 20 {
		t.Errorf("the manager 2: %v", m)
	}
	w.Step(event(api.EvUp, 1, 0))
	// Both tick at one tick, the first one first: it can't have what the second one has.
	w.Step(event(api.EvTick, 0, 10))
	m, _ := w.Manager(1)
	n, _ := w.Manager(2)
	if m.Now != 30 || n.Now != 30 || m.Lease.Epoch != 0 || n.Lease.Until != 50 {
		t.Errorf("both: %v %v", m, n)
	}
	w.Step(event(api.EvDie, 2, 0))
	w.Step(event(api.EvTick, 0, 19))
	w.Step(event(api.EvTick, 0, 1))
	if m, _ := w.Manager(1); m.Lease != (api.Lease{Epoch: 2, Holder: 1, Until: 70}) {
		t.Errorf("the manager 1: %v", m)
	}
}

// P31.2: what is said by a node to itself is heard at once, of others it is on its way, or lost.
func TestSaid(t *testing.T) {
	p := newPlay(t, 100, rand.New(rand.NewSource(1)))
	p.submit(pair, input)
	p.deliver()
	// Both subtasks at one worker: all that they say, they hear at once.
	h, _ := p.w.Host(1)
	g, _ := p.w.Host(2)
	if len(h.Tasks) != 1 || len(g.Tasks) != 1 {
		t.Fatalf("laid: %v", h.Laid.Places)
	}
	p.step(event(api.EvDie, 5, 0))
	p.step(event(api.EvDie, 6, 0))
	p.step(event(api.EvDie, 7, 0))
	for range 9 { // till who is not heard has gone, but no checkpoint is triggered yet
		p.step(event(api.EvTick, 0, 1))
		p.step(event(api.EvBeat, 4, 0))
		p.deliver()
	}
	h, _ = p.w.Host(1)
	if len(h.Tasks) != 2 {
		t.Fatalf("laid: %v", h.Laid.Places)
	}
	sent := p.w.Net().Sent
	if o := p.step(event(api.EvPump, 4, 0)); o.Said != 1 || p.w.Net().Sent != sent {
		t.Errorf("EvPump: %v", o)
	}
	p.step(event(api.EvWork, 4, 0))
	if o := p.step(event(api.EvPump, 4, 0)); o.Said != 2 {
		t.Errorf("EvPump: %v", o)
	}
	if h, _ = p.w.Host(1); len(h.Ins[0].Receiver.Buffer) != 1 || p.w.Net().Sent != sent {
		t.Errorf("heard at once: %v", h.Ins)
	}
	// A net that is full: what is said is lost.
	for range 70 {
		p.step(event(api.EvBeat, 4, 0))
	}
	if n := p.w.Net(); len(n.Parcels) != api.MaxWay || p.step(event(api.EvBeat, 4, 0)) != (api.Outcome{Said: 1}) {
		t.Errorf("the net: %d", len(n.Parcels))
	}
	// What comes twice stays; what is lost does not come.
	n := p.w.Net()
	p.step(event(api.EvTwice, 0, 3))
	if !net.Same(p.w.Net(), n) {
		t.Errorf("EvTwice: %v", p.w.Net())
	}
	p.step(event(api.EvLose, 0, 3+api.MaxWay))
	if got := p.w.Net(); len(got.Parcels) != 59 || got.Parcels[3].Num != n.Parcels[4].Num {
		t.Errorf("EvLose: %v", got)
	}
	p.step(event(api.EvCome, 0, 58))
	if got := p.w.Net(); len(got.Parcels) != 58 || got.Parcels[57].Num != n.Parcels[58].Num {
		t.Errorf("EvCome: %v", got)
	}
}

// P31.2: EvDie, EvUp, EvFall of a worker.
func TestWorker(t *testing.T) {
	p := newPlay(t, 100, rand.New(rand.NewSource(1)))
	p.submit(pair, input)
	p.deliver()
	h, _ := p.w.Host(1)
	if len(h.Tasks) != 1 {
		t.Fatalf("laid: %v", h)
	}
	if o := p.step(event(api.EvFall, 4, 7)); o != (api.Outcome{Said: 1}) {
		t.Errorf("EvFall: %v", o)
	}
	if h, _ = p.w.Host(1); len(h.Tasks) != 0 || len(h.Begun) != 1 {
		t.Errorf("EvFall: %v", h)
	}
	p.deliver()
	if _, j := p.leader(); j.Falls != 1 {
		t.Errorf("EvFall: %v", j)
	}
	p.step(event(api.EvTick, 0, 1))
	p.deliver()
	h, _ = p.w.Host(2)
	p.step(event(api.EvDie, 5, 0))
	want, _ := cluster.Dead(h)
	if got, up := p.w.Host(2); up || !cluster.Same(got, want) || len(h.Tasks) != 1 {
		t.Errorf("EvDie: %v", got)
	}
	// Who is down hears nothing; what is for it is gone.
	p.step(event(api.EvTick, 0, 1))
	p.deliver()
	if got, _ := p.w.Host(2); !cluster.Same(got, want) {
		t.Errorf("who is down hears: %v", got)
	}
	p.step(event(api.EvUp, 5, 0))
	if got, up := p.w.Host(2); !up || !cluster.Same(got, want) {
		t.Errorf("EvUp: %v", got)
	}
	// In its attempt nothing begins there any more: it says so, and the job falls.
	p.step(event(api.EvTick, 0, 1))
	p.deliver()
	if _, j := p.leader(); j.Falls != 2 {
		t.Errorf("EvUp: %v", j)
	}
}

// P31.2: acts that the log outside refuses: the task falls instead.
func TestActs(t *testing.T) {
	p := newPlay(t, 300, rand.New(rand.NewSource(1)))
	p.submit(pair, input)
	p.deliver()
	for range 3 {
		p.step(event(api.EvWork, 4, 0))
		p.step(event(api.EvPump, 4, 0))
		p.deliver()
		p.step(event(api.EvPump, 5, 0))
		p.deliver()
	}
	p.step(event(api.EvWork, 5, 0))
	if l := p.w.Log(); len(l.Txs) != 1 || len(l.Txs[0].Records) != 1 {
		t.Fatalf("nothing is written: %v", l)
	}
	// The source falls: what is not committed is aborted, though the sink does not know it yet.
	p.step(event(api.EvFall, 4, 0))
	for p.w.Net().Parcels[0].To != 1 {
		p.step(event(api.EvLose, 0, 0))
	}
	p.step(event(api.EvCome, 0, 0))
	if l := p.w.Log(); len(l.Txs) != 0 {
		t.Fatalf("nothing is aborted: %v", l)
	}
	if o := p.step(event(api.EvWork, 5, 0)); o != (api.Outcome{Said: 1}) {
		t.Errorf("EvWork: %v", o)
	}
	h, _ := p.w.Host(2)
	if len(h.Tasks) != 0 || !slices.Equal(h.Begun, []int{1}) || len(p.w.Log().Txs) != 0 {
		t.Errorf("EvWork: %v", h)
	}
	if j := p.finish(300); j.State != api.JobFinished {
		t.Fatalf("%v", j)
	}
	p.whole()
}

// R3: what is told is not shared.
func TestShares(t *testing.T) {
	p := newPlay(t, 100, rand.New(rand.NewSource(1)))
	p.submit(pair, input)
	p.deliver()
	p.round()
	p.step(event(api.EvTick, 0, 1))
	was := told(p.w)
	h, _ := p.w.Host(1)
	for i := range h.Tasks {
		h.Tasks[i].Sub = 99
		h.Tasks[i].Graph.Ops[0].Width = 99
	}
	h.Laid.Places[0].Task, h.Laid.Work.Graph.Ops[1].Inputs[0], h.Laid.Work.Inputs[0].Records[0].Key, h.Begun[0] = 99, 99, 99, 99
	m, _ := p.w.Manager(1)
	m.Floor.Places[0].Task, m.Floor.Workers[0].Id, m.Heart.Pulses[0].Worker = 99, 99, 99
	l, n := p.w.Log(), p.w.Net()
	for i := range l.Txs {
		l.Txs[i].Records[0].Key = 99
	}
	for i := range n.Parcels {
		n.Parcels[i].Bytes[0] = 99
	}
	if got := told(p.w); got != was {
		t.Errorf("shares: %s, not %s", got, was)
	}
}

// told is all that a world tells.
func told(w *world.World) string {
	out := fmt.Sprint(w.Now(), w.Log(), w.Net(), w.Power(), w.Store() == nil)
	for id := 1; id <= 4; id++ {
		m, a := w.Manager(id)
		h, b := w.Host(id)
		out += fmt.Sprint(m, a, h, b)
	}
	if s := w.Store(); s != nil {
		g, there := s.Graph()
		out += fmt.Sprint(s.Lease(), g, there, s.Inputs(), s.State(), s.Shelf(), s.Register().Broken())
	}
	return out
}

// P31.4: the same events do the same.
func TestSame(t *testing.T) {
	rnd := rand.New(rand.NewSource(34))
	for range 4 {
		a, b := newPlay(t, 200, rnd), newPlay(t, 200, rnd)
		w := small(rnd)
		a.submit(w.Graph, w.Inputs)
		b.submit(w.Graph, w.Inputs)
		kinds := mostly(api.EvFall, api.EvDie, api.EvUp, api.EvUp, api.EvAsk, api.EvArm, api.EvFail, api.EvCrash)
		for range 300 {
			e := a.event(kinds)
			if x, y := a.step(e), b.step(e); x != y || told(a.w) != told(b.w) {
				t.Fatalf("%v: %v %v", e, x, y)
			}
		}
	}
}

// P6, example 1: without trouble a job finishes, and all is committed.
func TestFinishes(t *testing.T) {
	rnd := rand.New(rand.NewSource(31))
	for round := range 15 {
		p := newPlay(t, 300, rnd)
		w := small(rnd)
		p.submit(w.Graph, w.Inputs)
		if j := p.finish(300); j.State != api.JobFinished {
			t.Fatalf("round %d: %v: %v", round, p.work, j)
		}
		p.whole()
	}
}

// event tells something that may happen.
func (p *play) event(kinds []int) api.Event {
	e := api.Event{Kind: kinds[p.rnd.Intn(len(kinds))], N: p.rnd.Intn(60)}
	workers, any := 4+p.rnd.Intn(4), []int{1, 2, 4, 5, 6, 7}[p.rnd.Intn(6)]
	switch e.Kind {
	case api.EvTick:
		e.N = 1 + p.rnd.Intn(3)
	case api.EvBeat, api.EvWork, api.EvPump, api.EvFall:
		e.Node = workers
	case api.EvDie, api.EvUp:
		e.Node = any
	case api.EvAsk:
		e.Node = 1 + p.rnd.Intn(2)
		e.Request.Kind = []int{api.ReqSave, api.ReqSave, api.ReqStop, api.ReqRelease}[p.rnd.Intn(4)]
		if e.Request.Kind == api.ReqRelease {
			e.Request.Number = p.last.Number
		}
	case api.EvCrash:
		for range p.rnd.Intn(60) {
			e.Keep = append(e.Keep, p.rnd.Intn(2) > 0)
		}
	}
	return e
}

// mostly tells kinds of events, of which the ordinary ones stand there most often.
func mostly(troubles ...int) []int {
	l := []int{api.EvTick, api.EvTick, api.EvLose, api.EvLose, api.EvTwice, api.EvTwice}
	for range 8 {
		l = append(l, api.EvBeat, api.EvWork, api.EvWork, api.EvWork, api.EvPump)
	}
	for range 60 {
		l = append(l, api.EvCome)
	}
	return append(l, troubles...)
}

// halfEnded tells whether the last checkpoint has tasks that have ended, and others: begun anew from it, an end is said to nobody any more.
func (p *play) halfEnded() bool {
	l, err := p.w.Store().Snaps(p.last.Number)
	ended := 0
	for _, s := range l {
		if s.Ended {
			ended++
		}
	}
	return err == api.OK && ended > 0 && ended < len(l)
}

// P1 to P3, P5 to P7: whatever befalls.
func TestTrouble(t *testing.T) {
	rnd := rand.New(rand.NewSource(32))
	states := map[int]int{}
	for round := range 70 {
		p := newPlay(t, 300, rnd)
		w := small(rnd)
		p.submit(w.Graph, w.Inputs)
		kinds := mostly(api.EvUp, api.EvUp)
		switch round % 4 {
		case 0:
			kinds = mostly(api.EvFall, api.EvDie, api.EvUp, api.EvUp, api.EvUp, api.EvAsk, api.EvArm, api.EvFail, api.EvCrash)
		case 1:
			kinds = mostly(api.EvAsk, api.EvUp)
		}
		for i := range 900 {
			e := p.event(kinds)
			if i == 450 && round%4 == 2 {
				e = event(api.EvDie, 1, 0)
			}
			if i == 450 && round%4 == 3 {
				e = event(api.EvCrash, 0, 0)
			}
			p.step(e)
		}
		j := p.finish(400)
		states[j.State]++
		if j.State == api.JobFinished {
			p.whole()
		}
		if j.State < api.JobFinished && !p.halfEnded() {
			t.Errorf("%v does not end: %v", p.work, j)
		}
	}
	if states[api.JobFinished] < 20 || states[api.JobStopped] < 1 || states[api.JobFailed] < 1 {
		t.Errorf("the states are %v", states)
	}
}

// P4, example 8: a savepoint laid to other widths goes on the same.
func TestRescales(t *testing.T) {
	rnd := rand.New(rand.NewSource(33))
	stopped := 0
	for range 15 {
		p := newPlay(t, 300, rnd)
		w := small(rnd)
		p.submit(w.Graph, w.Inputs)
		for range 2 + rnd.Intn(4) {
			p.round()
			p.step(event(api.EvTick, 0, 1))
		}
		node, _ := p.leader()
		p.step(ask(node, api.Request{Kind: api.ReqStop}))
		if p.finish(100); !stops(p) {
			continue
		}
		if p.halfEnded() {
			continue
		}
		stopped++
		was := p.last
		widths := []int{}
		for range p.work.Graph.Ops {
			widths = append(widths, 1+rnd.Intn(2))
		}
		node, _ = p.leader()
		if o := p.step(ask(node, api.Request{Kind: api.ReqRescale, Number: was.Number, Widths: widths})); o.Answer != api.OK {
			t.Fatalf("ReqRescale to %v: %d", widths, o.Answer)
		}
		if p.last.Number <= was.Number || !p.last.Save {
			t.Fatalf("%v behind %v", p.last, was)
		}
		if j := p.finish(400); j.State != api.JobFinished {
			t.Fatalf("%v: %v", p.work, j)
		}
		p.whole()
	}
	if stopped < 4 {
		t.Errorf("only %d stopped", stopped)
	}
}

func stops(p *play) bool {
	_, j := p.leader()
	return j.State == api.JobStopped
}

// Examples 2, 5, 6, 9 of the whole: a worker falls behind the first checkpoint, again and again.
func TestFalls(t *testing.T) {
	rnd := rand.New(rand.NewSource(35))
	p := newPlay(t, 300, rnd)
	p.submit(sample.Plain(api.Op{Tag: api.OpReduce, Width: 2}), []api.Input{{Records: slices.Repeat(input[0].Records, 12)}})
	for p.last.Number == 0 {
		p.round()
		p.step(event(api.EvTick, 0, 1))
		p.deliver()
	}
	committed := len(p.w.Log().Log)
	if committed == 0 || p.last.Open {
		t.Fatalf("nothing is committed: %v", p.last)
	}
	for falls := 1; falls <= 5; falls++ {
		for node := 4; p.step(event(api.EvFall, node, 0)).Err == api.ErrNone; node++ {
		}
		p.deliver()
		_, j := p.leader()
		if want := (api.Job{State: api.JobRestarting, Falls: falls, Most: 4}); falls < 5 && j != want || falls == 5 && j.State != api.JobFailed {
			t.Fatalf("%d falls: %v", falls, j)
		}
		p.step(event(api.EvTick, 0, 1))
		p.deliver()
	}
	if n := len(p.w.Log().Log); n < committed {
		t.Errorf("%d committed, behind %d", n, committed)
	}
}

// Examples 3, 4 of the whole: another manager takes over; what the late one says is dropped.
func TestTakesOver(t *testing.T) {
	p := newPlay(t, 300, rand.New(rand.NewSource(36)))
	p.submit(pair, []api.Input{{Records: slices.Repeat(input[0].Records, 12)}})
	for range 3 {
		p.round()
		p.step(event(api.EvTick, 0, 1))
	}
	p.deliver()
	p.step(event(api.EvTick, 0, 9))
	p.step(event(api.EvDie, 1, 0))
	for p.w.Now() < 60 {
		p.step(event(api.EvTick, 0, 5))
		for node := 4; node <= 7; node++ {
			p.step(event(api.EvBeat, node, 0))
		}
	}
	node, j := p.leader()
	if node != 2 || j.Falls == 0 {
		t.Fatalf("%d leads: %v", node, j)
	}
	late := 0
	for range 60 {
		if p.step(event(api.EvCome, 0, 0)).Err == api.OK {
			late++
		}
	}
	for id := 1; id <= 4; id++ {
		if h, _ := p.w.Host(id); h.Lead == 1 && h.Epoch > 1 {
			t.Errorf("a late manager is heard: %v", h)
		}
	}
	if j := p.finish(300); j.State != api.JobFinished || late == 0 {
		t.Fatalf("%v", j)
	}
	p.whole()
}

// P5, example 7 of the whole: wherever the power goes within a completion, there is the latest checkpoint, or the one ahead.
func TestPower(t *testing.T) {
	for n := range 12 {
		rnd := rand.New(rand.NewSource(37))
		p := newPlay(t, 300, rnd)
		p.submit(sample.Plain(api.Op{Tag: api.OpReduce, Width: 1}), []api.Input{{Records: slices.Repeat(input[0].Records, 12)}})
		for p.last.Number == 0 || p.last.Open {
			p.round()
			p.step(event(api.EvTick, 0, 1))
			p.deliver()
		}
		first := p.last.Number
		p.step(event(api.EvArm, 0, n))
		for range 40 {
			if p.round(); !p.w.Power() {
				break
			}
			p.step(event(api.EvTick, 0, 1))
			p.deliver()
		}
		if p.w.Power() {
			continue
		}
		keep := []bool{}
		for range len(p.w.Store().Register().Wal().Disk().Pending()) {
			keep = append(keep, rnd.Intn(2) > 0)
		}
		disk := p.w.Store().Register().Wal().Disk().Copy()
		disk.Crash(keep)
		s, err := store.Open(disk)
		if err != api.OK {
			t.Fatalf("the power goes at %d: %d", n, err)
		}
		rows := s.Shelf().Rows
		if last := rows[len(rows)-1].Number; last != first && last != first+1 {
			a, b := coord.Split(last)
			t.Errorf("the power goes at %d: %d, %d", n, a, b)
		}
		p.step(api.Event{Kind: api.EvCrash, Keep: keep})
		if j := p.finish(300); j.State != api.JobFinished {
			t.Fatalf("the power goes at %d: %v", n, j)
		}
		p.whole()
	}
}

// Example 10 of the whole: the disk is full: the job has failed, and the lease still lasts.
func TestFull(t *testing.T) {
	p := newPlay(t, 40, rand.New(rand.NewSource(38)))
	wide := api.Graph{Ops: []api.Op{{Tag: api.OpSource, Width: 3}}}
	for i, tag := range []int{api.OpReduce, api.OpReduce, api.OpReduce, api.OpSink} {
		wide.Ops = append(wide.Ops, api.Op{Tag: tag, Width: 3, Inputs: []int{i}})
	}
	var l []api.Record
	for key := range 24 {
		l = append(l, api.Record{Key: key, Value: 1})
	}
	p.submit(wide, []api.Input{{Records: l}})
	if j := p.finish(200); j.State != api.JobFailed {
		t.Fatalf("%v", j)
	}
	p.step(event(api.EvTick, 0, 5))
	if node, j := p.leader(); node != 1 || j.State != api.JobFailed || p.w.Store().Register().Broken() {
		t.Errorf("%d leads: %v", node, j)
	}
}
