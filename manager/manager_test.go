package manager_test

import (
	"math"
	"slices"
	"testing"

	"headrace/api"
	"headrace/coord"
	"headrace/manager"
	"headrace/retain"
	"headrace/slots"
	"headrace/store"
	"headrace/txlog"
)

// The chapter's examples.
func TestExamples(t *testing.T) {
	g := newStage(t)
	if manager.Leads(g.m, 0) {
		t.Errorf("New leads")
	}
	said := g.tick(1)
	g.nothing(g.cancelled(said, 1, 1, 2, 3, 4))
	if g.m.Lease != (api.Lease{Epoch: 1, Holder: 1, Until: 21}) || !manager.Leads(g.m, 20) || manager.Leads(g.m, 21) {
		t.Errorf("Tick: %v", g.m.Lease)
	}
	said = g.ask(api.Request{Kind: api.ReqSubmit, Graph: pair, Inputs: empty})
	said = g.cancelled(said, 1, 3, 4)
	g.nothing(g.deployed(said, []api.Snap{zero(pair, 0), zero(pair, 1)}, 0, 1))
	if g.m.Attempt != 2 {
		t.Errorf("ReqSubmit: the attempt %d", g.m.Attempt)
	}
	g.refused("ReqSubmit", api.Request{Kind: api.ReqSubmit, Graph: pair, Inputs: empty}, api.ErrThere)
	other := &stage{t: t, m: made(t, 2), disk: g.disk, s: g.s, log: g.log}
	g.nothing(other.tick(5))
	if !manager.Same(other.m, api.Manager{Id: 2, Now: 5}) {
		t.Errorf("the other one: %v", other.m)
	}
	other.refused("ReqCancel", api.Request{Kind: api.ReqCancel}, api.ErrLate)
	g.ask(api.Request{Kind: api.ReqStop})
	g.refused("ReqStop", api.Request{Kind: api.ReqStop}, api.ErrThere)
	said = g.ask(api.Request{Kind: api.ReqCancel})
	g.nothing(g.cancelled(said, 2, 1, 2, 3, 4))
}

// P30.1: New, Leads, Same.
func TestNew(t *testing.T) {
	for id := 1; id <= 3; id++ {
		if m := made(t, id); !manager.Same(m, api.Manager{Id: id}) || manager.Check(m) != api.OK || manager.Leads(m, 0) {
			t.Errorf("New(%d): %v", id, m)
		}
	}
	for _, id := range []int{0, 4, -1, math.MaxInt} {
		if m, err := manager.New(id); err != api.ErrArg || !manager.Same(m, none) {
			t.Errorf("New(%d): %d", id, err)
		}
	}
	m := up(t, pair, empty).m
	m.Coord, _, _ = coord.Trigger(m.Coord, 1, false)
	for i, change := range changes() {
		if x := with(m, change); manager.Same(m, x) || !manager.Same(x, x) {
			t.Errorf("change %d makes nothing else", i)
		}
	}
	if !manager.Same(none, api.Manager{Floor: api.Floor{Workers: []api.Worker{}}, Up: []int{}, Ended: []int{}}) {
		t.Errorf("nil and empty")
	}
}

func with(m api.Manager, change func(m *api.Manager)) api.Manager {
	m.Floor = api.Floor{Workers: slices.Clone(m.Floor.Workers), Places: slices.Clone(m.Floor.Places)}
	m.Heart.Pulses, m.Coord.Pendings = slices.Clone(m.Heart.Pulses), slices.Clone(m.Coord.Pendings)
	m.Up, m.Ended = slices.Clone(m.Up), slices.Clone(m.Ended)
	change(&m)
	return m
}

// changes tells changes of a manager's fields, one by one.
func changes() []func(m *api.Manager) {
	return []func(m *api.Manager){
		func(m *api.Manager) { m.Id++ }, func(m *api.Manager) { m.Now++ }, func(m *api.Manager) { m.Lease.Until++ }, func(m *api.Manager) { m.Job.Falls++ }, func(m *api.Manager) { m.Attempt++ }, func(m *api.Manager) { m.Floor.Places = nil }, func(m *api.Manager) { m.Floor.Workers[0].Slots++ },
		func(m *api.Manager) { m.Heart.Pulses[0].Heard++ }, func(m *api.Manager) { m.Coord.Counter++ }, func(m *api.Manager) { m.Coord.Pendings = nil }, func(m *api.Manager) { m.Up = nil }, func(m *api.Manager) { m.Ended = []int{0} }, func(m *api.Manager) { m.Last++ },
	}
}

// wrongManagers tells managers that may not be.
func wrongManagers(t *testing.T) []api.Manager {
	m := up(t, pair, empty).m
	out := []api.Manager{none, {Id: 4}, {Id: -1}, {Id: 1, Now: -1}, {Id: 1, Now: api.MaxTick - api.MaxSpan + 1}, {Id: 1, Last: 1, Now: 5}, {Id: 1, Up: []int{0}}, {Id: 1, Attempt: 1}, {Id: 1, Job: running(0)}, {Id: 1, Lease: m.Lease}}
	for _, change := range []func(m *api.Manager){
		func(m *api.Manager) { m.Id = 2 }, func(m *api.Manager) { m.Now = 0 }, func(m *api.Manager) { m.Lease = api.Lease{} }, func(m *api.Manager) { m.Lease.Until = -1 }, func(m *api.Manager) { m.Lease.Holder = 2 }, func(m *api.Manager) { m.Job.State = 9 }, func(m *api.Manager) { m.Job.Falls = 5 },
		func(m *api.Manager) { m.Attempt = 0 }, func(m *api.Manager) { m.Attempt = 3 }, func(m *api.Manager) { m.Attempt = api.MaxAttempt + 1 }, func(m *api.Manager) { m.Floor.Workers[0].Slots = 9 }, func(m *api.Manager) { m.Floor.Places[0].Worker = 5 }, func(m *api.Manager) { m.Heart = api.Heart{} }, func(m *api.Manager) { m.Heart.Now = 2 }, func(m *api.Manager) { m.Heart.Span = 0 },
		func(m *api.Manager) { m.Coord = api.Coord{} }, func(m *api.Manager) { m.Coord.Epoch = 2 }, func(m *api.Manager) { m.Coord.Attempt = 3 }, func(m *api.Manager) { m.Coord.Tasks = 0 }, func(m *api.Manager) { m.Up = []int{0, 2} }, func(m *api.Manager) { m.Up = []int{1, 0} }, func(m *api.Manager) { m.Up = []int{0, 0} }, func(m *api.Manager) { m.Ended = []int{-1} }, func(m *api.Manager) { m.Ended = []int{1, 0} },
		func(m *api.Manager) { m.Last = -1 }, func(m *api.Manager) { m.Last = 2 },
	} {
		out = append(out, with(m, change))
	}
	return append(out, with(m, func(m *api.Manager) { m.Job.State = api.JobFinished; m.Coord.Epoch = 2 }))
}

// P30.1: Check; what may not be is refused ahead of all else, then a nil store, then a log that may not be.
func TestCheck(t *testing.T) {
	g := up(t, pair, empty)
	for i, change := range []func(m *api.Manager){
		func(m *api.Manager) {}, func(m *api.Manager) { m.Ended = []int{1} }, func(m *api.Manager) { m.Job.State = api.JobFailed; m.Coord = api.Coord{} }, func(m *api.Manager) { m.Job.State = api.JobFailed }, func(m *api.Manager) { m.Last = 0 }, func(m *api.Manager) { m.Lease.Until = 0 },
	} {
		if err := manager.Check(with(g.m, change)); err != api.OK {
			t.Errorf("Check %d: %d", i, err)
		}
	}
	badLog := api.TxLog{Done: []api.TxName{{}}}
	for i, m := range wrongManagers(t) {
		if manager.Check(m) != api.ErrManager || manager.Leads(m, 1) {
			t.Errorf("Check of wrong %d: %d", i, manager.Check(m))
		}
		errs(t, m, nil, badLog, api.ErrManager)
	}
	errs(t, g.m, nil, badLog, api.ErrNil)
	errs(t, made(t, 1), nil, badLog, api.ErrNil)
	errs(t, g.m, g.s, badLog, api.ErrLog)
}

// errs checks that all calls answer an error, and nothing besides; what else they are handed may not be.
func errs(t *testing.T, m api.Manager, s *store.Store, l api.TxLog, want api.Errno) {
	t.Helper()
	a, al, am, err := manager.Tick(m, s, l, -1)
	b, bl, bm, err2 := manager.Hear(m, s, l, api.Msg{})
	c, cl, cm, err3 := manager.Ask(m, s, l, api.Request{})
	if err != want || err2 != want || err3 != want {
		t.Errorf("%d %d %d, not %d", err, err2, err3, want)
	}
	if !manager.Same(a, none) || !manager.Same(b, none) || !manager.Same(c, none) || !txlog.Same(al, noLog) || !txlog.Same(bl, noLog) || !txlog.Same(cl, noLog) || len(am)+len(bm)+len(cm) > 0 {
		t.Errorf("something beside an error")
	}
}

// P30.1: CheckRequest.
func TestCheckRequest(t *testing.T) {
	wide := []int{1, 2, 3}
	good := []api.Request{
		{Kind: api.ReqSubmit}, {Kind: api.ReqSubmit, Graph: pair, Inputs: empty}, {Kind: api.ReqCancel}, {Kind: api.ReqStop}, {Kind: api.ReqSave}, {Kind: api.ReqRelease}, {Kind: api.ReqRelease, Number: math.MaxUint64}, {Kind: api.ReqRescale, Widths: wide}, {Kind: api.ReqRescale, Number: 7, Widths: []int{1, 1, 1, 1, 1, 1, 1, 3}},
	}
	for i, r := range good {
		if err := manager.CheckRequest(r); err != api.OK {
			t.Errorf("CheckRequest %d: %d", i, err)
		}
	}
	wrong := []api.Request{
		{}, {Kind: 7}, {Kind: -1}, {Kind: api.ReqRescale}, {Kind: api.ReqRescale, Number: 7}, {Kind: api.ReqRescale, Widths: []int{0}}, {Kind: api.ReqRescale, Widths: []int{1, 4}}, {Kind: api.ReqRescale, Widths: []int{-1}}, {Kind: api.ReqRescale, Widths: []int{1, 1, 1, 1, 1, 1, 1, 1, 1}}, {Kind: api.ReqSubmit, Number: 1}, {Kind: api.ReqSubmit, Widths: wide},
	}
	for kind := api.ReqCancel; kind <= api.ReqRescale; kind++ {
		base := api.Request{Kind: kind}
		if kind == api.ReqRescale {
			base.Widths = wide
		}
		x, y, z, w := base, base, base, base
		x.Graph, y.Inputs, z.Number, w.Widths = pair, empty, 1, wide
		wrong = append(wrong, x, y)
		if kind != api.ReqRelease && kind != api.ReqRescale {
			wrong = append(wrong, z)
		}
		if kind != api.ReqRescale {
			wrong = append(wrong, w)
		}
	}
	g := up(t, pair, empty)
	for i, r := range wrong {
		if err := manager.CheckRequest(r); err != api.ErrRequest {
			t.Errorf("CheckRequest of wrong %d: %d", i, err)
		}
		g.refused("wrong", r, api.ErrRequest)
	}
	late := &stage{t: t, m: made(t, 2), disk: g.disk, s: g.s}
	for _, r := range good {
		late.refused("late", r, api.ErrLate)
	}
	late.refused("late, and wrong", api.Request{}, api.ErrRequest)
}

// P30.2: ticks that may not be; the lease.
func TestLease(t *testing.T) {
	g := newStage(t)
	g.tick(5)
	for _, now := range []int64{4, -1, api.MaxTick - api.MaxSpan + 1, math.MaxInt64} {
		if m, l, said, err := manager.Tick(g.m, g.s, g.log, now); err != api.ErrArg || !manager.Same(m, none) || !txlog.Same(l, noLog) || len(said) > 0 {
			t.Errorf("Tick(%d): %d", now, err)
		}
	}
	if g.m.Lease != (api.Lease{Epoch: 1, Holder: 1, Until: 25}) || g.s.Lease() != g.m.Lease || g.m.Last != 5 || g.m.Attempt != 1 || g.m.Job != (api.Job{Most: 4}) || len(g.m.Floor.Workers) != 4 || g.m.Floor.Workers[3] != (api.Worker{Id: 4, Slots: 4}) || len(g.m.Heart.Pulses) != 4 || g.m.Heart.Span != api.HeartSpan || g.m.Heart.Pulses[0].Heard != 5 || !coord.Same(g.m.Coord, api.Coord{}) {
		t.Errorf("taken over: %v", g.m)
	}
	// It is renewed when it lasts for half of its span at most.
	g.tick(14)
	if g.m.Lease.Until != 25 || g.s.Lease().Until != 25 {
		t.Errorf("renewed too early: %v", g.m.Lease)
	}
	g.tick(15)
	if g.m.Lease != (api.Lease{Epoch: 1, Holder: 1, Until: 35}) || g.s.Lease() != g.m.Lease {
		t.Errorf("not renewed: %v", g.m.Lease)
	}
	// Another one takes it when it is over; who is late leads nothing.
	other := &stage{t: t, m: made(t, 2), disk: g.disk, s: g.s}
	other.tick(34)
	if !manager.Same(other.m, api.Manager{Id: 2, Now: 34}) {
		t.Errorf("taken too early: %v", other.m)
	}
	other.tick(35)
	if other.m.Lease != (api.Lease{Epoch: 2, Holder: 2, Until: 55}) {
		t.Errorf("taken over: %v", other.m)
	}
	g.refused("who does not know yet", api.Request{Kind: api.ReqCancel}, api.ErrNone)
	was := g.stored()
	if said := g.tick(40); len(said) > 0 || !manager.Same(g.m, api.Manager{Id: 1, Now: 40}) || g.stored() != was {
		t.Errorf("it leads yet: %v", g.m)
	}
	// A renewal that is refused: it leaves, and nothing more.
	g = newStage(t)
	g.tick(1)
	other = &stage{t: t, m: made(t, 2), disk: g.disk, s: g.s}
	if err := g.s.SetLease(g.s.Lease(), api.Lease{Epoch: 2, Holder: 2, Until: 99}); err != api.OK {
		t.Fatal(err)
	}
	if said := g.tick(11); len(said) > 0 || !manager.Same(g.m, api.Manager{Id: 1, Now: 11}) {
		t.Errorf("renewed: %v", g.m)
	}
	// A lease that can't be stored is not taken.
	g = newStage(t)
	g.disk.Fail(0)
	if said := g.tick(1); len(said) > 0 || !manager.Same(g.m, api.Manager{Id: 1, Now: 1}) {
		t.Errorf("taken: %v", g.m)
	}
}

// P30.2: who is not heard goes; if it had a place, the job falls.
func TestHeart(t *testing.T) {
	g := submitted(t, pair, empty)
	for _, w := range []int{1, 2, 4} {
		g.hear(g.beat(w, slots.At(g.m.Floor, w), nil))
	}
	g.tick(7)
	for _, w := range []int{1, 2, 4} {
		g.hear(g.beat(w, slots.At(g.m.Floor, w), nil))
	}
	g.tick(9)
	if len(g.m.Floor.Workers) != 3 || g.m.Job != running(0) || len(g.m.Up) != 2 {
		t.Fatalf("the worker 3 went: %v", g.m)
	}
	g.hear(g.beat(2, slots.At(g.m.Floor, 2), nil), g.beat(4, nil, nil))
	g.ready(name(1, 2, 1))
	said := g.tick(15)
	g.keeps("fallen", restarting(1), 3)
	said = g.cancelled(said, 2, 1, 3)
	g.nothing(g.deployed(said, g.zeros(same), 0, 1))
	if w, _ := slots.Where(g.m.Floor, 0); w != 2 || len(g.m.Up) > 0 || len(g.log.Txs) > 0 || g.m.Coord.Attempt != 3 {
		t.Errorf("begun anew: %v", g.m)
	}
	// Who comes again lies there again; nobody else is moved.
	g.hear(g.beat(3, nil, nil))
	if !slices.Contains(g.m.Floor.Workers, api.Worker{Id: 3, Slots: 4}) || len(g.m.Floor.Workers) != 3 {
		t.Errorf("who comes: %v", g.m.Floor)
	}
	g.beats()
	g.tick(16)
	g.keeps("up", running(1), 3)
	// Without workers there is no room: it waits.
	g.tick(24)
	g.keeps("all gone", restarting(2), 4)
	if len(g.m.Floor.Workers)+len(g.m.Floor.Places)+len(g.m.Up) > 0 {
		t.Errorf("all gone: %v", g.m.Floor)
	}
	g.hear(g.beat(2, nil, nil))
	said = g.tick(25)
	if len(g.m.Floor.Places) != 2 {
		t.Errorf("laid: %v", g.m.Floor)
	}
	g.nothing(g.deployed(g.cancelled(said, 3, 1, 3, 4), g.zeros(same), 0, 1))
	// A job that is over does not fall; what has no place is not up.
	g.beats()
	g.ask(api.Request{Kind: api.ReqCancel})
	g.tick(40)
	g.keeps("over", over(api.JobCancelled, 2), 4)
	if len(g.m.Up)+len(g.m.Floor.Places) > 0 {
		t.Errorf("over: %v", g.m)
	}
}

// P30.2: checkpoints are triggered, given up.
func TestTrigger(t *testing.T) {
	g := submitted(t, pair, empty)
	g.hear(g.beat(1, []int{0}, nil))
	said := g.tick(8)
	g.nothing(g.deployed(g.cancelled(said, 1, 3, 4), g.zeros(same), 1))
	for now := int64(9); now < 18; now++ {
		if g.beats(); len(g.m.Coord.Pendings) > 0 {
			t.Fatalf("triggered at %d", now)
		}
		said = g.tick(now)
		if now < 11 {
			g.nothing(g.cancelled(said, 1, 3, 4))
		}
		if now == 11 {
			break
		}
	}
	n := number(1, 1)
	g.nothing(g.triggered(g.cancelled(said, 1, 3, 4), n, 1, 2))
	if p := g.m.Coord.Pendings; len(p) != 1 || p[0].Begun != 11 || p[0].Save || g.m.Last != 11 {
		t.Errorf("triggered: %v", g.m.Coord)
	}
	// Nothing more is triggered while one is under way; who has acked is not told again.
	g.hear(g.acks(n, g.zeros(same))[1])
	for now := int64(12); now < 111; now++ {
		g.beats()
		said = g.tick(now)
		if len(g.m.Coord.Pendings) != 1 || g.m.Last != 11 {
			t.Fatalf("at %d: %v", now, g.m.Coord)
		}
		g.nothing(g.triggered(g.cancelled(said, 1, 3, 4), n, 1))
	}
	// It is given up, and the next one is triggered at once.
	g.beats()
	g.tick(111)
	if p := g.m.Coord.Pendings; len(p) != 1 || p[0].Number != number(1, 2) || g.m.Last != 111 {
		t.Errorf("given up: %v", g.m.Coord)
	}
	g.keeps("given up", running(0), 2)
}

// P30.2, P30.4: a job that stops triggers its savepoint at once; given up, it runs again.
func TestStop(t *testing.T) {
	g := up(t, pair, empty)
	g.ask(api.Request{Kind: api.ReqStop})
	g.keeps("ReqStop", over(api.JobStopping, 0), 2)
	g.tick(2)
	if p := g.m.Coord.Pendings; len(p) != 1 || !p[0].Save || p[0].Begun != 2 || g.m.Last != 2 {
		t.Fatalf("no savepoint: %v", g.m.Coord)
	}
	for now := int64(3); now < 103; now++ {
		g.beats()
		g.tick(now)
	}
	g.keeps("given up", running(0), 2)
	// A savepoint that was asked of a running job is given up, too: it runs on.
	g = up(t, pair, empty)
	g.save()
	for now := int64(2); now < 102; now++ {
		g.beats()
		g.tick(now)
	}
	g.keeps("given up", running(0), 2)
	// What is not up is not triggered.
	g = submitted(t, pair, empty)
	g.ask(api.Request{Kind: api.ReqStop})
	g.tick(2)
	if len(g.m.Coord.Pendings) > 0 {
		t.Errorf("triggered: %v", g.m.Coord)
	}
}

// P30.3: what Hear refuses, and what it passes over.
func TestHear(t *testing.T) {
	g := up(t, pair, empty)
	for i, x := range []api.Msg{{}, {Kind: api.MsgCancel, From: 1, To: 4, Epoch: 1, Attempt: 2}, {Kind: api.MsgBeat, From: 4, To: 2, Epoch: 1, Attempt: 2}, {Kind: api.MsgBeat, From: 4, To: 1, Epoch: 1}} {
		if m, l, said, err := manager.Hear(g.m, g.s, g.log, x); err != api.ErrMsg || !manager.Same(m, none) || !txlog.Same(l, noLog) || len(said) > 0 {
			t.Errorf("Hear %d: %d", i, err)
		}
	}
	was := g.m
	fell := func(worker, task int) api.Msg {
		return api.Msg{Kind: api.MsgFell, From: 3 + worker, To: 1, Epoch: 1, Attempt: 2, Task: task}
	}
	other := func(x api.Msg, epoch uint64, attempt int) api.Msg {
		x.Epoch, x.Attempt = epoch, attempt
		return x
	}
	w, _ := slots.Where(g.m.Floor, 0)
	for i, x := range []api.Msg{fell(3-w, 0), fell(w, 5), other(fell(w, 0), 2, 2), other(fell(w, 0), 1, 3), other(fell(w, 0), 1, 1), g.acks(number(1, 1), g.zeros(same))[0]} {
		if g.nothing(g.hear(x)); !manager.Same(g.m, was) {
			t.Errorf("message %d changes something: %v", i, g.m)
		}
	}
	// Who does not lead at its Now hears nothing.
	idle := &stage{t: t, m: made(t, 1), disk: g.disk, s: g.s, log: g.log}
	idle.hear(fell(w, 0), g.beat(1, nil, nil))
	if !manager.Same(idle.m, made(t, 1)) {
		t.Errorf("who leads nothing hears: %v", idle.m)
	}
	late := &stage{t: t, m: with(g.m, func(m *api.Manager) { m.Lease.Until = 1 }), disk: g.disk, s: g.s, log: g.log}
	state := late.m
	late.hear(fell(w, 0))
	if !manager.Same(late.m, state) {
		t.Errorf("who is late hears: %v", late.m)
	}
	g.nothing(g.hear(fell(w, 0)))
	g.keeps("MsgFell", restarting(1), 3)
	if len(g.m.Up) > 0 || len(g.m.Floor.Places) != 2 {
		t.Errorf("begun anew: %v", g.m)
	}
	for falls := 2; falls <= 4; falls++ {
		x := fell(w, 0)
		x.Attempt = g.m.Attempt
		g.hear(x)
		g.keeps("MsgFell", restarting(falls), 2+falls)
	}
	x := fell(w, 0)
	x.Attempt = g.m.Attempt
	g.hear(x)
	g.keeps("the last fall", over(api.JobFailed, 4), 6)
	g.nothing(g.cancelled(g.tick(2), 6, 1, 2, 3, 4))
	if g.nothing(g.hear(x)); g.m.Job.Falls != 4 {
		t.Errorf("a job that is over falls")
	}
}

// P30.3: MsgBeat.
func TestBeat(t *testing.T) {
	g := submitted(t, pair, empty)
	first, _ := slots.Where(g.m.Floor, 0)
	g.hear(g.beat(first, []int{0, 1, 9}, []int{0}))
	if !slices.Equal(g.m.Up, []int{0}) || !slices.Equal(g.m.Ended, []int{0}) {
		t.Errorf("MsgBeat: %v %v", g.m.Up, g.m.Ended)
	}
	g.hear(g.beat(3-first, []int{1}, nil), g.beat(3, []int{0}, []int{1}))
	if !slices.Equal(g.m.Up, []int{0, 1}) || !slices.Equal(g.m.Ended, []int{0}) {
		t.Errorf("MsgBeat: %v %v", g.m.Up, g.m.Ended)
	}
	// Of another Epoch or Attempt it is heard, and says nothing more.
	g.tick(4)
	for _, x := range [][2]int{{1, 1}, {1, 3}, {2, 2}} {
		b := g.beat(first, nil, nil)
		b.Epoch, b.Attempt = uint64(x[0]), x[1]
		g.hear(b)
	}
	if !slices.Equal(g.m.Up, []int{0, 1}) || g.m.Heart.Pulses[first-1].Heard != 4 || g.m.Heart.Pulses[2].Heard != 1 {
		t.Errorf("MsgBeat of others: %v", g.m)
	}
	g.hear(g.beat(first, nil, nil))
	if !slices.Equal(g.m.Up, []int{1}) || len(g.m.Ended) > 0 {
		t.Errorf("MsgBeat of nothing: %v", g.m.Up)
	}
	// What is not up any more is deployed again.
	g.nothing(g.deployed(g.cancelled(g.tick(4), 1, 3, 4), g.zeros(same), 0))
}

// P30.3: a checkpoint is completed: stored, committed, settled, told.
func TestComplete(t *testing.T) {
	g := up(t, pair, empty)
	n := g.save()
	one, two, open := name(1, 2, 1), name(1, 2, 2), name(1, 2, 3)
	g.ready(one, two, name(7, 1, 1))
	g.log, _ = txlog.Open(g.log, open)
	l := g.zeros(func(task int, s *api.Snap) {
		if task == 1 {
			s.Txs = []api.TxName{one, two}
		}
	})
	acks := g.acks(n, l)
	g.nothing(g.hear(acks[1], acks[1]))
	if len(g.m.Coord.Pendings[0].Acks) != 1 || len(g.s.Shelf().Rows) > 0 {
		t.Errorf("completed too early: %v", g.m.Coord)
	}
	sink, _ := slots.Where(g.m.Floor, 1)
	g.told(g.hear(acks[0]), []api.TxName{one, two}, sink)
	if !retain.Same(g.s.Shelf(), api.Shelf{Keep: 2, Rows: []api.Kept{{Number: n, Save: true}}}) || len(g.m.Coord.Pendings) > 0 {
		t.Errorf("the shelf: %v", g.s.Shelf())
	}
	// What nobody names is aborted, but for what is of the attempt.
	if txlog.State(g.log, one) != 3 || txlog.State(g.log, two) != 3 || txlog.State(g.log, open) != api.TxOpen || txlog.State(g.log, name(7, 1, 1)) != 0 {
		t.Errorf("the log: %v", g.log)
	}
	g.keeps("completed", running(0), 2)
	// The next attempt begins from it.
	g.hear(api.Msg{Kind: api.MsgFell, From: 3 + sink, To: 1, Epoch: 1, Attempt: 2, Task: 1})
	g.nothing(g.deployed(g.cancelled(g.tick(2), 2, 3, 4), l, 0, 1))
	if txlog.State(g.log, open) != 0 {
		t.Errorf("the log: %v", g.log)
	}
	g.beats()
	g.tick(3)
	// Without names nobody is told; acks of another attempt, and of what is not under way, are passed over.
	n = g.save()
	late := g.acks(n, g.zeros(same))
	late[0].Attempt = 2
	g.nothing(g.hear(late[0], g.acks(n+1, g.zeros(same))[0]))
	if len(g.m.Coord.Pendings[0].Acks) > 0 {
		t.Errorf("acked: %v", g.m.Coord)
	}
	g.nothing(g.hear(g.acks(n, g.zeros(same))...))
	if g.s.Shelf().Rows[1].Number != n {
		t.Errorf("the shelf: %v", g.s.Shelf())
	}
}

// P30.3: all have ended: the job is finished; a savepoint of a job that stops: it is stopped.
func TestEnds(t *testing.T) {
	ended := func(task int, s *api.Snap) { s.Ended = true }
	half := func(task int, s *api.Snap) { s.Ended = task == 0 }
	for i, x := range []struct {
		stop   bool
		change func(task int, s *api.Snap)
		state  int
	}{{false, ended, api.JobFinished}, {false, half, api.JobRunning}, {true, half, api.JobStopped}, {true, ended, api.JobStopped}} {
		g := up(t, pair, empty)
		var n uint64
		if x.stop {
			g.ask(api.Request{Kind: api.ReqStop})
			g.tick(2)
			n = g.m.Coord.Pendings[0].Number
		} else {
			n = g.save()
		}
		g.hear(g.acks(n, g.zeros(x.change))...)
		g.keeps("completed", over(x.state, 0), 2)
		if row := g.s.Shelf().Rows[0]; !row.Save || row.Open {
			t.Errorf("%d: the shelf: %v", i, row)
		}
		if x.state != api.JobRunning {
			g.nothing(g.cancelled(g.tick(2), 2, 1, 2, 3, 4))
		}
	}
	// A savepoint that was under way when the job was asked to stop is it, too; one that is none is not.
	g := up(t, pair, empty)
	n := g.save()
	g.ask(api.Request{Kind: api.ReqStop})
	g.hear(g.acks(n, g.zeros(same))...)
	g.keeps("stopped", over(api.JobStopped, 0), 2)
	g = up(t, pair, empty)
	g.tick(8)
	g.beats()
	g.tick(11)
	n = g.m.Coord.Pendings[0].Number
	g.ask(api.Request{Kind: api.ReqStop})
	g.hear(g.acks(n, g.zeros(ended))...)
	g.keeps("finished, while it stops", over(api.JobFinished, 0), 2)
}
