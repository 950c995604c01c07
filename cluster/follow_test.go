package cluster_test

import (
	"math/rand"
	"slices"
	"testing"

	"headrace/api"
	"headrace/cluster"
	"headrace/deno"
	"headrace/frame"
	"headrace/keys"
	"headrace/plan"
	"headrace/sample"
	"headrace/sink"
	"headrace/table"
	"headrace/txlog"
)

// run is hosts whose messages are lost, doubled, and late.
type run struct {
	w     api.Work
	hosts []api.Host
	way   []api.Msg
	acks  map[uint64]map[int]api.Snap
	log   api.TxLog
	rnd   *rand.Rand
}

// begun lays a work at some workers, and deploys it.
func begun(t *testing.T, rnd *rand.Rand) *run {
	t.Helper()
	r := &run{w: api.Work{Graph: sample.Graph(rnd.Intn)}, acks: map[uint64]map[int]api.Snap{}, rnd: rnd}
	r.w.Inputs = sample.Inputs(r.w.Graph, 8, rnd.Intn)
	workers := 1 + rnd.Intn(4)
	for id := 1; id <= 4; id++ {
		r.hosts = append(r.hosts, made(t, id))
	}
	subs, _ := plan.Subs(r.w.Graph)
	l := api.Laid{Work: r.w}
	for n := range subs {
		l.Places = append(l.Places, api.Place{Task: n, Worker: 1 + rnd.Intn(workers)})
	}
	for n := range subs {
		r.way = append(r.way, deploy(l, n, 2))
	}
	for _, m := range r.way {
		r.hear(t, m)
	}
	r.way = nil
	return r
}

func (r *run) set(t *testing.T, h api.Host, said []api.Msg) {
	t.Helper()
	if cluster.Check(h) != api.OK {
		t.Fatalf("may not be: %v", h)
	}
	if cluster.Full(h) > 16*4+64*(api.MaxRoom+api.MaxHold) {
		t.Fatalf("%d elements", cluster.Full(h))
	}
	valid(t, said)
	r.hosts[h.Id-1] = h
	for _, m := range said {
		if len(r.way) < api.MaxWay {
			r.way = append(r.way, m)
		}
	}
}

// hear lets whoever it is for hear a message; what it hears again changes nothing more.
func (r *run) hear(t *testing.T, m api.Msg) {
	t.Helper()
	if m.Kind == api.MsgAck {
		if r.acks[m.Number] == nil {
			r.acks[m.Number] = map[int]api.Snap{}
		}
		if old, there := r.acks[m.Number][m.Task]; there && !frame.Same(api.Msg{Snap: old}, api.Msg{Snap: m.Snap}) {
			t.Fatalf("%d answers %d otherwise", m.Task, m.Number)
		}
		r.acks[m.Number][m.Task] = m.Snap
	}
	worker, ok := frame.Worker(m.To)
	if !ok {
		return
	}
	h, said, err := cluster.Hear(r.hosts[worker-1], m)
	if err != api.OK {
		return
	}
	r.set(t, h, said)
	if again, _, err := cluster.Hear(h, m); m.Kind != api.MsgData && m.Kind != api.MsgTrigger && (err != api.OK || !cluster.Same(again, h)) {
		t.Fatalf("%v heard again changes something: %d", m, err)
	}
}

// step lets a worker work, or pump, or a message come, twice perhaps, or not at all.
func (r *run) step(t *testing.T) {
	t.Helper()
	h := r.hosts[r.rnd.Intn(len(r.hosts))]
	switch r.rnd.Intn(8) {
	case 0:
		next, said, err := cluster.Pump(h)
		if err != api.OK {
			t.Fatal(err)
		}
		r.set(t, next, said)
	case 1, 2, 3:
		l := cluster.Choices(h)
		if len(l) == 0 {
			return
		}
		c := l[r.rnd.Intn(len(l))]
		next, said, acts, err := cluster.Work(h, c[0], c[1])
		if err == api.ErrFull {
			return
		}
		if err != api.OK {
			t.Fatal(err)
		}
		log, _, err := sink.Do(r.log, acts)
		if err != api.OK {
			t.Fatalf("%v: %d", acts, err)
		}
		r.log = log
		r.set(t, next, said)
	default:
		if len(r.way) == 0 {
			return
		}
		i := r.rnd.Intn(len(r.way))
		m := r.way[i]
		if r.rnd.Intn(6) > 0 {
			r.way = slices.Delete(r.way, i, i+1)
		}
		if r.rnd.Intn(6) > 0 {
			r.hear(t, m)
		}
	}
}

func (r *run) trigger(t *testing.T, number uint64) {
	t.Helper()
	for id := 1; id <= 4; id++ {
		r.hear(t, trigger(id, 2, number))
	}
}

// ended tells whether all tasks have ended.
func (r *run) ended() bool {
	for _, h := range r.hosts {
		for _, x := range h.Tasks {
			if !x.Ended {
				return false
			}
		}
	}
	return true
}

// whole tells whether all tasks have answered a number.
func (r *run) whole(number uint64) bool {
	subs, _ := plan.Subs(r.w.Graph)
	return len(r.acks[number]) == len(subs)
}

// finish triggers a number till all tasks have answered it.
func (r *run) finish(t *testing.T, number uint64) {
	t.Helper()
	for range 60000 {
		if r.whole(number) {
			return
		}
		if r.rnd.Intn(15) == 0 {
			r.trigger(t, number)
		}
		r.step(t)
	}
	t.Fatalf("%v: nothing comes of %d", r.w, number)
}

// commit commits what the answers of a number name, and says so.
func (r *run) commit(t *testing.T, number uint64) {
	t.Helper()
	var names []api.TxName
	for _, s := range r.acks[number] {
		names = append(names, s.Txs...)
	}
	slices.SortFunc(names, txlog.Compare)
	log, err := txlog.Commit(r.log, names)
	if err != api.OK {
		t.Fatal(err)
	}
	r.log = log
	for id := 1; len(names) > 0 && id <= 4; id++ {
		r.hear(t, told(id, 2, names...))
	}
}

// consistent checks that the answers of a number are the denotation's state at their place, and what is committed what it says there.
func (r *run) consistent(t *testing.T, number uint64) {
	t.Helper()
	at := make(api.At, len(r.w.Inputs))
	tables := make([]api.Table, len(r.w.Graph.Ops))
	for _, s := range r.acks[number] {
		tables[s.Op], _ = table.Join(tables[s.Op], s.Table)
		o := r.w.Graph.Ops[s.Op]
		for i, x := range r.w.Inputs {
			if o.Tag == api.OpSource && int64(x.Source) == o.A {
				at[i], _ = keys.Joined(s.Offsets, at[i], s.Index, s.Width)
			}
		}
	}
	subs, _ := plan.Subs(r.w.Graph)
	sinks := 0
	for i, o := range r.w.Graph.Ops {
		if want, err := deno.Table(r.w, at, i); err != api.OK || !table.Same(want, tables[i]) {
			t.Fatalf("%v at %v: %d keeps %v, not %v", r.w, at, i, tables[i], want)
		}
		if o.Tag == api.OpSink {
			sinks++
		}
	}
	for i, o := range r.w.Graph.Ops {
		if o.Tag != api.OpSink || sinks > 1 || len(subs) == 0 {
			continue
		}
		rows, _ := deno.Rows(r.w, at, i)
		total := 0
		for _, row := range rows {
			total += len(row.Values)
			if got := txlog.Values(r.log, api.Record{Source: row.Source, Key: row.Key}); !slices.Equal(got, row.Values) {
				t.Fatalf("%v at %v: committed %v, not %v", r.w, at, got, row)
			}
		}
		if len(r.log.Log) != total {
			t.Fatalf("%d committed, not %d", len(r.log.Log), total)
		}
	}
}

// P29.6: elements are not lost, nor doubled, whatever happens to messages; barriers cut a state that is the denotation's.
func TestFollows(t *testing.T) {
	rnd := rand.New(rand.NewSource(29))
	for range 12 {
		r := begun(t, rnd)
		number := uint64(0)
		for !r.ended() {
			for range 60 + rnd.Intn(400) {
				r.step(t)
			}
			number++
			r.finish(t, number)
			r.commit(t, number)
			r.consistent(t, number)
			if number > 40 {
				t.Fatalf("%v does not end", r.w)
			}
		}
		whole, _ := deno.Whole(r.w)
		for i, x := range r.w.Inputs {
			total, _ := keys.Total(x)
			if whole[i] != total {
				t.Fatal("the whole")
			}
		}
		r.finish(t, number+1)
		r.commit(t, number+1)
		r.consistent(t, number+1)
	}
}

// spoil changes all lists of a host.
func spoil(h api.Host) {
	for i := range h.Laid.Work.Graph.Ops {
		h.Laid.Work.Graph.Ops[i].Width = 99
		for j := range h.Laid.Work.Graph.Ops[i].Inputs {
			h.Laid.Work.Graph.Ops[i].Inputs[j] = 99
		}
	}
	for i := range h.Laid.Work.Inputs {
		for j := range h.Laid.Work.Inputs[i].Records {
			h.Laid.Work.Inputs[i].Records[j].Key = 99
		}
		h.Laid.Work.Inputs[i].Source = 99
	}
	for i := range h.Laid.Places {
		h.Laid.Places[i].Worker = 99
	}
	for i, x := range h.Lasts {
		spoilSnap(x.Snap)
		h.Lasts[i].Sub = 99
	}
	for i, x := range h.Ins {
		for j := range x.Receiver.Buffer {
			x.Receiver.Buffer[j].Kind = 99
		}
		h.Ins[i].Channel = 99
	}
	for i, x := range h.Outs {
		for j := range x.Sender.Queue {
			x.Sender.Queue[j].Kind = 99
		}
		h.Outs[i].Channel = 99
	}
	for i := range h.Begun {
		h.Begun[i] = 99
	}
	for i, x := range h.Tasks {
		for j := range x.Graph.Ops {
			for k := range x.Graph.Ops[j].Inputs {
				x.Graph.Ops[j].Inputs[k] = 99
			}
			x.Graph.Ops[j].Width = 99
		}
		for j := range x.Input.Records {
			x.Input.Records[j].Key = 99
		}
		for j, q := range x.Gate.Queues {
			for k := range q.Elems {
				q.Elems[k].Kind = 99
			}
			x.Gate.Queues[j].Last = 99
		}
		for j := range x.Table.Rows {
			x.Table.Rows[j].Key = 99
		}
		for j := range x.Sink.Ready {
			x.Sink.Ready[j].Sink = 99
		}
		h.Tasks[i].Sub = 99
	}
}

func spoilSnap(s api.Snap) {
	for i := range s.Table.Rows {
		s.Table.Rows[i].Key = 99
	}
	for i := range s.Txs {
		s.Txs[i].Sink = 99
	}
}

// R3: what is handed in stays as it was, and is not shared; no two lists of an answer are.
func TestShares(t *testing.T) {
	h, _ := hear(t, made(t, 1), deploy(parted, 0, 4), deploy(parted, 2, 4))
	h, _, _ = work(t, h, 0, 0)
	h, _ = hear(t, h, data(2, 1, 4, 1, packet(4, 1, elem(5, 3))), data(2, 1, 4, 1, packet(4, 2, bar(9))), data(1, 1, 4, 0, packet(4, 1, elem(1, 2))), data(1, 1, 4, 0, packet(4, 2, bar(9))))
	h, _ = pump(t, h)
	for _, queue := range []int{1, 1, 0, 0} {
		h, _, _ = work(t, h, 2, queue)
	}
	h, _ = hear(t, h, data(1, 1, 4, 0, packet(4, 3, elem(1, 4))))
	h, _ = pump(t, h)
	h, _ = hear(t, h, data(1, 1, 4, 0, packet(4, 4, elem(1, 5))))
	fresh := func() api.Host { x, _ := hear(t, h, data(2, 1, 4, 0, ack(9, 1, 1))); return x } // a packet that changes nothing
	was := fresh()
	second := deploy(parted, 0, 5)
	calls := []func(h api.Host) (api.Host, []api.Msg, api.Errno){
		func(h api.Host) (api.Host, []api.Msg, api.Errno) {
			next, said, _, err := cluster.Work(h, 2, 0)
			return next, said, err
		},
		cluster.Pump,
		func(h api.Host) (api.Host, []api.Msg, api.Errno) { return cluster.Fall(h, 0) },
		func(h api.Host) (api.Host, []api.Msg, api.Errno) { return cluster.Hear(h, trigger(1, 4, 9)) },
		func(h api.Host) (api.Host, []api.Msg, api.Errno) { return cluster.Hear(h, trigger(1, 4, 12)) },
		func(h api.Host) (api.Host, []api.Msg, api.Errno) { return cluster.Hear(h, second) },
		func(h api.Host) (api.Host, []api.Msg, api.Errno) {
			next, err := cluster.Dead(h)
			return next, nil, err
		},
	}
	for i, call := range calls {
		x := fresh()
		next, said, err := call(x)
		if err != api.OK {
			t.Fatalf("call %d: %d", i, err)
		}
		state := cluster.Check(next)
		for _, m := range said {
			spoilSnap(m.Snap)
		}
		if cluster.Check(next) != state {
			t.Errorf("call %d: what is said shares with the host", i)
		}
		spoil(next)
		if !cluster.Same(x, was) {
			t.Errorf("call %d changes what it is handed", i)
		}
	}
	if frame.Check(second) != api.OK {
		t.Errorf("a message is changed")
	}
	if len(was.Lasts) != 1 || len(was.Lasts[0].Snap.Table.Rows) == 0 {
		t.Errorf("there is nothing to spoil: %v", was.Lasts)
	}
}
