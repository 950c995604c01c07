package world

import (
	"headrace/api"
	"headrace/cluster"
	"headrace/frame"
	"headrace/manager"
	"headrace/net"
	"headrace/sink"
	"headrace/store"
)

// happening is a world in which an event happens, with what is to be said yet, and what has come of it.
type happening struct {
	*World
	rest   []api.Msg
	said   int
	answer api.Errno
}

// nodes tells what a Kind of event is of.
type nodes int

const (
	ofNone nodes = iota
	ofWorkers
	ofManagers
	ofAny
)

// of tells which nodes a Kind of event is of, and whether there is such a Kind.
func of(kind int) (nodes, bool) {
	switch kind {
	case api.EvTick, api.EvCome, api.EvTwice, api.EvLose, api.EvArm, api.EvFail, api.EvCrash:
		return ofNone, true
	case api.EvBeat, api.EvWork, api.EvPump, api.EvFall:
		return ofWorkers, true
	case api.EvDie, api.EvUp:
		return ofAny, true
	case api.EvAsk:
		return ofManagers, true
	}
	return ofNone, false
}

// isNodeOf tells whether a node is of those that a Kind is of.
func isNodeOf(node int, what nodes) bool {
	switch what {
	case ofWorkers:
		return isWorker(node)
	case ofManagers:
		return isLeader(node)
	case ofAny:
		return isWorker(node) || isLeader(node)
	}
	return node == 0
}

// isNothing tells whether nothing is asked.
func isNothing(r api.Request) bool {
	return r.Kind == 0 && len(r.Graph.Ops)+len(r.Inputs)+len(r.Widths) == 0 && r.Number == 0
}

// Check tells whether an event may be, at whatever tick.
func Check(e api.Event) api.Errno {
	what, known := of(e.Kind)
	least, most := 0, api.MaxN
	if e.Kind == api.EvTick {
		least, most = 1, api.MaxStep
	}
	switch {
	case !known, !isNodeOf(e.Node, what), e.N < least, e.N > most,
		e.Kind != api.EvAsk && !isNothing(e.Request),
		e.Kind != api.EvCrash && len(e.Keep) > 0,
		len(e.Keep) > api.MaxKeeps:
		return api.ErrEvent
	}
	return api.OK
}

// Step lets an event happen.
func (w *World) Step(e api.Event) api.Outcome {
	if w == nil {
		return api.Outcome{Err: api.ErrNil}
	}
	if Check(e) != api.OK || e.Kind == api.EvTick && w.now+int64(e.N) > api.MaxTick-api.MaxSpan {
		return api.Outcome{Err: api.ErrEvent}
	}
	h := &happening{World: w}
	does := map[int]func(e api.Event) bool{
		api.EvTick: h.tick, api.EvBeat: h.beat, api.EvWork: h.work, api.EvPump: h.pump,
		api.EvCome: h.come, api.EvTwice: h.come, api.EvLose: h.lose, api.EvFall: h.fall,
		api.EvDie: h.die, api.EvUp: h.rise, api.EvAsk: h.ask,
		api.EvArm: h.arm, api.EvFail: h.fail, api.EvCrash: h.crash,
	}
	if up := w.up(e.Node); up != nil && *up == (e.Kind == api.EvUp) {
		return api.Outcome{Err: api.ErrNone}
	}
	if !does[e.Kind](e) {
		return api.Outcome{Err: api.ErrNone}
	}
	return api.Outcome{Answer: h.answer, Said: h.said}
}

// say says messages, and all that is said when they are heard at once.
func (h *happening) say(l ...api.Msg) {
	h.rest = append(h.rest, l...)
	for len(h.rest) > 0 {
		m := h.rest[0]
		h.rest = h.rest[1:]
		h.said++
		if m.From == m.To {
			h.hear(m)
			continue
		}
		if b, err := frame.Encode(m); err == api.OK {
			if next, _, err := net.Send(h.net, m.From, m.To, b); err == api.OK {
				h.net = next
			}
		}
	}
}

// hear lets the node that a message is for hear it; what that says is said behind all that is to be said yet.
func (h *happening) hear(m api.Msg) {
	switch up := h.up(m.To); {
	case up == nil || !*up:
	case isWorker(m.To):
		x := h.worker(m.To)
		if next, said, err := cluster.Hear(x.Host, m); err == api.OK {
			x.Host = next
			h.rest = append(h.rest, said...)
		}
	default:
		x := h.leader(m.To)
		next, log, said, err := manager.Hear(x.Manager, h.store, h.log, m)
		if err == api.OK {
			x.Manager, h.log = next, log
			h.rest = append(h.rest, said...)
		}
	}
}

func (h *happening) tick(e api.Event) bool {
	h.now += int64(e.N)
	for node := range h.leadersUp() {
		x := h.leader(node)
		next, log, said, err := manager.Tick(x.Manager, h.store, h.log, h.now)
		if err == api.OK {
			x.Manager, h.log = next, log
			h.say(said...)
		}
	}
	return true
}

func (h *happening) beat(e api.Event) bool {
	m, ok := cluster.Beat(h.worker(e.Node).Host)
	if ok {
		h.say(m)
	}
	return ok
}

func (h *happening) work(e api.Event) bool {
	x := h.worker(e.Node)
	l := cluster.Choices(x.Host)
	if len(l) == 0 {
		return false
	}
	sub, queue := l[e.N%len(l)][0], l[e.N%len(l)][1]
	next, said, acts, err := cluster.Work(x.Host, sub, queue)
	if err != api.OK {
		return true
	}
	if log, _, err := sink.Do(h.log, acts); err == api.OK {
		h.log = log
	} else {
		next, said, _ = cluster.Fall(x.Host, sub)
	}
	x.Host = next
	h.say(said...)
	return true
}

func (h *happening) pump(e api.Event) bool {
	x := h.worker(e.Node)
	if next, said, err := cluster.Pump(x.Host); err == api.OK {
		x.Host = next
		h.say(said...)
	}
	return true
}

// come lets a parcel come, which stays, if it is to come twice.
func (h *happening) come(e api.Event) bool {
	num, ok := net.Pick(h.net, e.N)
	if !ok {
		return false
	}
	next, p, err := net.Come(h.net, num, e.Kind == api.EvTwice)
	if err != api.OK {
		return false
	}
	h.net = next
	if m, err := frame.Decode(p.Bytes); err == api.OK {
		h.hear(m)
		h.say()
	}
	return true
}

func (h *happening) lose(e api.Event) bool {
	num, ok := net.Pick(h.net, e.N)
	if !ok {
		return false
	}
	next, err := net.Lose(h.net, num)
	if err == api.OK {
		h.net = next
	}
	return err == api.OK
}

func (h *happening) fall(e api.Event) bool {
	x := h.worker(e.Node)
	if len(x.Tasks) == 0 {
		return false
	}
	if next, said, err := cluster.Fall(x.Host, x.Tasks[e.N%len(x.Tasks)].Sub); err == api.OK {
		x.Host = next
		h.say(said...)
	}
	return true
}

func (h *happening) die(e api.Event) bool {
	*h.up(e.Node) = false
	if isLeader(e.Node) {
		h.leader(e.Node).Manager, _ = manager.New(e.Node)
		return true
	}
	x := h.worker(e.Node)
	x.Host, _ = cluster.Dead(x.Host)
	return true
}

func (h *happening) rise(e api.Event) bool {
	*h.up(e.Node) = true
	return true
}

func (h *happening) ask(e api.Event) bool {
	x := h.leader(e.Node)
	next, log, said, err := manager.Ask(x.Manager, h.store, h.log, e.Request)
	if h.answer = err; err == api.OK {
		x.Manager, h.log = next, log
		h.say(said...)
	}
	return true
}

func (h *happening) arm(e api.Event) bool { return h.disk.Arm(e.N) == api.OK }

func (h *happening) fail(e api.Event) bool { return h.disk.Fail(e.N) == api.OK }

func (h *happening) crash(e api.Event) bool {
	h.disk.Crash(e.Keep)
	h.store, _ = store.Open(h.disk)
	return true
}
