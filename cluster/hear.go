package cluster

import (
	"slices"

	"headrace/api"
	"headrace/frame"
	"headrace/link"
	"headrace/plan"
	"headrace/task"
)

// refuses tells why a host does not hear a message.
func refuses(h api.Host, m api.Msg) api.Errno {
	begins := m.Kind == api.MsgCancel || m.Kind == api.MsgDeploy
	switch {
	case frame.Check(m) != api.OK || m.To != node(h):
		return api.ErrMsg
	case m.Epoch < h.Epoch:
		return api.ErrStale
	case m.Attempt < h.Attempt || m.Attempt == h.Attempt && h.Closed && !begins:
		return api.ErrAttempt
	}
	return api.OK
}

// Hear tells the host that has heard a message, and what it says.
func Hear(h api.Host, m api.Msg) (api.Host, []api.Msg, api.Errno) {
	if !mayBe(h) {
		return api.Host{}, nil, api.ErrHost
	}
	if err := refuses(h, m); err != api.OK {
		return api.Host{}, nil, err
	}
	does := map[int]func(g *hosting, m api.Msg) api.Errno{
		api.MsgDeploy:  (*hosting).deploy,
		api.MsgCancel:  (*hosting).cancel,
		api.MsgTrigger: (*hosting).trigger,
		api.MsgTold:    (*hosting).told,
		api.MsgData:    (*hosting).data,
	}
	g := begin(h)
	if frame.Manager(m.From) {
		g.Epoch, g.Lead = m.Epoch, m.From
	}
	return g.end(does[m.Kind](g, m))
}

// deploy begins a task, if it has not begun in its attempt.
func (g *hosting) deploy(m api.Msg) api.Errno {
	if m.Attempt == g.Attempt && g.Closed {
		g.say(g.fell(m.Task))
		return api.OK
	}
	if m.Attempt > g.Attempt {
		g.clear()
		g.Attempt, g.Closed = m.Attempt, false
		g.lay(ownLaid(m.Laid))
	}
	switch {
	case !sameLaid(m.Laid, g.Laid):
		return api.ErrArg
	case has(g.Host, m.Task):
		return api.OK
	case slices.Contains(g.Begun, m.Task):
		g.say(g.fell(m.Task))
		return api.OK
	}
	return g.start(m.Task, m.Snap)
}

// input tells the input that a subtask reads: that of its source, if it is one.
func (g *hosting) input(sub int) api.Input {
	subs, _ := plan.Subs(g.Laid.Work.Graph)
	o := g.Laid.Work.Graph.Ops[subs[sub].Op]
	for _, x := range g.Laid.Work.Inputs {
		if o.Tag == api.OpSource && int64(x.Source) == o.A {
			return x
		}
	}
	return api.Input{}
}

// start begins a task from a snapshot, with the ends of its channels.
func (g *hosting) start(sub int, s api.Snap) api.Errno {
	t, err := task.New(g.Laid.Work.Graph, sub, g.Attempt, g.input(sub), s)
	if err != api.OK {
		return err
	}
	i, _ := find(g.Tasks, sub, subOf)
	g.Tasks = slices.Insert(g.Tasks, i, t)
	begun, _ := slices.BinarySearch(g.Begun, sub)
	g.Begun = slices.Insert(g.Begun, begun, sub)
	session := uint32(g.Attempt)
	for channel, c := range g.chans {
		if c.To == sub {
			r, _ := link.Listen(session, api.MaxRoom)
			at, _ := find(g.Ins, channel, inletOf)
			g.Ins = slices.Insert(g.Ins, at, api.Inlet{Channel: channel, Receiver: r})
		}
		if c.From == sub {
			s, _ := link.Open(session)
			at, _ := find(g.Outs, channel, outletOf)
			g.Outs = slices.Insert(g.Outs, at, api.Outlet{Channel: channel, Sender: s})
		}
	}
	return api.OK
}

// cancel ends an attempt: nothing begins in it any more.
func (g *hosting) cancel(m api.Msg) api.Errno {
	g.clear()
	g.Attempt, g.Closed = m.Attempt, true
	return api.OK
}

// idle tells whether a message is of an attempt in which there is nothing here.
func (g *hosting) idle(m api.Msg) bool { return m.Attempt > g.Attempt || len(g.Tasks) == 0 }

// trigger triggers each task; one that has answered already answers again.
func (g *hosting) trigger(m api.Msg) api.Errno {
	if g.idle(m) {
		return api.ErrNone
	}
	for _, t := range slices.Clone(g.Tasks) {
		next, d, err := task.Trigger(t, m.Number, g.rooms(t.Sub))
		if err == api.OK {
			err = g.do(next, d)
		}
		if err == api.OK {
			continue
		}
		if i, there := find(g.Lasts, t.Sub, lastOf); there && g.Lasts[i].Number == m.Number {
			g.say(g.acked(g.Lasts[i]))
		}
	}
	return api.OK
}

// told tells each sink which names are committed.
func (g *hosting) told(m api.Msg) api.Errno {
	if g.idle(m) {
		return api.ErrNone
	}
	for i, t := range g.Tasks {
		next, err := task.Told(t, m.Names)
		if err != api.OK {
			return err
		}
		g.Tasks[i] = next
	}
	return api.OK
}

// data hands a packet to the end of a channel that it is for.
func (g *hosting) data(m api.Msg) api.Errno {
	if g.idle(m) {
		return api.ErrNone
	}
	if m.Packet.Kind == api.PkData {
		i, there := find(g.Ins, m.Task, inletOf)
		if !there {
			return api.ErrNone
		}
		r, err := link.Hear(g.Ins[i].Receiver, m.Packet)
		g.Ins[i].Receiver = r
		return err
	}
	i, there := find(g.Outs, m.Task, outletOf)
	if !there {
		return api.ErrNone
	}
	s, err := link.Acked(g.Outs[i].Sender, m.Packet)
	g.Outs[i].Sender = s
	return err
}
