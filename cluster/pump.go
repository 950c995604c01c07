package cluster

import (
	"headrace/api"
	"headrace/frame"
	"headrace/link"
	"headrace/task"
)

// nodeOf tells the node of the worker at which a subtask lies.
func (g *hosting) nodeOf(sub int) int {
	n, _ := frame.Node(g.Laid.Places[sub].Worker)
	return n
}

// packet tells the message that carries a packet of a channel.
func (g *hosting) packet(to, channel int, p api.Packet) api.Msg {
	m := msgOf(g.Host, api.MsgData, to, channel)
	m.Packet = p
	return m
}

// draw hands what a channel has brought to its task, as far as that has room; it tells an error of what is refused.
func (g *hosting) draw(channel int) api.Errno {
	at, _ := find(g.Ins, channel, inletOf)
	in := &g.Ins[at]
	i, _ := find(g.Tasks, g.chans[channel].To, subOf)
	for len(in.Receiver.Buffer) > 0 && task.Room(g.Tasks[i], channel) > 0 {
		r, e, err := link.Take(in.Receiver)
		if err != api.OK {
			return err
		}
		t, err := task.Push(g.Tasks[i], channel, e)
		if err != api.OK {
			return err
		}
		in.Receiver, g.Tasks[i] = r, t
	}
	return api.OK
}

// drawAll draws from all inlets, and says what they want next; it tells which tasks have refused something, and fallen.
func (g *hosting) drawAll() (fallen []int) {
inlets:
	for channel, c := range g.chans {
		at, there := find(g.Ins, channel, inletOf)
		if !there {
			continue inlets
		}
		if g.draw(channel) != api.OK {
			g.drop(c.To)
			fallen = append(fallen, c.To)
			continue inlets
		}
		p, _ := link.Ack(g.Ins[at].Receiver)
		g.say(g.packet(g.nodeOf(c.From), channel, p))
	}
	return fallen
}

// sendAll says what all outlets send.
func (g *hosting) sendAll() {
	for _, o := range g.Outs {
		l, _ := link.Send(o.Sender)
		for _, p := range l {
			g.say(g.packet(g.nodeOf(g.chans[o.Channel].To), o.Channel, p))
		}
	}
}

// Pump tells the host that has drawn from its inlets and sent from its outlets, and what it says.
func Pump(h api.Host) (api.Host, []api.Msg, api.Errno) {
	if !mayBe(h) {
		return api.Host{}, nil, api.ErrHost
	}
	g := begin(h)
	fallen := g.drawAll()
	g.sendAll()
	for _, sub := range fallen {
		g.say(g.fell(sub))
	}
	return g.end(api.OK)
}
