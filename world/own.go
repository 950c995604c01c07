package world

import (
	"slices"

	"headrace/api"
)

// What follows tells the same values in memory of their own.

func ownGraph(g api.Graph) api.Graph {
	g.Ops = slices.Clone(g.Ops)
	for i, o := range g.Ops {
		g.Ops[i].Inputs = slices.Clone(o.Inputs)
	}
	return g
}

func ownLaid(l api.Laid) api.Laid {
	l.Work.Graph = ownGraph(l.Work.Graph)
	l.Work.Inputs = slices.Clone(l.Work.Inputs)
	for i, x := range l.Work.Inputs {
		l.Work.Inputs[i].Records = slices.Clone(x.Records)
	}
	l.Places = slices.Clone(l.Places)
	return l
}

func ownTask(t api.Task) api.Task {
	t.Graph = ownGraph(t.Graph)
	t.Input.Records, t.Table.Rows, t.Sink.Ready = slices.Clone(t.Input.Records), slices.Clone(t.Table.Rows), slices.Clone(t.Sink.Ready)
	t.Gate.Queues = slices.Clone(t.Gate.Queues)
	for i, q := range t.Gate.Queues {
		t.Gate.Queues[i].Elems = slices.Clone(q.Elems)
	}
	return t
}

func ownHost(h api.Host) api.Host {
	h.Laid = ownLaid(h.Laid)
	h.Tasks, h.Ins, h.Outs, h.Lasts, h.Begun = slices.Clone(h.Tasks), slices.Clone(h.Ins), slices.Clone(h.Outs), slices.Clone(h.Lasts), slices.Clone(h.Begun)
	for i, t := range h.Tasks {
		h.Tasks[i] = ownTask(t)
	}
	for i, x := range h.Ins {
		h.Ins[i].Receiver.Buffer = slices.Clone(x.Receiver.Buffer)
	}
	for i, x := range h.Outs {
		h.Outs[i].Sender.Queue = slices.Clone(x.Sender.Queue)
	}
	for i, x := range h.Lasts {
		h.Lasts[i].Snap.Table.Rows, h.Lasts[i].Snap.Txs = slices.Clone(x.Snap.Table.Rows), slices.Clone(x.Snap.Txs)
	}
	return h
}

func ownManager(m api.Manager) api.Manager {
	m.Floor = api.Floor{Workers: slices.Clone(m.Floor.Workers), Places: slices.Clone(m.Floor.Places)}
	m.Heart.Pulses = slices.Clone(m.Heart.Pulses)
	m.Coord.Pendings = slices.Clone(m.Coord.Pendings)
	for i, p := range m.Coord.Pendings {
		acks := slices.Clone(p.Acks)
		for j, a := range acks {
			acks[j].Bytes = slices.Clone(a.Bytes)
		}
		m.Coord.Pendings[i].Acks = acks
	}
	m.Up, m.Ended = slices.Clone(m.Up), slices.Clone(m.Ended)
	return m
}

func ownLog(l api.TxLog) api.TxLog {
	l.Txs, l.Done, l.Log = slices.Clone(l.Txs), slices.Clone(l.Done), slices.Clone(l.Log)
	for i, tx := range l.Txs {
		l.Txs[i].Records = slices.Clone(tx.Records)
	}
	return l
}

func ownNet(n api.Net) api.Net {
	n.Parcels = slices.Clone(n.Parcels)
	for i, p := range n.Parcels {
		n.Parcels[i].Bytes = slices.Clone(p.Bytes)
	}
	return n
}
