package cluster

import (
	"slices"

	"headrace/api"
)

// What follows tells the same values in memory of their own.

func ownGraph(g api.Graph) api.Graph {
	g.Ops = slices.Clone(g.Ops)
	for i, o := range g.Ops {
		g.Ops[i].Inputs = slices.Clone(o.Inputs)
	}
	return g
}

func ownLaid(l api.Laid) api.Laid {
	l.Work.Graph = ownGraph(l.Work.Graph)
	l.Work.Inputs = slices.Clone(l.Work.Inputs)
	for i, x := range l.Work.Inputs {
		l.Work.Inputs[i].Records = slices.Clone(x.Records)
	}
	l.Places = slices.Clone(l.Places)
	return l
}

func ownSnap(s api.Snap) api.Snap {
	s.Table.Rows, s.Txs = slices.Clone(s.Table.Rows), slices.Clone(s.Txs)
	return s
}

func ownTask(t api.Task) api.Task {
	t.Graph = ownGraph(t.Graph)
	t.Input.Records, t.Table.Rows, t.Sink.Ready = slices.Clone(t.Input.Records), slices.Clone(t.Table.Rows), slices.Clone(t.Sink.Ready)
	t.Gate.Queues = slices.Clone(t.Gate.Queues)
	for i, q := range t.Gate.Queues {
		t.Gate.Queues[i].Elems = slices.Clone(q.Elems)
	}
	return t
}

func own(h api.Host) api.Host {
	h.Laid = ownLaid(h.Laid)
	h.Tasks, h.Ins, h.Outs, h.Lasts, h.Begun = slices.Clone(h.Tasks), slices.Clone(h.Ins), slices.Clone(h.Outs), slices.Clone(h.Lasts), slices.Clone(h.Begun)
	for i, t := range h.Tasks {
		h.Tasks[i] = ownTask(t)
	}
	for i, x := range h.Ins {
		h.Ins[i].Receiver.Buffer = slices.Clone(x.Receiver.Buffer)
	}
	for i, x := range h.Outs {
		h.Outs[i].Sender.Queue = slices.Clone(x.Sender.Queue)
	}
	for i, x := range h.Lasts {
		h.Lasts[i].Snap = ownSnap(x.Snap)
	}
	return h
}
