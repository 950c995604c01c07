package cluster

import (
	"cmp"
	"slices"

	"headrace/api"
	"headrace/frame"
	"headrace/link"
	"headrace/plan"
	"headrace/task"
)

// find tells where the row of a number stands, or would stand, in rows that rise by it, and whether it is there.
func find[T any](rows []T, number int, of func(row T) int) (int, bool) {
	return slices.BinarySearchFunc(rows, number, func(row T, number int) int { return cmp.Compare(of(row), number) })
}

func subOf(t api.Task) int        { return t.Sub }
func lastOf(l api.Last) int       { return l.Sub }
func inletOf(i api.Inlet) int     { return i.Channel }
func outletOf(o api.Outlet) int   { return o.Channel }
func isWorker(id int) bool        { return id >= 1 && id <= api.MaxWorkers }
func isLead(lead int) bool        { return lead == 0 || frame.Manager(lead) }
func mayBeLaid(l api.Laid) bool   { return frame.CheckLaid(l) == api.OK }
func sameLaid(a, b api.Laid) bool { return frame.Same(api.Msg{Laid: a}, api.Msg{Laid: b}) }
func sameSnap(a, b api.Snap) bool { return frame.Same(api.Msg{Snap: a}, api.Msg{Snap: b}) }
func laidOf(g api.Graph) api.Laid { return api.Laid{Work: api.Work{Graph: g}} }

// node tells a host's node; the host may be.
func node(h api.Host) int {
	n, _ := frame.Node(h.Id)
	return n
}

// isHere tells whether a subtask is laid at a host.
func isHere(h api.Host, sub int) bool {
	return sub >= 0 && sub < len(h.Laid.Places) && h.Laid.Places[sub].Worker == h.Id
}

// areBegun tells whether what has begun rises, and is laid here.
func areBegun(h api.Host) bool {
	for i, sub := range h.Begun {
		if i > 0 && h.Begun[i-1] >= sub || !isHere(h, sub) {
			return false
		}
	}
	return true
}

// mayRest tells whether a host without tasks may be.
func mayRest(h api.Host) bool {
	if len(h.Ins)+len(h.Outs)+len(h.Lasts) > 0 || h.Closed && len(h.Begun) > 0 {
		return false
	}
	if sameLaid(h.Laid, api.Laid{}) {
		return len(h.Begun) == 0
	}
	return mayBeLaid(h.Laid) && areBegun(h)
}

// areTasks tells whether a host's tasks may be.
func areTasks(h api.Host) bool {
	last := -1
	for _, t := range h.Tasks {
		begun := slices.Contains(h.Begun, t.Sub)
		if t.Sub <= last || t.Attempt != h.Attempt || !begun || task.Check(t) != api.OK || !sameLaid(laidOf(t.Graph), laidOf(h.Laid.Work.Graph)) {
			return false
		}
		last = t.Sub
	}
	return true
}

// has tells whether a host has the task of a subtask.
func has(h api.Host, sub int) bool {
	_, there := find(h.Tasks, sub, subOf)
	return there
}

// areLinks tells whether a host has just the ends of its tasks' channels.
func areLinks(h api.Host) bool {
	chans, _ := plan.Chans(h.Laid.Work.Graph)
	var ins, outs []int
	for channel, c := range chans {
		if has(h, c.To) {
			ins = append(ins, channel)
		}
		if has(h, c.From) {
			outs = append(outs, channel)
		}
	}
	inlets := slices.EqualFunc(h.Ins, ins, func(i api.Inlet, channel int) bool {
		r := i.Receiver
		return i.Channel == channel && link.CheckReceiver(r) == api.OK && int(r.Session) == h.Attempt && r.Room == api.MaxRoom
	})
	return inlets && slices.EqualFunc(h.Outs, outs, func(o api.Outlet, channel int) bool {
		return o.Channel == channel && link.CheckSender(o.Sender) == api.OK && int(o.Sender.Session) == h.Attempt
	})
}

// isSnapOf tells whether a snapshot fits the graph that is laid, and is of that subtask, which is laid here: whether it could be deployed so.
func isSnapOf(h api.Host, sub int, s api.Snap) bool {
	m := api.Msg{Kind: api.MsgDeploy, From: h.Lead, To: node(h), Epoch: h.Epoch, Attempt: h.Attempt, Task: sub, Laid: h.Laid, Snap: s}
	return frame.Check(m) == api.OK
}

// areLasts tells whether the last answers are just those of the tasks that have answered.
func areLasts(h api.Host) bool {
	rest := h.Lasts
	for _, t := range h.Tasks {
		if t.Done == 0 {
			continue
		}
		if len(rest) == 0 || rest[0].Sub != t.Sub || rest[0].Number != t.Done || !isSnapOf(h, t.Sub, rest[0].Snap) {
			return false
		}
		rest = rest[1:]
	}
	return len(rest) == 0
}

// mayWork tells whether a host with tasks may be.
func mayWork(h api.Host) bool {
	return h.Lead != 0 && h.Epoch != 0 && h.Attempt != 0 && !h.Closed && mayBeLaid(h.Laid) &&
		areBegun(h) && areTasks(h) && areLinks(h) && areLasts(h)
}

// mayBe tells whether a host may be.
func mayBe(h api.Host) bool {
	if !isWorker(h.Id) || !isLead(h.Lead) || h.Epoch > api.MaxEpoch || h.Attempt < 0 || h.Attempt > api.MaxAttempt {
		return false
	}
	if len(h.Tasks) == 0 {
		return mayRest(h)
	}
	return mayWork(h)
}

// Check tells whether a host may be.
func Check(h api.Host) api.Errno {
	if !mayBe(h) {
		return api.ErrHost
	}
	return api.OK
}

// sameLinks tells whether both hosts have the same links, field by field.
func sameLinks(a, b api.Host) bool {
	ins := slices.EqualFunc(a.Ins, b.Ins, func(x, y api.Inlet) bool {
		return x.Channel == y.Channel && link.SameReceiver(x.Receiver, y.Receiver)
	})
	return ins && slices.EqualFunc(a.Outs, b.Outs, func(x, y api.Outlet) bool {
		return x.Channel == y.Channel && link.SameSender(x.Sender, y.Sender)
	})
}

// Same tells whether both hosts are the same, field by field.
func Same(a, b api.Host) bool {
	lasts := slices.EqualFunc(a.Lasts, b.Lasts, func(x, y api.Last) bool {
		return x.Sub == y.Sub && x.Number == y.Number && sameSnap(x.Snap, y.Snap)
	})
	return a.Id == b.Id && a.Lead == b.Lead && a.Epoch == b.Epoch && a.Attempt == b.Attempt && a.Closed == b.Closed && sameLaid(a.Laid, b.Laid) &&
		slices.EqualFunc(a.Tasks, b.Tasks, task.Same) && sameLinks(a, b) && lasts && slices.Equal(a.Begun, b.Begun)
}
