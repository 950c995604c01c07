package manager

import (
	"iter"
	"slices"

	"headrace/api"
	"headrace/coord"
	"headrace/frame"
	"headrace/graph"
	"headrace/job"
	"headrace/region"
	"headrace/retain"
	"headrace/slots"
	"headrace/snap"
)

// msg makes a message to a worker, of the manager's Epoch.
func (a *acting) msg(kind, worker, attempt int) api.Msg {
	to, _ := frame.Node(worker)
	return api.Msg{Kind: kind, From: a.Id, To: to, Epoch: a.Lease.Epoch, Attempt: attempt}
}

// workers tells all workers for which it is so, rising.
func workers(is func(worker int) bool) iter.Seq[int] {
	return func(yield func(int) bool) {
		for worker := 1; worker <= api.MaxWorkers; worker++ {
			if is(worker) && !yield(worker) {
				return
			}
		}
	}
}

// hasOne tells whether a worker has a place of one of these subtasks.
func (a *acting) hasOne(worker int, tasks []int) bool {
	return slices.ContainsFunc(tasks, func(task int) bool {
		at, placed := slots.Where(a.Floor, task)
		return placed && at == worker
	})
}

// tell says which names are committed, to whoever has one of their sinks.
func (a *acting) tell(names []api.TxName) {
	var sinks []int
	for _, n := range names {
		sinks = append(sinks, n.Sink)
	}
	for worker := range workers(func(w int) bool { return a.hasOne(w, sinks) }) {
		m := a.msg(api.MsgTold, worker, a.Attempt)
		m.Names = slices.Clone(names)
		a.told = append(a.told, m)
	}
}

// cancels tells the messages by which an attempt is cancelled at workers for which it is so.
func (a *acting) cancels(attempt int, is func(worker int) bool) iter.Seq[api.Msg] {
	return func(yield func(api.Msg) bool) {
		for worker := range workers(is) {
			if !yield(a.msg(api.MsgCancel, worker, attempt)) {
				return
			}
		}
	}
}

// laid tells the stored work, and where its subtasks lie.
func (a *acting) laid() api.Laid {
	g, _ := a.store.Graph()
	return api.Laid{Work: api.Work{Graph: g, Inputs: a.store.Inputs()}, Places: slices.Clone(a.Floor.Places)}
}

// snaps tells from which snapshots the subtasks begin, if the store tells them.
func (a *acting) snaps() (out []api.Snap, err api.Errno) {
	if last, there := retain.Latest(a.store.Shelf()); there {
		return a.store.Snaps(last.Number)
	}
	g, _ := a.store.Graph()
	for task := range graph.Subtasks(g) {
		op, index, _ := region.Op(g, task)
		s, _ := snap.Zero(op, index, g.Ops[op].Width)
		out = append(out, s)
	}
	return out, api.OK
}

// deploys tells the messages by which subtasks begin that are not up.
func (a *acting) deploys() iter.Seq[api.Msg] {
	return func(yield func(api.Msg) bool) {
		// Without its snapshot a subtask must not begin: it would begin from nothing.
		l, err := a.snaps()
		if err != api.OK {
			return
		}
		for _, p := range a.Floor.Places {
			if slices.Contains(a.Up, p.Task) || p.Task >= len(l) {
				continue
			}
			m := a.msg(api.MsgDeploy, p.Worker, a.Attempt)
			m.Task, m.Laid, m.Snap = p.Task, a.laid(), l[p.Task]
			if !yield(m) {
				return
			}
		}
	}
}

// triggers tells the messages by which checkpoints that are under way are triggered where they are not acked.
func (a *acting) triggers() iter.Seq[api.Msg] {
	return func(yield func(api.Msg) bool) {
		for _, p := range a.Coord.Pendings {
			missing := coord.Missing(a.Coord, p.Number)
			for worker := range workers(func(w int) bool { return a.hasOne(w, missing) }) {
				m := a.msg(api.MsgTrigger, worker, a.Attempt)
				m.Number = p.Number
				if !yield(m) {
					return
				}
			}
		}
	}
}

// said tells all that a manager says behind what it does, if it leads.
func (a *acting) said() (out []api.Msg) {
	if !leads(a.Manager, a.Now) {
		return nil
	}
	rows := []iter.Seq[api.Msg]{a.cancels(a.Attempt, func(int) bool { return true })}
	if job.Lives(a.Job) {
		idle := func(w int) bool { return len(slots.At(a.Floor, w)) == 0 }
		rows = []iter.Seq[api.Msg]{a.cancels(a.Attempt-1, idle), a.deploys(), a.triggers()}
	}
	for _, row := range rows {
		for m := range row {
			out = append(out, m)
		}
	}
	return out
}
