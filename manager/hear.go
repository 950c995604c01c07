package manager

import (
	"slices"

	"headrace/api"
	"headrace/coord"
	"headrace/frame"
	"headrace/heart"
	"headrace/job"
	"headrace/slots"
	"headrace/snap"
	"headrace/store"
)

// Hear tells the manager that has heard a message, the log behind what it does, and which names it says to be committed.
func Hear(m api.Manager, s *store.Store, l api.TxLog, x api.Msg) (api.Manager, api.TxLog, []api.Msg, api.Errno) {
	a, err := begin(m, s, l)
	if err == api.OK && (frame.Check(x) != api.OK || x.To != m.Id) {
		err = api.ErrMsg
	}
	if err != api.OK {
		return a.end(err, nil)
	}
	if leads(a.Manager, a.Now) {
		does := map[int]func(worker int, x api.Msg){
			api.MsgBeat: a.beat,
			api.MsgAck:  a.acked,
			api.MsgFell: a.fell,
		}
		worker, _ := frame.Worker(x.From)
		does[x.Kind](worker, x)
	}
	return a.end(api.OK, a.told)
}

// isOwn tells whether a message is of the manager's Epoch and Attempt.
func (a *acting) isOwn(x api.Msg) bool {
	return x.Epoch == a.Lease.Epoch && x.Attempt == a.Attempt
}

// beat hears a worker, which comes if it is not there, and says which of its subtasks are up.
func (a *acting) beat(worker int, x api.Msg) {
	a.Heart, _, _ = heart.Hear(a.Heart, worker)
	if f, err := slots.Come(a.Floor, api.Worker{Id: worker, Slots: api.SlotsEach}); err == api.OK {
		a.Floor = f
	}
	if a.isOwn(x) {
		a.Up, a.Ended = a.named(worker, a.Up, x.Up), a.named(worker, a.Ended, x.Ended)
	}
}

// named tells subtasks, of which those at a worker are just those that it names.
func (a *acting) named(worker int, tasks, names []int) (out []int) {
	for _, p := range a.Floor.Places {
		from := tasks
		if p.Worker == worker {
			from = names
		}
		if slices.Contains(from, p.Task) {
			out = append(out, p.Task)
		}
	}
	return out
}

// acked takes a subtask's answer to a barrier; when all have answered, the checkpoint is completed.
func (a *acting) acked(worker int, x api.Msg) {
	if !a.isOwn(x) {
		return
	}
	b, _ := snap.Encode(x.Snap)
	next, all, err := coord.Acked(a.Coord, x.Number, x.Attempt, api.Ack{Task: x.Task, Bytes: b})
	if err != api.OK {
		return
	}
	a.Coord = next
	for _, p := range next.Pendings {
		if all && p.Number == x.Number {
			a.complete(p)
		}
	}
}

// fell lets the job fall, if one of its subtasks has, where it lies.
func (a *acting) fell(worker int, x api.Msg) {
	at, placed := slots.Where(a.Floor, x.Task)
	if a.isOwn(x) && job.Lives(a.Job) && placed && at == worker {
		a.fall()
	}
}
