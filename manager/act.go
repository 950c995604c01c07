package manager

import (
	"slices"

	"headrace/api"
	"headrace/coord"
	"headrace/graph"
	"headrace/heart"
	"headrace/job"
	"headrace/retain"
	"headrace/slots"
	"headrace/snap"
	"headrace/store"
	"headrace/txlog"
)

// acting is a manager that acts, on a store and the log outside; what it does tells whether it goes on, or has left.
type acting struct {
	api.Manager
	store *store.Store
	log   api.TxLog
	told  []api.Msg
	leave func()
}

// begin makes a manager act, if all that is handed in may be.
func begin(m api.Manager, s *store.Store, l api.TxLog) (*acting, api.Errno) {
	switch {
	case Check(m) != api.OK:
		return nil, api.ErrManager
	case s == nil:
		return nil, api.ErrNil
	case txlog.Check(l) != api.OK:
		return nil, api.ErrLog
	}
	a := &acting{Manager: own(m), store: s, log: ownLog(l)}
	a.leave = func() {
		a.Manager, a.told = idle(a.Manager), nil
	}
	return a, api.OK
}

// end tells what has come of it, or an error alone.
func (a *acting) end(err api.Errno, said []api.Msg) (api.Manager, api.TxLog, []api.Msg, api.Errno) {
	if err != api.OK {
		return api.Manager{}, api.TxLog{}, nil, err
	}
	return a.Manager, a.log, said, api.OK
}

// goesOn tells whether something that was done was not refused; else it leaves.
func (a *acting) goesOn(err api.Errno) bool {
	if err != api.OK {
		a.leave()
	}
	return err == api.OK
}

// tasks tells how many subtasks the stored graph has.
func (a *acting) tasks() int {
	g, _ := a.store.Graph()
	return graph.Subtasks(g)
}

// allUp tells whether all subtasks have a place, and are up.
func (a *acting) allUp() bool { return len(a.Up) == a.tasks() }

// layState tells the bytes of a job and an attempt, as they are stored.
func layState(j api.Job, attempt int) []byte {
	return []byte{byte(j.State), byte(j.Falls), byte(j.Most), byte(attempt >> 24), byte(attempt >> 16), byte(attempt >> 8), byte(attempt)}
}

// readState tells the job and the attempt that bytes are of, if they may be of a job that was submitted.
func readState(b []byte) (j api.Job, attempt int, ok bool) {
	if len(b) != len(layState(j, attempt)) {
		return j, attempt, false
	}
	j = api.Job{State: int(b[0]), Falls: int(b[1]), Most: int(b[2])}
	for _, x := range b[3:] {
		attempt = attempt<<8 | int(x)
	}
	return j, attempt, job.Check(j) == api.OK && j.State != api.JobNone && attempt >= 2 && attempt <= api.MaxAttempt
}

// keep stores the job's state.
func (a *acting) keep() bool {
	return a.goesOn(a.store.SetState(a.Lease.Epoch, a.store.State(), layState(a.Job, a.Attempt)))
}

// happen lets something happen to the job, if that is not refused, and stores the state.
func (a *acting) happen(happening int) bool {
	if j, err := job.Do(a.Job, happening); err == api.OK {
		a.Job = j
	}
	return a.keep()
}

// abort takes all from the log outside that is not committed.
func (a *acting) abort() {
	// The log may be, and no names are handed in: it is not refused.
	a.log, _, _ = txlog.Abort(a.log, nil)
}

// empty lets no subtask have a place.
func (a *acting) empty() { a.Floor.Places, a.Up, a.Ended = nil, nil, nil }

// lay lays all subtasks, if none has a place and there is room.
func (a *acting) lay() {
	if len(a.Floor.Places) > 0 {
		return
	}
	var all []int
	for task := range a.tasks() {
		all = append(all, task)
	}
	if f, err := slots.Lay(a.Floor, all); err == api.OK {
		a.Floor = f
	}
}

// anew begins the job anew, in a new attempt.
func (a *acting) anew() bool {
	if a.Attempt == api.MaxAttempt {
		return a.happen(api.JobFull)
	}
	a.Attempt++
	if !a.keep() {
		return false
	}
	a.abort()
	a.empty()
	if coord.Same(a.Coord, api.Coord{}) {
		a.Coord, _ = coord.New(a.Lease.Epoch, a.tasks(), a.Attempt)
	} else {
		a.Coord, _, _ = coord.Restart(a.Coord, a.tasks(), a.Attempt)
	}
	a.lay()
	return true
}

// fall lets the job fall: it is begun anew, if that may be.
func (a *acting) fall() bool {
	if j, err := job.Do(a.Job, api.JobFall); err == api.OK {
		a.Job = j
	}
	if a.Job.State == api.JobRestarting {
		return a.anew()
	}
	return a.keep()
}

// namesOf tells all names of snapshots, rising, each once.
func namesOf(l []api.Snap) (out []api.TxName) {
	for _, s := range l {
		out = append(out, s.Txs...)
	}
	slices.SortFunc(out, txlog.Compare)
	return slices.Compact(out)
}

// spared tells the names that are not aborted, whatever is committed: those of the attempt, and those of the rows that are still to be committed.
func (a *acting) spared() (out []api.TxName) {
	for _, tx := range a.log.Txs {
		if tx.Name.Attempt == a.Attempt {
			out = append(out, tx.Name)
		}
	}
	for _, row := range a.store.Shelf().Rows {
		if row.Open {
			l, _ := a.store.Snaps(row.Number)
			out = append(out, namesOf(l)...)
		}
	}
	return out
}

// commit commits what snapshots name, and aborts what nobody names; if that is refused, the job is full.
func (a *acting) commit(l []api.Snap) bool {
	names := namesOf(l)
	log, _, err := txlog.Abort(a.log, slices.Concat(names, a.spared()))
	if err == api.OK {
		a.log = log
		log, err = txlog.Commit(log, names)
	}
	if err != api.OK {
		a.happen(api.JobFull)
		return false
	}
	a.log = log
	return true
}

// submitted tells a job as it is when it has just been submitted.
func submitted() api.Job {
	j, _ := job.New(api.MostFalls)
	j, _ = job.Do(j, api.JobSubmit)
	return j
}

// takeOver begins to lead, with a lease.
func (a *acting) takeOver(l api.Lease) {
	a.Manager = idle(a.Manager)
	a.Lease, a.Last = l, a.Now
	a.Heart, _ = heart.New(a.Now, api.HeartSpan)
	for id := 1; id <= api.MaxWorkers; id++ {
		a.Heart, _, _ = heart.Hear(a.Heart, id)
		a.Floor.Workers = append(a.Floor.Workers, api.Worker{Id: id, Slots: api.SlotsEach})
	}
	if _, there := a.store.Graph(); !there {
		a.Job, _ = job.New(api.MostFalls)
		a.Attempt = 1
		return
	}
	var ok bool
	if a.Job, a.Attempt, ok = readState(a.store.State()); !ok {
		a.Job, a.Attempt = submitted(), 1
	}
	a.settleAll()
	// Who has left has no job that lives.
	if job.Lives(a.Job) {
		a.fall()
	}
}

// settleAll commits what is still to be committed, row by row, as far as that is not refused.
func (a *acting) settleAll() {
	for {
		number, there := retain.Next(a.store.Shelf())
		if !there {
			return
		}
		l, err := a.store.Snaps(number)
		if !a.goesOn(err) || !a.commit(l) || !a.goesOn(a.store.Settle(a.Lease.Epoch, number)) {
			return
		}
	}
}

// complete completes a checkpoint that all subtasks have acked.
func (a *acting) complete(p api.Pending) {
	switch err := a.store.Complete(p.Number, p.Save, p.Acks); err {
	case api.OK:
	case api.ErrFull:
		a.happen(api.JobFull)
		return
	default:
		a.leave()
		return
	}
	a.Coord, _, _, _ = coord.Complete(a.Coord, p.Number)
	var l []api.Snap
	ended := true
	for _, ack := range p.Acks {
		// The store has taken it: it is a snapshot.
		s, _ := snap.Decode(ack.Bytes)
		l, ended = append(l, s), ended && s.Ended
	}
	if !a.commit(l) || !a.goesOn(a.store.Settle(a.Lease.Epoch, p.Number)) {
		return
	}
	a.tell(namesOf(l))
	switch {
	case p.Save && a.Job.State == api.JobStopping:
		a.happen(api.JobSaved)
	case ended:
		a.happen(api.JobEnd)
	}
}
