package manager

import (
	"slices"

	"headrace/api"
	"headrace/coord"
	"headrace/heart"
	"headrace/job"
	"headrace/lease"
	"headrace/slots"
	"headrace/store"
)

// Tick tells the manager at a later tick, the log behind what it does, and what it says.
func Tick(m api.Manager, s *store.Store, l api.TxLog, now int64) (api.Manager, api.TxLog, []api.Msg, api.Errno) {
	a, err := begin(m, s, l)
	if err == api.OK && (now < m.Now || !isNow(now)) {
		err = api.ErrArg
	}
	if err != api.OK {
		return a.end(err, nil)
	}
	a.Now = now
	if !leads(a.Manager, now) {
		a.acquire()
		return a.end(api.OK, a.said())
	}
	// Each of these tells whether the next one is done.
	for _, step := range []func() bool{a.renew, a.pass, a.giveUp, a.goUp, a.trigger} {
		if !step() {
			break
		}
	}
	return a.end(api.OK, a.said())
}

// acquire takes the lease, if nobody holds it, and takes over.
func (a *acting) acquire() {
	a.leave()
	old := a.store.Lease()
	next, err := lease.Acquire(old, a.Id, a.Now, api.LeaseSpan)
	if err == api.OK && a.store.SetLease(old, next) == api.OK {
		a.takeOver(next)
	}
}

// renew renews the lease, if that does not last long any more.
func (a *acting) renew() bool {
	if lease.Left(a.Lease, a.Now) > api.LeaseSpan/2 {
		return true
	}
	next, err := lease.Renew(a.Lease, a.Id, a.Lease.Epoch, a.Now, api.LeaseSpan)
	if err == api.OK {
		err = a.store.SetLease(a.Lease, next)
	}
	if !a.goesOn(err) {
		return false
	}
	a.Lease = next
	return true
}

// without tells rising subtasks without those that are among some others.
func without(tasks, gone []int) []int {
	return slices.DeleteFunc(tasks, func(task int) bool { return slices.Contains(gone, task) })
}

// pass lets workers leave that were not heard; if they had places, the job falls.
func (a *acting) pass() bool {
	next, down, _ := heart.Pass(a.Heart, a.Now)
	a.Heart = next
	had := false
	for _, worker := range down {
		f, tasks, err := slots.Go(a.Floor, worker)
		if err != api.OK {
			continue
		}
		a.Floor = f
		a.Up, a.Ended = without(a.Up, tasks), without(a.Ended, tasks)
		had = had || len(tasks) > 0
	}
	if had && job.Lives(a.Job) {
		return a.fall()
	}
	return true
}

// giveUp gives up checkpoints that are under way for long; without its savepoint a job that stops goes on.
func (a *acting) giveUp() bool {
	next, gone, err := coord.Tick(a.Coord, a.Now)
	if err != api.OK {
		return true // there is no coordinator
	}
	saved := slices.ContainsFunc(a.Coord.Pendings, func(p api.Pending) bool { return p.Save && slices.Contains(gone, p.Number) })
	a.Coord = next
	if saved && a.Job.State == api.JobStopping {
		return a.happen(api.JobUnsaved)
	}
	return true
}

// goUp lays what has no place; when all that was begun anew is up, the job goes on.
func (a *acting) goUp() bool {
	if !job.Lives(a.Job) {
		return true
	}
	a.lay()
	if a.Job.State == api.JobRestarting && a.allUp() {
		return a.happen(api.JobUp)
	}
	return true
}

// trigger triggers a checkpoint, if it is time for one.
func (a *acting) trigger() bool {
	stops := a.Job.State == api.JobStopping
	due := a.Now-a.Last >= api.EveryTicks || stops
	if !stops && a.Job.State != api.JobRunning || !a.allUp() || len(a.Coord.Pendings) > 0 || !due {
		return true
	}
	if next, _, err := coord.Trigger(a.Coord, a.Now, stops); err == api.OK {
		a.Coord, a.Last = next, a.Now
	}
	return true
}
