package manager

import (
	"headrace/api"
	"headrace/coord"
	"headrace/graph"
	"headrace/job"
	"headrace/store"
)

// Ask tells the manager behind a request, the log behind what it does, and what it says.
func Ask(m api.Manager, s *store.Store, l api.TxLog, r api.Request) (api.Manager, api.TxLog, []api.Msg, api.Errno) {
	a, err := begin(m, s, l)
	switch {
	case err != api.OK:
		return a.end(err, nil)
	case CheckRequest(r) != api.OK:
		return a.end(api.ErrRequest, nil)
	case !leads(a.Manager, a.Now):
		return a.end(api.ErrLate, nil)
	}
	does := map[int]func(r api.Request) api.Errno{
		api.ReqSubmit:  a.submit,
		api.ReqCancel:  a.cancel,
		api.ReqStop:    a.stop,
		api.ReqSave:    a.save,
		api.ReqRelease: a.release,
		api.ReqRescale: a.rescale,
	}
	if err := does[r.Kind](r); err != api.OK {
		return a.end(err, nil)
	}
	return a.end(api.OK, a.said())
}

// slotsInAll tells how many slots the workers on the floor have.
func (a *acting) slotsInAll() (n int) {
	for _, w := range a.Floor.Workers {
		n += w.Slots
	}
	return n
}

// set begins an attempt of a job that was just submitted or rescaled, from a counter on.
func (a *acting) set(j api.Job, attempt int, counter uint64) {
	a.Job, a.Attempt = j, attempt
	if !a.keep() {
		return
	}
	a.Coord, _ = coord.New(a.Lease.Epoch, a.tasks(), attempt)
	a.Coord.Counter = counter
	a.Last = a.Now
	a.lay()
}

func (a *acting) submit(r api.Request) api.Errno {
	j, err := job.Do(a.Job, api.JobSubmit)
	if err != api.OK {
		return err
	}
	if _, err := graph.Check(r.Graph); err != api.OK {
		return err
	}
	if a.slotsInAll() < graph.Subtasks(r.Graph) {
		return api.ErrFull
	}
	if err := a.store.SetJob(a.Lease.Epoch, r.Graph, r.Inputs); err != api.OK {
		return err
	}
	a.set(j, 2, 0)
	return api.OK
}

// ask lets something that is asked happen to the job, and stores the state.
func (a *acting) ask(happening int) (bool, api.Errno) {
	j, err := job.Do(a.Job, happening)
	if err != api.OK {
		return false, err
	}
	a.Job = j
	return a.keep(), api.OK
}

func (a *acting) cancel(api.Request) api.Errno {
	stays, err := a.ask(api.JobCancel)
	if stays {
		a.abort()
	}
	return err
}

func (a *acting) stop(api.Request) api.Errno {
	_, err := a.ask(api.JobStop)
	return err
}

func (a *acting) save(api.Request) api.Errno {
	if a.Job.State != api.JobRunning {
		return api.ErrState
	}
	next, _, err := coord.Trigger(a.Coord, a.Now, true)
	if err != api.OK {
		return err
	}
	a.Coord, a.Last = next, a.Now
	return api.OK
}

func (a *acting) release(r api.Request) api.Errno {
	return a.store.Release(a.Lease.Epoch, r.Number)
}

func (a *acting) rescale(r api.Request) api.Errno {
	if a.Job.State != api.JobStopped {
		return api.ErrState
	}
	total := 0
	for _, w := range r.Widths {
		total += w
	}
	counter := a.Coord.Counter + 1
	if a.Attempt == api.MaxAttempt || counter > api.MaxCounter || a.slotsInAll() < total {
		return api.ErrFull
	}
	if err := a.store.Rescale(r.Number, coord.Number(a.Lease.Epoch, counter), r.Widths); err != api.OK {
		return err
	}
	a.empty()
	a.set(submitted(), a.Attempt+1, counter)
	return api.OK
}
