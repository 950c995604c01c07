package task

import (
	"slices"

	"headrace/api"
	"headrace/gate"
	"headrace/keys"
	"headrace/plan"
	"headrace/sink"
	"headrace/table"
)

// doing is a task that goes on, with what there is room for, and the deed that it does.
type doing struct {
	api.Task
	op    api.Op
	at    api.Sub
	outs  []int
	rooms []int
	deed  api.Deed
}

// begin makes a task go on, if the rooms are those of its channels.
func begin(t api.Task, rooms []int) (*doing, bool) {
	at, _ := subOf(t.Graph, t.Sub)
	outs, _ := plan.Out(t.Graph, t.Sub)
	if len(rooms) != len(outs) || slices.ContainsFunc(rooms, func(n int) bool { return n < 0 }) {
		return nil, false
	}
	return &doing{Task: t, op: t.Graph.Ops[at.Op], at: at, outs: outs, rooms: slices.Clone(rooms)}, true
}

// end tells what has come of it, or an error alone.
func (d *doing) end(err api.Errno) (api.Task, api.Deed, api.Errno) {
	if err != api.OK {
		return api.Task{}, api.Deed{}, err
	}
	return own(d.Task), d.deed, api.OK
}

// route tells by which channels an element goes.
func (d *doing) route(e api.Elem) ([]int, api.Errno) {
	if e.Kind == api.ElRecord {
		return plan.Route(d.Graph, d.Sub, e.Record)
	}
	return d.outs, api.OK
}

// pass lays elements into all channels by which they go.
func (d *doing) pass(l ...api.Elem) api.Errno {
	for _, e := range l {
		channels, err := d.route(e)
		if err != api.OK {
			return err
		}
		for _, channel := range channels {
			i, _ := slices.BinarySearch(d.outs, channel)
			if d.rooms[i] == 0 {
				return api.ErrFull
			}
			d.rooms[i]--
			d.deed.Emits = append(d.deed.Emits, api.Emit{Channel: channel, Elem: e})
		}
	}
	return api.OK
}

// elems makes elements of records.
func elems(l []api.Record) (out []api.Elem) {
	for _, r := range l {
		out = append(out, api.Elem{Kind: api.ElRecord, Record: r})
	}
	return out
}

// goOn does with a record what the operator does, and passes on what comes of it.
func (d *doing) goOn(r api.Record) api.Errno {
	next, out, err := table.Do(d.op, d.Table, r)
	if err != api.OK {
		return err
	}
	d.Table = next
	return d.pass(elems(out)...)
}

// write writes what comes of a record.
func (d *doing) write(r api.Record) api.Errno {
	next, out, err := table.Do(d.op, d.Table, r)
	if err != api.OK {
		return err
	}
	d.Table = next
	for _, x := range out {
		k, acts, err := sink.Write(d.Sink, x)
		if err != api.OK {
			return err
		}
		d.Sink = k
		d.deed.Acts = append(d.deed.Acts, acts...)
	}
	return api.OK
}

// hear does what the operator's Tag says with a record that is told.
func (d *doing) hear(r api.Record) api.Errno {
	does := map[int]func(d *doing, r api.Record) api.Errno{
		api.OpMap:    (*doing).goOn,
		api.OpFilter: (*doing).goOn,
		api.OpReduce: (*doing).goOn,
		api.OpWindow: (*doing).goOn,
		api.OpUnion:  (*doing).goOn,
		api.OpSink:   (*doing).write,
	}
	if mine, err := plan.Has(d.Graph, d.Sub, r); err != api.OK || !mine {
		return api.ErrArg
	}
	return does[d.op.Tag](d, r)
}

// close lets a sink's transaction be ready.
func (d *doing) close() api.Errno {
	if d.op.Tag != api.OpSink {
		return api.OK
	}
	k, acts, _, err := sink.Barrier(d.Sink)
	if err != api.OK {
		return err
	}
	d.Sink, d.deed.Acts = k, acts
	return api.OK
}

// answer answers a barrier.
func (d *doing) answer(number uint64) api.Errno {
	if err := d.close(); err != api.OK {
		return err
	}
	if err := d.pass(api.Elem{Kind: api.ElBarrier, Number: number}); err != api.OK {
		return err
	}
	d.tell(number)
	return api.OK
}

// tell tells the snapshot as it is behind a barrier.
func (d *doing) tell(number uint64) {
	d.Done = number
	d.deed.Number, d.deed.Snap = number, snapshot(d.Task)
}

// finish ends the task.
func (d *doing) finish() api.Errno {
	if err := d.close(); err != api.OK {
		return err
	}
	d.Ended, d.deed.Ended = true, true
	return d.pass(api.Elem{Kind: api.ElEnd})
}

// read passes on a source's next record, or the end.
func (d *doing) read() api.Errno {
	r, _, left, err := keys.Next(d.Input, d.Offsets, d.at.Index, d.op.Width)
	switch {
	case err != api.OK:
		return err
	case !left:
		return d.finish()
	}
	d.Offsets, _ = keys.Read(d.Input, d.Offsets, d.at.Index, d.op.Width)
	return d.pass(elems([]api.Record{r})...)
}

// take takes from a queue, and does what that lets be told.
func (d *doing) take(queue int) api.Errno {
	g, e, told, err := gate.Take(d.Gate, queue)
	if err != api.OK {
		return err
	}
	d.Gate = g
	switch {
	case !told:
		return api.OK
	case e.Kind == api.ElRecord:
		return d.hear(e.Record)
	case e.Kind == api.ElBarrier:
		return d.answer(e.Number)
	}
	return d.finish()
}

// Step tells the task behind what it takes from a queue, and its deed.
func Step(t api.Task, queue int, rooms []int) (api.Task, api.Deed, api.Errno) {
	if err := Check(t); err != api.OK {
		return api.Task{}, api.Deed{}, err
	}
	d, ok := begin(t, rooms)
	if !ok || !slices.Contains(Choices(t), queue) {
		return api.Task{}, api.Deed{}, api.ErrArg
	}
	if d.op.Tag == api.OpSource {
		return d.end(d.read())
	}
	return d.end(d.take(queue))
}

// Trigger tells the source behind a barrier that begins there, and its deed; of a task that has ended the last snapshot.
func Trigger(t api.Task, number uint64, rooms []int) (api.Task, api.Deed, api.Errno) {
	if err := Check(t); err != api.OK {
		return api.Task{}, api.Deed{}, err
	}
	d, ok := begin(t, rooms)
	switch {
	case !ok || number < 1 || number > api.MaxNumber:
		return d.end(api.ErrArg)
	case number <= t.Done:
		return d.end(api.ErrThere)
	case t.Ended:
		d.tell(number)
		return d.end(api.OK)
	case d.op.Tag == api.OpSource:
		return d.end(d.answer(number))
	}
	return d.end(api.ErrNone)
}
