package frame

import (
	"headrace/api"
	"headrace/graph"
	"headrace/octet"
	"headrace/record"
	"headrace/snap"
	"headrace/sum"
)

// writer lays a message that may be as bytes.
type writer struct {
	m   api.Msg
	out []byte
}

func (w *writer) put8(l ...int) {
	for _, x := range l {
		w.out = append(w.out, byte(x))
	}
}

func (w *writer) put32(x int)    { w.out = append(w.out, octet.Put32(nil, uint32(x))...) }
func (w *writer) put64(x uint64) { w.out = append(w.out, octet.Put64(nil, x)...) }

// sized lays bytes, and ahead of them how many they are.
func (w *writer) sized(b []byte) {
	w.out = append(append(w.out, octet.Put16(nil, uint16(len(b)))...), b...)
}

// row lays records as a row of elements.
func (w *writer) row(l ...api.Record) {
	var elems []api.Elem
	for _, r := range l {
		elems = append(elems, api.Elem{Kind: api.ElRecord, Record: r})
	}
	b, _ := record.Encode(elems)
	w.sized(b)
}

func (w *writer) snap() {
	b, _ := snap.Encode(w.m.Snap)
	w.out = append(w.out, b...)
}

func (w *writer) deploy() {
	b, _ := graph.Encode(w.m.Laid.Work.Graph)
	w.sized(b)
	w.put8(len(w.m.Laid.Work.Inputs))
	for _, x := range w.m.Laid.Work.Inputs {
		w.put8(x.Source)
		w.row(x.Records...)
	}
	w.put8(len(w.m.Laid.Places))
	for _, p := range w.m.Laid.Places {
		w.put8(p.Task, p.Worker)
	}
	w.snap()
}

func (w *writer) nothing() {}

func (w *writer) trigger() { w.put64(w.m.Number) }

func (w *writer) told() {
	w.put8(len(w.m.Names))
	for _, n := range w.m.Names {
		w.put8(n.Sink)
		w.put32(n.Attempt)
		w.put32(n.Serial)
	}
}

func (w *writer) ack() {
	w.put64(w.m.Number)
	w.snap()
}

func (w *writer) beat() {
	for _, l := range [][]int{w.m.Up, w.m.Ended} {
		w.put8(len(l))
		w.put8(l...)
	}
}

func (w *writer) data() {
	p := w.m.Packet
	w.put8(p.Kind)
	w.put32(int(p.Session))
	w.put64(p.Seq)
	w.put64(p.Limit)
	if p.Kind == api.PkAck {
		w.sized(nil)
		return
	}
	b, _ := record.Encode([]api.Elem{p.Elem})
	w.sized(b)
}

// lay tells the bytes of a message that may be, without their sum.
func lay(m api.Msg) []byte {
	w := &writer{m: m}
	w.put8(m.Kind, m.From, m.To, m.Task)
	w.put64(m.Epoch)
	w.put32(m.Attempt)
	kinds := map[int]func(){
		api.MsgDeploy:  w.deploy,
		api.MsgCancel:  w.nothing,
		api.MsgTrigger: w.trigger,
		api.MsgTold:    w.told,
		api.MsgAck:     w.ack,
		api.MsgBeat:    w.beat,
		api.MsgFell:    w.nothing,
		api.MsgData:    w.data,
	}
	kinds[m.Kind]()
	return w.out
}

// Encode tells a message's bytes.
func Encode(m api.Msg) ([]byte, api.Errno) {
	if err := Check(m); err != api.OK {
		return nil, err
	}
	return sum.Seal32(lay(m)), api.OK
}

// reader reads a message; what it reads is asked when all of it is there.
type reader struct {
	*octet.Reader
	m api.Msg
}

// list reads how many there are of something, and these.
func list[T any](r *reader, one func() T) (out []T) {
	for n := int(r.U8()); n > 0 && r.Err() == api.OK; n-- {
		out = append(out, one())
	}
	return out
}

func (r *reader) small() int { return int(r.U8()) }

// sized reads bytes that stand behind how many they are.
func (r *reader) sized() []byte { return r.Raw(int(r.U16())) }

// row reads a row of elements; what is none is no row.
func (r *reader) row() []api.Elem {
	l, _ := record.Decode(r.sized())
	return l
}

func (r *reader) input() api.Input {
	x := api.Input{Source: r.small()}
	for _, e := range r.row() {
		x.Records = append(x.Records, e.Record)
	}
	return x
}

func (r *reader) place() api.Place { return api.Place{Task: r.small(), Worker: r.small()} }

func (r *reader) name() api.TxName {
	return api.TxName{Sink: r.small(), Attempt: int(r.U32()), Serial: int(r.U32())}
}

func (r *reader) snap() { r.m.Snap, _ = snap.Decode(r.Raw(r.Left())) }

func (r *reader) deploy() {
	r.m.Laid.Work.Graph, _ = graph.Decode(r.sized())
	r.m.Laid.Work.Inputs = list(r, r.input)
	r.m.Laid.Places = list(r, r.place)
	r.snap()
}

func (r *reader) nothing() {}

func (r *reader) trigger() { r.m.Number = r.U64() }

func (r *reader) told() { r.m.Names = list(r, r.name) }

func (r *reader) ack() {
	r.m.Number = r.U64()
	r.snap()
}

func (r *reader) beat() { r.m.Up, r.m.Ended = list(r, r.small), list(r, r.small) }

func (r *reader) data() {
	r.m.Packet = api.Packet{Kind: r.small(), Session: r.U32(), Seq: r.U64(), Limit: r.U64()}
	if l := r.row(); len(l) == 1 {
		r.m.Packet.Elem = l[0]
	}
}

// read reads what may be a message; whether it is one is still to be asked.
func (r *reader) read() api.Msg {
	r.m = api.Msg{Kind: r.small(), From: r.small(), To: r.small(), Task: r.small(), Epoch: r.U64(), Attempt: int(r.U32())}
	kinds := map[int]func(){
		api.MsgDeploy:  r.deploy,
		api.MsgCancel:  r.nothing,
		api.MsgTrigger: r.trigger,
		api.MsgTold:    r.told,
		api.MsgAck:     r.ack,
		api.MsgBeat:    r.beat,
		api.MsgFell:    r.nothing,
		api.MsgData:    r.data,
	}
	if what, ok := kinds[r.m.Kind]; ok {
		what()
	}
	return r.m
}

// Decode tells the message that the bytes are of.
func Decode(b []byte) (api.Msg, api.Errno) {
	body, err := sum.Open32(b)
	if err != api.OK {
		return api.Msg{}, api.ErrFrame
	}
	r := &reader{Reader: octet.Read(body)}
	m := r.read()
	// What was read wrongly is laid otherwise: only the very bytes are the message's.
	if Check(m) != api.OK || !octet.Equal(lay(m), body) {
		return api.Msg{}, api.ErrFrame
	}
	return m, api.OK
}
