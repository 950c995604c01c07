package link_test

import (
	"math"
	"math/rand"
	"slices"
	"testing"

	"headrace/api"
	"headrace/link"
)

func elem(value int64) api.Elem {
	return api.Elem{Kind: api.ElRecord, Record: api.Record{Source: 1, Key: 2, Value: value}}
}

var (
	end = api.Elem{Kind: api.ElEnd}
	bar = api.Elem{Kind: api.ElBarrier, Number: 3}
	bad = api.Elem{Kind: api.ElEnd, Number: 1}
)

func elems(n int) (l []api.Elem) {
	for i := range n {
		l = append(l, elem(int64(i)))
	}
	return l
}

func sender(base uint64, limit uint64, ended bool, queue ...api.Elem) api.Sender {
	return api.Sender{Session: 7, Base: base, Queue: queue, Limit: limit, Ended: ended}
}

func receiver(next uint64, room int, buffer ...api.Elem) api.Receiver {
	return api.Receiver{Session: 7, Next: next, Buffer: buffer, Room: room}
}

func ack(seq, limit uint64) api.Packet {
	return api.Packet{Kind: api.PkAck, Session: 7, Seq: seq, Limit: limit}
}

func data(seq uint64, e api.Elem) api.Packet {
	return api.Packet{Kind: api.PkData, Session: 7, Seq: seq, Elem: e}
}

func zeroSender(s api.Sender) bool     { return link.SameSender(s, api.Sender{}) }
func zeroReceiver(r api.Receiver) bool { return link.SameReceiver(r, api.Receiver{}) }

// P14.1: CheckSender; all calls refuse what may not be ahead of all else.
func TestCheckSender(t *testing.T) {
	for _, s := range []api.Sender{
		sender(1, 0, false), sender(1, 0, true), sender(api.MaxNumber, api.MaxNumber, true, end),
		sender(1, 9, false, elems(8)...), sender(5, 1, true, elem(1), bar, end), sender(api.MaxNumber, 0, false, elem(1)),
		sender(api.MaxNumber-7, 0, false, elems(8)...), {Session: api.MaxSession, Base: 1},
	} {
		if err := link.CheckSender(s); err != api.OK {
			t.Errorf("CheckSender(%v): %d", s, err)
		}
	}
	for _, s := range []api.Sender{
		{}, sender(1, 0, false, end), {Session: 0, Base: 1}, {Session: api.MaxSession + 1, Base: 1}, sender(0, 0, false), sender(api.MaxNumber+1, 0, false), sender(math.MaxUint64, 0, false),
		sender(1, 0, false, elems(9)...), sender(1, 0, false, bad), sender(1, 0, false, api.Elem{}), sender(1, 0, true, end, elem(1)), sender(1, 0, true, end, end),
		sender(api.MaxNumber, 0, false, elems(2)...), sender(api.MaxNumber-6, 0, false, elems(8)...), sender(1, api.MaxNumber+1, false), sender(math.MaxUint64-2, 0, false, elems(8)...),
	} {
		if err := link.CheckSender(s); err != api.ErrLink {
			t.Errorf("CheckSender(%v): %d", s, err)
		}
		a, err := link.Put(s, bad)
		l, err2 := link.Send(s)
		b, err3 := link.Acked(s, api.Packet{})
		if err != api.ErrLink || err2 != api.ErrLink || err3 != api.ErrLink || !zeroSender(a) || len(l) > 0 || !zeroSender(b) {
			t.Errorf("of %v: %d %d %d", s, err, err2, err3)
		}
	}
}

// P14.1: CheckReceiver.
func TestCheckReceiver(t *testing.T) {
	for _, r := range []api.Receiver{
		receiver(1, 1), receiver(9, 8, elems(8)...), receiver(3, 2, bar, end), receiver(api.MaxNumber+1, 2, elem(1)), {Session: 1, Next: 5, Room: 3}, {Session: api.MaxSession, Next: 5, Room: 3},
	} {
		if err := link.CheckReceiver(r); err != api.OK {
			t.Errorf("CheckReceiver(%v): %d", r, err)
		}
	}
	for _, r := range []api.Receiver{
		{}, {Session: 0, Next: 1, Room: 1}, {Session: api.MaxSession + 1, Next: 1, Room: 1}, receiver(0, 1), receiver(api.MaxNumber+2, 1), receiver(1, 0), receiver(1, 9), receiver(1, -1),
		receiver(9, 1, elems(2)...), receiver(2, 2, elems(2)...), receiver(1, 1, elem(1)), receiver(9, 2, bad), receiver(9, 3, end, elem(1)),
	} {
		if err := link.CheckReceiver(r); err != api.ErrLink {
			t.Errorf("CheckReceiver(%v): %d", r, err)
		}
		a, err := link.Hear(r, api.Packet{})
		p, err2 := link.Ack(r)
		b, e, err3 := link.Take(r)
		if err != api.ErrLink || err2 != api.ErrLink || err3 != api.ErrLink || !zeroReceiver(a) || p != (api.Packet{}) || !zeroReceiver(b) || e != (api.Elem{}) {
			t.Errorf("of %v: %d %d %d", r, err, err2, err3)
		}
	}
}

// P14.1: SameSender, SameReceiver.
func TestSame(t *testing.T) {
	a := sender(3, 4, true, elem(1), end)
	for _, b := range []api.Sender{{}, sender(2, 4, true, elem(1), end), sender(3, 5, true, elem(1), end), sender(3, 4, false, elem(1), end), sender(3, 4, true, elem(2), end), sender(3, 4, true, elem(1)), {Session: 8, Base: 3, Queue: []api.Elem{elem(1), end}, Limit: 4, Ended: true}} {
		if link.SameSender(a, b) || !link.SameSender(b, b) {
			t.Errorf("SameSender: %v", b)
		}
	}
	c := receiver(3, 4, elem(1))
	for _, d := range []api.Receiver{{}, receiver(2, 4, elem(1)), receiver(3, 5, elem(1)), receiver(3, 4, elem(2)), receiver(3, 4), {Session: 8, Next: 3, Room: 4, Buffer: []api.Elem{elem(1)}}} {
		if link.SameReceiver(c, d) || !link.SameReceiver(d, d) {
			t.Errorf("SameReceiver: %v", d)
		}
	}
	if !link.SameSender(api.Sender{}, api.Sender{Queue: []api.Elem{}}) || !link.SameReceiver(api.Receiver{}, api.Receiver{Buffer: []api.Elem{}}) {
		t.Errorf("nil and empty")
	}
}

// P14.2: Open, Listen.
func TestOpen(t *testing.T) {
	for _, session := range []uint32{1, 7, api.MaxSession} {
		s, err := link.Open(session)
		if err != api.OK || !link.SameSender(s, api.Sender{Session: session, Base: 1}) {
			t.Errorf("Open(%d): %v %d", session, s, err)
		}
		for _, room := range []int{1, 8} {
			r, err := link.Listen(session, room)
			if err != api.OK || !link.SameReceiver(r, api.Receiver{Session: session, Next: 1, Room: room}) {
				t.Errorf("Listen(%d, %d): %v %d", session, room, r, err)
			}
		}
		for _, room := range []int{0, 9, -1, math.MaxInt} {
			if r, err := link.Listen(session, room); err != api.ErrArg || !zeroReceiver(r) {
				t.Errorf("Listen(%d, %d): %d", session, room, err)
			}
		}
	}
	for _, session := range []uint32{0, api.MaxSession + 1, math.MaxUint32} {
		if s, err := link.Open(session); err != api.ErrArg || !zeroSender(s) {
			t.Errorf("Open(%d): %d", session, err)
		}
		if r, err := link.Listen(session, 2); err != api.ErrArg || !zeroReceiver(r) {
			t.Errorf("Listen(%d): %d", session, err)
		}
	}
}

// The chapter's examples.
func TestExamples(t *testing.T) {
	s, _ := link.Open(7)
	r, _ := link.Listen(7, 2)
	for _, e := range []api.Elem{elem(1), elem(1), end} {
		var err api.Errno
		if s, err = link.Put(s, e); err != api.OK {
			t.Fatal(err)
		}
	}
	if l, err := link.Send(s); err != api.OK || len(l) != 0 {
		t.Errorf("Send: %v %d", l, err)
	}
	if x, err := link.Put(s, elem(1)); err != api.ErrOver || !zeroSender(x) {
		t.Errorf("Put behind the end: %d", err)
	}
	p, err := link.Ack(r)
	if err != api.OK || p != ack(1, 2) {
		t.Errorf("Ack: %v %d", p, err)
	}
	s, _ = link.Acked(s, p)
	sent, _ := link.Send(s)
	if !slices.Equal(sent, []api.Packet{data(1, elem(1)), data(2, elem(1))}) {
		t.Errorf("Send: %v", sent)
	}
	for i, want := range []uint64{1, 2, 2, 3} {
		r, err = link.Hear(r, sent[[]int{1, 0, 0, 1}[i]])
		if err != api.OK || r.Next != want {
			t.Errorf("Hear %d: %v %d", i, r, err)
		}
	}
	if p, _ := link.Ack(r); p != ack(3, 2) {
		t.Errorf("Ack: %v", p)
	}
	r, e, err := link.Take(r)
	if err != api.OK || e != elem(1) || len(r.Buffer) != 1 {
		t.Errorf("Take: %v %d", e, err)
	}
	if p, _ := link.Ack(r); p != ack(3, 3) {
		t.Errorf("Ack: %v", p)
	}
	if r, e, err := link.Take(receiver(1, 2)); err != api.ErrNone || e != (api.Elem{}) || !zeroReceiver(r) {
		t.Errorf("Take of nothing: %d", err)
	}
}

// P14.3: Put.
func TestPut(t *testing.T) {
	for _, r := range []struct {
		s   api.Sender
		e   api.Elem
		err api.Errno
	}{
		{sender(1, 0, true), bad, api.ErrElem},
		{sender(1, 0, true), elem(1), api.ErrOver},
		{sender(1, 0, true, append(elems(7), end)...), elem(1), api.ErrOver},
		{sender(1, 0, false, elems(8)...), elem(1), api.ErrFull},
		{sender(1, 0, false, elems(8)...), api.Elem{Kind: 9}, api.ErrElem},
		{sender(api.MaxNumber, 0, false, elem(1)), elem(1), api.ErrFull},
		{sender(api.MaxNumber-1, 0, false, elems(2)...), elem(1), api.ErrFull},
	} {
		if s, err := link.Put(r.s, r.e); err != r.err || !zeroSender(s) {
			t.Errorf("Put(%v, %v): %d", r.s, r.e, err)
		}
	}
	if s, err := link.Put(sender(api.MaxNumber-1, 0, false, elem(1)), end); err != api.OK || !link.SameSender(s, sender(api.MaxNumber-1, 0, true, elem(1), end)) {
		t.Errorf("Put of the last number: %v %d", s, err)
	}
	if s, err := link.Put(sender(2, 5, false, elems(7)...), bar); err != api.OK || !link.SameSender(s, sender(2, 5, false, append(elems(7), bar)...)) {
		t.Errorf("Put of a barrier: %v %d", s, err)
	}
}

// P14.3: Send.
func TestSend(t *testing.T) {
	for limit, want := range map[uint64]int{0: 0, 4: 0, 5: 1, 6: 2, 7: 3, 8: 3, api.MaxNumber: 3} {
		l, err := link.Send(sender(5, limit, false, elems(3)...))
		if err != api.OK || len(l) != want {
			t.Errorf("Send with the Limit %d: %v %d", limit, l, err)
		}
		for i, p := range l {
			if p != data(5+uint64(i), elem(int64(i))) {
				t.Errorf("packet %d: %v", i, p)
			}
		}
	}
}

// P14.3: Acked, and what changes nothing.
func TestAcked(t *testing.T) {
	s := sender(5, 6, true, elem(0), elem(1), end)
	for _, r := range []struct {
		p    api.Packet
		want api.Sender
	}{
		{ack(5, 9), sender(5, 9, true, elem(0), elem(1), end)},
		{ack(5, 2), s},
		{ack(6, 0), sender(6, 6, true, elem(1), end)},
		{ack(8, 7), sender(8, 7, true)},
		{ack(8, api.MaxNumber), sender(8, api.MaxNumber, true)},
		{ack(9, 9), s}, {ack(4, 9), s}, {ack(6, api.MaxNumber+1), s}, {ack(0, 9), s},
		{api.Packet{Kind: api.PkAck, Session: 8, Seq: 6, Limit: 9}, s},
		{api.Packet{Kind: api.PkData, Session: 7, Seq: 6, Limit: 9}, s},
		{api.Packet{Kind: 3, Session: 7, Seq: 6, Limit: 9}, s},
		{api.Packet{Kind: api.PkAck, Session: 7, Seq: 6, Limit: 9, Elem: end}, s},
		{data(6, elem(1)), s},
		{api.Packet{}, s},
	} {
		if got, err := link.Acked(s, r.p); err != api.OK || !link.SameSender(got, r.want) {
			t.Errorf("Acked(%v): %v %d", r.p, got, err)
		}
	}
	last := sender(api.MaxNumber, 0, false, elem(1))
	if got, err := link.Acked(last, ack(api.MaxNumber+1, 0)); err != api.OK || !link.SameSender(got, last) {
		t.Errorf("an ack of the last number: %v %d", got, err)
	}
	before := sender(api.MaxNumber-1, 0, false, elem(1))
	if got, err := link.Acked(before, ack(api.MaxNumber, 0)); err != api.OK || !link.SameSender(got, sender(api.MaxNumber, 0, false)) {
		t.Errorf("an ack of the one ahead: %v %d", got, err)
	}
}

// P14.4: Hear, and what changes nothing.
func TestHear(t *testing.T) {
	r := receiver(5, 2, elem(0))
	for _, x := range []struct {
		r    api.Receiver
		p    api.Packet
		want api.Receiver
	}{
		{r, data(5, bar), receiver(6, 2, elem(0), bar)},
		{r, data(5, end), receiver(6, 2, elem(0), end)},
		{r, data(4, bar), r}, {r, data(6, bar), r}, {r, data(5, bad), r}, {r, data(5, api.Elem{}), r}, {r, ack(5, 5), r}, {r, api.Packet{}, r},
		{r, api.Packet{Kind: api.PkData, Session: 8, Seq: 5, Elem: bar}, r},
		{r, api.Packet{Kind: api.PkAck, Session: 7, Seq: 5, Elem: bar}, r},
		{r, api.Packet{Kind: api.PkData, Session: 7, Seq: 5, Elem: bar, Limit: 1}, r},
		{receiver(5, 1, elem(0)), data(5, bar), receiver(5, 1, elem(0))},
		{receiver(5, 2, end), data(5, bar), receiver(5, 2, end)},
		{receiver(api.MaxNumber, 2), data(api.MaxNumber, bar), receiver(api.MaxNumber+1, 2, bar)},
		{receiver(api.MaxNumber+1, 2), data(api.MaxNumber+1, bar), receiver(api.MaxNumber+1, 2)},
	} {
		if got, err := link.Hear(x.r, x.p); err != api.OK || !link.SameReceiver(got, x.want) {
			t.Errorf("Hear(%v, %v): %v %d", x.r, x.p, got, err)
		}
	}
}

// P14.4: Ack, Take.
func TestAck(t *testing.T) {
	for _, x := range []struct {
		r    api.Receiver
		want api.Packet
	}{
		{receiver(1, 8), ack(1, 8)},
		{receiver(9, 8, elems(8)...), ack(9, 8)},
		{receiver(9, 8, elems(3)...), ack(9, 13)},
		{receiver(3, 2, end), ack(3, 3)},
		{receiver(api.MaxNumber-1, 8), ack(api.MaxNumber-1, api.MaxNumber)},
		{receiver(api.MaxNumber+1, 8), ack(api.MaxNumber+1, api.MaxNumber)},
	} {
		if p, err := link.Ack(x.r); err != api.OK || p != x.want {
			t.Errorf("Ack(%v): %v %d", x.r, p, err)
		}
	}
	r, e, err := link.Take(receiver(9, 3, elem(4), bar, end))
	if err != api.OK || e != elem(4) || !link.SameReceiver(r, receiver(9, 3, bar, end)) {
		t.Errorf("Take: %v %v %d", r, e, err)
	}
}

// R3: what is handed in stays as it was, the room behind its end, too.
func TestShares(t *testing.T) {
	room := append(make([]api.Elem, 0, 8), elems(2)...)
	s := api.Sender{Session: 7, Base: 1, Queue: room, Limit: 5}
	r := api.Receiver{Session: 7, Next: 3, Buffer: room, Room: 4}
	a, _ := link.Put(s, bar)
	b, _ := link.Acked(s, ack(2, 5))
	c, _ := link.Acked(s, ack(9, 5))
	d, _ := link.Hear(r, data(3, bar))
	e, _ := link.Hear(r, data(9, bar))
	f, _, _ := link.Take(r)
	for _, l := range [][]api.Elem{a.Queue, b.Queue, c.Queue, d.Buffer, e.Buffer, f.Buffer} {
		for i := range l {
			l[i] = api.Elem{Kind: 99}
		}
		_ = append(l, api.Elem{Kind: 98})
	}
	if !slices.Equal(room[:3], append(elems(2), api.Elem{})) {
		t.Errorf("changed: %v", room[:3])
	}
}

// P14.5: whatever is lost, doubled, late, what is taken is a beginning of what was put.
func TestFollows(t *testing.T) {
	rnd := rand.New(rand.NewSource(14))
	for range 100 {
		s, _ := link.Open(7)
		r, _ := link.Listen(7, 1+rnd.Intn(8))
		var put, taken []api.Elem
		var way []api.Packet
		for range 300 {
			switch rnd.Intn(6) {
			case 0:
				e := elem(int64(len(put)))
				if rnd.Intn(40) == 0 {
					e = end
				}
				if next, err := link.Put(s, e); err == api.OK {
					s, put = next, append(put, e)
				}
			case 1:
				l, _ := link.Send(s)
				if len(l) > r.Room-len(r.Buffer)+int(r.Next-s.Base) {
					t.Fatalf("%d sent, and no room: %v %v", len(l), s, r)
				}
				way = append(way, l...)
			case 2:
				p, _ := link.Ack(r)
				way = append(way, p)
			case 3:
				if next, e, err := link.Take(r); err == api.OK {
					r, taken = next, append(taken, e)
				}
			default:
				if len(way) == 0 {
					continue
				}
				i := rnd.Intn(len(way))
				p := way[i]
				if rnd.Intn(10) == 0 {
					p.Session = 8
				}
				if rnd.Intn(3) > 0 {
					way = slices.Delete(way, i, i+1)
				}
				if rnd.Intn(5) == 0 {
					continue
				}
				s, _ = link.Acked(s, p)
				r, _ = link.Hear(r, p)
			}
			out := slices.Concat(taken, r.Buffer)
			if link.CheckSender(s) != api.OK || link.CheckReceiver(r) != api.OK || len(out) > len(put) || !slices.Equal(out, put[:len(out)]) || s.Base > r.Next || r.Next > uint64(len(put)+1) {
				t.Fatalf("%v %v: put %v, taken %v", s, r, put, taken)
			}
		}
		// In each round all that is sent comes, in order, and its ack, and one is taken.
		p, _ := link.Ack(r)
		s, _ = link.Acked(s, p)
		for left := len(put) - len(taken); left > 0; left-- {
			l, _ := link.Send(s)
			for _, p := range l {
				r, _ = link.Hear(r, p)
			}
			p, _ := link.Ack(r)
			s, _ = link.Acked(s, p)
			next, e, err := link.Take(r)
			if err != api.OK {
				t.Fatalf("%d left, and nothing to take: %v %v", left, s, r)
			}
			r, taken = next, append(taken, e)
			p, _ = link.Ack(r)
			s, _ = link.Acked(s, p)
		}
		if !slices.Equal(taken, put) {
			t.Fatalf("put %v, taken %v", put, taken)
		}
	}
}
