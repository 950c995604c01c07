package gate_test

import (
	"math"
	"math/rand"
	"slices"
	"testing"

	"headrace/api"
	"headrace/gate"
)

func elem(value int64) api.Elem {
	return api.Elem{Kind: api.ElRecord, Record: api.Record{Value: value}}
}

func bar(n uint64) api.Elem { return api.Elem{Kind: api.ElBarrier, Number: n} }

var end = api.Elem{Kind: api.ElEnd}

func queue(last uint64, l ...api.Elem) api.Queue { return api.Queue{Elems: l, Last: last} }

func gateOf(number, done uint64, l ...api.Queue) api.Gate {
	return api.Gate{Queues: l, Number: number, Done: done}
}

var (
	heldQueue  = api.Queue{Held: true, Last: 5}
	endedQueue = api.Queue{Ended: true}
	wrong      = []api.Gate{
		{}, gateOf(0, 0, make([]api.Queue, 17)...),
		gateOf(0, 0, queue(0, elem(0), elem(0), elem(0), elem(0), elem(0))),
		gateOf(0, 0, queue(api.MaxNumber+1)), gateOf(0, api.MaxNumber+1, queue(0)), gateOf(api.MaxNumber+1, 0, heldQueue, queue(0)),
		gateOf(0, 0, queue(0, api.Elem{})), gateOf(0, 0, queue(0, bar(0))),
		gateOf(0, 0, queue(3, bar(4))), gateOf(0, 0, queue(5, bar(4), elem(0), bar(4))), gateOf(0, 0, queue(5, bar(4), bar(3))),
		gateOf(0, 0, queue(0, end, elem(0))), gateOf(0, 0, queue(0, end, end)),
		gateOf(0, 0, api.Queue{Ended: true, Elems: []api.Elem{elem(0)}}), gateOf(5, 0, api.Queue{Ended: true, Held: true}, queue(0)),
		gateOf(0, 0, heldQueue, queue(0)), gateOf(5, 0, queue(0), queue(0)), gateOf(5, 0, heldQueue), gateOf(5, 0, heldQueue, heldQueue), gateOf(5, 0, heldQueue, endedQueue),
		gateOf(5, 5, heldQueue, queue(0)), gateOf(5, 6, heldQueue, queue(0)),
	}
)

// P15.1: Check; what may not be is refused ahead of all else.
func TestCheck(t *testing.T) {
	for _, g := range []api.Gate{
		gateOf(0, 0, queue(0)), gateOf(0, api.MaxNumber, make([]api.Queue, 16)...), gateOf(5, 4, heldQueue, queue(0), endedQueue),
		gateOf(api.MaxNumber, 0, heldQueue, queue(api.MaxNumber, bar(2), bar(api.MaxNumber), elem(1), end)),
		gateOf(0, 0, endedQueue, endedQueue), gateOf(0, 7, queue(9, bar(4))), gateOf(5, 0, api.Queue{Held: true, Last: 7, Elems: []api.Elem{bar(6), bar(7), end}}, queue(0)),
	} {
		if err := gate.Check(g); err != api.OK {
			t.Errorf("Check(%v): %d", g, err)
		}
	}
	for _, g := range wrong {
		if err := gate.Check(g); err != api.ErrGate {
			t.Errorf("Check(%v): %d", g, err)
		}
		a, err := gate.Push(g, 99, api.Elem{})
		b, e, ok, err2 := gate.Take(g, 99)
		if err != api.ErrGate || err2 != api.ErrGate || !gate.Same(a, api.Gate{}) || !gate.Same(b, api.Gate{}) || e != (api.Elem{}) || ok {
			t.Errorf("of %v: %d %d", g, err, err2)
		}
		if len(gate.Open(g)) > 0 || gate.Room(g, 0) != 0 || gate.Over(g) || gate.Full(g) != 0 {
			t.Errorf("told of %v", g)
		}
	}
}

// P15.1: Same, New.
func TestNew(t *testing.T) {
	for _, n := range []int{1, 16} {
		if g, err := gate.New(n); err != api.OK || !gate.Same(g, gateOf(0, 0, make([]api.Queue, n)...)) || gate.Check(g) != api.OK {
			t.Errorf("New(%d): %v %d", n, g, err)
		}
	}
	for _, n := range []int{0, 17, -1, math.MaxInt, math.MinInt} {
		if g, err := gate.New(n); err != api.ErrArg || len(g.Queues) > 0 {
			t.Errorf("New(%d): %d", n, err)
		}
	}
	a := gateOf(5, 4, heldQueue, queue(3, elem(1)))
	for _, b := range []api.Gate{gateOf(6, 4, heldQueue, queue(3, elem(1))), gateOf(5, 3, heldQueue, queue(3, elem(1))), gateOf(5, 4, heldQueue), gateOf(5, 4, heldQueue, queue(2, elem(1))), gateOf(5, 4, heldQueue, queue(3, elem(2))), gateOf(5, 4, heldQueue, queue(3)), gateOf(5, 4, queue(5), queue(3, elem(1))), gateOf(5, 4, heldQueue, api.Queue{Last: 3, Elems: []api.Elem{elem(1)}, Ended: true})} {
		if gate.Same(a, b) || !gate.Same(b, b) {
			t.Errorf("Same: %v", b)
		}
	}
	if !gate.Same(api.Gate{}, api.Gate{Queues: []api.Queue{}}) || !gate.Same(gateOf(0, 0, queue(0)), gateOf(0, 0, api.Queue{Elems: []api.Elem{}})) {
		t.Errorf("nil and empty")
	}
}

// step is a call, and what it answers.
type step struct {
	push  bool
	queue int
	elem  api.Elem
	err   api.Errno
	told  api.Elem
	open  []int
}

func push(queue int, e api.Elem, err api.Errno, open ...int) step {
	return step{push: true, queue: queue, elem: e, err: err, open: open}
}

func take(queue int, told api.Elem, open ...int) step {
	return step{queue: queue, told: told, open: open}
}

func play(t *testing.T, name string, g api.Gate, steps ...step) api.Gate {
	t.Helper()
	for i, s := range steps {
		var next api.Gate
		var told api.Elem
		var ok bool
		var err api.Errno
		if s.push {
			next, err = gate.Push(g, s.queue, s.elem)
		} else {
			next, told, ok, err = gate.Take(g, s.queue)
		}
		if err != s.err || told != s.told || ok != (told != (api.Elem{})) || err != api.OK && !gate.Same(next, api.Gate{}) {
			t.Errorf("%s, step %d: %v %v %d", name, i, told, ok, err)
		}
		if err == api.OK {
			g = next
		}
		if gate.Check(g) != api.OK || !slices.Equal(gate.Open(g), s.open) {
			t.Errorf("%s, step %d: %v, open %v", name, i, g, gate.Open(g))
		}
	}
	return g
}

// The chapter's examples.
func TestExamples(t *testing.T) {
	x := elem(1)
	none := api.Elem{}
	g, _ := gate.New(2)
	g = play(t, "examples", g,
		push(0, bar(3), api.OK, 0), push(0, x, api.OK, 0), push(1, x, api.OK, 0, 1),
		take(0, none, 1), take(1, x),
		push(1, bar(3), api.OK, 1), take(1, bar(3), 0),
		push(0, bar(3), api.ErrArg, 0), push(1, end, api.OK, 0, 1), take(1, none, 0), push(1, x, api.ErrArg, 0))
	if !gate.Same(g, gateOf(0, 3, queue(3, x), api.Queue{Last: 3, Ended: true})) {
		t.Errorf("the gate: %v", g)
	}
}

// P15.2: what Push refuses, and with which error first.
func TestPush(t *testing.T) {
	x := elem(1)
	g := gateOf(0, 0, queue(5, x, x, x, bar(5)), queue(0, x, x, x, end), endedQueue, queue(4))
	play(t, "push", g,
		push(4, api.Elem{}, api.ErrArg, 0, 1), push(-1, x, api.ErrArg, 0, 1), push(math.MaxInt, x, api.ErrArg, 0, 1),
		push(0, api.Elem{}, api.ErrElem, 0, 1), push(1, bar(0), api.ErrElem, 0, 1), push(2, api.Elem{Kind: 9}, api.ErrElem, 0, 1),
		push(1, x, api.ErrArg, 0, 1), push(2, x, api.ErrArg, 0, 1), push(2, end, api.ErrArg, 0, 1), push(0, bar(5), api.ErrArg, 0, 1), push(0, bar(4), api.ErrArg, 0, 1),
		push(0, bar(6), api.ErrFull, 0, 1), push(0, x, api.ErrFull, 0, 1), push(0, end, api.ErrFull, 0, 1),
		push(3, bar(4), api.ErrArg, 0, 1), push(3, bar(5), api.OK, 0, 1, 3), push(3, end, api.OK, 0, 1, 3), push(3, x, api.ErrArg, 0, 1, 3))
	next, err := gate.Push(g, 3, bar(9))
	if err != api.OK || !gate.Same(next, gateOf(0, 0, queue(5, x, x, x, bar(5)), queue(0, x, x, x, end), endedQueue, queue(9, bar(9)))) {
		t.Errorf("Push: %v %d", next, err)
	}
}

// P15.3: what Take refuses.
func TestTakeRefuses(t *testing.T) {
	g := gateOf(5, 0, api.Queue{Held: true, Last: 5, Elems: []api.Elem{elem(1)}}, queue(0), endedQueue)
	for _, n := range []int{0, 1, 2, 3, -1, math.MaxInt, math.MinInt} {
		if next, e, ok, err := gate.Take(g, n); err != api.ErrArg || ok || e != (api.Elem{}) || len(next.Queues) > 0 {
			t.Errorf("Take(%d): %d", n, err)
		}
	}
}

// P15.3, Words: barriers that come too late, that take the place of others, that meet ends.
func TestBarriers(t *testing.T) {
	x, none := elem(1), api.Elem{}
	g, _ := gate.New(3)
	play(t, "given up", g,
		push(0, bar(3), api.OK, 0), take(0, none), push(1, bar(3), api.OK, 1), take(1, none),
		push(0, x, api.OK), push(2, bar(4), api.OK, 2), take(2, none, 0), // 4 takes the place of 3
		take(0, x), push(0, bar(4), api.OK, 0), take(0, none), push(1, bar(4), api.OK, 1), take(1, bar(4)),
		push(2, bar(5), api.OK, 2), take(2, none), push(0, bar(6), api.OK, 0), take(0, none), push(1, bar(6), api.OK, 1), take(1, none), push(2, bar(6), api.OK, 2), take(2, bar(6)))
	play(t, "passed over", gateOf(5, 4, heldQueue, queue(4, bar(3), bar(4)), queue(0)),
		take(1, none, 1), take(1, none), push(1, bar(5), api.OK, 1), push(2, end, api.OK, 1, 2), take(1, none, 2), take(2, bar(5)))
	play(t, "below Done", gateOf(0, 7, queue(8, bar(7), bar(8))), take(0, none, 0), take(0, bar(8)))
	play(t, "below Number", gateOf(5, 0, heldQueue, queue(4, bar(4), x)), take(1, none, 1), take(1, x))
	play(t, "one queue", gateOf(0, 0, queue(0)), push(0, bar(1), api.OK, 0), push(0, bar(2), api.OK, 0), take(0, bar(1), 0), take(0, bar(2)), push(0, end, api.OK, 0), take(0, end))
	ended := play(t, "ends", gateOf(0, 0, queue(0), queue(0)),
		push(0, bar(2), api.OK, 0), push(0, end, api.OK, 0), push(1, end, api.OK, 0, 1),
		take(0, none, 1), take(1, bar(2), 0), take(0, end))
	if !gate.Over(ended) || gate.Full(ended) != 0 || gate.Room(ended, 0) != 0 {
		t.Errorf("over: %v", ended)
	}
	// A queue that has ended counts as held; one that ends is not waited for.
	play(t, "an end first", gateOf(0, 0, queue(0), queue(0)),
		push(1, end, api.OK, 1), take(1, none), push(0, bar(2), api.OK, 0), take(0, bar(2)))
	g = play(t, "what was waited for is given up by one alone", gateOf(0, 0, queue(0), endedQueue),
		push(0, bar(2), api.OK, 0), take(0, bar(2)))
	if !gate.Same(g, gateOf(0, 2, queue(2), endedQueue)) {
		t.Errorf("behind it: %v", g)
	}
}

// P15.4: Room, Over, Full.
func TestTold(t *testing.T) {
	x := elem(1)
	g := gateOf(0, 0, queue(0), queue(5, x, x, bar(5)), queue(0, x, x, x, x), queue(0, x, end), endedQueue)
	for i, want := range []int{4, 1, 0, 0, 0} {
		if got := gate.Room(g, i); got != want {
			t.Errorf("Room(%d): %d", i, got)
		}
	}
	for _, i := range []int{-1, 5, math.MaxInt, math.MinInt} {
		if got := gate.Room(g, i); got != 0 {
			t.Errorf("Room(%d): %d", i, got)
		}
	}
	if gate.Full(g) != 9 || gate.Over(g) || !gate.Over(gateOf(0, 0, endedQueue, endedQueue)) {
		t.Errorf("Full: %d", gate.Full(g))
	}
}

// R3: what is handed in stays as it was, the room behind its end, too.
func TestShares(t *testing.T) {
	room := append(make([]api.Elem, 0, 8), elem(1), bar(5))
	g := api.Gate{Queues: []api.Queue{{Elems: room, Last: 5}, {Elems: room, Last: 5}}}
	was := gateOf(0, 0, queue(5, elem(1), bar(5)), queue(5, elem(1), bar(5)))
	a, _ := gate.Push(g, 0, end)
	b, _, _, _ := gate.Take(g, 1)
	for _, x := range []api.Gate{a, b} {
		for i := range x.Queues {
			x.Queues[i].Held = true
			for j := range x.Queues[i].Elems {
				x.Queues[i].Elems[j].Kind = 99
			}
		}
	}
	if !gate.Same(g, was) || room[:3][2] != (api.Elem{}) {
		t.Errorf("changed: %v", g)
	}
	a, _ = gate.Push(g, 0, elem(7))
	b, _ = gate.Push(a, 0, elem(8))
	c, _ := gate.Push(a, 0, elem(9))
	if b.Queues[0].Elems[3] != elem(8) || c.Queues[0].Elems[3] != elem(9) {
		t.Errorf("two answers share: %v %v", b, c)
	}
}

// P15.5: what is told is what came ahead, in order.
func TestFollows(t *testing.T) {
	rnd := rand.New(rand.NewSource(15))
	for range 300 {
		n := 1 + rnd.Intn(4)
		g, _ := gate.New(n)
		came := make([][]api.Elem, n) // by queue, all that came
		told := make([]int, n)        // by queue, how many records were told
		over := false
		var last, number uint64
		for range 200 {
			i := rnd.Intn(n)
			if rnd.Intn(2) > 0 {
				e := elem(int64(len(came[i])*10 + i))
				switch rnd.Intn(40) {
				case 0:
					e = end
				case 1, 2, 3, 4, 5, 6, 7, 8:
					number += uint64(rnd.Intn(2))
					e = bar(1 + number)
				}
				if next, err := gate.Push(g, i, e); err == api.OK {
					g, came[i] = next, append(came[i], e)
				}
				continue
			}
			open := gate.Open(g)
			if gate.Full(g) > 0 && len(open) == 0 {
				waits := slices.ContainsFunc(g.Queues, func(q api.Queue) bool { return !q.Held && !q.Ended && len(q.Elems) == 0 })
				if g.Number == 0 || !waits {
					t.Fatalf("nothing is readable: %v", g)
				}
			}
			if len(open) == 0 {
				continue
			}
			i = open[rnd.Intn(len(open))]
			next, e, ok, err := gate.Take(g, i)
			if err != api.OK || over || gate.Check(next) != api.OK {
				t.Fatalf("Take(%d) of %v: %d", i, g, err)
			}
			g = next
			switch {
			case !ok:
			case e.Kind == api.ElRecord:
				told[i]++
				if e != records(came[i])[told[i]-1] {
					t.Fatalf("told %v of %v", e, came[i])
				}
			case e.Kind == api.ElBarrier:
				if e.Number <= last || g.Done != e.Number {
					t.Fatalf("told the barrier %d behind %d", e.Number, last)
				}
				last = e.Number
				for j, l := range came {
					if ahead := slices.Index(l, e); told[j] != len(records(l[:max(ahead, 0)])) && !g.Queues[j].Ended || ahead < 0 && !g.Queues[j].Ended {
						t.Fatalf("barrier %d: %d told of %v", e.Number, told[j], l)
					}
					if g.Queues[j].Ended && told[j] != len(records(l)) {
						t.Fatalf("barrier %d: %d told of %v, which has ended", e.Number, told[j], l)
					}
				}
			default:
				over = true
			}
			if over != gate.Over(g) {
				t.Fatalf("over: %v", g)
			}
		}
	}
}

// records tells the records of a row.
func records(l []api.Elem) []api.Elem {
	return slices.DeleteFunc(slices.Clone(l), func(e api.Elem) bool { return e.Kind != api.ElRecord })
}
