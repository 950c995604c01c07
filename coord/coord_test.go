package coord_test

import (
	"bytes"
	"math"
	"math/rand"
	"slices"
	"testing"

	"headrace/api"
	"headrace/coord"
)

func ack(task int, b ...byte) api.Ack { return api.Ack{Task: task, Bytes: b} }

func pending(counter uint64, begun int64, acks ...api.Ack) api.Pending {
	return api.Pending{Number: 3<<31 + counter, Begun: begun, Acks: acks}
}

// of makes a coordinator of the epoch 3, of two subtasks, of the attempt 5.
func of(counter uint64, l ...api.Pending) api.Coord {
	return api.Coord{Epoch: 3, Counter: counter, Tasks: 2, Attempt: 5, Span: 10, Pendings: l}
}

func with(c api.Coord, change func(c *api.Coord)) api.Coord {
	c.Pendings = slices.Clone(c.Pendings)
	change(&c)
	return c
}

func zero(c api.Coord) bool { return coord.Same(c, api.Coord{}) }

var wrong = []api.Coord{
	{}, with(of(0), func(c *api.Coord) { c.Epoch = 0 }), with(of(0), func(c *api.Coord) { c.Epoch = api.MaxEpoch + 1 }), with(of(0), func(c *api.Coord) { c.Counter = api.MaxCounter + 1 }),
	with(of(0), func(c *api.Coord) { c.Tasks = 0 }), with(of(0), func(c *api.Coord) { c.Tasks = 17 }), with(of(0), func(c *api.Coord) { c.Attempt = 0 }), with(of(0), func(c *api.Coord) { c.Attempt = api.MaxAttempt + 1 }),
	with(of(0), func(c *api.Coord) { c.Span = 0 }), with(of(0), func(c *api.Coord) { c.Span = api.MaxSpan + 1 }),
	of(5, pending(1, 1), pending(2, 1), pending(3, 1)), of(5, pending(2, 1), pending(1, 1)), of(5, pending(2, 1), pending(2, 1)), of(5, pending(6, 1)), of(5, pending(0, 1)), of(5, pending(1, -1)), of(5, pending(1, api.MaxTick+1)), of(5, pending(1, 5), pending(2, 4)),
	of(5, api.Pending{Number: 2<<31 + 1}), of(5, api.Pending{Number: 4<<31 + 1}), of(5, api.Pending{Number: 1}),
	of(5, pending(1, 1, ack(1), ack(0))), of(5, pending(1, 1, ack(1), ack(1))), of(5, pending(1, 1, ack(2))), of(5, pending(1, 1, ack(-1))), of(5, pending(1, 1, ack(0, make([]byte, api.MaxBytes+1)...))),
}

// P22.1: Check; what may not be is refused ahead of all else.
func TestCheck(t *testing.T) {
	for i, c := range []api.Coord{of(0), of(api.MaxCounter, pending(1, 0, ack(0), ack(1, make([]byte, api.MaxBytes)...)), pending(api.MaxCounter, api.MaxTick)), of(9, pending(3, 7), pending(9, 7)), with(of(1), func(c *api.Coord) {
		c.Epoch, c.Tasks, c.Attempt, c.Span = api.MaxEpoch, 16, api.MaxAttempt, api.MaxSpan
	})} {
		if err := coord.Check(c); err != api.OK {
			t.Errorf("Check %d: %d", i, err)
		}
	}
	for i, c := range wrong {
		a, n, err := coord.Trigger(c, -1, true)
		b, all, err2 := coord.Acked(c, 0, 0, ack(-1))
		d, err3 := coord.Decline(c, 0, 0)
		e, gone, err4 := coord.Tick(c, -1)
		f, acks, gone2, err5 := coord.Complete(c, 0)
		g, gone3, err6 := coord.Restart(c, 0, 0)
		for j, err := range []api.Errno{coord.Check(c), err, err2, err3, err4, err5, err6} {
			if err != api.ErrCoord {
				t.Errorf("call %d of %d: %d", j, i, err)
			}
		}
		if !zero(a) || !zero(b) || !zero(d) || !zero(e) || !zero(f) || !zero(g) || n != 0 || all || len(gone)+len(acks)+len(gone2)+len(gone3) > 0 || len(coord.Missing(c, 3<<31+1)) > 0 {
			t.Errorf("something beside an error: %d", i)
		}
	}
}

// P22.1: New, Number, Split, Same.
func TestNew(t *testing.T) {
	if c, err := coord.New(7, 3, 9); err != api.OK || !coord.Same(c, api.Coord{Epoch: 7, Tasks: 3, Attempt: 9, Span: api.MaxSpan}) {
		t.Errorf("New: %v %d", c, err)
	}
	if _, err := coord.New(api.MaxEpoch, 16, api.MaxAttempt); err != api.OK {
		t.Errorf("New: %d", err)
	}
	for _, x := range []struct {
		epoch          uint64
		tasks, attempt int
	}{{0, 1, 1}, {api.MaxEpoch + 1, 1, 1}, {math.MaxUint64, 1, 1}, {1, 0, 1}, {1, 17, 1}, {1, 1, 0}, {1, 1, api.MaxAttempt + 1}, {1, -1, 1}} {
		if c, err := coord.New(x.epoch, x.tasks, x.attempt); err != api.ErrArg || !zero(c) {
			t.Errorf("New%v: %d", x, err)
		}
	}
	for _, x := range [][3]uint64{{1, 1, 1<<31 + 1}, {3, 1, 3<<31 + 1}, {api.MaxEpoch, api.MaxCounter, 1<<62 - 1}, {2, api.MaxCounter, 3<<31 - 1}} {
		if got := coord.Number(x[0], x[1]); got != x[2] {
			t.Errorf("Number(%d, %d): %d", x[0], x[1], got)
		}
		if a, b := coord.Split(x[2]); a != x[0] || b != x[1] {
			t.Errorf("Split(%d): %d %d", x[2], a, b)
		}
	}
	for _, x := range [][2]uint64{{0, 1}, {1, 0}, {api.MaxEpoch + 1, 1}, {1, api.MaxCounter + 1}, {math.MaxUint64, math.MaxUint64}} {
		if got := coord.Number(x[0], x[1]); got != 0 {
			t.Errorf("Number%v: %d", x, got)
		}
	}
	for _, n := range []uint64{0, 1, 1<<31 - 1, 1 << 31, 5 << 31, 1 << 62, 1<<62 + 1, math.MaxUint64} {
		if a, b := coord.Split(n); a != 0 || b != 0 {
			t.Errorf("Split(%d): %d %d", n, a, b)
		}
	}
	c := of(5, pending(1, 2, ack(0, 1)), pending(2, 2))
	for i, change := range []func(c *api.Coord){
		func(c *api.Coord) { c.Epoch++ }, func(c *api.Coord) { c.Counter++ }, func(c *api.Coord) { c.Tasks++ }, func(c *api.Coord) { c.Attempt++ }, func(c *api.Coord) { c.Span++ }, func(c *api.Coord) { c.Pendings = c.Pendings[:1] },
		func(c *api.Coord) { c.Pendings[0].Number++ }, func(c *api.Coord) { c.Pendings[0].Begun++ }, func(c *api.Coord) { c.Pendings[1].Save = true }, func(c *api.Coord) { c.Pendings[0].Acks = nil }, func(c *api.Coord) { c.Pendings[0].Acks = []api.Ack{ack(1, 1)} }, func(c *api.Coord) { c.Pendings[0].Acks = []api.Ack{ack(0, 2)} },
	} {
		if other := with(c, change); coord.Same(c, other) || !coord.Same(other, other) {
			t.Errorf("change %d makes nothing else", i)
		}
	}
	if !coord.Same(of(1, pending(1, 1, api.Ack{Bytes: []byte{}})), of(1, pending(1, 1, api.Ack{}))) {
		t.Errorf("nil and empty")
	}
}

// The chapter's examples.
func TestExamples(t *testing.T) {
	c, _ := coord.New(3, 2, 1)
	c, first, err := coord.Trigger(c, 10, false)
	if a, b := coord.Split(first); err != api.OK || a != 3 || b != 1 || !slices.Equal(coord.Missing(c, first), []int{0, 1}) {
		t.Errorf("Trigger: %d %d", first, err)
	}
	c, all, err := coord.Acked(c, first, 1, ack(1, 11))
	if err != api.OK || all {
		t.Errorf("Acked: %v %d", all, err)
	}
	if x, all, err := coord.Acked(c, first, 1, ack(1, 11)); err != api.ErrThere || all || !zero(x) {
		t.Errorf("Acked again: %d", err)
	}
	if x, acks, gone, err := coord.Complete(c, first); err != api.ErrLacks || !zero(x) || len(acks)+len(gone) > 0 {
		t.Errorf("Complete: %d", err)
	}
	c, all, err = coord.Acked(c, first, 1, ack(0, 22))
	if err != api.OK || !all {
		t.Errorf("Acked: %v %d", all, err)
	}
	c, second, err := coord.Trigger(c, 12, true)
	if err != api.OK || second != first+1 {
		t.Errorf("Trigger: %d %d", second, err)
	}
	if x, n, err := coord.Trigger(c, 13, true); err != api.ErrFull || n != 0 || !zero(x) {
		t.Errorf("Trigger: %d", err)
	}
	if _, _, _, err := coord.Complete(c, second); err != api.ErrLacks {
		t.Errorf("Complete: %d", err)
	}
	c, acks, gone, err := coord.Complete(c, first)
	if err != api.OK || len(acks) != 2 || acks[0].Task != 0 || !bytes.Equal(acks[0].Bytes, []byte{22}) || acks[1].Task != 1 || !bytes.Equal(acks[1].Bytes, []byte{11}) || len(gone) > 0 {
		t.Errorf("Complete: %v %v %d", acks, gone, err)
	}
	if _, gone, err := coord.Tick(c, 111); err != api.OK || len(gone) > 0 {
		t.Errorf("Tick: %v %d", gone, err)
	}
	c, gone, err = coord.Tick(c, 112)
	if err != api.OK || !slices.Equal(gone, []uint64{second}) || len(c.Pendings) > 0 {
		t.Errorf("Tick: %v %d", gone, err)
	}
	if x, err := coord.Decline(c, second, 1); err != api.ErrNone || !zero(x) {
		t.Errorf("Decline: %d", err)
	}
	if _, _, err := coord.Acked(c, second, 2, ack(0)); err != api.ErrAttempt {
		t.Errorf("Acked: %d", err)
	}
	if x, gone, err := coord.Restart(c, 2, 1); err != api.ErrAttempt || !zero(x) || len(gone) > 0 {
		t.Errorf("Restart: %d", err)
	}
}

// P22.2: Trigger.
func TestTrigger(t *testing.T) {
	for i, x := range []struct {
		c    api.Coord
		now  int64
		err  api.Errno
		want uint64
	}{
		{of(0), 0, api.OK, 3<<31 + 1}, {of(0), api.MaxTick, api.OK, 3<<31 + 1}, {of(7, pending(2, 5)), 5, api.OK, 3<<31 + 8}, {of(api.MaxCounter - 1), 5, api.OK, 4<<31 - 1},
		{of(0), -1, api.ErrArg, 0}, {of(0), api.MaxTick + 1, api.ErrArg, 0}, {of(7, pending(2, 5)), 4, api.ErrArg, 0}, {of(7, pending(1, 5), pending(2, 5)), 4, api.ErrArg, 0}, {of(7, pending(1, 5), pending(2, 5)), 5, api.ErrFull, 0}, {of(api.MaxCounter), 5, api.ErrFull, 0}, {of(api.MaxCounter, pending(1, 5)), 4, api.ErrArg, 0},
	} {
		for _, save := range []bool{false, true} {
			c, n, err := coord.Trigger(x.c, x.now, save)
			want := api.Coord{}
			if x.err == api.OK {
				want = with(x.c, func(c *api.Coord) {
					c.Counter++
					c.Pendings = append(c.Pendings, api.Pending{Number: x.want, Begun: x.now, Save: save})
				})
			}
			if err != x.err || n != x.want || !coord.Same(c, want) {
				t.Errorf("Trigger %d: %d %d", i, n, err)
			}
		}
	}
}

// P22.3: Acked, Decline.
func TestAcked(t *testing.T) {
	one, two := uint64(3<<31+1), uint64(3<<31+2)
	c := of(5, pending(1, 1, ack(1, 7)), pending(2, 1))
	long := make([]byte, api.MaxBytes+1)
	for i, x := range []struct {
		number  uint64
		attempt int
		a       api.Ack
		all     bool
		err     api.Errno
	}{
		{two, 5, ack(1), false, api.OK}, {one, 5, ack(0, long[1:]...), true, api.OK}, {one, 5, ack(1, 9), false, api.ErrThere},
		{one, 0, ack(9), false, api.ErrArg}, {one, api.MaxAttempt + 1, ack(0), false, api.ErrArg}, {9, 4, ack(9), false, api.ErrAttempt}, {9, 6, ack(0), false, api.ErrAttempt}, {9, 5, ack(9), false, api.ErrNone}, {3<<31 + 3, 5, ack(0), false, api.ErrNone},
		{one, 5, ack(2, long...), false, api.ErrArg}, {one, 5, ack(-1), false, api.ErrArg}, {one, 5, ack(1, long...), false, api.ErrLong},
	} {
		got, all, err := coord.Acked(c, x.number, x.attempt, x.a)
		if err != x.err || all != x.all || err != api.OK && !zero(got) {
			t.Errorf("Acked %d: %v %d", i, all, err)
		}
		if err == api.OK && (slices.Contains(coord.Missing(got, x.number), x.a.Task) || coord.Check(got) != api.OK) {
			t.Errorf("Acked %d: %v", i, got)
		}
		d, err := coord.Decline(c, x.number, x.attempt)
		want := x.err
		if want == api.ErrLong || want == api.ErrThere || want == api.ErrArg && x.attempt == 5 {
			want = api.OK
		}
		if err != want || err != api.OK && !zero(d) {
			t.Errorf("Decline %d: %d", i, err)
		}
	}
	if d, _ := coord.Decline(c, one, 5); !coord.Same(d, of(5, pending(2, 1))) {
		t.Errorf("Decline: %v", d)
	}
	if d, _ := coord.Decline(c, two, 5); !coord.Same(d, of(5, pending(1, 1, ack(1, 7)))) {
		t.Errorf("Decline: %v", d)
	}
}

// P22.4, P22.5: Tick, Complete, Restart, Missing.
func TestComplete(t *testing.T) {
	one, two := uint64(3<<31+1), uint64(3<<31+2)
	c := of(5, pending(1, 1, ack(1, 7)), pending(2, 4, ack(0, 8), ack(1, 9)))
	for now, gone := range map[int64][]uint64{0: nil, 10: nil, 11: {one}, 13: {one}, 14: {one, two}, api.MaxTick: {one, two}} {
		got, l, err := coord.Tick(c, now)
		if want := of(5, c.Pendings[len(gone):]...); err != api.OK || !slices.Equal(l, gone) || !coord.Same(got, want) {
			t.Errorf("Tick(%d): %v %d", now, l, err)
		}
	}
	for _, now := range []int64{-1, api.MaxTick + 1} {
		if got, l, err := coord.Tick(c, now); err != api.ErrArg || len(l) > 0 || !zero(got) {
			t.Errorf("Tick(%d): %d", now, err)
		}
	}
	got, acks, gone, err := coord.Complete(c, two)
	if err != api.OK || !slices.Equal(gone, []uint64{one}) || !coord.Same(got, of(5)) || len(acks) != 2 || acks[0].Bytes[0] != 8 || acks[1].Bytes[0] != 9 {
		t.Errorf("Complete: %v %v %d", acks, gone, err)
	}
	if got, acks, gone, err := coord.Complete(c, one); err != api.ErrLacks || len(acks)+len(gone) > 0 || !zero(got) {
		t.Errorf("Complete: %d", err)
	}
	for _, n := range []uint64{0, 3<<31 + 3, math.MaxUint64} {
		if got, acks, gone, err := coord.Complete(c, n); err != api.ErrNone || len(acks)+len(gone) > 0 || !zero(got) || len(coord.Missing(c, n)) > 0 {
			t.Errorf("Complete(%d): %d", n, err)
		}
	}
	if !slices.Equal(coord.Missing(c, one), []int{0}) || len(coord.Missing(c, two)) > 0 {
		t.Errorf("Missing: %v", coord.Missing(c, one))
	}
	r, gone, err := coord.Restart(c, 7, 6)
	if want := (api.Coord{Epoch: 3, Counter: 5, Tasks: 7, Attempt: 6, Span: 10}); err != api.OK || !slices.Equal(gone, []uint64{one, two}) || !coord.Same(r, want) {
		t.Errorf("Restart: %v %v %d", r, gone, err)
	}
	for _, x := range []struct {
		tasks, attempt int
		err            api.Errno
	}{{0, 6, api.ErrArg}, {17, 6, api.ErrArg}, {2, 0, api.ErrArg}, {2, api.MaxAttempt + 1, api.ErrArg}, {2, 5, api.ErrAttempt}, {2, 4, api.ErrAttempt}, {0, 4, api.ErrArg}} {
		if got, gone, err := coord.Restart(c, x.tasks, x.attempt); err != x.err || len(gone) > 0 || !zero(got) {
			t.Errorf("Restart(%d, %d): %d", x.tasks, x.attempt, err)
		}
	}
}

// R3: what is handed in stays as it was, and is not shared.
func TestShares(t *testing.T) {
	one := uint64(3<<31 + 1)
	b := []byte{7}
	c := of(5, pending(1, 1, ack(1, b...)))
	c.Pendings[0].Acks = append(make([]api.Ack, 0, 8), c.Pendings[0].Acks...)
	was := of(5, pending(1, 1, ack(1, 7)))
	in := []byte{5}
	x, _, _ := coord.Acked(c, one, 5, api.Ack{Bytes: in})
	in[0] = 6
	if x.Pendings[0].Acks[0].Bytes[0] != 5 {
		t.Errorf("Acked keeps what it is handed")
	}
	y, _, _ := coord.Trigger(c, 9, false)
	z, _, _ := coord.Tick(c, 2)
	full, acks, _, _ := coord.Complete(x, one)
	spoilt := []api.Coord{x, y, z, full, {Pendings: []api.Pending{{Acks: acks}}}}
	again, _, _ := coord.Acked(c, one, 5, ack(0))
	for _, c := range spoilt {
		for i := range c.Pendings {
			c.Pendings[i].Save = true
			for j := range c.Pendings[i].Acks {
				c.Pendings[i].Acks[j].Task = 9
				for k := range c.Pendings[i].Acks[j].Bytes {
					c.Pendings[i].Acks[j].Bytes[k] = 99
				}
			}
		}
	}
	if !coord.Same(c, was) || coord.Check(again) != api.OK || c.Pendings[0].Acks[:2][1].Bytes != nil {
		t.Errorf("changed: %v", c)
	}
}

// P22.6: what follows.
func TestFollows(t *testing.T) {
	rnd := rand.New(rand.NewSource(22))
	for range 100 {
		c, _ := coord.New(3, 1+rnd.Intn(4), 1)
		var now int64
		var last uint64
		state := map[uint64]int{} // 1: under way, 2: gone
		acked := map[uint64]map[int][]byte{}
		end := func(numbers ...uint64) {
			for _, n := range numbers {
				if state[n] != 1 {
					t.Fatalf("%d ends twice", n)
				}
				state[n] = 2
			}
		}
		for step := range 300 {
			now += int64(rnd.Intn(12))
			number := last - uint64(rnd.Intn(3))
			switch rnd.Intn(10) {
			case 0, 1:
				next, n, err := coord.Trigger(c, now, rnd.Intn(2) > 0)
				if err == api.OK {
					if n <= last {
						t.Fatalf("%d behind %d", n, last)
					}
					c, last, state[n], acked[n] = next, n, 1, map[int][]byte{}
				}
			case 2, 3, 4, 5, 6:
				a := ack(rnd.Intn(c.Tasks), byte(step))
				next, all, err := coord.Acked(c, number, c.Attempt, a)
				if err == api.OK {
					c = next
					acked[number][a.Task] = a.Bytes
					if all != (len(acked[number]) == c.Tasks) || all != (len(coord.Missing(c, number)) == 0) {
						t.Fatalf("all: %v", all)
					}
				}
			case 7:
				next, acks, gone, err := coord.Complete(c, number)
				if err != api.OK {
					continue
				}
				c = next
				if end(append(gone, number)...); len(acks) != c.Tasks {
					t.Fatalf("%d acks", len(acks))
				}
				for i, a := range acks {
					if a.Task != i || !bytes.Equal(a.Bytes, acked[number][i]) {
						t.Fatalf("the ack %v", a)
					}
				}
				for _, n := range gone {
					if n >= number {
						t.Fatalf("%d is dropped by %d", n, number)
					}
				}
			case 8:
				next, gone, err := coord.Tick(c, now)
				if err != api.OK {
					t.Fatal(err)
				}
				c = next
				end(gone...)
			default:
				if rnd.Intn(3) == 0 {
					next, gone, err := coord.Restart(c, 1+rnd.Intn(4), c.Attempt+1)
					if err != api.OK {
						t.Fatal(err)
					}
					c = next
					end(gone...)
				} else if next, err := coord.Decline(c, number, c.Attempt); err == api.OK {
					c = next
					end(number)
				}
			}
			under := 0
			for _, s := range state {
				under += s % 2
			}
			if coord.Check(c) != api.OK || under != len(c.Pendings) {
				t.Fatalf("%v: %d under way", c, under)
			}
		}
		if higher := coord.Number(4, 1); higher <= last {
			t.Fatalf("%d of a greater epoch", higher)
		}
	}
}
