package heart_test

import (
	"math"
	"math/rand"
	"slices"
	"testing"

	"headrace/api"
	"headrace/heart"
)

func up(worker int, heard int64) api.Pulse { return api.Pulse{Worker: worker, Heard: heard} }

func down(worker int, heard int64) api.Pulse {
	return api.Pulse{Worker: worker, Heard: heard, Down: true}
}

func of(now, span int64, l ...api.Pulse) api.Heart {
	return api.Heart{Now: now, Span: span, Pulses: l}
}

func zero(h api.Heart) bool { return heart.Same(h, api.Heart{}) }

var wrong = []api.Heart{
	{}, of(-1, 5), of(api.MaxTick+1, 5), of(0, 0), of(0, 101), of(0, -1), of(9, 5, up(0, 9)), of(9, 5, up(5, 9)), of(9, 5, up(-1, 9)), of(9, 5, up(2, 9), up(1, 9)), of(9, 5, up(2, 9), up(2, 9)),
	of(9, 5, up(1, 10)), of(9, 5, down(1, 10)), of(9, 5, up(1, -1)), of(9, 5, down(1, -1)), of(9, 5, up(1, 4)), of(9, 5, up(1, 9), up(2, 3)), of(9, 5, up(1, math.MaxInt64)), of(9, 5, down(1, math.MinInt64)),
}

// P26.1: Check, New, Same; what may not be is refused ahead of all else.
func TestCheck(t *testing.T) {
	for i, h := range []api.Heart{of(0, 1), of(api.MaxTick, 100, up(1, api.MaxTick), down(4, 0)), of(9, 5, up(1, 5), down(2, 9), down(3, 4))} {
		if err := heart.Check(h); err != api.OK {
			t.Errorf("Check %d: %d", i, err)
		}
	}
	for i, h := range wrong {
		a, fresh, err := heart.Hear(h, 9)
		b, err2 := heart.Drop(h, 9)
		c, gone, err3 := heart.Pass(h, -1)
		n, there := heart.Due(h)
		if heart.Check(h) != api.ErrHeart || err != api.ErrHeart || err2 != api.ErrHeart || err3 != api.ErrHeart || !zero(a) || !zero(b) || !zero(c) || fresh || len(gone)+len(heart.Alive(h)) > 0 || n != 0 || there {
			t.Errorf("of %d: %d %d %d", i, err, err2, err3)
		}
	}
	for _, x := range [][2]int64{{0, 1}, {api.MaxTick, 100}} {
		if h, err := heart.New(x[0], x[1]); err != api.OK || !heart.Same(h, of(x[0], x[1])) {
			t.Errorf("New%v: %v %d", x, h, err)
		}
	}
	for _, x := range [][2]int64{{-1, 1}, {api.MaxTick + 1, 1}, {0, 0}, {0, 101}, {math.MinInt64, math.MaxInt64}} {
		if h, err := heart.New(x[0], x[1]); err != api.ErrArg || !zero(h) {
			t.Errorf("New%v: %d", x, err)
		}
	}
	for _, h := range []api.Heart{of(8, 5, up(1, 5)), of(9, 6, up(1, 5)), of(9, 5, up(2, 5)), of(9, 5, up(1, 6)), of(9, 5, down(1, 5)), of(9, 5)} {
		if heart.Same(of(9, 5, up(1, 5)), h) || !heart.Same(h, h) {
			t.Errorf("Same: %v", h)
		}
	}
	if !heart.Same(api.Heart{}, api.Heart{Pulses: []api.Pulse{}}) {
		t.Errorf("nil and empty")
	}
}

// The chapter's examples.
func TestExamples(t *testing.T) {
	h, _ := heart.New(10, 5)
	h, a, _ := heart.Hear(h, 2)
	h, b, _ := heart.Hear(h, 1)
	if n, ok := heart.Due(h); !a || !b || n != 15 || !ok {
		t.Errorf("%v %v; Due: %d", a, b, n)
	}
	h, gone, err := heart.Pass(h, 14)
	if err != api.OK || len(gone) > 0 {
		t.Errorf("Pass: %v %d", gone, err)
	}
	h, a, _ = heart.Hear(h, 1)
	h, gone, err = heart.Pass(h, 15)
	if n, ok := heart.Due(h); a || err != api.OK || !slices.Equal(gone, []int{2}) || !slices.Equal(heart.Alive(h), []int{1}) || n != 19 || !ok {
		t.Errorf("Pass: %v %d; %v %d", gone, err, heart.Alive(h), n)
	}
	h, a, _ = heart.Hear(h, 2)
	if !a || !slices.Equal(heart.Alive(h), []int{1, 2}) {
		t.Errorf("Alive: %v", heart.Alive(h))
	}
	if x, err := heart.Drop(h, 3); err != api.ErrNone || !zero(x) {
		t.Errorf("Drop: %d", err)
	}
	if x, fresh, err := heart.Hear(h, 5); err != api.ErrArg || fresh || !zero(x) {
		t.Errorf("Hear: %d", err)
	}
	if x, gone, err := heart.Pass(h, 14); err != api.ErrArg || len(gone) > 0 || !zero(x) {
		t.Errorf("Pass: %d", err)
	}
}

// P26.2 to P26.4.
func TestCalls(t *testing.T) {
	h := of(9, 5, up(1, 5), down(2, 3), up(4, 7))
	for worker, x := range map[int]struct {
		fresh bool
		want  api.Heart
	}{
		1: {false, of(9, 5, up(1, 9), down(2, 3), up(4, 7))}, 2: {true, of(9, 5, up(1, 5), up(2, 9), up(4, 7))}, 3: {true, of(9, 5, up(1, 5), down(2, 3), up(3, 9), up(4, 7))}, 4: {false, of(9, 5, up(1, 5), down(2, 3), up(4, 9))},
	} {
		if got, fresh, err := heart.Hear(h, worker); err != api.OK || fresh != x.fresh || !heart.Same(got, x.want) {
			t.Errorf("Hear(%d): %v %v %d", worker, got, fresh, err)
		}
	}
	for _, worker := range []int{0, -1, 5, math.MaxInt} {
		if got, fresh, err := heart.Hear(h, worker); err != api.ErrArg || fresh || !zero(got) {
			t.Errorf("Hear(%d): %d", worker, err)
		}
		if got, err := heart.Drop(h, worker); err != api.ErrNone || !zero(got) {
			t.Errorf("Drop(%d): %d", worker, err)
		}
	}
	if got, err := heart.Drop(h, 2); err != api.OK || !heart.Same(got, of(9, 5, up(1, 5), up(4, 7))) {
		t.Errorf("Drop: %v %d", got, err)
	}
	for now, x := range map[int64]struct {
		gone []int
		want api.Heart
	}{
		9: {nil, h}, 10: {[]int{1}, of(10, 5, down(1, 5), down(2, 3), up(4, 7))}, 11: {[]int{1}, of(11, 5, down(1, 5), down(2, 3), up(4, 7))}, 12: {[]int{1, 4}, of(12, 5, down(1, 5), down(2, 3), down(4, 7))}, api.MaxTick: {[]int{1, 4}, of(api.MaxTick, 5, down(1, 5), down(2, 3), down(4, 7))},
	} {
		if got, gone, err := heart.Pass(h, now); err != api.OK || !slices.Equal(gone, x.gone) || !heart.Same(got, x.want) {
			t.Errorf("Pass(%d): %v %v %d", now, got, gone, err)
		}
	}
	for _, now := range []int64{8, -1, api.MaxTick + 1, math.MaxInt64} {
		if got, gone, err := heart.Pass(h, now); err != api.ErrArg || len(gone) > 0 || !zero(got) {
			t.Errorf("Pass(%d): %d", now, err)
		}
	}
	if n, ok := heart.Due(h); n != 10 || !ok || !slices.Equal(heart.Alive(h), []int{1, 4}) {
		t.Errorf("Due: %d %v", n, ok)
	}
	if n, ok := heart.Due(of(9, 5, up(1, 8), up(2, 6))); n != 11 || !ok {
		t.Errorf("Due: %d %v", n, ok)
	}
	for _, h := range []api.Heart{of(9, 5), of(9, 5, down(1, 9))} {
		if n, ok := heart.Due(h); n != 0 || ok || len(heart.Alive(h)) > 0 {
			t.Errorf("Due of %v: %d %v", h, n, ok)
		}
	}
}

// R3: what is handed in stays as it was, the room behind its end, too.
func TestShares(t *testing.T) {
	h := of(9, 5, up(1, 5), up(4, 7))
	h.Pulses = append(make([]api.Pulse, 0, 8), h.Pulses...)
	a, _, _ := heart.Hear(h, 2)
	b, _ := heart.Drop(h, 1)
	c, _, _ := heart.Pass(h, 99)
	for _, x := range []api.Heart{a, b, c} {
		for i := range x.Pulses {
			x.Pulses[i].Worker = 99
		}
	}
	if !heart.Same(h, of(9, 5, up(1, 5), up(4, 7))) || h.Pulses[:3][2] != (api.Pulse{}) {
		t.Errorf("changed: %v", h)
	}
}

// P26.5: what follows.
func TestFollows(t *testing.T) {
	rnd := rand.New(rand.NewSource(26))
	for range 200 {
		span := int64(1 + rnd.Intn(10))
		h, _ := heart.New(0, span)
		heard := map[int]int64{}
		for range 100 {
			if rnd.Intn(2) > 0 {
				worker := 1 + rnd.Intn(4)
				at, known := heard[worker]
				var fresh bool
				h, fresh, _ = heart.Hear(h, worker)
				if fresh != (!known || h.Now-at >= span) {
					t.Fatalf("%d of %v: %v", worker, h, fresh)
				}
				heard[worker] = h.Now
				continue
			}
			due, some := heart.Due(h)
			now := h.Now + int64(rnd.Intn(12))
			next, gone, err := heart.Pass(h, now)
			if err != api.OK || (len(gone) > 0) != (some && now >= due) {
				t.Fatalf("%v to %d: %v %d", h, now, gone, err)
			}
			between, first, _ := heart.Pass(h, (h.Now+now)/2)
			twice, second, _ := heart.Pass(between, now)
			both := slices.Concat(first, second)
			slices.Sort(both)
			if !heart.Same(twice, next) || !slices.Equal(both, gone) {
				t.Fatalf("two ticks, one behind the other: %v, %v", twice, next)
			}
			h = next
			for worker, at := range heard {
				if slices.Contains(heart.Alive(h), worker) != (h.Now-at < span) {
					t.Fatalf("%d of %v", worker, h)
				}
			}
		}
	}
}
