package slots_test

import (
	"math"
	"math/rand"
	"slices"
	"testing"

	"headrace/api"
	"headrace/slots"
)

// floor makes a floor of workers (id, slots) and places (task, worker).
func floor(workers, places [][2]int) (f api.Floor) {
	for _, w := range workers {
		f.Workers = append(f.Workers, api.Worker{Id: w[0], Slots: w[1]})
	}
	for _, p := range places {
		f.Places = append(f.Places, api.Place{Task: p[0], Worker: p[1]})
	}
	return f
}

type rows = [][2]int

var two = floor(rows{{1, 2}, {2, 1}}, nil)

func zero(f api.Floor) bool { return len(f.Workers) == 0 && len(f.Places) == 0 }

// P11.1: Check; what may not be is refused ahead of all else.
func TestCheck(t *testing.T) {
	for _, f := range []api.Floor{
		{}, two, floor(rows{{1, 1}, {2, 8}, {3, 1}, {4, 1}}, nil),
		floor(rows{{1, 2}, {2, 1}}, rows{{0, 1}, {3, 2}, {15, 1}}),
	} {
		if err := slots.Check(f); err != api.OK {
			t.Errorf("Check(%v): %d", f, err)
		}
	}
	for _, f := range []api.Floor{
		floor(rows{{0, 1}}, nil), floor(rows{{5, 1}}, nil), floor(rows{{-1, 1}}, nil),
		floor(rows{{1, 0}}, nil), floor(rows{{1, 9}}, nil), floor(rows{{1, -1}}, nil),
		floor(rows{{2, 1}, {1, 1}}, nil), floor(rows{{1, 1}, {1, 1}}, nil),
		floor(rows{{1, 2}}, rows{{0, 2}}), floor(nil, rows{{0, 1}}), floor(rows{{1, 2}}, rows{{0, 0}}),
		floor(rows{{1, 2}}, rows{{-1, 1}}), floor(rows{{1, 2}}, rows{{16, 1}}),
		floor(rows{{1, 2}}, rows{{1, 1}, {0, 1}}), floor(rows{{1, 2}}, rows{{1, 1}, {1, 1}}),
		floor(rows{{1, 2}, {2, 8}}, rows{{1, 1}, {2, 1}, {3, 1}}),
	} {
		if err := slots.Check(f); err != api.ErrFloor {
			t.Errorf("Check(%v): %d", f, err)
		}
		x, err := slots.Come(f, api.Worker{})
		y, tasks, err2 := slots.Go(f, 9)
		z, err3 := slots.Lay(f, []int{-1})
		w, err4 := slots.Take(f, []int{-1})
		if err != api.ErrFloor || err2 != api.ErrFloor || err3 != api.ErrFloor || err4 != api.ErrFloor || len(tasks) != 0 || !zero(x) || !zero(y) || !zero(z) || !zero(w) {
			t.Errorf("of %v: %d %d %d %d", f, err, err2, err3, err4)
		}
		if id, ok := slots.Where(f, 0); id != 0 || ok || len(slots.At(f, 1)) != 0 || slots.Free(f) != 0 {
			t.Errorf("told of %v", f)
		}
	}
}

// P11.1: Same, of whatever floors.
func TestSame(t *testing.T) {
	a := floor(rows{{1, 2}, {9, 9}}, rows{{0, 1}, {77, 1}})
	for _, b := range []api.Floor{{}, floor(rows{{1, 2}, {9, 8}}, rows{{0, 1}, {77, 1}}), floor(rows{{1, 2}, {8, 9}}, rows{{0, 1}, {77, 1}}), floor(rows{{1, 2}}, rows{{0, 1}, {77, 1}}), floor(rows{{1, 2}, {9, 9}}, rows{{0, 1}, {77, 2}}), floor(rows{{1, 2}, {9, 9}}, rows{{0, 1}, {7, 1}}), floor(rows{{1, 2}, {9, 9}}, rows{{0, 1}})} {
		if slots.Same(a, b) || slots.Same(b, a) {
			t.Errorf("the same: %v", b)
		}
	}
	if !slots.Same(a, floor(rows{{1, 2}, {9, 9}}, rows{{0, 1}, {77, 1}})) || !slots.Same(api.Floor{}, api.Floor{Workers: []api.Worker{}, Places: []api.Place{}}) {
		t.Errorf("not the same")
	}
}

// P11.2: Come, Go.
func TestWorkers(t *testing.T) {
	f := floor(rows{{2, 3}}, rows{{1, 2}, {4, 2}})
	for _, w := range []api.Worker{{Id: 1, Slots: 8}, {Id: 3, Slots: 1}} {
		next, err := slots.Come(f, w)
		if err != api.OK || len(next.Workers) != 2 || slots.Check(next) != api.OK || !slices.Contains(next.Workers, w) || len(next.Places) != 2 {
			t.Errorf("Come(%v): %v %d", w, next, err)
		}
	}
	for _, r := range []struct {
		w   api.Worker
		err api.Errno
	}{{api.Worker{Id: 0, Slots: 1}, api.ErrArg}, {api.Worker{Id: 5, Slots: 1}, api.ErrArg}, {api.Worker{Id: 2, Slots: 0}, api.ErrArg}, {api.Worker{Id: 2, Slots: 9}, api.ErrArg}, {api.Worker{Id: 2, Slots: 1}, api.ErrThere}} {
		if next, err := slots.Come(f, r.w); err != r.err || !zero(next) {
			t.Errorf("Come(%v): %d", r.w, err)
		}
	}
	f = floor(rows{{1, 2}, {2, 3}, {4, 1}}, rows{{0, 1}, {1, 2}, {4, 2}, {5, 4}})
	next, tasks, err := slots.Go(f, 2)
	if err != api.OK || !slices.Equal(tasks, []int{1, 4}) || !slots.Same(next, floor(rows{{1, 2}, {4, 1}}, rows{{0, 1}, {5, 4}})) {
		t.Errorf("Go(2): %v %v %d", next, tasks, err)
	}
	for _, id := range []int{3, 0, -1, math.MaxInt} {
		if next, tasks, err := slots.Go(f, id); err != api.ErrNone || len(tasks) != 0 || !zero(next) {
			t.Errorf("Go(%d): %d", id, err)
		}
	}
}

// P11.3: the chapter's examples; Lay, Take.
func TestLay(t *testing.T) {
	f, err := slots.Lay(two, []int{0, 1, 2})
	if err != api.OK || !slots.Same(f, floor(rows{{1, 2}, {2, 1}}, rows{{0, 1}, {1, 1}, {2, 2}})) {
		t.Fatalf("Lay: %v %d", f, err)
	}
	for _, r := range []struct {
		tasks []int
		err   api.Errno
	}{
		{[]int{3}, api.ErrFull}, {[]int{2, 16}, api.ErrArg}, {[]int{-1}, api.ErrArg}, {[]int{2}, api.ErrThere}, {[]int{3, 3}, api.ErrThere}, {[]int{3, 4, 3}, api.ErrThere},
	} {
		if next, err := slots.Lay(f, r.tasks); err != r.err || !zero(next) {
			t.Errorf("Lay(%v): %d", r.tasks, err)
		}
	}
	if next, err := slots.Lay(f, nil); err != api.OK || !slots.Same(next, f) {
		t.Errorf("Lay of nothing: %d", err)
	}
	gone, tasks, _ := slots.Go(f, 1)
	if next, err := slots.Lay(gone, []int{0}); err != api.ErrFull || !slices.Equal(tasks, []int{0, 1}) || !zero(next) {
		t.Errorf("Lay where there is no room: %d", err)
	}
	taken, err := slots.Take(f, []int{2})
	if err != api.OK {
		t.Errorf("Take: %d", err)
	}
	for _, tasks := range [][]int{{2}, {0, 0}, {0, 2}, {-1}, {16}} {
		if next, err := slots.Take(taken, tasks); err != api.ErrNone || !zero(next) {
			t.Errorf("Take(%v): %d", tasks, err)
		}
	}
	if next, err := slots.Take(f, []int{2, 0}); err != api.OK || !slots.Same(next, floor(rows{{1, 2}, {2, 1}}, rows{{1, 1}})) {
		t.Errorf("Take: %v %d", next, err)
	}
	// The order of tasks counts; places stand by rising tasks.
	f, err = slots.Lay(floor(rows{{2, 2}, {3, 3}, {4, 2}}, rows{{7, 3}}), []int{9, 3, 8, 1, 0, 15})
	if want := floor(rows{{2, 2}, {3, 3}, {4, 2}}, rows{{0, 3}, {1, 2}, {3, 3}, {7, 3}, {8, 4}, {9, 2}, {15, 4}}); err != api.OK || !slots.Same(f, want) {
		t.Errorf("Lay: %v %d", f, err)
	}
	if next, err := slots.Lay(api.Floor{}, []int{0}); err != api.ErrFull || !zero(next) {
		t.Errorf("Lay without workers: %d", err)
	}
}

// P11.4: Where, At, Free.
func TestTold(t *testing.T) {
	f := floor(rows{{1, 2}, {3, 4}}, rows{{0, 3}, {4, 1}, {9, 3}})
	for task := -1; task < 17; task++ {
		id, ok := slots.Where(f, task)
		want := map[int]int{0: 3, 4: 1, 9: 3}[task]
		if id != want || ok != (want > 0) {
			t.Errorf("Where(%d): %d %v", task, id, ok)
		}
	}
	for id, want := range [][]int{nil, {4}, nil, {0, 9}, nil} {
		if got := slots.At(f, id); !slices.Equal(got, want) {
			t.Errorf("At(%d): %v", id, got)
		}
	}
	if slots.Free(f) != 3 || slots.Free(api.Floor{}) != 0 || slots.Free(two) != 3 {
		t.Errorf("Free: %d", slots.Free(f))
	}
}

// R3: what is handed in stays as it was, the room behind its end, too.
func TestShares(t *testing.T) {
	workers := append(make([]api.Worker, 0, 8), api.Worker{Id: 1, Slots: 4}, api.Worker{Id: 3, Slots: 4})
	places := append(make([]api.Place, 0, 8), api.Place{Task: 1, Worker: 1}, api.Place{Task: 5, Worker: 3})
	f := api.Floor{Workers: workers, Places: places}
	was := floor(rows{{1, 4}, {3, 4}}, rows{{1, 1}, {5, 3}})
	slots.Come(f, api.Worker{Id: 2, Slots: 1})
	slots.Lay(f, []int{0, 9})
	slots.Go(f, 1)
	next, _ := slots.Take(f, []int{1})
	next.Places[0].Task = 9
	next.Workers[0].Slots = 9
	if !slots.Same(f, was) || workers[:3][2] != (api.Worker{}) || places[:3][2] != (api.Place{}) {
		t.Errorf("changed: %v", f)
	}
}

// P11.5: what follows.
func TestFollows(t *testing.T) {
	rnd := rand.New(rand.NewSource(11))
	for range 100 {
		var f api.Floor
		for range 60 {
			task, id := rnd.Intn(17), 1+rnd.Intn(4)
			next, err := f, api.OK
			switch rnd.Intn(6) {
			case 0:
				next, err = slots.Come(f, api.Worker{Id: id, Slots: 1 + rnd.Intn(8)})
			case 1:
				free := slots.Free(f)
				var tasks []int
				next, tasks, err = slots.Go(f, id)
				if err == api.OK {
					for _, p := range f.Places {
						if now, ok := slots.Where(next, p.Task); ok != (p.Worker != id) || ok && now != p.Worker {
							t.Fatalf("%v: Go(%d): %v", f, id, next)
						}
					}
					again, err := slots.Lay(next, tasks)
					if (err == api.OK) != (slots.Free(next) >= len(tasks)) || err == api.OK && len(again.Places) != len(f.Places) {
						t.Fatalf("%v: Go(%d): laid again: %d, %d free ahead", f, id, err, free)
					}
				}
			case 2:
				next, err = slots.Take(f, []int{task})
			default:
				next, err = slots.Lay(f, []int{task})
				if err == api.OK {
					if back, err := slots.Take(next, []int{task}); err != api.OK || !slots.Same(back, f) {
						t.Fatalf("%v: laid and taken: %v", f, back)
					}
				}
			}
			if err != api.OK {
				continue
			}
			if f = next; slots.Check(f) != api.OK {
				t.Fatalf("may not be: %v", f)
			}
		}
	}
	for n := 1; n <= 4; n++ {
		for each := 1; each <= 8; each++ {
			var f api.Floor
			for id := 1; id <= n; id++ {
				f.Workers = append(f.Workers, api.Worker{Id: id, Slots: each})
			}
			for task := 0; task < min(n*each, 16); task++ {
				f, _ = slots.Lay(f, []int{task})
				least, most := 99, 0
				for id := 1; id <= n; id++ {
					least, most = min(least, len(slots.At(f, id))), max(most, len(slots.At(f, id)))
				}
				if most-least > 1 || len(f.Places) != task+1 {
					t.Fatalf("%d workers of %d: %v", n, each, f)
				}
			}
		}
	}
}
