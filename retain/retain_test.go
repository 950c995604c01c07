package retain_test

import (
	"math"
	"math/rand"
	"slices"
	"testing"

	"headrace/api"
	"headrace/retain"
)

// of makes a shelf of rows by letters: p plain, s a savepoint, o to be committed, b both; their numbers are 1, 2 and so on.
func of(keep int, letters string) api.Shelf {
	s := api.Shelf{Keep: keep}
	for i, l := range letters {
		if l != '-' {
			s.Rows = append(s.Rows, api.Kept{Number: uint64(i + 1), Save: l == 's' || l == 'b', Open: l == 'o' || l == 'b'})
		}
	}
	return s
}

func zero(s api.Shelf) bool { return s.Keep == 0 && len(s.Rows) == 0 }

var wrong = []api.Shelf{
	{}, of(0, ""), of(5, ""), of(-1, ""), of(4, "ppppppppppppppppp"), of(1, "op"), of(1, "bs"), of(1, "pos"),
	{Keep: 1, Rows: []api.Kept{{}}}, {Keep: 1, Rows: []api.Kept{{Number: api.MaxNumber + 1}}}, {Keep: 1, Rows: []api.Kept{{Number: 2}, {Number: 1}}}, {Keep: 1, Rows: []api.Kept{{Number: 2}, {Number: 2}}},
}

// P23.1, P23.4: Check; of what may not be.
func TestCheck(t *testing.T) {
	for i, s := range []api.Shelf{of(1, ""), of(4, "pppppppppppppppp"), of(2, "spspoobo"), {Keep: 1, Rows: []api.Kept{{Number: api.MaxNumber}}}} {
		if err := retain.Check(s); err != api.OK {
			t.Errorf("Check %d: %d", i, err)
		}
	}
	for i, s := range wrong {
		a, gone, err := retain.Put(s, 0, true)
		b, gone2, err2 := retain.Settle(s, 99)
		c, gone3, err3 := retain.Release(s, 99)
		d, err4 := retain.Mark(s, 99)
		for j, err := range []api.Errno{retain.Check(s), err, err2, err3, err4} {
			if err != api.ErrShelf {
				t.Errorf("call %d of %d: %d", j, i, err)
			}
		}
		row, ok := retain.Latest(s)
		n, ok2 := retain.Next(s)
		if !zero(a) || !zero(b) || !zero(c) || !zero(d) || len(gone)+len(gone2)+len(gone3) > 0 || row != (api.Kept{}) || ok || n != 0 || ok2 || len(retain.Saves(s)) > 0 {
			t.Errorf("something of what may not be: %d", i)
		}
	}
}

// P23.1: New, Same.
func TestNew(t *testing.T) {
	for _, keep := range []int{1, 4} {
		if s, err := retain.New(keep); err != api.OK || !retain.Same(s, api.Shelf{Keep: keep}) {
			t.Errorf("New(%d): %v %d", keep, s, err)
		}
	}
	for _, keep := range []int{0, 5, -1, math.MaxInt, math.MinInt} {
		if s, err := retain.New(keep); err != api.ErrArg || !zero(s) {
			t.Errorf("New(%d): %d", keep, err)
		}
	}
	for _, s := range []api.Shelf{of(2, "pso"), of(1, "ps"), of(1, "pss"), of(1, "ppo"), of(1, "p-so"), {}} {
		if retain.Same(of(1, "pso"), s) || !retain.Same(s, s) {
			t.Errorf("Same: %v", s)
		}
	}
	if !retain.Same(api.Shelf{}, api.Shelf{Rows: []api.Kept{}}) {
		t.Errorf("nil and empty")
	}
}

// The chapter's examples.
func TestExamples(t *testing.T) {
	s, _ := retain.New(1)
	s, _, _ = retain.Put(s, 3, false)
	s, gone, err := retain.Put(s, 5, true)
	if err != api.OK || len(gone) > 0 {
		t.Errorf("Put: %v %d", gone, err)
	}
	if x, gone, err := retain.Settle(s, 5); err != api.ErrOpen || !zero(x) || len(gone) > 0 {
		t.Errorf("Settle(5): %d", err)
	}
	s, gone, err = retain.Settle(s, 3)
	if err != api.OK || len(gone) > 0 {
		t.Errorf("Settle(3): %v %d", gone, err)
	}
	s, gone, err = retain.Settle(s, 5)
	if err != api.OK || len(gone) > 0 {
		t.Errorf("Settle(5): %v %d", gone, err)
	}
	s, gone, err = retain.Put(s, 7, false)
	if err != api.OK || len(gone) > 0 {
		t.Errorf("Put(7): %v %d", gone, err)
	}
	s, gone, err = retain.Settle(s, 7)
	if err != api.OK || !slices.Equal(gone, []uint64{3}) {
		t.Errorf("Settle(7): %v %d", gone, err)
	}
	s, gone, err = retain.Release(s, 5)
	if row, ok := retain.Latest(s); err != api.OK || !slices.Equal(gone, []uint64{5}) || row != (api.Kept{Number: 7}) || !ok {
		t.Errorf("Release(5): %v %v %d", gone, row, err)
	}
	if x, gone, err := retain.Release(s, 7); err != api.ErrArg || !zero(x) || len(gone) > 0 {
		t.Errorf("Release(7): %d", err)
	}
}

// P23.2: Put.
func TestPut(t *testing.T) {
	for i, x := range []struct {
		s      api.Shelf
		number uint64
		want   api.Shelf
		gone   []uint64
		err    api.Errno
	}{
		{of(1, ""), 1, of(1, "o"), nil, api.OK},
		{of(1, "psp"), 4, of(1, "-spo"), []uint64{1}, api.OK}, // what may be dropped goes, whoever left it there
		{of(2, "pppo"), 5, of(2, "-ppoo"), []uint64{1}, api.OK},
		{of(1, "ppsp"), 5, of(1, "--spo"), []uint64{1, 2}, api.OK},
		{of(1, "so"), 0, api.Shelf{}, nil, api.ErrArg}, {of(1, "so"), 2, api.Shelf{}, nil, api.ErrArg}, {of(1, "so"), 1, api.Shelf{}, nil, api.ErrArg}, {of(1, "so"), api.MaxNumber + 1, api.Shelf{}, nil, api.ErrArg}, {of(1, ""), math.MaxUint64, api.Shelf{}, nil, api.ErrArg},
		{of(1, "ssssssssssssssss"), 17, api.Shelf{}, nil, api.ErrFull}, {of(1, "ssssssssssssssss"), 16, api.Shelf{}, nil, api.ErrArg}, {of(1, "sssssssssssssssp"), 17, api.Shelf{}, nil, api.ErrFull},
		{of(1, "ssssssssssssspp"), 17, of(1, "sssssssssssss-p-o"), []uint64{14}, api.OK}, {of(1, "sssssssssssssspp"), 17, of(1, "ssssssssssssss-po"), []uint64{15}, api.OK},
	} {
		for _, save := range []bool{false, true} {
			if x.err == api.OK {
				x.want.Rows[len(x.want.Rows)-1].Save = save
			}
			if got, gone, err := retain.Put(x.s, x.number, save); err != x.err || !retain.Same(got, x.want) || !slices.Equal(gone, x.gone) {
				t.Errorf("Put %d: %v %v %d", i, got, gone, err)
			}
		}
	}
	s, _, err := retain.Put(of(1, ""), api.MaxNumber, false)
	if err != api.OK || s.Rows[0].Number != api.MaxNumber {
		t.Errorf("Put of the greatest: %d", err)
	}
}

// P23.3: Settle, Release, Mark.
func TestChange(t *testing.T) {
	settle := retain.Settle
	mark := func(s api.Shelf, number uint64) (api.Shelf, []uint64, api.Errno) {
		next, err := retain.Mark(s, number)
		return next, nil, err
	}
	for i, x := range []struct {
		do     func(s api.Shelf, number uint64) (api.Shelf, []uint64, api.Errno)
		s      api.Shelf
		number uint64
		want   api.Shelf
		gone   []uint64
		err    api.Errno
	}{
		{settle, of(1, "poo"), 2, of(1, "-po"), []uint64{1}, api.OK}, {settle, of(2, "poo"), 2, of(2, "ppo"), nil, api.OK}, {settle, of(1, "pb"), 2, of(1, "ps"), nil, api.OK}, {settle, of(1, "pppo"), 4, of(1, "---p"), []uint64{1, 2, 3}, api.OK},
		{settle, of(1, "poo"), 3, api.Shelf{}, nil, api.ErrOpen}, {settle, of(1, "poo"), 1, api.Shelf{}, nil, api.ErrOpen}, {settle, of(1, "ps"), 2, api.Shelf{}, nil, api.ErrOpen}, {settle, of(1, "poo"), 4, api.Shelf{}, nil, api.ErrNone}, {settle, of(1, "poo"), 0, api.Shelf{}, nil, api.ErrNone},
		{retain.Release, of(1, "sp"), 1, of(1, "-p"), []uint64{1}, api.OK}, {retain.Release, of(1, "ps"), 2, of(1, "-p"), []uint64{1}, api.OK}, {retain.Release, of(2, "sp"), 1, of(2, "pp"), nil, api.OK}, {retain.Release, of(1, "pb"), 2, of(1, "po"), nil, api.OK},
		{retain.Release, of(1, "po"), 1, api.Shelf{}, nil, api.ErrArg}, {retain.Release, of(1, "po"), 2, api.Shelf{}, nil, api.ErrArg}, {retain.Release, of(1, "p-s"), 2, api.Shelf{}, nil, api.ErrNone},
		{mark, of(1, "po"), 1, of(1, "so"), nil, api.OK}, {mark, of(1, "po"), 2, of(1, "pb"), nil, api.OK}, {mark, of(1, "ppp"), 1, of(1, "s-p"), nil, api.OK}, {mark, of(1, "ppp"), 3, of(1, "-ps"), nil, api.OK},
		{mark, of(1, "sb"), 1, api.Shelf{}, nil, api.ErrThere}, {mark, of(1, "sb"), 2, api.Shelf{}, nil, api.ErrThere}, {mark, of(1, "sb"), 3, api.Shelf{}, nil, api.ErrNone},
	} {
		if got, gone, err := x.do(x.s, x.number); err != x.err || !retain.Same(got, x.want) || !slices.Equal(gone, x.gone) {
			t.Errorf("%d: %v %v %d", i, got, gone, err)
		}
	}
}

// P23.4: Latest, Next, Saves.
func TestTold(t *testing.T) {
	for i, x := range []struct {
		s     api.Shelf
		last  api.Kept
		open  uint64
		saves []uint64
	}{
		{of(1, ""), api.Kept{}, 0, nil}, {of(1, "psps"), api.Kept{Number: 4, Save: true}, 0, []uint64{2, 4}}, {of(1, "psobo"), api.Kept{Number: 5, Open: true}, 3, []uint64{2, 4}},
	} {
		row, ok := retain.Latest(x.s)
		n, ok2 := retain.Next(x.s)
		if row != x.last || ok != (len(x.s.Rows) > 0) || n != x.open || ok2 != (x.open > 0) || !slices.Equal(retain.Saves(x.s), x.saves) {
			t.Errorf("%d: %v %v %d %v %v", i, row, ok, n, ok2, retain.Saves(x.s))
		}
	}
}

// R3: what is handed in stays as it was, the room behind its end, too.
func TestShares(t *testing.T) {
	s := of(2, "spo")
	s.Rows = append(make([]api.Kept, 0, 8), s.Rows...)
	a, _, _ := retain.Put(s, 9, true)
	b, _, _ := retain.Settle(s, 3)
	c, _, _ := retain.Release(s, 1)
	d, _ := retain.Mark(s, 2)
	for _, x := range []api.Shelf{a, b, c, d} {
		for i := range x.Rows {
			x.Rows[i].Number = 99
		}
	}
	if !retain.Same(s, of(2, "spo")) || s.Rows[:4][3] != (api.Kept{}) {
		t.Errorf("changed: %v", s)
	}
}

// P23.5: what follows.
func TestFollows(t *testing.T) {
	rnd := rand.New(rand.NewSource(23))
	for range 200 {
		s, _ := retain.New(1 + rnd.Intn(4))
		var number, last uint64
		open, saves, settled := map[uint64]bool{}, map[uint64]bool{}, uint64(0)
		for range 150 {
			n := number - min(number, uint64(rnd.Intn(6)))
			next, gone, err := s, []uint64(nil), api.OK
			switch rnd.Intn(5) {
			case 0, 1:
				save := rnd.Intn(4) == 0
				if next, gone, err = retain.Put(s, number+1, save); err == api.OK {
					number++
					last, open[number], saves[number] = number, true, save
				}
			case 2:
				first, ok := retain.Next(s)
				if !ok {
					continue
				}
				if next, gone, err = retain.Settle(s, first); err != api.OK || first <= settled {
					t.Fatalf("%d is settled behind %d: %d", first, settled, err)
				}
				settled, open[first] = first, false
			case 3:
				if next, gone, err = retain.Release(s, n); err == api.OK {
					saves[n] = false
				}
			default:
				if next, err = retain.Mark(s, n); err == api.OK {
					saves[n] = true
				}
			}
			if err != api.OK {
				continue
			}
			for _, n := range gone {
				if open[n] || saves[n] || n == last && len(next.Rows) == 0 {
					t.Fatalf("%d is dropped of %v", n, s)
				}
			}
			s = next
			plain := 0
			there := map[uint64]bool{}
			for _, row := range s.Rows {
				if there[row.Number] = true; !row.Open && !row.Save {
					plain++
				}
			}
			if retain.Check(s) != api.OK || plain > s.Keep || number > 0 && !there[last] {
				t.Fatalf("%v", s)
			}
			for n := range number {
				if (open[n+1] || saves[n+1]) && !there[n+1] {
					t.Fatalf("%d is not on %v", n+1, s)
				}
			}
		}
	}
}
