package ops_test

import (
	"math"
	"math/rand"
	"slices"
	"testing"

	"headrace/api"
	"headrace/ops"
)

func op(tag int, a, b int64) api.Op {
	o := api.Op{Tag: tag, Width: 1, A: a, B: b, Inputs: []int{0}}
	switch tag {
	case api.OpSource:
		o.Inputs = nil
	case api.OpUnion:
		o.Inputs = []int{0, 7}
	}
	return o
}

func cell(count, sum int64) api.Cell { return api.Cell{Count: count, Sum: sum} }

var wrongOps = []api.Op{{}, op(0, 0, 0), op(8, 0, 0), op(api.OpFilter, 0, 0), op(api.OpWindow, 9, 0), op(api.OpReduce, 1, 0), {Tag: api.OpMap, Width: 1, Inputs: []int{8}}, {Tag: api.OpMap, Width: 0, Inputs: []int{0}}, op(-1, 0, 0), op(math.MaxInt, 0, 0)}

// P8.1: Keeps, of any operator.
func TestKeeps(t *testing.T) {
	for tag := -1; tag < 10; tag++ {
		if got := ops.Keeps(api.Op{Tag: tag}); got != (tag == api.OpReduce || tag == api.OpWindow) {
			t.Errorf("Keeps(%d): %v", tag, got)
		}
	}
}

// P8.1: Fits.
func TestFits(t *testing.T) {
	rows := []struct {
		o    api.Op
		c    api.Cell
		want bool
	}{
		{op(api.OpReduce, 0, 0), cell(0, 0), true},
		{op(api.OpReduce, 0, 0), cell(0, 1), false},
		{op(api.OpReduce, 0, 0), cell(-1, 0), false},
		{op(api.OpReduce, 0, 0), cell(1, 0), true},
		{op(api.OpReduce, 0, 0), cell(math.MaxInt64, math.MinInt64), true},
		{op(api.OpReduce, 1, 0), cell(1, 0), false},
		{op(api.OpWindow, 2, 0), cell(0, 0), true},
		{op(api.OpWindow, 2, 0), cell(0, 4), false},
		{op(api.OpWindow, 2, 0), cell(1, 4), true},
		{op(api.OpWindow, 2, 0), cell(2, 4), false},
		{op(api.OpWindow, 2, 0), cell(-1, 4), false},
		{op(api.OpWindow, 1, 0), cell(1, 4), false},
		{op(api.OpMap, 2, 0), cell(0, 0), true},
		{op(api.OpMap, 2, 0), cell(1, 0), false},
		{op(api.OpMap, 2, 0), cell(0, 1), false},
		{op(api.OpSource, 2, 0), cell(0, 0), true},
		{op(api.OpUnion, 0, 0), cell(0, 0), true},
		{op(api.OpSink, 0, 0), cell(1, 1), false},
		{op(api.OpFilter, 2, 1), cell(0, 0), true},
	}
	for _, r := range rows {
		if got := ops.Fits(r.o, r.c); got != r.want {
			t.Errorf("Fits(%v, %v): %v", r.o, r.c, got)
		}
	}
	for _, o := range wrongOps {
		if ops.Fits(o, api.Cell{}) {
			t.Errorf("fits %v", o)
		}
	}
}

// P8.2: Do, tag by tag.
func TestDo(t *testing.T) {
	rows := []struct {
		o     api.Op
		c     api.Cell
		value int64
		next  api.Cell
		out   []int64
	}{
		{op(api.OpSource, 3, 0), cell(0, 0), 5, cell(0, 0), []int64{5}},
		{op(api.OpUnion, 0, 0), cell(0, 0), -5, cell(0, 0), []int64{-5}},
		{op(api.OpSink, 0, 0), cell(0, 0), 0, cell(0, 0), []int64{0}},
		{op(api.OpMap, 3, 1), cell(0, 0), 5, cell(0, 0), []int64{16}},
		{op(api.OpMap, math.MaxInt64, 2), cell(0, 0), 2, cell(0, 0), []int64{0}},
		{op(api.OpFilter, 3, 1), cell(0, 0), -2, cell(0, 0), []int64{-2}},
		{op(api.OpFilter, 3, 1), cell(0, 0), -1, cell(0, 0), nil},
		{op(api.OpFilter, 3, 1), cell(0, 0), 4, cell(0, 0), []int64{4}},
		{op(api.OpFilter, 3, 1), cell(0, 0), 5, cell(0, 0), nil},
		{op(api.OpReduce, 0, 0), cell(0, 0), 7, cell(1, 7), []int64{7}},
		{op(api.OpReduce, 0, 0), cell(3, 9), -10, cell(4, -1), []int64{-1}},
		{op(api.OpReduce, 0, 0), cell(3, math.MaxInt64), 1, cell(4, math.MinInt64), []int64{math.MinInt64}},
		{op(api.OpReduce, 0, 0), cell(math.MaxInt64-1, 1), 1, cell(math.MaxInt64, 2), []int64{2}},
		{op(api.OpWindow, 3, 0), cell(0, 0), 4, cell(1, 4), nil},
		{op(api.OpWindow, 3, 0), cell(1, 4), 5, cell(2, 9), nil},
		{op(api.OpWindow, 3, 0), cell(2, 9), 6, cell(0, 0), []int64{15}},
		{op(api.OpWindow, 1, 0), cell(0, 0), 6, cell(0, 0), []int64{6}},
	}
	for _, r := range rows {
		next, out, err := ops.Do(r.o, r.c, r.value)
		if next != r.next || !slices.Equal(out, r.out) || err != api.OK {
			t.Errorf("Do(%v, %v, %d): %v %v %d", r.o, r.c, r.value, next, out, err)
		}
	}
}

// P8.2, P8.3: what is refused, and with which error first.
func TestRefused(t *testing.T) {
	full := cell(math.MaxInt64, 1)
	long := make([]int64, api.MaxInput+1)
	rows := []struct {
		o   api.Op
		c   api.Cell
		err api.Errno
	}{
		{op(api.OpWindow, 2, 0), cell(2, 0), api.ErrCell},
		{op(api.OpMap, 2, 0), cell(2, 0), api.ErrCell},
		{op(api.OpReduce, 0, 0), cell(-1, 0), api.ErrCell},
		{op(api.OpFilter, 0, 0), cell(2, 0), api.ErrOp},
	}
	for _, o := range wrongOps {
		rows = append(rows, struct {
			o   api.Op
			c   api.Cell
			err api.Errno
		}{o, full, api.ErrOp})
	}
	for _, r := range rows {
		if c, out, err := ops.Do(r.o, r.c, 1); err != r.err || c != (api.Cell{}) || len(out) != 0 {
			t.Errorf("Do(%v, %v): %d", r.o, r.c, err)
		}
		if c, out, err := ops.Run(r.o, r.c, nil); err != r.err || c != (api.Cell{}) || len(out) != 0 {
			t.Errorf("Run(%v, %v) of nothing: %d", r.o, r.c, err)
		}
		if _, _, err := ops.Run(r.o, r.c, long); err != api.ErrLong {
			t.Errorf("Run(%v, %v) of too many: %d", r.o, r.c, err)
		}
	}
	reduce := op(api.OpReduce, 0, 0)
	if c, out, err := ops.Do(reduce, full, 1); err != api.ErrFull || c != (api.Cell{}) || len(out) != 0 {
		t.Errorf("Do of a full cell: %d", err)
	}
	if c, out, err := ops.Run(reduce, cell(math.MaxInt64-1, 1), []int64{1, 2}); err != api.ErrFull || c != (api.Cell{}) || len(out) != 0 {
		t.Errorf("Run to a full cell: %d", err)
	}
	if c, _, err := ops.Run(reduce, full, nil); err != api.OK || c != full {
		t.Errorf("Run of nothing: %d", err)
	}
	if _, _, err := ops.Run(reduce, api.Cell{}, long[1:]); err != api.OK {
		t.Errorf("Run of the most: %d", err)
	}
}

// P8.3: Run.
func TestRun(t *testing.T) {
	rows := []struct {
		o    api.Op
		next api.Cell
		out  []int64
	}{
		{op(api.OpReduce, 0, 0), cell(3, 9), []int64{2, 5, 9}},
		{op(api.OpWindow, 2, 0), cell(1, 4), []int64{5}},
		{op(api.OpMap, -1, 0), cell(0, 0), []int64{-2, -3, -4}},
		{op(api.OpFilter, 2, 0), cell(0, 0), []int64{2, 4}},
	}
	for _, r := range rows {
		next, out, err := ops.Run(r.o, api.Cell{}, []int64{2, 3, 4})
		if next != r.next || !slices.Equal(out, r.out) || err != api.OK {
			t.Errorf("Run(%v): %v %v %d", r.o, next, out, err)
		}
	}
}

// P8.4: Row.
func TestRow(t *testing.T) {
	double, reduce, window := op(api.OpMap, 2, 0), op(api.OpReduce, 0, 0), op(api.OpWindow, 2, 0)
	rows := []struct {
		l      []api.Op
		values []int64
		out    []int64
		err    api.Errno
	}{
		{[]api.Op{double, reduce}, []int64{1, 2}, []int64{2, 6}, api.OK},
		{[]api.Op{reduce, double, window}, []int64{1, 2, 3}, []int64{8}, api.OK},
		{nil, []int64{4, 5}, []int64{4, 5}, api.OK},
		{nil, make([]int64, api.MaxInput+1), nil, api.ErrLong},
		{slices.Repeat([]api.Op{double}, api.MaxOps), []int64{1}, []int64{256}, api.OK},
		{slices.Repeat([]api.Op{double}, api.MaxOps+1), []int64{1}, nil, api.ErrLong},
		{[]api.Op{double, op(api.OpFilter, 0, 0)}, nil, nil, api.ErrOp},
		{[]api.Op{op(api.OpFilter, 2, 1), {}}, []int64{2}, nil, api.ErrOp},
	}
	for _, r := range rows {
		if out, err := ops.Row(r.l, r.values); err != r.err || !slices.Equal(out, r.out) {
			t.Errorf("Row(%v, %v): %v %d", r.l, r.values, out, err)
		}
	}
	values := []int64{1, 2}
	out, _ := ops.Row(nil, values)
	out[0] = 9
	if values[0] != 1 {
		t.Errorf("Row shares")
	}
}

// P8.5: Mod.
func TestMod(t *testing.T) {
	for _, r := range [][3]int64{{-7, 3, 2}, {7, 3, 1}, {-6, 3, 0}, {0, 5, 0}, {5, 0, 0}, {5, -3, 0}, {math.MinInt64, 1, 0}, {math.MinInt64, math.MaxInt64, math.MaxInt64 - 1}, {math.MaxInt64, math.MaxInt64, 0}, {math.MinInt64, -1, 0}, {-1, math.MaxInt64, math.MaxInt64 - 1}} {
		if got := ops.Mod(r[0], r[1]); got != r[2] {
			t.Errorf("Mod(%d, %d): %d", r[0], r[1], got)
		}
	}
}

// P8.6: what follows.
func TestFollows(t *testing.T) {
	rnd := rand.New(rand.NewSource(8))
	all := []api.Op{op(api.OpSource, 0, 0), op(api.OpMap, 3, -7), op(api.OpFilter, 4, 2), op(api.OpReduce, 0, 0), op(api.OpWindow, 3, 0), op(api.OpUnion, 0, 0), op(api.OpSink, 0, 0)}
	for range 500 {
		o := all[rnd.Intn(len(all))]
		values := make([]int64, rnd.Intn(api.MaxInput+1))
		for i := range values {
			values[i] = int64(rnd.Uint64()) >> rnd.Intn(64)
		}
		n := rnd.Intn(len(values) + 1)
		c1, out1, _ := ops.Run(o, api.Cell{}, values[:n])
		c2, out2, _ := ops.Run(o, c1, values[n:])
		c, out, err := ops.Run(o, api.Cell{}, values)
		if err != api.OK || c != c2 || !slices.Equal(out, slices.Concat(out1, out2)) {
			t.Fatalf("%v of %v: parted", o, values)
		}
		if !ops.Fits(o, c) || len(out) > len(values) || o.Tag == api.OpWindow && len(out) != len(values)/3 {
			t.Fatalf("%v of %v: %v %v", o, values, c, out)
		}
		cell, step := api.Cell{}, []int64(nil)
		for _, v := range values {
			next, out, err := ops.Do(o, cell, v)
			if err != api.OK || len(out) > 1 || !ops.Fits(o, next) {
				t.Fatalf("Do(%v, %v, %d): %v %v %d", o, cell, v, next, out, err)
			}
			cell, step = next, append(step, out...)
		}
		if cell != c || !slices.Equal(step, out) {
			t.Fatalf("%v of %v: one by one", o, values)
		}
	}
}
