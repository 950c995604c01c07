package region_test

import (
	"math"
	"math/rand"
	"slices"
	"testing"

	"headrace/api"
	"headrace/graph"
	"headrace/region"
	"headrace/sample"
)

func op(tag, width int, a int64, inputs ...int) api.Op {
	return api.Op{Tag: tag, Width: width, A: a, Inputs: inputs}
}

var example = api.Graph{Ops: []api.Op{
	op(api.OpSource, 1, 0), op(api.OpSource, 2, 1), op(api.OpSink, 1, 0, 0), op(api.OpMap, 1, 0, 1), op(api.OpSink, 2, 0, 3),
}}

// P10.1: All, Of.
func TestAll(t *testing.T) {
	want := [][]int{{0, 2}, {1, 3, 4}}
	all, err := region.All(example)
	if err != api.OK || !slices.EqualFunc(all, want, slices.Equal) {
		t.Errorf("All: %v %d", all, err)
	}
	for _, row := range want {
		for _, i := range row {
			if got, err := region.Of(example, i); err != api.OK || !slices.Equal(got, row) {
				t.Errorf("Of(%d): %v %d", i, got, err)
			}
		}
	}
	// Two sources hang together by a union alone.
	g := api.Graph{Ops: []api.Op{op(api.OpSource, 1, 0), op(api.OpSource, 1, 1), op(api.OpSource, 1, 2), op(api.OpUnion, 1, 0, 0, 2), op(api.OpSink, 1, 0, 3), op(api.OpSink, 1, 0, 1)}}
	if all, _ := region.All(g); !slices.EqualFunc(all, [][]int{{0, 2, 3, 4}, {1, 5}}, slices.Equal) {
		t.Errorf("All of a union: %v", all)
	}
	// A later union ties two regions whose first operators are parted.
	g = api.Graph{Ops: []api.Op{op(api.OpSource, 1, 0), op(api.OpSource, 1, 1), op(api.OpMap, 1, 0, 1), op(api.OpMap, 1, 0, 0), op(api.OpUnion, 1, 0, 2, 3), op(api.OpSink, 1, 0, 4), op(api.OpSink, 1, 0, 0)}}
	if all, _ := region.All(g); !slices.EqualFunc(all, [][]int{{0, 1, 2, 3, 4, 5, 6}}, slices.Equal) {
		t.Errorf("All of one: %v", all)
	}
}

// P10.2: Tasks, Op.
func TestTasks(t *testing.T) {
	n := 0
	for i, want := range [][]int{{0}, {1, 2}, {3}, {4}, {5, 6}} {
		got, err := region.Tasks(example, i)
		if err != api.OK || !slices.Equal(got, want) {
			t.Errorf("Tasks(%d): %v %d", i, got, err)
		}
		for index, task := range want {
			if a, b, err := region.Op(example, task); a != i || b != index || err != api.OK {
				t.Errorf("Op(%d): %d %d %d", task, a, b, err)
			}
			n++
		}
	}
	for _, task := range []int{-1, n, math.MaxInt, math.MinInt} {
		if a, b, err := region.Op(example, task); a != 0 || b != 0 || err != api.ErrArg {
			t.Errorf("Op(%d): %d %d %d", task, a, b, err)
		}
	}
}

// P10.3: Anew.
func TestAnew(t *testing.T) {
	for _, r := range []struct {
		fallen, want []int
		err          api.Errno
	}{
		{[]int{3}, []int{0, 3}, api.OK},
		{[]int{0, 4}, []int{0, 1, 2, 3, 4, 5, 6}, api.OK},
		{nil, nil, api.OK},
		{[]int{6, 6, 1}, []int{1, 2, 4, 5, 6}, api.OK},
		{[]int{6, 7}, nil, api.ErrArg},
		{[]int{-1}, nil, api.ErrArg},
		{[]int{math.MaxInt, 0}, nil, api.ErrArg},
	} {
		if got, err := region.Anew(example, r.fallen); err != r.err || !slices.Equal(got, r.want) {
			t.Errorf("Anew(%v): %v %d", r.fallen, got, err)
		}
	}
}

// P10.4: Alone.
func TestAlone(t *testing.T) {
	g, numbers, err := region.Alone(example, 3)
	want := api.Graph{Ops: []api.Op{op(api.OpSource, 2, 1), op(api.OpMap, 1, 0, 0), op(api.OpSink, 2, 0, 1)}}
	if err != api.OK || !graph.Same(g, want) || !slices.Equal(numbers, []int{1, 3, 4}) {
		t.Errorf("Alone(3): %v %v %d", g, numbers, err)
	}
	g.Ops[1].Inputs[0] = 5
	numbers[0] = 7
	if _, err := graph.Check(example); err != api.OK {
		t.Errorf("Alone shares")
	}
}

// Errors: of graph first, then what is no operator's number.
func TestErrors(t *testing.T) {
	unread := api.Graph{Ops: example.Ops[:2]}
	if l, err := region.All(unread); len(l) != 0 || err != api.ErrUnread {
		t.Errorf("All: %d", err)
	}
	if _, _, err := region.Op(unread, 99); err != api.ErrUnread {
		t.Errorf("Op: %d", err)
	}
	if l, err := region.Anew(unread, []int{99}); len(l) != 0 || err != api.ErrUnread {
		t.Errorf("Anew: %d", err)
	}
	for _, r := range []struct {
		g   api.Graph
		n   int
		err api.Errno
	}{{unread, 99, api.ErrUnread}, {api.Graph{}, 0, api.ErrGraph}, {example, 5, api.ErrArg}, {example, -1, api.ErrArg}, {example, math.MaxInt, api.ErrArg}} {
		if l, err := region.Of(r.g, r.n); len(l) != 0 || err != r.err {
			t.Errorf("Of(%d): %v %d", r.n, l, err)
		}
		if l, err := region.Tasks(r.g, r.n); len(l) != 0 || err != r.err {
			t.Errorf("Tasks(%d): %v %d", r.n, l, err)
		}
		if g, l, err := region.Alone(r.g, r.n); len(g.Ops) != 0 || len(l) != 0 || err != r.err {
			t.Errorf("Alone(%d): %d", r.n, err)
		}
	}
}

// P10.5: what follows.
func TestFollows(t *testing.T) {
	rnd := rand.New(rand.NewSource(10))
	for range 300 {
		g := sample.Graph(rnd.Intn)
		all, err := region.All(g)
		if err != api.OK {
			t.Fatal(err)
		}
		of := make([]int, len(g.Ops))
		for i := range of {
			of[i] = -1
		}
		count := 0
		for n, row := range all {
			for _, i := range row {
				if of[i] >= 0 {
					t.Fatalf("%v: %d is in two regions", g, i)
				}
				of[i] = n
				count++
			}
			alone, numbers, err := region.Alone(g, row[0])
			if _, bad := graph.Check(alone); err != api.OK || bad != api.OK || !slices.Equal(numbers, row) {
				t.Fatalf("%v: alone %v", g, alone)
			}
			if one, _ := region.All(alone); len(one) != 1 || len(one[0]) != len(row) {
				t.Fatalf("%v: alone %v", g, one)
			}
		}
		if count != len(g.Ops) || !slices.IsSortedFunc(all, func(a, b []int) int { return a[0] - b[0] }) {
			t.Fatalf("%v: %v", g, all)
		}
		for i, o := range g.Ops {
			for _, x := range o.Inputs {
				if of[i] != of[x] {
					t.Fatalf("%v: %d and %d are parted", g, i, x)
				}
			}
		}
		n := graph.Subtasks(g)
		a, b := []int{rnd.Intn(n)}, []int{rnd.Intn(n), rnd.Intn(n)}
		anewA, _ := region.Anew(g, a)
		anewB, _ := region.Anew(g, b)
		both, _ := region.Anew(g, slices.Concat(a, b))
		again, _ := region.Anew(g, both)
		want := slices.Concat(anewA, anewB)
		slices.Sort(want)
		if !slices.Equal(both, slices.Compact(want)) || !slices.Equal(both, again) {
			t.Fatalf("%v: Anew of %v, %v: %v", g, a, b, both)
		}
		i, _, _ := region.Op(g, a[0])
		for _, task := range anewA {
			if j, _, _ := region.Op(g, task); of[i] != of[j] {
				t.Fatalf("%v: Anew of %v: %v", g, a, anewA)
			}
		}
	}
}
