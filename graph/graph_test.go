package graph_test

import (
	"bytes"
	"math"
	"math/rand"
	"slices"
	"testing"

	"headrace/api"
	"headrace/graph"
	"headrace/sample"
)

func op(tag, width int, a, b int64, inputs ...int) api.Op {
	return api.Op{Tag: tag, Width: width, A: a, B: b, Inputs: inputs}
}

func of(l ...api.Op) api.Graph {
	return api.Graph{Ops: l}
}

var (
	s = op(api.OpSource, 1, 0, 0)
	u = op(api.OpSource, 1, 1, 0)
	m = op(api.OpMap, 1, 0, 0, 0)
	k = op(api.OpSink, 1, 0, 0, 0)
)

// P6.1: Alone.
func TestAlone(t *testing.T) {
	rows := []struct {
		o    api.Op
		i    int
		want bool
	}{
		{s, 0, true}, {s, 7, true}, {s, -1, false},
		{op(api.OpSource, 3, 3, 0), 0, true},
		{op(api.OpSource, 0, 0, 0), 0, false},
		{op(api.OpSource, 4, 0, 0), 0, false},
		{op(api.OpSource, -1, 0, 0), 0, false},
		{op(api.OpSource, 1, 4, 0), 0, false},
		{op(api.OpSource, 1, -1, 0), 0, false},
		{op(api.OpSource, 1, 0, 1), 0, false},
		{op(api.OpSource, 1, 0, 0, 0), 1, false},
		{m, 1, true}, {m, 0, false}, {m, math.MaxInt, true},
		{op(api.OpMap, 1, math.MinInt64, math.MaxInt64, 6), 7, true},
		{op(api.OpMap, 1, 0, 0, 7), 7, false},
		{op(api.OpMap, 1, 0, 0, -1), 7, false},
		{op(api.OpMap, 1, 0, 0), 7, false},
		{op(api.OpMap, 1, 0, 0, 0, 1), 7, false},
		{op(api.OpFilter, 1, 1, 0, 0), 7, true},
		{op(api.OpFilter, 1, 3, 2, 0), 7, true},
		{op(api.OpFilter, 1, 3, 3, 0), 7, false},
		{op(api.OpFilter, 1, 3, -1, 0), 7, false},
		{op(api.OpFilter, 1, 0, 0, 0), 7, false},
		{op(api.OpFilter, 1, -3, 0, 0), 7, false},
		{op(api.OpFilter, 1, 3, 0), 7, false},
		{op(api.OpReduce, 1, 0, 0, 0), 7, true},
		{op(api.OpReduce, 1, 1, 0, 0), 7, false},
		{op(api.OpReduce, 1, 0, 1, 0), 7, false},
		{op(api.OpReduce, 1, 0, 0), 7, false},
		{op(api.OpReduce, 1, 0, 0, 0, 1), 7, false},
		{op(api.OpWindow, 1, 1, 0, 0), 7, true},
		{op(api.OpWindow, 1, 8, 0, 0), 7, true},
		{op(api.OpWindow, 1, 9, 0, 0), 7, false},
		{op(api.OpWindow, 1, 0, 0, 0), 7, false},
		{op(api.OpWindow, 1, 1, 1, 0), 7, false},
		{op(api.OpWindow, 1, 1, 0), 7, false},
		{op(api.OpUnion, 1, 0, 0, 0, 1), 2, true},
		{op(api.OpUnion, 1, 0, 0, 0, 1, 5), 6, true},
		{op(api.OpUnion, 1, 0, 0, 0), 7, false},
		{op(api.OpUnion, 1, 0, 0), 7, false},
		{op(api.OpUnion, 1, 0, 0, 1, 0), 7, false},
		{op(api.OpUnion, 1, 0, 0, 1, 1), 7, false},
		{op(api.OpUnion, 1, 1, 0, 0, 1), 7, false},
		{op(api.OpUnion, 1, 0, 1, 0, 1), 7, false},
		{k, 1, true}, {op(api.OpSink, 1, 1, 0, 0), 1, false}, {op(api.OpSink, 1, 0, 2, 0), 1, false},
		{op(api.OpSink, 1, 0, 0), 1, false}, {op(api.OpSink, 1, 0, 0, 0, 1), 2, false},
		{op(0, 1, 0, 0, 0), 1, false}, {op(8, 1, 0, 0, 0), 1, false}, {op(-1, 1, 0, 0, 0), 1, false},
	}
	for _, r := range rows {
		if got := graph.Alone(r.o, r.i); got != r.want {
			t.Errorf("Alone(%v, %d): %v", r.o, r.i, got)
		}
	}
}

// P6.1: Check, of each fault the first operator that has one.
func TestCheck(t *testing.T) {
	three := func(tag int, inputs ...int) api.Op { return op(tag, 3, 0, 0, inputs...) }
	rows := []struct {
		name string
		g    api.Graph
		i    int
		err  api.Errno
	}{
		{"example", of(s, op(api.OpSink, 1, 0, 0, 0)), 0, api.OK},
		{"none", of(), 0, api.ErrGraph},
		{"source alone", of(s), 0, api.ErrUnread},
		{"too many", of(slices.Repeat([]api.Op{s}, 9)...), 0, api.ErrGraph},
		{"as many as may be", of(s, m, m, m, k, k, op(api.OpSink, 1, 0, 0, 2), op(api.OpSink, 1, 0, 0, 3)), 1, api.ErrUnread},
		{"meeting", of(s, m, m, op(api.OpUnion, 1, 0, 0, 1, 2), op(api.OpSink, 1, 0, 0, 3)), 3, api.ErrMeet},
		{"meeting ahead", of(s, m, op(api.OpUnion, 1, 0, 0, 0, 1), op(api.OpSink, 1, 0, 0, 2)), 2, api.ErrMeet},
		{"union", of(s, u, op(api.OpUnion, 1, 0, 0, 0, 1), op(api.OpSink, 1, 0, 0, 2)), 0, api.OK},
		{"union of a union", of(s, u, op(api.OpUnion, 1, 0, 0, 0, 1), op(api.OpUnion, 1, 0, 0, 1, 2), op(api.OpSink, 1, 0, 0, 3)), 3, api.ErrMeet},
		{"source twice", of(s, s, k, op(api.OpSink, 1, 0, 0, 1)), 1, api.ErrGraph},
		{"reads a sink", of(s, k, op(api.OpMap, 1, 0, 0, 1), op(api.OpSink, 1, 0, 0, 2)), 2, api.ErrGraph},
		{"union of a sink", of(s, k, op(api.OpUnion, 1, 0, 0, 0, 1), op(api.OpSink, 1, 0, 0, 2)), 2, api.ErrGraph},
		{"reads itself", of(s, op(api.OpMap, 1, 0, 0, 1), k), 1, api.ErrGraph},
		{"unread map", of(s, m, k), 1, api.ErrUnread},
		{"unread source", of(s, u, k), 1, api.ErrUnread},
		{"unread, and a fault behind", of(s, u, k, op(api.OpSink, 0, 0, 0, 1)), 3, api.ErrGraph},
		{"wide", of(three(api.OpSource), three(api.OpMap, 0), three(api.OpMap, 1), three(api.OpMap, 2), three(api.OpMap, 3), op(api.OpSink, 1, 0, 0, 4)), 0, api.OK},
		{"too wide", of(three(api.OpSource), three(api.OpMap, 0), three(api.OpMap, 1), three(api.OpMap, 2), three(api.OpMap, 3), op(api.OpSink, 2, 0, 0, 4)), 5, api.ErrWide},
		{"too wide, and wrong behind", of(three(api.OpSource), three(api.OpMap, 0), three(api.OpMap, 0), three(api.OpMap, 0), three(api.OpMap, 0), three(api.OpMap, 0), op(99, 1, 0, 0)), 5, api.ErrWide},
		{"too wide, and meeting", of(three(api.OpSource), three(api.OpMap, 0), three(api.OpMap, 0), three(api.OpMap, 0), three(api.OpMap, 0), three(api.OpUnion, 1, 2), three(api.OpSink, 5)), 5, api.ErrMeet},
		{"a great width", of(op(api.OpSource, math.MaxInt, 0, 0), k), 0, api.ErrGraph},
		{"eight sinks", of(s, k, k, k, k, k, k, k), 0, api.OK},
	}
	for _, r := range rows {
		if i, err := graph.Check(r.g); i != r.i || err != r.err {
			t.Errorf("%s: %d %d", r.name, i, err)
		}
	}
}

// P6.2: Sources, Readers, Subtasks.
func TestTold(t *testing.T) {
	g := of(op(api.OpSource, 2, 3, 0), u, op(api.OpUnion, 3, 0, 0, 0, 1), op(api.OpReduce, 1, 0, 0, 2), op(api.OpSink, 2, 0, 0, 3), op(api.OpSink, 1, 0, 0, 0))
	sources := [][]int{{3}, {1}, {1, 3}, {1, 3}, {1, 3}, {3}}
	readers := [][]int{{2, 5}, {2}, {3}, {4}, nil, nil}
	for i := range g.Ops {
		if got := graph.Sources(g, i); !slices.Equal(got, sources[i]) {
			t.Errorf("Sources(%d): %v", i, got)
		}
		if got := graph.Readers(g, i); !slices.Equal(got, readers[i]) {
			t.Errorf("Readers(%d): %v", i, got)
		}
	}
	if n := graph.Subtasks(g); n != 10 {
		t.Errorf("Subtasks: %d", n)
	}
	for _, i := range []int{-1, 6, math.MaxInt, math.MinInt} {
		if len(graph.Sources(g, i)) != 0 || len(graph.Readers(g, i)) != 0 {
			t.Errorf("of what is no operator: %d", i)
		}
	}
	for _, g := range []api.Graph{of(), of(s), of(s, u, k)} {
		if len(graph.Sources(g, 0)) != 0 || len(graph.Readers(g, 0)) != 0 || graph.Subtasks(g) != 0 {
			t.Errorf("of what may not be: %v", g)
		}
	}
}

// P6.2: Same, of whatever graphs.
func TestSame(t *testing.T) {
	a := of(s, op(9, 9, 9, 9, 9))
	for i, b := range []api.Graph{
		of(s), of(s, op(8, 9, 9, 9, 9)), of(s, op(9, 8, 9, 9, 9)), of(s, op(9, 9, 8, 9, 9)), of(s, op(9, 9, 9, 8, 9)), of(s, op(9, 9, 9, 9, 8)), of(s, op(9, 9, 9, 9)),
		of(s, op(9, 9, 9, 9, 9, 9)), of(op(9, 9, 9, 9, 9), s), of(),
	} {
		if graph.Same(a, b) || graph.Same(b, a) {
			t.Errorf("the same as %d", i)
		}
	}
	b := of(op(api.OpSource, 1, 0, 0), op(9, 9, 9, 9, 9))
	b.Ops[0].Inputs = []int{}
	if !graph.Same(a, b) || !graph.Same(of(), api.Graph{Ops: []api.Op{}}) {
		t.Errorf("not the same")
	}
}

// P6.3: Encode.
func TestEncode(t *testing.T) {
	want := slices.Concat([]byte{2, 1, 1}, make([]byte, 16), []byte{0, 7, 1}, make([]byte, 16), []byte{1, 0})
	if b, err := graph.Encode(of(s, k)); err != api.OK || !bytes.Equal(b, want) {
		t.Errorf("Encode: %v %d", b, err)
	}
	b, err := graph.Encode(of(s, op(api.OpMap, 2, -1, 258, 0), op(api.OpSink, 1, 0, 0, 1)))
	want = slices.Concat([]byte{2, 2}, bytes.Repeat([]byte{255}, 8), []byte{0, 0, 0, 0, 0, 0, 1, 2, 1, 0})
	if err != api.OK || !bytes.Equal(b[20:40], want) {
		t.Errorf("Encode: %v %d", b, err)
	}
	for _, r := range []struct {
		g   api.Graph
		err api.Errno
	}{{of(), api.ErrGraph}, {of(s), api.ErrUnread}, {of(s, m, op(api.OpUnion, 1, 0, 0, 0, 1)), api.ErrMeet}} {
		if b, err := graph.Encode(r.g); err != r.err || len(b) != 0 {
			t.Errorf("Encode(%v): %d", r.g, err)
		}
	}
}

// P6.3: Decode.
func TestDecode(t *testing.T) {
	good, _ := graph.Encode(of(s, k))
	for n := range good {
		if g, err := graph.Decode(good[:n]); err != api.ErrShort || len(g.Ops) != 0 {
			t.Errorf("Decode of %d bytes: %d", n, err)
		}
	}
	change := func(at int, x byte) []byte {
		b := bytes.Clone(good)
		b[at] = x
		return b
	}
	rows := []struct {
		name string
		b    []byte
		err  api.Errno
	}{
		{"nothing", nil, api.ErrShort},
		{"no operators", []byte{0}, api.ErrGraph},
		{"nine", []byte{9}, api.ErrGraph},
		{"eight", []byte{8}, api.ErrShort},
		{"more behind", append(bytes.Clone(good), 0), api.ErrGraph},
		{"a wrong tag", change(1, 9), api.ErrGraph},
		{"a wrong width", change(2, 0), api.ErrGraph},
		{"nine inputs", change(19, 9)[:20], api.ErrGraph},
		{"eight inputs", change(19, 8)[:20], api.ErrShort},
		{"an input that is not there", change(39, 1), api.ErrGraph},
		{"three operators", change(0, 3), api.ErrShort},
		{"unread", change(0, 1)[:20], api.ErrGraph},
		{"one, and more behind", change(0, 1), api.ErrGraph},
	}
	for _, r := range rows {
		if g, err := graph.Decode(r.b); err != r.err || len(g.Ops) != 0 {
			t.Errorf("%s: %d", r.name, err)
		}
	}
}

// R3: nothing is shared.
func TestShares(t *testing.T) {
	g := of(s, u, op(api.OpUnion, 1, 0, 0, 0, 1), op(api.OpSink, 1, 0, 0, 2))
	graph.Sources(g, 2)[0] = 9
	graph.Readers(g, 0)[0] = 9
	if _, err := graph.Check(g); err != api.OK {
		t.Errorf("shares: %d", err)
	}
	b, _ := graph.Encode(g)
	x, _ := graph.Decode(b)
	b[0] = 0
	x.Ops[2].Inputs[0] = 1
	if y, err := graph.Decode(b); err == api.OK || len(y.Ops) != 0 || g.Ops[2].Inputs[0] != 0 {
		t.Errorf("shares")
	}
}

// P6.4: what follows.
func TestFollows(t *testing.T) {
	rnd := rand.New(rand.NewSource(6))
	for range 500 {
		g := sample.Graph(rnd.Intn)
		total := 0
		for i, o := range g.Ops {
			total += o.Width
			if len(graph.Sources(g, i)) == 0 {
				t.Fatalf("%v: %d has no source", g, i)
			}
			if o.Tag != api.OpSink && len(graph.Readers(g, i)) == 0 {
				t.Fatalf("%v: %d is not read", g, i)
			}
			var all []int
			for _, x := range o.Inputs {
				all = append(all, graph.Sources(g, x)...)
				if !slices.Contains(graph.Readers(g, x), i) {
					t.Fatalf("%v: %d does not read %d", g, i, x)
				}
			}
			slices.Sort(all)
			if o.Tag != api.OpSource && !slices.Equal(all, graph.Sources(g, i)) {
				t.Fatalf("%v: sources of %d", g, i)
			}
		}
		if total != graph.Subtasks(g) {
			t.Fatalf("%v: %d subtasks", g, total)
		}
		b, err := graph.Encode(g)
		if err != api.OK {
			t.Fatal(err)
		}
		back, err := graph.Decode(b)
		if err != api.OK || !graph.Same(back, g) {
			t.Fatalf("%v: %d", g, err)
		}
		b[rnd.Intn(len(b))] ^= byte(1 << rnd.Intn(8))
		if x, err := graph.Decode(b); err == api.OK {
			if again, _ := graph.Encode(x); !bytes.Equal(again, b) {
				t.Fatalf("%v: %v", b, again)
			}
		} else if len(x.Ops) != 0 || err != api.ErrGraph && err != api.ErrShort {
			t.Fatalf("%v: %d", b, err)
		}
	}
}
