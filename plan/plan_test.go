package plan_test

import (
	"math"
	"math/rand"
	"slices"
	"testing"

	"headrace/api"
	"headrace/keys"
	"headrace/plan"
	"headrace/sample"
)

func op(tag, width int, inputs ...int) api.Op {
	return api.Op{Tag: tag, Width: width, Inputs: inputs}
}

var (
	example = api.Graph{Ops: []api.Op{op(api.OpSource, 2), op(api.OpMap, 1, 0), op(api.OpSink, 3, 1)}}
	direct  = api.Graph{Ops: []api.Op{op(api.OpSource, 2), op(api.OpSink, 3, 0)}}
	unread  = api.Graph{Ops: []api.Op{op(api.OpSource, 2)}}
)

// P9.1, P9.4: Subs, Chans, Number, Sources, Sinks.
func TestSubs(t *testing.T) {
	subs, err := plan.Subs(example)
	if want := []api.Sub{{Op: 0}, {Op: 0, Index: 1}, {Op: 1}, {Op: 2}, {Op: 2, Index: 1}, {Op: 2, Index: 2}}; err != api.OK || !slices.Equal(subs, want) {
		t.Errorf("Subs: %v %d", subs, err)
	}
	for n, s := range subs {
		if got, err := plan.Number(example, s); got != n || err != api.OK {
			t.Errorf("Number(%v): %d %d", s, got, err)
		}
	}
	for _, s := range []api.Sub{{Op: -1}, {Op: 3}, {Op: 0, Index: 2}, {Op: 0, Index: -1}, {Op: 1, Index: 1}, {Op: math.MaxInt, Index: math.MinInt}} {
		if got, err := plan.Number(example, s); got != 0 || err != api.ErrArg {
			t.Errorf("Number(%v): %d %d", s, got, err)
		}
	}
	chans, err := plan.Chans(example)
	if want := []api.Chan{{From: 0, To: 2}, {From: 1, To: 2}, {From: 2, To: 3}, {From: 2, To: 4}, {From: 2, To: 5}}; err != api.OK || !slices.Equal(chans, want) {
		t.Errorf("Chans: %v %d", chans, err)
	}
	chans, err = plan.Chans(direct)
	if want := []api.Chan{{From: 0, To: 2}, {From: 0, To: 3}, {From: 1, To: 3}, {From: 1, To: 4}}; err != api.OK || !slices.Equal(chans, want) {
		t.Errorf("Chans: %v %d", chans, err)
	}
	if l, err := plan.Sources(example); err != api.OK || !slices.Equal(l, []int{0, 1}) {
		t.Errorf("Sources: %v %d", l, err)
	}
	if l, err := plan.Sinks(example); err != api.OK || !slices.Equal(l, []int{3, 4, 5}) {
		t.Errorf("Sinks: %v %d", l, err)
	}
}

// P9.2, P9.3: In, Out, Groups, Has, Route.
func TestChannels(t *testing.T) {
	rows := []struct {
		name string
		of   func(g api.Graph, n int) ([]int, api.Errno)
		g    api.Graph
		want [][]int
	}{
		{"In", plan.In, example, [][]int{nil, nil, {0, 1}, {2}, {3}, {4}}},
		{"Out", plan.Out, example, [][]int{{0}, {1}, {2, 3, 4}, nil, nil, nil}},
		{"Groups", plan.Groups, example, [][]int{{0, 1, 2, 3}, {4, 5, 6, 7}, {0, 1, 2}, {3, 4, 5}, {6, 7}}},
		{"In", plan.In, direct, [][]int{nil, nil, {0}, {1, 2}, {3}}},
		{"Out", plan.Out, direct, [][]int{{0, 1}, {2, 3}, nil, nil, nil}},
		{"Groups", plan.Groups, direct, [][]int{{0, 1, 2}, {3}, {4, 5}, {6, 7}}},
	}
	for _, r := range rows {
		for n, want := range r.want {
			if got, err := r.of(r.g, n); err != api.OK || !slices.Equal(got, want) {
				t.Errorf("%s(%d): %v %d", r.name, n, got, err)
			}
		}
		for _, n := range []int{-1, len(r.want), math.MaxInt, math.MinInt} {
			if got, err := r.of(r.g, n); err != api.ErrArg || len(got) != 0 {
				t.Errorf("%s(%d): %v %d", r.name, n, got, err)
			}
		}
	}
	key := func(k int) api.Record { return api.Record{Source: 7, Key: k, Value: 5} }
	if l, err := plan.Route(example, 2, key(9)); err != api.OK || !slices.Equal(l, []int{2}) {
		t.Errorf("Route: %v %d", l, err)
	}
	if l, err := plan.Route(direct, 0, key(11)); err != api.OK || !slices.Equal(l, []int{1}) {
		t.Errorf("Route: %v %d", l, err)
	}
	if l, err := plan.Route(example, 3, key(9)); err != api.OK || len(l) != 0 {
		t.Errorf("Route of a sink: %v %d", l, err)
	}
	if l, err := plan.Route(example, 0, key(12)); err != api.ErrArg || len(l) != 0 {
		t.Errorf("Route of another one's: %v %d", l, err)
	}
	if ok, err := plan.Has(example, 0, key(12)); ok || err != api.OK {
		t.Errorf("Has another one's: %v %d", ok, err)
	}
	if ok, err := plan.Has(example, 1, key(12)); !ok || err != api.OK {
		t.Errorf("Has: %v %d", ok, err)
	}
	for _, r := range []struct {
		sub int
		r   api.Record
		err api.Errno
	}{{6, key(40), api.ErrArg}, {-1, key(4), api.ErrArg}, {2, key(32), api.ErrRecord}, {0, api.Record{Source: 8, Key: 12}, api.ErrRecord}} {
		if ok, err := plan.Has(example, r.sub, r.r); ok || err != r.err {
			t.Errorf("Has(%d, %v): %d", r.sub, r.r, err)
		}
		if l, err := plan.Route(example, r.sub, r.r); len(l) != 0 || err != r.err {
			t.Errorf("Route(%d, %v): %d", r.sub, r.r, err)
		}
	}
}

// Errors of graph come ahead of all else.
func TestGraphFirst(t *testing.T) {
	for _, g := range []struct {
		g   api.Graph
		err api.Errno
	}{{unread, api.ErrUnread}, {api.Graph{}, api.ErrGraph}} {
		for name, of := range map[string]func(g api.Graph, n int) ([]int, api.Errno){
			"In": plan.In, "Out": plan.Out, "Groups": plan.Groups,
			"Route":   func(g api.Graph, n int) ([]int, api.Errno) { return plan.Route(g, n, api.Record{Source: -1}) },
			"Sources": func(g api.Graph, n int) ([]int, api.Errno) { return plan.Sources(g) },
			"Sinks":   func(g api.Graph, n int) ([]int, api.Errno) { return plan.Sinks(g) },
		} {
			if l, err := of(g.g, -1); len(l) != 0 || err != g.err {
				t.Errorf("%s: %v %d", name, l, err)
			}
		}
		if l, err := plan.Subs(g.g); len(l) != 0 || err != g.err {
			t.Errorf("Subs: %v %d", l, err)
		}
		if l, err := plan.Chans(g.g); len(l) != 0 || err != g.err {
			t.Errorf("Chans: %v %d", l, err)
		}
		if n, err := plan.Number(g.g, api.Sub{Op: 9}); n != 0 || err != g.err {
			t.Errorf("Number: %d %d", n, err)
		}
		if ok, err := plan.Has(g.g, 9, api.Record{}); ok || err != g.err {
			t.Errorf("Has: %d", err)
		}
	}
}

// P9.1, P9.2, P9.5: whatever the graph is.
func TestFollows(t *testing.T) {
	rnd := rand.New(rand.NewSource(9))
	for range 150 {
		g := sample.Graph(rnd.Intn)
		subs, _ := plan.Subs(g)
		chans, _ := plan.Chans(g)
		var want []api.Chan
		for from, s := range subs {
			for to, x := range subs {
				a, _ := keys.Owned(s.Index, g.Ops[s.Op].Width)
				b, _ := keys.Owned(x.Index, g.Ops[x.Op].Width)
				both := slices.ContainsFunc(a, func(g int) bool { return slices.Contains(b, g) })
				if slices.Contains(g.Ops[x.Op].Inputs, s.Op) && both {
					want = append(want, api.Chan{From: from, To: to})
				}
			}
		}
		if !slices.Equal(chans, want) {
			t.Fatalf("%v: %v, not %v", g, chans, want)
		}
		ins, outs := 0, 0
		for n, s := range subs {
			in, _ := plan.In(g, n)
			out, _ := plan.Out(g, n)
			ins, outs = ins+len(in), outs+len(out)
			for _, c := range in {
				if chans[c].To != n || chans[c].From >= n {
					t.Fatalf("%v: the channel %d comes to %d", g, c, n)
				}
			}
			for _, c := range out {
				if chans[c].From != n {
					t.Fatalf("%v: the channel %d goes from %d", g, c, n)
				}
			}
			if (len(in) == 0) != (g.Ops[s.Op].Tag == api.OpSource) || (len(out) == 0) != (g.Ops[s.Op].Tag == api.OpSink) {
				t.Fatalf("%v: %d has %v, %v", g, n, in, out)
			}
			r := api.Record{Source: rnd.Intn(8), Key: rnd.Intn(32)}
			has, err := plan.Has(g, n, r)
			if err != api.OK || has != keys.Mine(r, s.Index, g.Ops[s.Op].Width) {
				t.Fatalf("%v: Has(%d, %v): %v", g, n, r, has)
			}
			if has {
				route(t, g, n, r, subs, chans)
			}
		}
		if ins != len(chans) || outs != len(chans) {
			t.Fatalf("%v: %d, %d of %d channels", g, ins, outs, len(chans))
		}
	}
}

// route checks that a record goes to each reader by just one channel, whose end has its group.
func route(t *testing.T, g api.Graph, n int, r api.Record, subs []api.Sub, chans []api.Chan) {
	t.Helper()
	l, err := plan.Route(g, n, r)
	if err != api.OK || !slices.IsSorted(l) {
		t.Fatalf("%v: Route(%d, %v): %v %d", g, n, r, l, err)
	}
	var readers []int
	for _, c := range l {
		to, _ := plan.Has(g, chans[c].To, r)
		groups, _ := plan.Groups(g, c)
		if chans[c].From != n || !to || !slices.Contains(groups, r.Key%8) {
			t.Fatalf("%v: Route(%d, %v): %v", g, n, r, l)
		}
		readers = append(readers, subs[chans[c].To].Op)
	}
	var want []int
	for i, o := range g.Ops {
		if slices.Contains(o.Inputs, subs[n].Op) {
			want = append(want, i)
		}
	}
	if !slices.Equal(readers, want) {
		t.Fatalf("%v: Route(%d, %v) leads to %v", g, n, r, readers)
	}
}
