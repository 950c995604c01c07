package deno_test

import (
	"math"
	"math/rand"
	"slices"
	"testing"

	"headrace/api"
	"headrace/deno"
	"headrace/keys"
	"headrace/ops"
	"headrace/sample"
	"headrace/table"
)

func rec(source, key int, value int64) api.Record {
	return api.Record{Source: source, Key: key, Value: value}
}

func op(tag int, a int64, inputs ...int) api.Op {
	return api.Op{Tag: tag, Width: 1, A: a, Inputs: inputs}
}

var (
	example = api.Work{
		Graph:  sample.Plain(api.Op{Tag: api.OpReduce, Width: 1}),
		Inputs: []api.Input{{Source: 0, Records: []api.Record{rec(0, 1, 2), rec(0, 9, 5), rec(0, 1, 3)}}},
	}
	whole = api.At{{0, 3}}
)

// The chapter's examples.
func TestExamples(t *testing.T) {
	at, err := deno.Whole(example)
	if err != api.OK || len(at) != 1 || at[0] != whole[0] {
		t.Fatalf("Whole: %v %d", at, err)
	}
	if l, err := deno.Values(example, at, 2, rec(0, 1, 99)); err != api.OK || !slices.Equal(l, []int64{2, 5}) {
		t.Errorf("Values: %v %d", l, err)
	}
	if c, err := deno.Cell(example, at, 1, rec(0, 1, 0)); err != api.OK || c != (api.Cell{Count: 2, Sum: 5}) {
		t.Errorf("Cell: %v %d", c, err)
	}
	one := api.At{{0, 1}}
	if l, err := deno.Values(example, one, 2, rec(0, 1, 0)); err != api.OK || !slices.Equal(l, []int64{2}) {
		t.Errorf("Values at one: %v %d", l, err)
	}
	if l, err := deno.Values(example, one, 2, rec(0, 9, 0)); err != api.OK || len(l) != 0 {
		t.Errorf("Values at one: %v %d", l, err)
	}
	rows, err := deno.Rows(example, at, 2)
	if err != api.OK || len(rows) != 2 || rows[0].Key != 1 || !slices.Equal(rows[0].Values, []int64{2, 5}) || rows[1].Key != 9 || !slices.Equal(rows[1].Values, []int64{5}) {
		t.Errorf("Rows: %v %d", rows, err)
	}
	if l, err := deno.Values(example, at, 3, rec(0, 1, 0)); err != api.ErrArg || len(l) != 0 {
		t.Errorf("Values of no operator: %d", err)
	}
	if err := deno.Check(api.Work{Graph: example.Graph}); err != api.ErrWork {
		t.Errorf("Check without inputs: %d", err)
	}
	if c, err := deno.Cell(example, at, 2, rec(0, 1, 0)); err != api.OK || c != (api.Cell{}) {
		t.Errorf("Cell of a sink: %v %d", c, err)
	}
	x, err := deno.Table(example, at, 1)
	if want := (api.Table{Rows: []api.KeyCell{{Key: 1, Cell: api.Cell{Count: 2, Sum: 5}}, {Key: 9, Cell: api.Cell{Count: 1, Sum: 5}}}}); err != api.OK || !table.Same(x, want) {
		t.Errorf("Table: %v %d", x, err)
	}
}

// P13.1: what may not be, and with which error first.
func TestErrors(t *testing.T) {
	good := example.Inputs[0]
	long := api.Input{Records: slices.Repeat([]api.Record{rec(0, 0, 0)}, api.MaxInput+1)}
	union := api.Graph{Ops: []api.Op{op(api.OpSource, 3), op(api.OpSource, 1), op(api.OpUnion, 0, 0, 1), op(api.OpSink, 0, 2)}}
	rows := []struct {
		name string
		w    api.Work
		at   api.At
		op   int
		key  api.Record
		work api.Errno
		err  api.Errno
	}{
		{"graph", api.Work{Inputs: []api.Input{long}}, nil, 9, rec(9, 0, 0), api.ErrGraph, api.ErrGraph},
		{"unread", api.Work{Graph: api.Graph{Ops: []api.Op{op(api.OpSource, 0)}}}, nil, 9, rec(9, 0, 0), api.ErrUnread, api.ErrUnread},
		{"input", api.Work{Graph: example.Graph, Inputs: []api.Input{good, long}}, nil, 9, rec(9, 0, 0), api.ErrInput, api.ErrInput},
		{"inputs of another source", api.Work{Graph: example.Graph, Inputs: []api.Input{{Source: 1}}}, nil, 9, rec(9, 0, 0), api.ErrWork, api.ErrWork},
		{"one too many", api.Work{Graph: example.Graph, Inputs: []api.Input{good, {Source: 1}}}, nil, 9, rec(9, 0, 0), api.ErrWork, api.ErrWork},
		{"twice", api.Work{Graph: example.Graph, Inputs: []api.Input{good, good}}, nil, 9, rec(9, 0, 0), api.ErrWork, api.ErrWork},
		{"falling", api.Work{Graph: union, Inputs: []api.Input{{Source: 3}, {Source: 1}}}, nil, 9, rec(9, 0, 0), api.ErrWork, api.ErrWork},
		{"rising", api.Work{Graph: union, Inputs: []api.Input{{Source: 1}, {Source: 3}}}, api.At{{}}, 9, rec(9, 0, 0), api.OK, api.ErrWork},
		{"no place", example, nil, 9, rec(9, 0, 0), api.OK, api.ErrWork},
		{"too many places", example, api.At{{}, {}}, 9, rec(9, 0, 0), api.OK, api.ErrWork},
		{"offsets", example, api.At{{0, 4}}, 9, rec(9, 0, 0), api.OK, api.ErrOffsets},
		{"offsets below 0", example, api.At{{-1}}, 9, rec(9, 0, 0), api.OK, api.ErrOffsets},
		{"operator", example, whole, 3, rec(9, 0, 0), api.OK, api.ErrArg},
		{"operator below 0", example, whole, -1, rec(9, 0, 0), api.OK, api.ErrArg},
		{"greatest operator", example, whole, math.MaxInt, rec(9, 0, 0), api.OK, api.ErrArg},
		{"key", example, whole, 1, rec(8, 0, 0), api.OK, api.ErrRecord},
		{"key", example, whole, 1, rec(0, 32, 0), api.OK, api.ErrRecord},
	}
	for _, r := range rows {
		if err := deno.Check(r.w); err != r.work {
			t.Errorf("%s: Check: %d", r.name, err)
		}
		whole, err := deno.Whole(r.w)
		none, err2 := deno.None(r.w)
		if err != r.work || err2 != r.work || r.work != api.OK && len(whole)+len(none) > 0 {
			t.Errorf("%s: Whole, None: %d %d", r.name, err, err2)
		}
		at := r.err
		if at == api.ErrArg || at == api.ErrRecord {
			at = api.OK
		}
		if err := deno.CheckAt(r.w, r.at); err != at {
			t.Errorf("%s: CheckAt: %d", r.name, err)
		}
		if l, err := deno.Values(r.w, r.at, r.op, r.key); err != r.err || len(l) > 0 {
			t.Errorf("%s: Values: %d", r.name, err)
		}
		if c, err := deno.Cell(r.w, r.at, r.op, r.key); err != r.err || c != (api.Cell{}) {
			t.Errorf("%s: Cell: %d", r.name, err)
		}
		if at = r.err; at == api.ErrRecord {
			at = api.OK
		}
		if x, err := deno.Table(r.w, r.at, r.op); err != at || err != api.OK && len(x.Rows) > 0 {
			t.Errorf("%s: Table: %d", r.name, err)
		}
		if l, err := deno.Rows(r.w, r.at, r.op); err != at || err != api.OK && len(l) > 0 {
			t.Errorf("%s: Rows: %d", r.name, err)
		}
	}
}

// P13.4: Below.
func TestBelow(t *testing.T) {
	for _, r := range []struct {
		a, b api.At
		want bool
	}{
		{nil, api.At{}, true},
		{nil, api.At{{}}, false},
		{api.At{{}}, nil, false},
		{api.At{{1, 2}}, api.At{{1, 2}}, true},
		{api.At{{1, 2}}, api.At{{1, 3}}, true},
		{api.At{{1, 3}}, api.At{{9, 2}}, false},
		{api.At{{}, {0, 0, 0, 0, 0, 0, 0, 1}}, api.At{{5}, {5}}, false},
		{api.At{{-5}}, api.At{{-4}}, true},
	} {
		if got := deno.Below(r.a, r.b); got != r.want {
			t.Errorf("Below(%v, %v): %v", r.a, r.b, got)
		}
	}
}

// pushed is what comes of each operator, when records are pushed through a graph one by one.
type pushed struct {
	g     api.Graph
	cells []map[api.Record]api.Cell
	out   []map[api.Record][]int64
}

func (p *pushed) push(t *testing.T, i int, r api.Record) {
	key := rec(r.Source, r.Key, 0)
	cell, values, err := ops.Do(p.g.Ops[i], p.cells[i][key], r.Value)
	if err != api.OK {
		t.Fatal(err)
	}
	p.cells[i][key] = cell
	for _, v := range values {
		p.out[i][key] = append(p.out[i][key], v)
		for j, o := range p.g.Ops {
			if slices.Contains(o.Inputs, i) {
				p.push(t, j, rec(r.Source, r.Key, v))
			}
		}
	}
}

// run pushes all records that are emitted at a place.
func run(t *testing.T, w api.Work, at api.At) *pushed {
	t.Helper()
	p := &pushed{g: w.Graph}
	for range w.Graph.Ops {
		p.cells = append(p.cells, map[api.Record]api.Cell{})
		p.out = append(p.out, map[api.Record][]int64{})
	}
	for i, x := range w.Inputs {
		l, err := keys.Prefix(x, at[i])
		if err != api.OK {
			t.Fatal(err)
		}
		for _, r := range l {
			for j, o := range w.Graph.Ops {
				if o.Tag == api.OpSource && o.A == int64(x.Source) {
					p.push(t, j, r)
				}
			}
		}
	}
	return p
}

// somewhere tells a place of a work.
func somewhere(w api.Work, rnd *rand.Rand) api.At {
	at, _ := deno.Whole(w)
	for i := range at {
		for g := range at[i] {
			at[i][g] = rnd.Intn(at[i][g] + 1)
		}
	}
	return at
}

// P13.2, P13.3: what comes is what comes when records are pushed through.
func TestPushed(t *testing.T) {
	rnd := rand.New(rand.NewSource(13))
	for range 150 {
		w := api.Work{Graph: sample.Graph(rnd.Intn)}
		w.Inputs = sample.Inputs(w.Graph, 20, rnd.Intn)
		at := somewhere(w, rnd)
		p := run(t, w, at)
		for i := range w.Graph.Ops {
			var rows []api.KeyRow
			var cells api.Table
			for source := range api.MaxSources {
				for key := range api.MaxKeys {
					k := rec(source, key, 0)
					values, err := deno.Values(w, at, i, rec(source, key, rnd.Int63()))
					cell, err2 := deno.Cell(w, at, i, rec(source, key, rnd.Int63()))
					if err != api.OK || err2 != api.OK || !slices.Equal(values, p.out[i][k]) || cell != p.cells[i][k] {
						t.Fatalf("%v: %v of %d: %v %v, not %v %v", w, k, i, values, cell, p.out[i][k], p.cells[i][k])
					}
					if len(values) > 0 {
						rows = append(rows, api.KeyRow{Source: source, Key: key, Values: values})
					}
					if cell != (api.Cell{}) {
						cells.Rows = append(cells.Rows, api.KeyCell{Source: source, Key: key, Cell: cell})
					}
				}
			}
			got, err := deno.Rows(w, at, i)
			same := slices.EqualFunc(got, rows, func(a, b api.KeyRow) bool {
				return a.Source == b.Source && a.Key == b.Key && slices.Equal(a.Values, b.Values)
			})
			x, err2 := deno.Table(w, at, i)
			if err != api.OK || err2 != api.OK || !same || !table.Same(x, cells) {
				t.Fatalf("%v: rows of %d: %v %v", w, i, got, x)
			}
		}
	}
}

// P13.5: what follows.
func TestFollows(t *testing.T) {
	rnd := rand.New(rand.NewSource(14))
	for range 150 {
		w := api.Work{Graph: sample.Graph(rnd.Intn)}
		w.Inputs = sample.Inputs(w.Graph, 20, rnd.Intn)
		whole, _ := deno.Whole(w)
		none, _ := deno.None(w)
		at := somewhere(w, rnd)
		if !deno.Below(none, at) || !deno.Below(at, whole) || deno.CheckAt(w, at) != api.OK {
			t.Fatalf("%v: %v", w, at)
		}
		i := rnd.Intn(len(w.Graph.Ops))
		less, _ := deno.Rows(w, at, i)
		for _, row := range less {
			more, _ := deno.Values(w, whole, i, rec(row.Source, row.Key, 0))
			if len(more) < len(row.Values) || !slices.Equal(more[:len(row.Values)], row.Values) {
				t.Fatalf("%v: %v is no beginning of %v", w, row, more)
			}
		}
		if rows, _ := deno.Rows(w, none, i); len(rows) > 0 {
			t.Fatalf("%v: something comes of nothing: %v", w, rows)
		}
		wide := api.Work{Graph: api.Graph{Ops: slices.Clone(w.Graph.Ops)}, Inputs: w.Inputs}
		for j := range wide.Graph.Ops {
			wide.Graph.Ops[j].Width = 1
		}
		a, _ := deno.Table(w, whole, i)
		b, _ := deno.Table(wide, whole, i)
		if !table.Same(a, b) {
			t.Fatalf("%v: widths count", w)
		}
		key := rec(rnd.Intn(api.MaxSources), rnd.Intn(12), 0)
		alone := api.Work{Graph: w.Graph}
		for _, x := range w.Inputs {
			x.Records = slices.DeleteFunc(slices.Clone(x.Records), func(r api.Record) bool { return r.Source != key.Source || r.Key != key.Key })
			alone.Inputs = append(alone.Inputs, x)
		}
		there, _ := deno.Whole(alone)
		one, _ := deno.Values(alone, there, i, key)
		all, _ := deno.Values(w, whole, i, key)
		if !slices.Equal(one, all) {
			t.Fatalf("%v: %v alone: %v, not %v", w, key, one, all)
		}
	}
}

// R3: nothing is shared.
func TestShares(t *testing.T) {
	at, _ := deno.Whole(example)
	rows, _ := deno.Rows(example, at, 0)
	l, _ := deno.Values(example, at, 0, rec(0, 1, 0))
	l[0], rows[0].Values[0], at[0][1] = 77, 78, 79
	if again, err := deno.Values(example, whole, 0, rec(0, 1, 0)); err != api.OK || !slices.Equal(again, []int64{2, 3}) {
		t.Errorf("shares: %v", again)
	}
}
