// Package sample makes graphs and inputs that may be, to try the layers with: which ones, is said by whoever picks the numbers.
package sample

import (
	"headrace/api"
	"headrace/graph"
)

// tries is how often a graph is made up before a plain one is taken.
const tries = 200

// Graph makes a graph; pick tells numbers from 0 to below n.
func Graph(pick func(n int) int) api.Graph {
	for range tries {
		g := made(pick)
		if _, err := graph.Check(g); err == api.OK {
			return g
		}
	}
	return Plain(api.Op{Tag: api.OpMap, Width: 1, Inputs: []int{0}, A: 1})
}

// Plain makes a graph of the source 0, operators one behind the other, and a sink, of the Widths of these operators.
func Plain(l ...api.Op) api.Graph {
	g := api.Graph{Ops: []api.Op{{Tag: api.OpSource, Width: 1}}}
	for _, o := range l {
		o.Inputs = []int{len(g.Ops) - 1}
		g.Ops = append(g.Ops, o)
	}
	g.Ops = append(g.Ops, api.Op{Tag: api.OpSink, Width: 1, Inputs: []int{len(g.Ops) - 1}})
	return g
}

// made makes up a graph that may lack something, but a sink behind each operator.
func made(pick func(n int) int) api.Graph {
	var g api.Graph
	sources := 1 + pick(3)
	first := pick(api.MaxSources)
	for i := range sources {
		g.Ops = append(g.Ops, api.Op{Tag: api.OpSource, Width: 1 + pick(api.MaxWidth), A: int64((first + i) % api.MaxSources)})
	}
	for range pick(5) {
		g.Ops = append(g.Ops, inner(len(g.Ops), pick))
	}
	read := map[int]int{}
	for _, o := range g.Ops {
		for _, x := range o.Inputs {
			read[x]++
		}
	}
	for i := range len(g.Ops) {
		if read[i] == 0 {
			g.Ops = append(g.Ops, api.Op{Tag: api.OpSink, Width: 1 + pick(api.MaxWidth), Inputs: []int{i}})
		}
	}
	return g
}

// inner makes up an operator that reads some ahead of the number n.
func inner(n int, pick func(n int) int) api.Op {
	o := api.Op{Tag: api.OpMap + pick(api.OpSink-api.OpMap), Width: 1 + pick(api.MaxWidth), Inputs: []int{pick(n)}}
	switch o.Tag {
	case api.OpMap:
		o.A, o.B = int64(pick(5)-2), int64(pick(7)-3)
	case api.OpFilter:
		o.A = int64(1 + pick(3))
		o.B = int64(pick(int(o.A)))
	case api.OpWindow:
		o.A = int64(1 + pick(4))
	case api.OpUnion:
		o.Inputs = nil
		for i := range n {
			if pick(2) > 0 {
				o.Inputs = append(o.Inputs, i)
			}
		}
	}
	return o
}

// Input makes an input of a source, of at most so many records, of a few keys.
func Input(source, most int, pick func(n int) int) api.Input {
	x := api.Input{Source: source}
	for range pick(most + 1) {
		r := api.Record{Source: source, Key: pick(6) * (1 + pick(6)), Value: int64(pick(9) - 2)}
		x.Records = append(x.Records, r)
	}
	return x
}

// Inputs makes an input for each source of a graph, by rising sources.
func Inputs(g api.Graph, most int, pick func(n int) int) []api.Input {
	var out []api.Input
	for source := range api.MaxSources {
		for _, o := range g.Ops {
			if o.Tag == api.OpSource && o.A == int64(source) {
				out = append(out, Input(source, most, pick))
			}
		}
	}
	return out
}
