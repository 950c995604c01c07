package sample_test

import (
	"math/rand"
	"testing"

	"headrace/api"
	"headrace/graph"
	"headrace/sample"
)

// What is made may be; whatever is picked, something is made.
func TestGraph(t *testing.T) {
	rnd := rand.New(rand.NewSource(1))
	tags := map[int]int{}
	for range 300 {
		g := sample.Graph(rnd.Intn)
		if _, err := graph.Check(g); err != api.OK {
			t.Fatalf("%v: %d", g, err)
		}
		for _, o := range g.Ops {
			tags[o.Tag]++
		}
		if l := sample.Inputs(g, 5, rnd.Intn); len(l) == 0 {
			t.Fatalf("%v: %v", g, l)
		}
	}
	for tag := api.OpSource; tag <= api.OpSink; tag++ {
		if tags[tag] == 0 {
			t.Errorf("no operator of tag %d", tag)
		}
	}
	if g := sample.Graph(func(n int) int { return n - 1 }); graph.Subtasks(g) == 0 {
		t.Errorf("nothing is made: %v", g)
	}
}
