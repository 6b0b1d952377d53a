package graph

import (
	"slices"
	"testing"

	"looptext/api"
)

func vector(subs ...int) api.Node { return api.Node{Kind: api.Vector, Subs: subs} }

func TestRight(t *testing.T) {
	for _, nodes := range [][]api.Node{{{}}, {vector(0)}, {vector(1, 0), {Kind: api.Number, N: -3, D: 2}}, {{}, vector()}, make([]api.Node, 150)} {
		if !Right(nodes) {
			t.Errorf("%v is a graph", nodes)
		}
	}
	for _, nodes := range [][]api.Node{nil, make([]api.Node, 151), {vector(1)}, {vector(-1)}, {{}, vector(2)}, {{}, {Kind: api.Number, N: 2, D: 2}}, {{N: 1}}} {
		if Right(nodes) {
			t.Errorf("%v is no graph", nodes)
		}
	}
}

func TestThrough(t *testing.T) {
	for _, c := range []struct {
		nodes  []api.Node
		met    []int
		within []bool
	}{
		{[]api.Node{{}}, []int{1}, []bool{false}},
		{[]api.Node{vector(0)}, []int{2}, []bool{true}},
		{[]api.Node{vector(1, 1, 2), vector(2), {}}, []int{1, 2, 2}, []bool{false, false, false}},
		{[]api.Node{vector(1, 2), vector(2), vector(1)}, []int{1, 2, 2}, []bool{false, true, false}},
		{[]api.Node{vector(2, 1), vector(2), vector(1)}, []int{1, 2, 2}, []bool{false, false, true}},
		{[]api.Node{vector(1, 1), vector(1, 0, 1), vector(0, 1)}, []int{2, 4, 0}, []bool{true, true, false}},
		{[]api.Node{{}, vector(1)}, []int{1, 0}, []bool{false, false}},
	} {
		w := Through(c.nodes)
		if !slices.Equal(w.Met, c.met) || !slices.Equal(w.Within, c.within) || w.Loops() != slices.Contains(c.within, true) {
			t.Errorf("Through(%v) = %+v", c.nodes, w)
		}
	}
}
