package gate_test

import (
	"math/rand"
	"slices"
	"testing"

	"callboard/api"
	"callboard/arena"
	"callboard/gate"
	"callboard/sketch"
)

func num(n int64) api.Value { return api.Value{Kind: api.Int, N: n} }

// state is one with the scope 1 of a process, its variable x, and tokens from 2 on.
func state(p api.Process, x int64, tokens ...api.Item) api.State {
	s := api.State{Next: 99, Defs: []api.Process{p}, Items: []api.Item{{ID: 1, Is: api.Scope, Proc: "p", Node: -1, From: -1}}, Cells: []api.Cell{{Scope: 1, Name: "x", V: num(x)}}}
	s.Items = append(s.Items, tokens...)
	return s
}

// tok is a token with an ID at a node, that came along a flow.
func tok(id, node, from int, wait uint8) api.Item {
	it := api.Item{ID: id, Up: 1, Is: api.Token, Proc: "p", Node: node, From: from, Wait: wait}
	if wait == api.Stuck {
		it.Code = "way"
	}
	return it
}

func TestP23_1Ways(t *testing.T) {
	for _, c := range []struct {
		s     string
		x     int64
		flows []int
		stuck bool
		e     api.Errno
	}{
		// The flow 0 leads to the gateway g.
		{"xor g; s>g; g>a if x<1; g>b else", 3, []int{2}, false, api.OK},
		{"xor g; s>g; g>a if x<1; g>b else", 0, []int{1}, false, api.OK},
		{"xor g; s>g; g>a else; g>b if x<1", 3, []int{1}, false, api.OK},
		{"xor g; s>g; g>a else; g>b if x<1", 0, []int{2}, false, api.OK},
		{"xor g; s>g; g>a if x<9; g>b if x<5", 3, []int{1}, false, api.OK},
		{"xor g; s>g; g>a if x<1; g>b if x<2", 3, nil, true, api.OK},
		{"xor g; s>g; g>a if x<9; g>b if 1/0==1", 3, []int{1}, false, api.OK},
		{"xor g; s>g; g>a if 1/0==1; g>b if x<9", 3, nil, false, api.ErrZero},
		{"xor g; s>g; g>a if x<1; g>b if q", 3, nil, false, api.ErrName},
		{"xor g; s>g; g>a if x; g>b else", 3, nil, false, api.ErrType},
		{"xor g; s>g; g>a", 3, []int{1}, false, api.OK},
		{"xor g; s>g; g>a if x<1", 3, []int{1}, false, api.OK},
		{"xor g; s>g", 3, nil, false, api.OK},
		{"some g; s>g; g>a if x<9; g>b if x<1", 3, []int{1}, false, api.OK},
		{"some g; s>g; g>a if x<9; g>b if x<5", 3, []int{1, 2}, false, api.OK},
		{"some g; s>g; g>a if x<9; g>b else; g>c if x<5", 3, []int{1, 3}, false, api.OK},
		{"some g; s>g; g>a if x<1; g>b else; g>c if x<2", 3, []int{2}, false, api.OK},
		{"some g; s>g; g>a if x<1; g>b if x<2", 3, nil, true, api.OK},
		{"some g; s>g; g>a if x<9; g>b if 1/0==1", 3, nil, false, api.ErrZero},
		{"some g; s>g; g>a if x; g>b if 1/0==1", 3, nil, false, api.ErrType},
		{"some g; s>g; g>a if x<1", 3, []int{1}, false, api.OK},
		{"some g; s>g", 3, nil, false, api.OK},
		{"all g; s>g; g>a; g>b; g>c", 3, []int{1, 2, 3}, false, api.OK},
		{"task g; s>g; g>a; g>b", 3, []int{1, 2}, false, api.OK},
		{"task g; s>g; g>a if x<1; g>b else", 3, []int{1, 2}, false, api.OK},
		{"end g; s>g", 3, nil, false, api.OK},
		// Not valid: a flow without an If is open, an Else is not evaluated, of several Elses the first counts.
		{"xor g; s>g; g>a if x<1; g>b; g>c", 3, []int{2}, false, api.OK},
		{"some g; s>g; g>a else; g>b; g>c if x<9", 3, []int{2, 3}, false, api.OK},
		{"xor g; s>g; g>a else; g>b else", 3, []int{1}, false, api.OK},
		{"some g; s>g; g>a else; g>b else", 3, []int{1}, false, api.OK},
	} {
		p := sketch.Process("p x=1; start s; task a; task b; task c; " + c.s)
		s := state(p, c.x, tok(2, sketch.At(p, "g"), 0, api.Ready))
		flows, stuck, e := gate.Ways(s, 2)
		if !slices.Equal(flows, c.flows) || stuck != c.stuck || e != c.e {
			t.Error(c.s, flows, stuck, e)
		}
	}
	p := sketch.Process("p x=1; start s; xor g; task a; task b; s>g; g>a if x<1; g>b else")
	p.Flows[1].Else = true
	p.Flows[1].If = "1/0==1"
	p.Flows[2] = api.Flow{From: 1, To: 3, If: "x<1"}
	if flows, stuck, e := gate.Ways(state(p, 3, tok(2, 1, 0, api.Ready)), 2); !slices.Equal(flows, []int{1}) || stuck || e != api.OK {
		t.Error("an Else with an If", flows, stuck, e)
	}
	for _, it := range []api.Item{{}, {ID: 3, Up: 1, Is: api.Token, Proc: "p", Node: 99}, {ID: 3, Up: 1, Is: api.Token, Proc: "none"}, {ID: 3, Up: 1, Is: api.Scope, Proc: "p", Node: 1}} {
		if flows, stuck, e := gate.Ways(state(p, 3, it), 3); flows != nil || stuck || e != api.ErrNone {
			t.Error(it, flows, stuck, e)
		}
	}
	flows, _, _ := gate.Ways(state(p, 0, tok(2, 0, -1, api.Ready)), 2)
	flows[0] = 77
	if p.Flows[0].From != 0 {
		t.Error("shared memory")
	}
}

func TestP23_1WhatIsSeen(t *testing.T) {
	p := sketch.Process("p x=1; start s; part w x=5; .xor g; .task a; .task b; g>a if x<3; g>b else")
	s := state(p, 0, tok(2, 1, -1, api.Holds), api.Item{ID: 3, Up: 2, Is: api.Scope, Proc: "p", Node: 1, From: -1}, api.Item{ID: 4, Up: 3, Is: api.Token, Proc: "p", Node: 2, From: -1, Wait: api.Ready})
	for x, want := range map[int64]int{5: 1, 2: 0} {
		s.Cells = []api.Cell{{Scope: 1, Name: "x", V: num(0)}, {Scope: 3, Name: "x", V: num(x)}}
		if flows, _, e := gate.Ways(s, 4); !slices.Equal(flows, []int{want}) || e != api.OK {
			t.Error(x, flows, e)
		}
	}
}

func TestP23_2All(t *testing.T) {
	p := sketch.Process("p x=1; start s; task a; task b; all g; end e; all h; some k; a>g; b>g; g>e; s>a; s>b; k>h")
	g, h, k := sketch.At(p, "g"), sketch.At(p, "h"), sketch.At(p, "k")
	for i, c := range []struct {
		tokens []api.Item
		ask    int
		want   []int
	}{
		{[]api.Item{tok(4, g, 0, api.Joins), tok(5, g, 1, api.Joins), tok(6, g, 0, api.Joins)}, 4, []int{4, 5}},
		{[]api.Item{tok(4, g, 0, api.Joins), tok(5, g, 1, api.Joins), tok(6, g, 0, api.Joins)}, 6, []int{4, 5}},
		{[]api.Item{tok(4, g, 1, api.Joins), tok(5, g, 1, api.Joins), tok(6, g, 0, api.Joins)}, 5, []int{4, 6}},
		{[]api.Item{tok(4, g, 0, api.Joins), tok(5, g, 0, api.Joins)}, 4, nil},
		{[]api.Item{tok(4, g, 0, api.Joins), tok(5, g, 1, api.Ready)}, 4, nil},
		{[]api.Item{tok(4, g, 0, api.Joins), tok(5, g, 1, api.Ready)}, 5, nil},
		{[]api.Item{tok(4, g, 0, api.Joins), tok(5, g, -1, api.Joins)}, 4, nil},
		{[]api.Item{tok(4, g, 0, api.Joins), tok(5, g, 1, api.Joins), tok(6, g, 0, api.Ready)}, 6, nil},
		{[]api.Item{tok(4, g, 0, api.Joins), tok(5, g, 1, api.Joins), tok(6, g, 0, api.Ready)}, 5, []int{4, 5}},
		{[]api.Item{tok(3, g, -1, api.Joins), tok(4, g, 0, api.Joins), tok(5, g, 1, api.Joins)}, 3, []int{4, 5}},
		{[]api.Item{tok(4, g, 0, api.Joins), {ID: 5, Up: 9, Is: api.Token, Proc: "p", Node: g, From: 1, Wait: api.Joins}}, 4, nil},
		{[]api.Item{tok(4, g, 0, api.Joins), {ID: 5, Up: 1, Is: api.Token, Proc: "q", Node: g, From: 1, Wait: api.Joins}}, 4, nil},
		{[]api.Item{tok(4, g, 0, api.Joins), {ID: 5, Up: 1, Is: api.Scope, Proc: "p", Node: g, From: 1, Wait: api.Joins}}, 4, nil},
		{[]api.Item{tok(4, g, 0, api.Joins), tok(5, h, 1, api.Joins)}, 4, nil},
		{[]api.Item{tok(4, h, 5, api.Joins)}, 4, []int{4}},
		{[]api.Item{tok(4, k, 0, api.Joins)}, 4, nil},
		{[]api.Item{tok(4, 99, 0, api.Joins)}, 4, nil},
		{nil, 4, nil},
	} {
		s := state(p, 1, c.tokens...)
		l, ok := gate.AllReady(s, c.ask)
		if !slices.Equal(l, c.want) || ok != (c.want != nil) {
			t.Error(i, l, ok)
		}
	}
	q := sketch.Process("p; all g; end e; g>e")
	if l, ok := gate.AllReady(state(q, 1, tok(4, 0, -1, api.Joins)), 4); l != nil || ok {
		t.Error("an All to which no flow leads", l)
	}
}

func TestP23_2Some(t *testing.T) {
	p := sketch.Process(`p x=1; start s; some f; task a; bound ab @a timer:1; task b; throw l link:z; catch m link:z; some g; end e; task c; some h; xor o
		s>f; f>a if yes; f>b if yes; a>g; b>g; g>e; ab>l; m>g; c>h; o>g; g>o; h>c`)
	at := func(name string) int { return sketch.At(p, name) }
	g, h := at("g"), at("h")
	for i, c := range []struct {
		tokens []api.Item
		ask    int
		want   []int
	}{
		{[]api.Item{tok(4, g, 3, api.Joins)}, 4, []int{4}},
		{[]api.Item{tok(4, g, 3, api.Joins), tok(7, g, 3, api.Joins), tok(9, g, 4, api.Joins)}, 7, []int{4, 7, 9}},
		{[]api.Item{tok(4, g, 3, api.Joins), tok(7, at("a"), -1, api.Works)}, 4, nil},
		{[]api.Item{tok(4, g, 3, api.Joins), tok(7, at("s"), -1, api.Ready)}, 4, nil},
		{[]api.Item{tok(4, g, 3, api.Joins), tok(7, at("ab"), -1, api.Ready)}, 4, nil},
		{[]api.Item{tok(4, g, 3, api.Joins), tok(7, at("l"), -1, api.Ready)}, 4, nil},
		{[]api.Item{tok(4, g, 3, api.Joins), tok(7, at("m"), -1, api.Ready)}, 4, nil},
		{[]api.Item{tok(4, g, 3, api.Joins), tok(7, g, -1, api.Ready)}, 4, nil},
		{[]api.Item{tok(4, g, 3, api.Joins), tok(7, g, -1, api.Stuck)}, 4, nil},
		{[]api.Item{tok(4, g, 3, api.Joins), tok(7, g, -1, api.Ready)}, 7, nil},
		{[]api.Item{tok(4, g, 3, api.Joins), tok(7, at("o"), -1, api.Stuck)}, 4, nil},
		{[]api.Item{tok(4, g, 3, api.Joins), tok(7, at("e"), -1, api.Stuck)}, 4, []int{4}},
		{[]api.Item{tok(4, g, 3, api.Joins), tok(7, at("c"), -1, api.Works), tok(8, h, -1, api.Joins)}, 4, []int{4}},
		{[]api.Item{tok(4, g, 3, api.Joins), tok(7, at("c"), -1, api.Works), tok(8, h, -1, api.Joins)}, 8, nil},
		{[]api.Item{tok(4, g, 3, api.Joins), tok(7, at("f"), -1, api.Joins)}, 4, nil},
		{[]api.Item{tok(4, g, 3, api.Joins), {ID: 7, Up: 9, Is: api.Token, Proc: "p", Node: at("a"), Wait: api.Works}}, 4, []int{4}},
		{[]api.Item{tok(4, g, 3, api.Joins), {ID: 7, Up: 1, Is: api.Token, Proc: "q", Node: at("a"), Wait: api.Works}}, 4, []int{4}},
		{[]api.Item{tok(4, g, 3, api.Joins), {ID: 7, Up: 1, Is: api.Scope, Proc: "p", Node: at("a")}}, 4, []int{4}},
		{[]api.Item{tok(4, at("a"), 3, api.Joins)}, 4, nil},
		{nil, 4, nil},
	} {
		s := state(p, 1, c.tokens...)
		l, ok := gate.SomeReady(s, c.ask)
		if !slices.Equal(l, c.want) || ok != (c.want != nil) {
			t.Error(i, l, ok)
		}
	}
	// Two that wait for each other keep waiting.
	p = sketch.Process("p x=1; start s; some g; some h; xor o; s>g; s>h; g>o; h>o; o>g if yes; o>h else")
	s := state(p, 1, tok(4, 1, 0, api.Joins), tok(5, 2, 1, api.Joins))
	if len(gate.Ready(s)) != 0 {
		t.Error(gate.Ready(s))
	}
}

func TestP23_2Ready(t *testing.T) {
	p := sketch.Process("p x=1; start s; task a; all g; some h; end e; all u; s>g; a>g; s>h; a>h; g>e; h>e; a>u")
	g, h := sketch.At(p, "g"), sketch.At(p, "h")
	s := state(p, 1, tok(4, h, 2, api.Joins), tok(5, g, 1, api.Joins), tok(6, h, 3, api.Joins), tok(7, g, 0, api.Joins), tok(8, g, 0, api.Joins))
	other := api.Item{ID: 10, Is: api.Scope, Proc: "p", Node: -1, From: -1}
	inOther := func(it api.Item) api.Item { it.Up = 10; return it }
	s.Items = append(s.Items, other, inOther(tok(11, g, 0, api.Joins)), inOther(tok(12, h, 2, api.Joins)), inOther(tok(13, h, 2, api.Joins)))
	if got := gate.Ready(s); !slices.Equal(got, []int{4, 5, 12}) {
		t.Error(got)
	}
	s.Items = append(s.Items, inOther(tok(14, g, 1, api.Joins)), inOther(tok(15, sketch.At(p, "a"), -1, api.Works)))
	if got := gate.Ready(s); !slices.Equal(got, []int{4, 5, 11}) {
		t.Error(got)
	}
	// The least that joins there, even if it came along no flow.
	s = state(p, 1, tok(3, g, -1, api.Joins), tok(5, g, 1, api.Joins), tok(7, g, 0, api.Joins))
	if got := gate.Ready(s); !slices.Equal(got, []int{3}) {
		t.Error(got)
	}
	if len(gate.Ready(api.State{})) != 0 {
		t.Error("nothing")
	}
}

// ready is the definition, for a token that joins.
func ready(s api.State, it api.Item, p api.Process, reach [][]bool) bool {
	switch p.Nodes[it.Node].Kind {
	case api.All:
		some := false
		for f, flow := range p.Flows {
			if flow.To != it.Node {
				continue
			}
			some = true
			if !slices.ContainsFunc(s.Items, func(x api.Item) bool {
				return x.Is == api.Token && x.Up == it.Up && x.Node == it.Node && x.Wait == api.Joins && x.From == f
			}) {
				return false
			}
		}
		return some
	case api.Some:
		return !slices.ContainsFunc(s.Items, func(x api.Item) bool {
			return x.Is == api.Token && x.Up == it.Up && (x.Node == it.Node && x.Wait != api.Joins || reach[x.Node][it.Node] && x.Node != it.Node)
		})
	}
	return false
}

func TestP23_3To6Random(t *testing.T) {
	r := rand.New(rand.NewSource(230))
	counts := map[bool]int{}
	for range 1500 {
		n := 3 + r.Intn(6)
		p := api.Process{Name: "p"}
		for range n {
			p.Nodes = append(p.Nodes, api.Node{Kind: []uint8{api.All, api.Some, api.Xor, api.Task}[r.Intn(4)], In: -1, On: -1})
		}
		for range r.Intn(2 * n) {
			p.Flows = append(p.Flows, api.Flow{From: r.Intn(n), To: r.Intn(n), If: []string{"x<3", "x<1", "yes", ""}[r.Intn(4)], Else: r.Intn(4) == 0})
		}
		reach := make([][]bool, n)
		for i := range n {
			reach[i] = make([]bool, n)
			for _, f := range p.Flows {
				if f.From == i {
					reach[i][f.To] = true
				}
			}
		}
		for k := range n {
			for i := range n {
				for j := range n {
					reach[i][j] = reach[i][j] || reach[i][k] && reach[k][j]
				}
			}
		}
		s := state(p, int64(r.Intn(4)))
		s.Items = append(s.Items, api.Item{ID: 2, Is: api.Scope, Proc: "p", Node: -1, From: -1})
		s.Cells = append(s.Cells, api.Cell{Scope: 2, Name: "x", V: num(int64(r.Intn(4)))})
		for id := 3; id < 12; id++ {
			it := tok(id, r.Intn(n), -1, api.Ready)
			it.Up = 1 + r.Intn(2)
			if k := p.Nodes[it.Node].Kind; k == api.All || k == api.Some {
				it.Wait = []uint8{api.Joins, api.Joins, api.Joins, api.Ready}[r.Intn(4)]
			}
			for f, flow := range p.Flows {
				if flow.To == it.Node && r.Intn(2) == 0 {
					it.From = f
				}
			}
			s.Items = append(s.Items, it)
		}
		least := map[[2]int]int{}
		for _, it := range s.Items[2:] {
			ways(t, s, p, it)
			if it.Wait != api.Joins {
				continue
			}
			want := ready(s, it, p, reach)
			counts[want]++
			all, isAll := gate.AllReady(s, it.ID)
			some, isSome := gate.SomeReady(s, it.ID)
			kind := p.Nodes[it.Node].Kind
			if isAll != (want && kind == api.All) || isSome != (want && kind == api.Some) || !isAll && all != nil || !isSome && some != nil {
				t.Fatal(it, want, all, some)
			}
			if want {
				key := [2]int{it.Up, it.Node}
				if old, ok := least[key]; !ok || it.ID < old {
					least[key] = it.ID
				}
			}
			if isAll {
				along(t, s, p, it, all)
			}
			if isSome {
				var join []int
				for _, x := range s.Items {
					if x.Is == api.Token && x.Wait == api.Joins && x.Up == it.Up && x.Node == it.Node {
						join = append(join, x.ID)
					}
				}
				if !slices.Equal(join, some) {
					t.Fatal("all that join", join, some)
				}
				more(t, s, it, reach)
			}
		}
		var want []int
		for _, id := range least {
			want = append(want, id)
		}
		slices.Sort(want)
		if got := gate.Ready(s); !slices.Equal(got, want) {
			t.Fatal("Ready", got, want)
		}
	}
	if counts[true] < 300 || counts[false] < 300 {
		t.Error("too few", counts)
	}
}

// ways: P23.3.
func ways(t *testing.T, s api.State, p api.Process, it api.Item) {
	flows, stuck, e := gate.Ways(s, it.ID)
	var all []int
	for f, flow := range p.Flows {
		if flow.From == it.Node {
			all = append(all, f)
		}
	}
	kind := p.Nodes[it.Node].Kind
	chooses := (kind == api.Xor || kind == api.Some) && len(all) > 1
	if e != api.OK || !chooses && (stuck || !slices.Equal(flows, all)) || chooses && (stuck != (len(flows) == 0) || kind == api.Xor && len(flows) > 1) || !slices.IsSorted(flows) {
		t.Fatal(it, flows, stuck, e)
	}
}

// along: P23.4.
func along(t *testing.T, s api.State, p api.Process, it api.Item, all []int) {
	var flows, want []int
	for f, flow := range p.Flows {
		if flow.To == it.Node {
			flows = append(flows, f)
		}
	}
	for _, f := range flows {
		for _, x := range s.Items {
			if x.Is == api.Token && x.Wait == api.Joins && x.Up == it.Up && x.Node == it.Node && x.From == f {
				want = append(want, x.ID)
				break
			}
		}
	}
	slices.Sort(want)
	if !slices.Equal(want, all) || len(all) != len(flows) {
		t.Fatal(it, all, want)
	}
	n := s
	x := it
	x.ID = 50
	n.Items = append(slices.Clone(s.Items), x)
	if l, ok := gate.AllReady(n, it.ID); !ok || !slices.Equal(l, all) {
		t.Fatal("one more token", l)
	}
}

// more: P23.5.
func more(t *testing.T, s api.State, it api.Item, reach [][]bool) {
	for node := range reach {
		n := s
		n.Items = append(slices.Clone(s.Items), api.Item{ID: 50, Up: it.Up, Is: api.Token, Proc: "p", Node: node, From: -1, Wait: api.Works})
		if _, ok := gate.SomeReady(n, it.ID); ok == (reach[node][it.Node] || node == it.Node) {
			t.Fatal("one more token at", node)
		}
	}
	for i, x := range s.Items {
		if x.Is == api.Token && !(x.Wait == api.Joins && x.Node == it.Node && x.Up == it.Up) {
			n := s
			n.Items = slices.Delete(slices.Clone(s.Items), i, i+1)
			if _, ok := gate.SomeReady(n, it.ID); !ok {
				t.Fatal("without", x)
			}
		}
	}
}

func TestR1AnyState(t *testing.T) {
	r := rand.New(rand.NewSource(231))
	p := sketch.Process("p; start s; all g; some h; xor x; s>g; g>h; h>x; x>g if yes; x>h else; g>x")
	for range 3000 {
		s := api.State{Defs: []api.Process{p}}
		for range 8 {
			s.Items = append(s.Items, api.Item{ID: r.Intn(6) - 1, Up: r.Intn(6) - 1, Is: uint8(r.Intn(4)), Proc: []string{"p", "q"}[r.Intn(2)], Node: r.Intn(8) - 2, From: r.Intn(8) - 2, Wait: uint8(r.Intn(8))})
		}
		before := arena.Copy(s)
		for id := -2; id < 7; id++ {
			gate.Ways(s, id)
			gate.AllReady(s, id)
			gate.SomeReady(s, id)
		}
		if !slices.IsSorted(gate.Ready(s)) || !arena.Same(s, before) {
			t.Fatal(s)
		}
	}
}
