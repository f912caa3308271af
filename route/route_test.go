package route_test

import (
	"math/rand"
	"slices"
	"testing"

	"callboard/api"
	"callboard/arena"
	"callboard/graph"
	"callboard/model"
	"callboard/route"
	"callboard/sketch"
)

func scope(id, up int, proc string, node int) api.Item {
	return api.Item{ID: id, Up: up, Is: api.Scope, Proc: proc, Node: node, From: -1}
}

func token(id, up int, proc string, node int, wait uint8) api.Item {
	return api.Item{ID: id, Up: up, Is: api.Token, Proc: proc, Node: node, From: -1, Wait: wait}
}

func TestP22_1Examples(t *testing.T) {
	p := sketch.Process("p; start s; part w; .start a; .task b; .end c; bound x @w error:k breaks; end e; s>w>e; a>b>c; x>e")
	s := api.State{Next: 4, Defs: []api.Process{p}, Items: []api.Item{scope(1, 0, "p", -1), token(2, 1, "p", 1, api.Holds), scope(3, 2, "p", 1), token(4, 3, "p", 3, api.Works)}}
	if !arena.Sound(s) {
		t.Fatal("not sound")
	}
	if h, ok := route.Find(s, 4, api.Error, "k"); !ok || h != (route.Handler{2, 5}) {
		t.Error(h, ok)
	}
	if h, ok := route.Find(s, 4, api.Error, "l"); ok || h != (route.Handler{}) {
		t.Error(h, ok)
	}
	p = sketch.Process("p; start s; part w; .start a; .task b; .end c; .aside y; ..start z error: breaks; ..end v; bound x @w error:k breaks; end e; s>w>e; a>b>c; x>e; z>v")
	s.Defs[0] = p
	if h, ok := route.Find(s, 4, api.Error, "l"); !ok || h != (route.Handler{3, 6}) {
		t.Error(h, ok)
	}
	if h, ok := route.Find(s, 4, api.Error, "k"); !ok || h != (route.Handler{3, 6}) {
		t.Error(h, ok)
	}
}

func TestP22_1Choose(t *testing.T) {
	p := sketch.Process("p; bound a @a error:; bound b @b error:k; bound c @c error:k; bound d @d escalate:k; bound e @e error:l; bound f @f error:; start g error:k; bound h @h signal:k")
	all := []int{0, 1, 2, 3, 4, 5, 6, 7}
	for _, c := range []struct {
		nodes []int
		event uint8
		key   string
		want  int
	}{
		{all, api.Error, "k", 1}, {all, api.Error, "l", 4}, {all, api.Error, "", 0}, {all, api.Error, "q", 0}, {all, api.Escalate, "k", 3}, {all, api.Escalate, "l", -1}, {all, api.Signal, "k", 7}, {all, api.Timer, "", -1},
		{[]int{2, 1}, api.Error, "k", 2}, {[]int{5, 0}, api.Error, "q", 5}, {[]int{6, 1}, api.Error, "k", 6}, {nil, api.Error, "k", -1}, {[]int{-1, 99, 8, 1}, api.Error, "k", 1}, {[]int{-1, 99, 8}, api.Error, "k", -1}, {[]int{1, 2}, api.Error, "", -1}, {[]int{0, 3}, api.Error, "k", 0},
	} {
		n, ok := route.Choose(p, c.nodes, c.event, c.key)
		if ok != (c.want >= 0) || n != max(c.want, 0) {
			t.Error(c, n, ok)
		}
	}
}

var sub = sketch.Process(`sub
	start s
	task v
	part w
	.start a
	.task b
	.end g
	bound c @w error:k breaks
	end e
	aside o
	.start f escalate:k
	.task h
	.end i
	s>v>w>e; a>b>g; f>h>i; c>e`)

var p = sketch.Process(`p
	start s
	task t
	bound t1 @t error:k breaks
	bound t2 @t escalate:
	part w
	.start a
	.task b
	.bound b1 @b error:l breaks
	.end c
	.aside x
	..start d error:k breaks
	..task g
	..end f
	.aside y
	..start y1 error:k breaks
	..end y2
	.aside z
	..start z1 escalate:m
	..end z2
	bound h @w error: breaks
	call j key:sub
	bound k @j error:k breaks
	bound l @j escalate:k
	adhoc q text:yes
	.task r
	.part u
	..start u1
	..task u2
	..end u3
	bound qq @q escalate:k
	aside n
	.start n1 error:n breaks
	.task n2
	.end n3
	end e
	aside up
	.start up1 escalate:top
	.end up2
	s>t>w>j>q>e; up1>up2; a>b>c; d>g>f; y1>y2; z1>z2; t1>e; t2>e; h>e; k>e; l>e; u1>u2>u3; n1>n2>n3; qq>e`)

func at(name string) int { return sketch.At(p, name) }

func sat(name string) int { return sketch.At(sub, name) }

// base has a token at each Task.
func base() api.State {
	return api.State{Next: 40, Defs: []api.Process{p, sub}, Items: []api.Item{
		scope(1, 0, "p", -1), token(2, 1, "p", at("t"), api.Works), token(3, 1, "p", at("w"), api.Holds), scope(4, 3, "p", at("w")), token(5, 4, "p", at("b"), api.Works),
		scope(6, 4, "p", at("x")), token(7, 6, "p", at("g"), api.Works), token(8, 1, "p", at("j"), api.Holds), scope(9, 8, "sub", -1), token(10, 9, "sub", sat("v"), api.Works),
		token(11, 9, "sub", sat("w"), api.Holds), scope(12, 11, "sub", sat("w")), token(13, 12, "sub", sat("b"), api.Works), scope(14, 9, "sub", sat("o")), token(15, 14, "sub", sat("h"), api.Works),
		token(16, 1, "p", at("q"), api.Holds), scope(17, 16, "p", at("q")), token(18, 17, "p", at("r"), api.Works), token(19, 17, "p", at("u"), api.Holds), scope(20, 19, "p", at("u")), token(21, 20, "p", at("u2"), api.Works),
		scope(22, 1, "p", at("n")), token(23, 22, "p", at("n2"), api.Works), token(24, 1, "p", at("e"), api.Ready), scope(25, 0, "sub", -1), token(26, 25, "sub", sat("v"), api.Works),
	}}
}

func TestP22_1Find(t *testing.T) {
	s := base()
	if !arena.Sound(s) {
		t.Fatal("not sound")
	}
	no := route.Handler{}
	for _, c := range []struct {
		token int
		event uint8
		key   string
		want  route.Handler
	}{
		{2, api.Error, "k", route.Handler{2, at("t1")}}, {2, api.Error, "n", route.Handler{1, at("n1")}}, {2, api.Error, "zz", no}, {2, api.Escalate, "zz", route.Handler{2, at("t2")}},
		{5, api.Error, "k", route.Handler{4, at("d")}}, {5, api.Error, "l", route.Handler{5, at("b1")}}, {5, api.Error, "q", route.Handler{3, at("h")}}, {5, api.Escalate, "m", route.Handler{4, at("z1")}}, {5, api.Escalate, "k", no},
		{7, api.Error, "k", route.Handler{3, at("h")}}, {7, api.Error, "n", route.Handler{3, at("h")}}, {7, api.Escalate, "m", no}, {7, api.Escalate, "top", route.Handler{1, at("up1")}}, {15, api.Escalate, "top", route.Handler{1, at("up1")}}, {23, api.Escalate, "top", no}, {3, api.Error, "k", route.Handler{3, at("h")}},
		{10, api.Error, "k", route.Handler{8, at("k")}}, {10, api.Error, "n", route.Handler{1, at("n1")}}, {10, api.Escalate, "k", route.Handler{9, sat("f")}}, {13, api.Error, "k", route.Handler{11, sat("c")}}, {13, api.Error, "l", no}, {13, api.Escalate, "k", route.Handler{9, sat("f")}},
		{15, api.Escalate, "k", route.Handler{8, at("l")}}, {15, api.Error, "k", route.Handler{8, at("k")}}, {18, api.Escalate, "k", route.Handler{16, at("qq")}}, {21, api.Escalate, "k", route.Handler{16, at("qq")}}, {21, api.Error, "n", route.Handler{1, at("n1")}},
		{23, api.Error, "n", no}, {24, api.Error, "n", route.Handler{1, at("n1")}}, {26, api.Error, "k", no}, {26, api.Escalate, "k", route.Handler{25, sat("f")}},
		{1, api.Error, "n", no}, {99, api.Error, "n", no}, {4, api.Error, "k", no}, {2, api.Signal, "k", no}, {2, api.Plain, "", no}, {2, api.Link, "k", no},
	} {
		h, ok := route.Find(s, c.token, c.event, c.key)
		if h != c.want || ok != (c.want != no) {
			t.Error(c, h, ok)
		}
	}
	for id, want := range map[int][]int{2: {1}, 5: {4, 1}, 7: {6, 4, 1}, 13: {12, 9, 1}, 15: {14, 9, 1}, 21: {20, 17, 1}, 26: {25}, 23: {22, 1}, 1: nil, 4: nil, 99: nil} {
		if got := route.Scopes(s, id); !slices.Equal(got, want) {
			t.Error(id, got)
		}
	}
	if !arena.Same(s, base()) {
		t.Error("a state was modified")
	}
}

func TestP22_1NotBounds(t *testing.T) {
	// Only errors and escalations are handled, and only activities have Bounds.
	d := sketch.Process("d; start s; task t; bound b @t signal:k; xor x; bound c @x error: breaks; end e; s>t>x>e")
	s := api.State{Next: 9, Defs: []api.Process{d}, Items: []api.Item{scope(1, 0, "d", -1), token(2, 1, "d", 1, api.Works), token(3, 1, "d", 3, api.Ready)}}
	for id, event := range map[int]uint8{2: api.Signal, 3: api.Error} {
		if h, ok := route.Find(s, id, event, "k"); ok || h != (route.Handler{}) {
			t.Error(id, h)
		}
	}
}

// site returns where an item is, and through which Calls it came to be.
func site(s api.State, it api.Item) (graph.Site, []graph.Site) {
	at := graph.Site{Proc: it.Proc, Node: it.Node}
	var calls []graph.Site
	for up, ok := arena.Find(s, it.Up); ok; up, ok = arena.Find(s, up.Up) {
		if above, _ := arena.Find(s, up.Up); up.Is == api.Scope && up.Node == -1 && above.Is == api.Token {
			calls = append(calls, graph.Site{Proc: above.Proc, Node: above.Node})
		}
	}
	return at, calls
}

// TestP22_2To5 checks each handler against where it has to be, and against the one that graph finds.
func TestP22_2To5Grown(t *testing.T) {
	s := base()
	for _, it := range s.Items {
		if it.Is != api.Token {
			continue
		}
		for _, event := range []uint8{api.Error, api.Escalate} {
			unknown, known := route.Handler{}, false
			for _, key := range []string{"nokey", "other", "k", "l", "m", "n", ""} {
				h, ok := route.Find(s, it.ID, event, key)
				from, calls := site(s, it)
				g, _, found := graph.Handler(s.Defs, calls, from, event, key)
				if ok != found {
					t.Fatal(it.ID, event, key, h, g)
				}
				if key == "nokey" {
					unknown, known = h, ok
				}
				if key == "other" && (h != unknown || ok != known) {
					t.Fatal("another unknown Key", h)
				}
				if !ok {
					continue
				}
				above, _ := arena.Find(s, h.Item)
				d, _ := arena.Def(s, above.Proc)
				n := d.Nodes[h.Node]
				if n.Event != event || n.Key != key && n.Key != "" || (key == "nokey" || key == "other") && n.Key != "" || above.Proc != g.Proc {
					t.Fatal(it.ID, key, n)
				}
				if n.Kind == api.Bound {
					if above.Is != api.Token || n.On != above.Node || !model.Activity(d.Nodes[above.Node].Kind) || h.Item != it.ID && !slices.Contains(arena.Below(s, h.Item), it.ID) || g.Node != h.Node {
						t.Fatal(it.ID, key, h)
					}
				} else if above.Is != api.Scope || d.Nodes[n.In].Kind != api.Aside || d.Nodes[n.In].In != above.Node || !slices.Contains(route.Scopes(s, it.ID), h.Item) || g.Node != n.In {
					t.Fatal(it.ID, key, h)
				}
				// P22.4: no scope of an Aside of that scope is on the way up.
				if n.Kind == api.Start {
					for _, id := range route.Scopes(s, it.ID) {
						if sc, _ := arena.Find(s, id); sc.Up == h.Item {
							t.Fatal("inside an Aside", it.ID, h)
						}
					}
				}
			}
		}
	}
}

func TestR1AnyState(t *testing.T) {
	r := rand.New(rand.NewSource(220))
	for range 5000 {
		s := api.State{Defs: []api.Process{p, sub}}
		for id := 1; id <= 8; id++ {
			s.Items = append(s.Items, api.Item{ID: r.Intn(9), Up: r.Intn(10), Is: uint8(r.Intn(4)), Proc: []string{"p", "sub", "none"}[r.Intn(3)], Node: r.Intn(40) - 2})
		}
		for id := range 10 {
			l := route.Scopes(s, id)
			h, ok := route.Find(s, id, api.Error, "k")
			if it, _ := arena.Find(s, id); it.Is != api.Token && (len(l) > 0 || ok) || !ok && h != (route.Handler{}) {
				t.Fatal(id, l, h)
			}
			slices.Sort(l)
			if len(slices.Compact(l)) != len(l) {
				t.Fatal("a scope twice", l)
			}
		}
	}
	// Ways up that go round.
	s := api.State{Defs: []api.Process{p}, Items: []api.Item{token(1, 2, "p", at("t"), 0), scope(2, 3, "p", at("w")), token(3, 2, "p", at("w"), 0), {ID: 4, Up: 5}, {ID: 5, Up: 4}, scope(6, 4, "p", -1), token(7, 6, "p", at("b"), 0)}}
	if h, ok := route.Find(s, 1, api.Error, "q"); !ok || h != (route.Handler{3, at("h")}) || !slices.Equal(route.Scopes(s, 1), []int{2}) {
		t.Error(h, ok, route.Scopes(s, 1))
	}
	if l := route.Scopes(s, 7); !slices.Equal(l, []int{6}) {
		t.Error(l)
	}
}
