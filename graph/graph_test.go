package graph_test

import (
	"math"
	"math/rand"
	"slices"
	"testing"

	"callboard/api"
	"callboard/graph"
	"callboard/model"
	"callboard/sketch"
	"callboard/valid"
)

// nested has a bit of everything: scopes in scopes, Bounds, Asides, a Link.
func nested() api.Process {
	return sketch.Process(`p n=1
		start s
		part w
		.start a
		.task t
		.end b error:k
		.aside x
		..start c error:l breaks
		..end d error:k
		.aside y
		..start f error: breaks
		..throw u escalate:m
		..end g
		bound h @w error:k breaks
		bound i @w error: breaks
		throw j link:z
		catch l link:z
		end e
		aside o
		.start q escalate: 
		.end r
		s>w>j; a>t>b; c>d; f>u>g; h>e; i>e; l>e; q>r`)
}

func at(p api.Process, name string) int { return sketch.At(p, name) }

func site(p api.Process, name string) graph.Site { return graph.Site{Proc: p.Name, Node: at(p, name)} }

func TestP17_1Lists(t *testing.T) {
	p := sketch.Process(`p
		start s
		task t
		bound b @t timer:1
		bound c @t error: breaks
		part w
		.start aa signal:k
		.start a
		.aside x
		..start d signal:k
		..start f
		.task u
		.aside y
		end e
		s>t>e; t>w; b>e; w>e; t>e`)
	for _, c := range []struct {
		got  []int
		want []int
	}{
		{graph.From(p, at(p, "t")), []int{1, 2, 5}}, {graph.To(p, at(p, "e")), []int{1, 3, 4, 5}}, {graph.From(p, at(p, "e")), nil}, {graph.To(p, at(p, "s")), nil},
		{graph.Within(p, -1), []int{0, 1, 2, 3, 4, 12}}, {graph.Within(p, 4), []int{5, 6, 7, 10, 11}}, {graph.Within(p, 7), []int{8, 9}}, {graph.Within(p, 0), nil},
		{graph.Bounds(p, 1), []int{2, 3}}, {graph.Bounds(p, 4), nil}, {graph.Asides(p, 4), []int{7, 11}}, {graph.Asides(p, -1), nil},
	} {
		if !slices.Equal(c.got, c.want) {
			t.Error(c.got, c.want)
		}
	}
	// What is no Bound may have an On, in a process that is not well-formed.
	odd := model.Copy(p)
	odd.Nodes[12].On = 1
	if got := graph.Bounds(odd, 1); !slices.Equal(got, []int{2, 3}) {
		t.Error(got)
	}
	for in, want := range map[int]int{-1: 0, 4: 6, 7: 8, 11: -1, 0: -1, 99: -1, -5: -1} {
		got, ok := graph.StartOf(p, in)
		if ok != (want >= 0) || got != max(want, 0) {
			t.Error(in, got, ok)
		}
	}
	p.Nodes[5].In = -1
	if got, ok := graph.StartOf(p, -1); got != 0 || !ok {
		t.Error("a Start with an event", got, ok)
	}
	p.Nodes[0].Event, p.Nodes[0].Key = api.Signal, "l"
	if got, ok := graph.StartOf(p, -1); got != 0 || ok {
		t.Error("only Starts with an event", got, ok)
	}
}

func TestP17_1NoNode(t *testing.T) {
	p := sketch.Process("p; start s; task t; bound b @t timer:1; end e; s>t>e; t>e")
	for _, n := range []int{-2, 77, math.MaxInt, math.MinInt} {
		if graph.From(p, n) != nil || graph.To(p, n) != nil || graph.Within(p, n) != nil || graph.Bounds(p, n) != nil || graph.Asides(p, n) != nil || graph.Comes(p, n) != nil || graph.Reaches(p, n, n) || graph.Reaches(p, 0, n) {
			t.Error(n)
		}
		if _, ok := graph.Link(p, n); ok {
			t.Error(n)
		}
		// What refers to it is there, but nothing else.
		q := model.Copy(p)
		q.Flows[0].From, q.Flows[1].To = n, n
		q.Nodes[2].On, q.Nodes[3].In, q.Nodes[0].In = n, n, n
		if !slices.Equal(graph.From(q, n), []int{0}) || !slices.Equal(graph.To(q, n), []int{1}) || !slices.Equal(graph.Within(q, n), []int{0, 3}) || !slices.Equal(graph.Bounds(q, n), []int{2}) {
			t.Error(n)
		}
		if s, ok := graph.StartOf(q, n); s != 0 || !ok {
			t.Error(n, s, ok)
		}
		if graph.Comes(q, n) != nil || graph.Reaches(q, n, 1) || !slices.Equal(graph.Comes(q, 1), slices.Sorted(slices.Values([]int{n, 3}))) || graph.Reaches(q, 1, n) || graph.Reaches(q, n, n) || !graph.Reaches(q, 1, 3) {
			t.Error(n, graph.Comes(q, 1))
		}
	}
}

func TestP17_1Link(t *testing.T) {
	p := sketch.Process(`p
		start s
		throw a link:k
		throw b link:l
		throw c signal:k
		part w
		.catch d link:k
		.throw e link:k
		catch j signal:k
		catch f link:k
		catch g link:k
		catch h signal:k
		throw i link:none`)
	for name, want := range map[string]string{"a": "f", "b": "", "c": "", "e": "d", "f": "", "s": "", "i": ""} {
		got, ok := graph.Link(p, at(p, name))
		if ok != (want != "") || ok && got != at(p, want) || !ok && got != 0 {
			t.Error(name, got, ok)
		}
	}
}

func TestP17_2Comes(t *testing.T) {
	p := sketch.Process(`p
		start s
		task t
		bound b @t timer:1
		part w
		bound c @w timer:1
		throw u link:k
		catch v link:k
		xor x
		end e
		s>t>w; t>w; w>x; w>u; b>e; c>t; v>x; x>x; x>e`)
	for name, want := range map[string][]string{"s": {"t"}, "t": {"b", "w"}, "w": {"c", "u", "x"}, "b": {"e"}, "c": {"t"}, "u": {"v"}, "v": {"x"}, "x": {"x", "e"}, "e": nil} {
		var l []int
		for _, w := range want {
			l = append(l, at(p, w))
		}
		if got := graph.Comes(p, at(p, name)); !slices.Equal(got, l) {
			t.Error(name, got)
		}
	}
	// A Bound at what is no activity is nowhere that a token goes.
	p.Nodes[2].On = at(p, "x")
	if got := graph.Comes(p, at(p, "x")); !slices.Equal(got, []int{at(p, "x"), at(p, "e")}) {
		t.Error(got)
	}
	if graph.Reaches(p, 0, 0) || !graph.Reaches(p, 0, at(p, "e")) || !graph.Reaches(p, at(p, "x"), at(p, "x")) || graph.Reaches(p, at(p, "e"), at(p, "s")) || !graph.Reaches(p, at(p, "t"), at(p, "t")) {
		t.Error("Reaches")
	}
}

// TestP17_2ReachesNoNode: a step may lead to an index that is no node; nothing is reachable there, nor from there.
func TestP17_2ReachesNoNode(t *testing.T) {
	for _, n := range []int{math.MinInt, -2, -1, 2, 3, math.MaxInt} {
		p := api.Process{Nodes: []api.Node{{Kind: api.Xor, In: -1, On: -1}, {Kind: api.Xor, In: -1, On: -1}}, Flows: []api.Flow{{From: 0, To: n}, {From: n, To: n}, {From: n, To: 1}}}
		if got := graph.Comes(p, 0); !slices.Equal(got, []int{n}) {
			t.Error(n, got)
		}
		if graph.Reaches(p, 0, n) || graph.Reaches(p, n, n) || graph.Reaches(p, n, 1) || graph.Reaches(p, 0, 1) || graph.Circle(p) {
			t.Error(n)
		}
		p.Flows = append(p.Flows, api.Flow{From: 0, To: 1})
		if graph.Reaches(p, 0, n) || !graph.Reaches(p, 0, 1) {
			t.Error(n)
		}
	}
}

func TestP17_2Circle(t *testing.T) {
	for s, want := range map[string]bool{
		"p; start s; calc a n=1; calc b n=1; xor x; s>x; x>a; a>b; b>x":    true,
		"p; start s; task a; xor x; end e; s>x; x>a; a>x; a>e":             false,
		"p; start s; race a; xor x; s>x; x>a; a>x":                         false,
		"p; start s; catch a timer:1; xor x; s>x; x>a; a>x":                false,
		"p; start s; catch a signal:k; xor x; s>x; x>a; a>x":               false,
		"p; start s; catch a cond:yes; xor x; s>x; x>a; a>x":               false,
		"p; start s; call a key:q; xor x; s>x; x>a; a>x":                   true,
		"p; start s; part a; xor x; s>x; x>a; a>x":                         true,
		"p; start s; adhoc a text:yes; xor x; s>x; x>a; a>x":               true,
		"p; start s; throw a link:k; catch b link:k; xor x; s>x; x>a; b>x": true,
		"p; start s; throw a link:l; catch b link:k; xor x; s>x; x>a; b>x": false,
		"p; start s; task t; bound b @t timer:1; s>t; b>t":                 false,
		"p; start s; part t; bound b @t timer:1; s>t; b>t":                 true,
		"p; start s; all a; some b; throw c; end e; s>a>b>c>e":             false,
		"p; xor a; a>a":  true,
		"p; task a; a>a": false,
		"p; xor a; xor b; task c; xor d; a>b; b>d; d>c; c>a; b>c": false,
		"p; xor a; task c; xor d; xor f; a>c; c>d; d>f; f>d":      true,
		"p; end a; a>a": true,
		"":              false,
		"p; start s; part t; .start a; .xor b; .xor c; .end d; end e; s>t>e; a>b; b>c; c>b; c>d": true,
	} {
		if got := graph.Circle(sketch.Process(s)); got != want {
			t.Error(s, got)
		}
	}
}

func TestP17_2Quiet(t *testing.T) {
	for s, want := range map[string]bool{
		"": true, "p; throw a": true, "p; throw a escalate:k": true, "p; throw a link:k": true, "p; end e": true, "p; end e error:k": true, "p; catch a signal:k": true, "p; catch a timer:1": true, "p; start a signal:k": true, "p; bound a signal:k": true,
		"p; throw a signal:k": false, "p; end a signal:k": false, "p; catch a cond:yes": false, "p; bound a cond:yes": false, "p; start a cond:yes": false, "p; adhoc a text:yes": true, "p; task t; throw a signal:k": false, "p; xor x cond:yes": true,
	} {
		p := sketch.Process(s)
		quiet := sketch.Process("q; start s")
		if graph.Quiet([]api.Process{p}) != want || graph.Quiet([]api.Process{quiet, p}) != want || graph.Quiet([]api.Process{p, quiet}) != want {
			t.Error(s)
		}
	}
	if !graph.Quiet(nil) {
		t.Error("none")
	}
}

func TestP17_3Examples(t *testing.T) {
	p := sketch.Process("p; start s; task t; end e; s>t>e")
	defs := []api.Process{p}
	if n := graph.Steps(defs, nil, site(p, "s")); n != 2 {
		t.Error(n)
	}
	if graph.Steps(defs, nil, site(p, "t")) != 1 || graph.Along(defs, nil, site(p, "t")) != 1 || graph.Along(defs, nil, site(p, "e")) != 0 {
		t.Error("the Task")
	}
	p = sketch.Process("p n=1; start s; calc a n=1; calc b n=1; s>a>b>a")
	if n := graph.Steps([]api.Process{p}, nil, site(p, "s")); n != api.MaxSteps+1 || !graph.Circle(p) {
		t.Error(n)
	}
	if n := graph.Along([]api.Process{p}, nil, site(p, "s")); n != api.MaxSteps+1 {
		t.Error(n)
	}
	p = sketch.Process("p; start s; part w; .start a; .end b error:k; bound c @w error:k breaks; end e; s>w>e; a>b; c>e")
	h, rest, ok := graph.Handler([]api.Process{p}, nil, site(p, "b"), api.Error, "k")
	if h != site(p, "c") || len(rest) != 0 || !ok {
		t.Error(h, rest, ok)
	}
}

func TestP17_3Handlers(t *testing.T) {
	sub := sketch.Process(`sub
		start s
		task v
		part w
		.start a
		.end b error:k
		.aside x
		..start c escalate:k
		..end d escalate:k
		end e
		aside y
		.start f escalate:m
		.end g escalate:m
		s>v>w>e; a>b; c>d; f>g`)
	p := nested()
	up := sketch.Process(`up
		start s
		call c key:sub
		bound b @c error:k breaks
		bound d @c error: breaks
		bound m @c escalate:m
		call n key:p
		end e
		s>c>n>e; b>e; d>e`)
	defs := []api.Process{p, sub, up}
	call, call2 := site(up, "c"), site(up, "n")
	for i, c := range []struct {
		calls []graph.Site
		at    graph.Site
		event uint8
		key   string
		want  graph.Site
		rest  int
	}{
		{nil, site(p, "b"), api.Error, "k", site(p, "y"), 0}, {nil, site(p, "b"), api.Error, "l", site(p, "x"), 0}, {nil, site(p, "b"), api.Error, "zz", site(p, "y"), 0},
		{nil, site(p, "d"), api.Error, "k", site(p, "h"), 0}, {nil, site(p, "d"), api.Error, "l", site(p, "i"), 0}, {nil, site(p, "g"), api.Error, "q", site(p, "i"), 0},
		{nil, site(p, "u"), api.Escalate, "m", site(p, "o"), 0}, {nil, site(p, "r"), api.Escalate, "m", graph.Site{}, -1}, {nil, site(p, "e"), api.Error, "k", graph.Site{}, -1},
		{nil, site(p, "w"), api.Error, "k", site(p, "h"), 0}, {nil, site(p, "t"), api.Error, "l", site(p, "x"), 0}, {nil, site(p, "h"), api.Error, "k", graph.Site{}, -1},
		{nil, site(sub, "b"), api.Error, "k", graph.Site{}, -1}, {[]graph.Site{call}, site(sub, "b"), api.Error, "k", site(up, "b"), 0}, {[]graph.Site{call}, site(sub, "v"), api.Error, "q", site(up, "d"), 0},
		{[]graph.Site{call}, site(sub, "b"), api.Escalate, "k", site(sub, "x"), 1}, {[]graph.Site{call}, site(sub, "d"), api.Escalate, "k", graph.Site{}, -1}, {[]graph.Site{call}, site(sub, "d"), api.Escalate, "m", site(sub, "y"), 1},
		{[]graph.Site{call}, site(sub, "g"), api.Escalate, "m", site(up, "m"), 0}, {[]graph.Site{call2}, site(p, "e"), api.Error, "k", graph.Site{}, -1},
		{[]graph.Site{call, call2}, site(sub, "s"), api.Error, "k", site(up, "b"), 1},
		{nil, site(p, "b"), api.Signal, "k", graph.Site{}, -1}, {nil, site(p, "b"), api.Plain, "k", graph.Site{}, -1}, {nil, site(p, "b"), 99, "", graph.Site{}, -1},
		{nil, graph.Site{Proc: "none", Node: 0}, api.Error, "k", graph.Site{}, -1}, {nil, graph.Site{Proc: "p", Node: 99}, api.Error, "k", graph.Site{}, -1}, {nil, graph.Site{Proc: "p", Node: -1}, api.Error, "k", graph.Site{}, -1},
	} {
		h, rest, ok := graph.Handler(defs, c.calls, c.at, c.event, c.key)
		if h != c.want || ok != (c.rest >= 0) || len(rest) != max(c.rest, 0) || ok && len(rest) > 0 && !slices.Equal(rest, c.calls[len(c.calls)-len(rest):]) {
			t.Error(i, h, rest, ok)
		}
	}
	watched := sketch.Process("w; start s; task t; bound b @t signal:k; aside a; .start c timer:1; s>t")
	for _, event := range []uint8{api.Signal, api.Timer, api.Plain} {
		if h, _, ok := graph.Handler([]api.Process{watched}, nil, site(watched, "t"), event, "k"); ok {
			t.Error(event, h)
		}
	}
	calls := []graph.Site{call}
	_, rest, _ := graph.Handler(defs, calls, site(sub, "d"), api.Escalate, "m")
	rest[0].Node = 77
	if calls[0] != call {
		t.Error("the rest shares memory")
	}
}

// TestP17_3AtAsides: the search begins in the scope in which a node is, also if that is an Aside: no way up has come from it yet.
func TestP17_3AtAsides(t *testing.T) {
	p := sketch.Process(`p
		start s
		end e
		aside n
		.start c error: breaks
		.end d
		.aside m
		..start f error:k breaks
		..part w
		...start a
		...end g
		...aside v
		....start h escalate:k
		....end i
		..end j
		aside o
		.start q error:l breaks
		.end r
		s>e; c>d; f>w>j; a>g; h>i; q>r`)
	up := sketch.Process("up; start s; call b key:p; aside x; .start c error:k breaks; .end d; bound y @b escalate:k; end e; s>b>e; c>d; y>e")
	if e := valid.Check(nil, p); e != api.OK {
		t.Fatal(e)
	}
	if e := valid.Check([]api.Process{p}, up); e != api.OK {
		t.Fatal(e)
	}
	defs := []api.Process{p, up}
	calls := []graph.Site{site(up, "b")}
	for i, c := range []struct {
		at    string
		event uint8
		key   string
		want  graph.Site
		rest  int
	}{
		{"n", api.Error, "k", site(p, "n"), 1}, {"n", api.Error, "l", site(p, "o"), 1}, {"o", api.Error, "l", site(p, "o"), 1}, {"o", api.Error, "k", site(p, "n"), 1},
		// Inside of the Aside n the Asides n and o do not handle it, but the Call's process does.
		{"m", api.Error, "k", site(p, "m"), 1}, {"m", api.Error, "l", graph.Site{}, -1}, {"d", api.Error, "l", graph.Site{}, -1}, {"d", api.Error, "k", site(p, "m"), 1},
		{"j", api.Error, "k", site(up, "x"), 0}, {"w", api.Error, "k", site(up, "x"), 0}, {"g", api.Error, "k", site(up, "x"), 0}, {"r", api.Error, "l", graph.Site{}, -1},
		{"v", api.Escalate, "k", site(p, "v"), 1}, {"v", api.Error, "k", site(up, "x"), 0}, {"i", api.Escalate, "k", site(up, "y"), 0}, {"n", api.Escalate, "k", site(up, "y"), 0},
	} {
		h, rest, ok := graph.Handler(defs, calls, site(p, c.at), c.event, c.key)
		if h != c.want || ok != (c.rest >= 0) || len(rest) != max(c.rest, 0) {
			t.Error(i, c.at, h, rest, ok)
		}
	}
	if h, _, ok := graph.Handler(defs, nil, site(up, "x"), api.Error, "k"); h != site(up, "x") || !ok {
		t.Error(h, ok)
	}
}

func TestP17_3Steps(t *testing.T) {
	sub := sketch.Process("sub; start s; throw a; end e error:k; s>a>e")
	p := sketch.Process(`p
		start s
		call c key:sub
		bound b @c error:k breaks
		throw x
		end f
		part w
		.start a
		.all d
		.end g escalate:m
		.aside y
		..start h escalate:m
		..end i
		adhoc j text:yes
		.throw q
		some k
		throw l link:z
		catch m link:z
		race r
		catch u signal:k
		catch v timer:1
		xor o
		end e
		s>c>w>j>k>l; b>x>f; a>d>g; h>i; m>r; r>u>o; r>v>o; o>e`)
	defs := []api.Process{sub, p}
	for name, want := range map[string]int{
		// i, h, g (with the Aside: 1 and the Start), d, a
		"i": 1, "h": 2, "g": 1 + 1 + 2, "d": 2 + 4, "a": 1 + 6, "r": 1, "u": 1, "v": 1, "m": 2, "l": 3, "k": 2 + 3, "j": 2 + 5, "q": 1,
		"w": 2 + 7 + 7, "f": 1, "x": 2, "b": 3, "o": 2, "e": 1,
		// In sub: s, a, e and what the Bound leads to; then the Call's own flow.
		"c": 2 + (1 + 1 + 1 + 2) + 16, "s": 1 + 23,
	} {
		if got := graph.Steps(defs, nil, site(p, name)); got != want {
			t.Error(name, got, want)
		}
	}
	for name, want := range map[string]int{"s": 3, "a": 2, "e": 1} {
		if got := graph.Steps(defs, nil, site(sub, name)); got != want {
			t.Error(name, got)
		}
		if got := graph.Steps(defs, []graph.Site{site(p, "c")}, site(sub, name)); got != want+2 {
			t.Error(name, got)
		}
	}
	if graph.Along(defs, nil, site(p, "u")) != 2 || graph.Along(defs, nil, site(p, "r")) != 2 || graph.Along(defs, nil, site(p, "l")) != 0 || graph.Along(defs, nil, site(p, "c")) != 16 {
		t.Error("Along")
	}
	for _, s := range []graph.Site{{}, {Proc: "p", Node: -1}, {Proc: "p", Node: 99}, {Proc: "q"}} {
		if graph.Steps(defs, nil, s) != 0 || graph.Along(defs, nil, s) != 0 {
			t.Error(s)
		}
	}
}

func TestP17_3Limit(t *testing.T) {
	// Each All doubles what follows: 3, 2 + 2 * 3, ..
	double := "p; start s; all a1; all a2; all a3; all a4; all a5; all a6; all a7; all a8; all a9; throw t; throw u; end e; s>a1"
	for _, f := range []string{"a1>a2", "a2>a3", "a3>a4", "a4>a5", "a5>a6", "a6>a7", "a7>a8", "a8>a9"} {
		double += "; " + f + "; " + f
	}
	p := sketch.Process(double + "; a9>t; t>e")
	want := 4 // a9, t, e
	for i := 9; i >= 1; i-- {
		name := "a" + string([]byte{byte('0' + i)})
		if i < 9 {
			want = 2 + 2*want
		}
		if got := graph.Steps([]api.Process{p}, nil, site(p, name)); got != min(want, 2001) {
			t.Error(name, got, want)
		}
	}
	// Exactly at the limit, and one above.
	for n, steps := range map[int]int{38: 38, 40: 40} {
		s := "p; start s"
		for i := 1; i < n; i++ {
			s += "; throw t" + string([]byte{byte('a' + i%26), byte('a' + i/26)})
		}
		p := sketch.Process(s)
		for i := 1; i < n; i++ {
			p.Flows = append(p.Flows, api.Flow{From: i - 1, To: i})
		}
		for k, want := range map[int]int{2000 / steps: steps * (2000 / steps), 2000/steps + 1: 2001} {
			q := model.Copy(p)
			q.Nodes = append(q.Nodes, api.Node{Name: "x", Kind: api.Throw, In: -1, On: -1})
			for range k {
				q.Flows = append(q.Flows, api.Flow{From: n, To: 0})
			}
			if got := graph.Along([]api.Process{q}, nil, graph.Site{Proc: "p", Node: n}); got != want {
				t.Error(n, k, got, want)
			}
		}
	}
}

// grown returns valid processes, each over those before it.
func grown(seed int64, n int) []api.Process {
	return sketch.Defs(n, false, rand.New(rand.NewSource(seed)).Intn)
}

func TestP17_4And5Grown(t *testing.T) {
	for seed := range int64(60) {
		for _, p := range grown(2000+seed, 2) {
			n := len(p.Nodes)
			reach := make([][]bool, n)
			quiet := make([][]bool, n)
			waits := func(i int) bool {
				k := p.Nodes[i]
				return k.Kind == api.Task || k.Kind == api.Race || k.Kind == api.Catch && k.Event != api.Link
			}
			for i := range n {
				reach[i], quiet[i] = make([]bool, n), make([]bool, n)
				for _, c := range graph.Comes(p, i) {
					reach[i][c] = true
					quiet[i][c] = !waits(i) && !waits(c)
				}
				for _, f := range graph.From(p, i) {
					if p.Flows[f].From != i || !slices.Contains(graph.To(p, p.Flows[f].To), f) {
						t.Fatal("a flow")
					}
				}
			}
			for k := range n {
				for i := range n {
					for j := range n {
						reach[i][j] = reach[i][j] || reach[i][k] && reach[k][j]
						quiet[i][j] = quiet[i][j] || quiet[i][k] && quiet[k][j]
					}
				}
			}
			circle := false
			for i := range n {
				circle = circle || quiet[i][i]
				for j := range n {
					if graph.Reaches(p, i, j) != reach[i][j] {
						t.Fatal(i, j)
					}
				}
			}
			if graph.Circle(p) != circle {
				t.Fatal("Circle", circle)
			}
			flows := 0
			for i := range n {
				flows += len(graph.From(p, i)) + len(graph.To(p, i))
			}
			if flows != 2*len(p.Flows) {
				t.Fatal("the flows")
			}
		}
	}
}

// sites calls f for all sites of processes, with all call stacks of at most two Calls by which they may be reached.
func sites(defs []api.Process, f func(calls []graph.Site, at graph.Site)) {
	var visit func(calls []graph.Site, p, outer api.Process)
	visit = func(calls []graph.Site, p, outer api.Process) {
		for i := range p.Nodes {
			f(calls, graph.Site{Proc: p.Name, Node: i})
		}
		for _, q := range defs {
			for i, n := range q.Nodes {
				if n.Kind == api.Call && n.Key == outer.Name && len(calls) < 2 {
					visit(append(slices.Clone(calls), graph.Site{Proc: q.Name, Node: i}), p, q)
				}
			}
		}
	}
	for _, p := range defs {
		visit(nil, p, p)
	}
}

// plainSteps is the chapter's list, word by word; it stops when there are too many.
func plainSteps(defs []api.Process, calls []graph.Site, at graph.Site, left *int) int {
	i := slices.IndexFunc(defs, func(p api.Process) bool { return p.Name == at.Proc })
	p := defs[i]
	n := p.Nodes[at.Node]
	*left--
	if *left < 0 {
		return 0
	}
	along := func(calls []graph.Site, at graph.Site) int {
		q := defs[slices.IndexFunc(defs, func(p api.Process) bool { return p.Name == at.Proc })]
		sum := 0
		for _, f := range q.Flows {
			if f.From == at.Node {
				sum += plainSteps(defs, calls, graph.Site{Proc: at.Proc, Node: f.To}, left)
			}
		}
		return sum
	}
	start := func(calls []graph.Site, proc string, in int) int {
		q := defs[slices.IndexFunc(defs, func(p api.Process) bool { return p.Name == proc })]
		s, _ := graph.StartOf(q, in)
		return plainSteps(defs, calls, graph.Site{Proc: proc, Node: s}, left)
	}
	switch n.Kind {
	case api.Task, api.Race:
		return 1
	case api.Catch:
		if n.Event != api.Link {
			return 1
		}
	case api.Part:
		return 2 + start(calls, p.Name, at.Node) + along(calls, at)
	case api.AdHoc, api.All, api.Some:
		return 2 + along(calls, at)
	case api.Call:
		return 2 + start(append([]graph.Site{at}, calls...), n.Key, -1) + along(calls, at)
	case api.Throw:
		if n.Event == api.Link {
			to, _ := graph.Link(p, at.Node)
			return 1 + plainSteps(defs, calls, graph.Site{Proc: at.Proc, Node: to}, left)
		}
	}
	sum := 1
	if (n.Kind == api.End || n.Kind == api.Throw) && (n.Event == api.Error || n.Event == api.Escalate) {
		if h, rest, ok := graph.Handler(defs, calls, at, n.Event, n.Key); ok {
			q := defs[slices.IndexFunc(defs, func(p api.Process) bool { return p.Name == h.Proc })]
			if q.Nodes[h.Node].Kind == api.Aside {
				sum += 1 + start(rest, h.Proc, h.Node)
			} else {
				sum += along(rest, h)
			}
		}
	}
	return sum + along(calls, at)
}

func TestP17_6And7Grown(t *testing.T) {
	many, handled := 0, 0
	for seed := range int64(80) {
		defs := grown(3000+seed, 3)
		sites(defs, func(calls []graph.Site, at graph.Site) {
			left := 3 * api.MaxSteps
			want := plainSteps(defs, calls, at, &left)
			if left < 0 || want > api.MaxSteps {
				want = api.MaxSteps + 1
				many++
			}
			steps, along := graph.Steps(defs, calls, at), graph.Along(defs, calls, at)
			if steps != want {
				t.Fatal(at, calls, steps, want)
			}
			p := defs[slices.IndexFunc(defs, func(p api.Process) bool { return p.Name == at.Proc })]
			n := p.Nodes[at.Node]
			waits := n.Kind == api.Task || n.Kind == api.Race || n.Kind == api.Catch && n.Event != api.Link
			if waits && steps != 1 || !waits && along >= steps && along <= api.MaxSteps {
				t.Fatal(at, steps, along)
			}
			for _, key := range []string{"k", "l", "m", "none"} {
				h, rest, ok := graph.Handler(defs, calls, at, []uint8{api.Error, api.Escalate}[seed%2], key)
				if !ok {
					continue
				}
				handled++
				outward(t, defs, calls, at, h, rest)
			}
		})
	}
	if many < 100 || handled < 1000 {
		t.Error("too few:", many, handled)
	}
}

// plainHandler is S6, word by word, for the site of a node.
func plainHandler(defs []api.Process, calls []graph.Site, at graph.Site, event uint8, key string) (graph.Site, []graph.Site, bool) {
	p := defs[slices.IndexFunc(defs, func(p api.Process) bool { return p.Name == at.Proc })]
	// Of several at one place: the first with that event and that Key; without one the first with the Key "".
	first := func(hears func(n, i int, key string) bool) (int, bool) {
		for _, k := range []string{key, ""} {
			for n := range p.Nodes {
				for i := range p.Nodes {
					if hears(n, i, k) {
						return n, true
					}
				}
			}
		}
		return 0, false
	}
	bound := func(on int) (int, bool) {
		return first(func(n, i int, k string) bool {
			b := p.Nodes[n]
			return n == i && b.Kind == api.Bound && b.On == on && b.Event == event && b.Key == k
		})
	}
	aside := func(in int) (int, bool) {
		return first(func(n, i int, k string) bool {
			s := p.Nodes[i]
			return p.Nodes[n].Kind == api.Aside && p.Nodes[n].In == in && s.Kind == api.Start && s.In == n && s.Event == event && s.Key == k
		})
	}
	if n, ok := bound(at.Node); ok {
		return graph.Site{Proc: at.Proc, Node: n}, calls, true
	}
	scope, from := p.Nodes[at.Node].In, at.Node
	for came := false; ; came = p.Nodes[from].Kind == api.Aside {
		if !came {
			if n, ok := aside(scope); ok {
				return graph.Site{Proc: at.Proc, Node: n}, calls, true
			}
		}
		if scope < 0 {
			break
		}
		if n, ok := bound(scope); ok {
			return graph.Site{Proc: at.Proc, Node: n}, calls, true
		}
		scope, from = p.Nodes[scope].In, scope
	}
	if len(calls) == 0 {
		return graph.Site{}, nil, false
	}
	return plainHandler(defs, calls[1:], calls[0], event, key)
}

func TestP17_3Grown(t *testing.T) {
	own, through := 0, 0
	for seed := range int64(240) {
		defs := grown(5000+seed, 3)
		sites(defs, func(calls []graph.Site, at graph.Site) {
			for _, event := range []uint8{api.Error, api.Escalate} {
				for _, key := range []string{"k", "l", "m", "none", ""} {
					want, wantRest, wantOK := plainHandler(defs, calls, at, event, key)
					h, rest, ok := graph.Handler(defs, calls, at, event, key)
					if h != want || ok != wantOK || !slices.Equal(rest, wantRest) {
						t.Fatal(at, calls, event, key, h, rest, ok, "want", want, wantRest, wantOK)
					}
					if ok && h == at {
						own++
					}
					if ok && len(calls) == 2 && len(rest) == 0 {
						through++
					}
				}
			}
		})
	}
	if own < 100 || through < 50 {
		t.Error("too few Asides that handle what is raised at their own node, or handlers around two Calls:", own, through)
	}
}

// outward: P17.7.
func outward(t *testing.T, defs []api.Process, calls []graph.Site, at, h graph.Site, rest []graph.Site) {
	around := at
	if gone := len(calls) - len(rest); gone > 0 {
		around = calls[gone-1]
	}
	if len(rest) > len(calls) || !slices.Equal(rest, calls[len(calls)-len(rest):]) || around.Proc != h.Proc {
		t.Fatal("the stack", calls, rest)
	}
	p := defs[slices.IndexFunc(defs, func(p api.Process) bool { return p.Name == h.Proc })]
	n := p.Nodes[h.Node]
	for in := around.Node; in >= 0; in = p.Nodes[in].In {
		if n.Kind == api.Bound && n.On == in || n.Kind == api.Aside && n.In == p.Nodes[in].In {
			return
		}
	}
	t.Fatal(at, "is not inside of", h)
}

func TestP17_6Simple(t *testing.T) {
	r := rand.New(rand.NewSource(170))
	for range 300 {
		n := 2 + r.Intn(30)
		var p api.Process
		p.Name = "p"
		for i := range n {
			p.Nodes = append(p.Nodes, api.Node{Name: "n", Kind: []uint8{api.Task, api.Calc, api.Calc, api.Calc}[r.Intn(4)], In: -1, On: -1})
			if i > 0 && r.Intn(8) > 0 {
				p.Flows = append(p.Flows, api.Flow{From: i - 1, To: i})
			}
		}
		p.Nodes[0].Kind, p.Nodes[n-1].Kind = api.Start, api.End
		for i := range n {
			if s := graph.Steps([]api.Process{p}, nil, graph.Site{Proc: "p", Node: i}); s > n || s < 1 {
				t.Fatal(i, s)
			}
		}
	}
}

func TestR1AnyProcesses(t *testing.T) {
	r := rand.New(rand.NewSource(171))
	for range 400 {
		n := 1 + r.Intn(9)
		defs := make([]api.Process, 2)
		for d := range defs {
			defs[d].Name = []string{"p", "q"}[r.Intn(2)]
			for range n {
				defs[d].Nodes = append(defs[d].Nodes, api.Node{Kind: uint8(r.Intn(17)), Event: uint8(r.Intn(9)), In: r.Intn(n+3) - 2, On: r.Intn(n+2) - 1, Key: []string{"p", "q", "k", ""}[r.Intn(4)]})
				defs[d].Flows = append(defs[d].Flows, api.Flow{From: r.Intn(n+2) - 1, To: r.Intn(n+2) - 1})
			}
		}
		before := []api.Process{model.Copy(defs[0]), model.Copy(defs[1])}
		calls := []graph.Site{{Proc: "q", Node: r.Intn(n+2) - 1}, {Proc: "p", Node: r.Intn(n)}}
		for i := -1; i <= n; i++ {
			at := graph.Site{Proc: "p", Node: i}
			if s := graph.Steps(defs, calls, at); s < 0 || s > api.MaxSteps+1 {
				t.Fatal(s)
			}
			graph.Along(defs, calls, at)
			graph.Handler(defs, calls, at, api.Error, "k")
			for j := -1; j <= n; j++ {
				graph.Reaches(defs[0], i, j)
			}
		}
		graph.Circle(defs[0])
		if !model.Same(defs[0], before[0]) || !model.Same(defs[1], before[1]) {
			t.Fatal("a process was modified")
		}
	}
}
