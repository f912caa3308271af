package enter_test

import (
	"math/rand"
	"slices"
	"testing"

	"callboard/api"
	"callboard/arena"
	"callboard/cancel"
	"callboard/enter"
	"callboard/graph"
	"callboard/model"
	"callboard/sketch"
	"callboard/subs"
	"callboard/vars"
)

func num(n int64) api.Value { return api.Value{Kind: api.Int, N: n} }

func item(t *testing.T, s api.State, id int) api.Item {
	t.Helper()
	it, ok := arena.Find(s, id)
	if !ok {
		t.Fatal(id)
	}
	return it
}

var sub = sketch.Process("sub n=7 m='q' b=no; start s; start g signal:k; task t; end e; s>t>e; g>t")

var p = sketch.Process(`p n=2 b=yes m=4
	start s
	task t
	bound b1 @t timer:n
	bound b2 @t error:k breaks
	bound b3 @t signal:k
	bound b4 @t cond:b
	bound b5 @t escalate:
	part w n='in' c=1
	.start a
	.task ta
	.end z
	.aside x
	..start x1 timer:c+5
	..end x2
	.aside y v=9
	..start y1 error: breaks
	..task y2
	..end y3
	.aside u
	..start u1 cond:c==1 breaks
	..end u2
	bound b6 @w signal:l
	call j key:sub back:n
	bound b7 @j timer:1
	adhoc h text:b d=3
	.task ht
	.task hu
	.aside ha
	..start ha1 signal:m
	..end ha2
	xor g
	end e
	end f
	aside o
	.start o1 signal:k
	.end o2
	s>t>w>j>h>g; g>e if n<1; g>f else; a>ta>z; x1>x2; y1>y2>y3; u1>u2; o1>o2; ha1>ha2`)

func at(name string) int { return sketch.At(p, name) }

func base() api.State { return api.State{Clock: 10, Defs: []api.Process{sub, p}} }

func open(t *testing.T, s api.State, up int, proc string, node, at int) (api.State, int) {
	t.Helper()
	s, id, e := enter.Open(s, up, proc, node, at)
	if e != api.OK {
		t.Fatal(e)
	}
	return s, id
}

func put(t *testing.T, s api.State, scope, node int) (api.State, int) {
	t.Helper()
	s, id, e := enter.Put(s, scope, node, -1)
	if e != api.OK {
		t.Fatal(e)
	}
	return s, id
}

func begin(t *testing.T, s api.State, token int) api.State {
	t.Helper()
	s, e := enter.Begin(s, token)
	if e != api.OK {
		t.Fatal(e)
	}
	return s
}

func TestP24_1Examples(t *testing.T) {
	s := api.State{Defs: []api.Process{sketch.Process("p; start s; task t; end e; s>t>e")}}
	s, id := open(t, s, 0, "p", -1, -1)
	if id != 1 || item(t, s, 1) != (api.Item{ID: 1, Is: api.Scope, Proc: "p", Node: -1, From: -1}) || item(t, s, 2) != (api.Item{ID: 2, Up: 1, Is: api.Token, Proc: "p", From: -1, Wait: api.Ready}) {
		t.Error(s.Items)
	}
	s, e := enter.All(s, 2, 0)
	if e != api.OK || len(s.Items) != 2 || item(t, s, 3) != (api.Item{ID: 3, Up: 1, Is: api.Token, Proc: "p", Node: 1, Wait: api.Ready}) {
		t.Error(s.Items, e)
	}
	s = begin(t, s, 3)
	if item(t, s, 3).Wait != api.Works || len(s.Items) != 2 || !arena.Sound(s) {
		t.Error(s.Items)
	}
}

func TestP24_1Put(t *testing.T) {
	s, _ := open(t, base(), 0, "p", -1, -1)
	for _, c := range []struct {
		scope, node, from int
		want              api.Errno
	}{
		{1, at("t"), 0, api.OK}, {1, at("g"), -1, api.OK}, {1, at("o"), 77, api.OK}, {1, at("a"), -1, api.ErrNone}, {1, -1, -1, api.ErrNone}, {1, len(p.Nodes), -1, api.ErrNone}, {9, 0, -1, api.ErrNone}, {0, 0, -1, api.ErrNone}, {3, 0, -1, api.ErrNone},
	} {
		n, id, e := enter.Put(s, c.scope, c.node, c.from)
		if e != c.want || e != api.OK && (id != 0 || !arena.Same(n, s)) {
			t.Error(c, id, e)
		}
		if e == api.OK && (id != s.Next+1 || item(t, n, id) != (api.Item{ID: id, Up: 1, Is: api.Token, Proc: "p", Node: c.node, From: c.from, Wait: api.Ready}) || len(n.Items) != len(s.Items)+1) {
			t.Error(c, item(t, n, id))
		}
	}
	if _, _, e := enter.Put(api.State{Items: []api.Item{{ID: 1, Is: api.Scope, Proc: "none"}}, Next: 1}, 1, 0, -1); e != api.ErrNone {
		t.Error(e)
	}
	for len(s.Items) < api.MaxItems {
		s, _ = put(t, s, 1, 0)
	}
	if n, id, e := enter.Put(s, 1, 0, -1); e != api.ErrTooLarge || id != 0 || !arena.Same(n, s) {
		t.Error(e)
	}
}

func TestP24_1OpenErrors(t *testing.T) {
	s, _ := open(t, base(), 0, "p", -1, -1)
	for _, c := range []struct {
		up       int
		proc     string
		node, at int
		want     api.Errno
	}{
		{0, "none", -1, -1, api.ErrNone}, {0, "p", at("t"), -1, api.ErrNone}, {0, "p", -2, -1, api.ErrNone}, {0, "p", len(p.Nodes), -1, api.ErrNone}, {0, "p", at("w"), at("t"), api.ErrNone}, {0, "p", -1, at("a"), api.ErrNone}, {0, "p", -1, 99, api.ErrNone}, {0, "p", -1, -2, api.ErrNone},
		{99, "p", -1, -1, api.ErrNone}, {0, "p", at("h"), at("t"), api.ErrNone}, {0, "p", at("h"), -5, api.ErrNone},
		{0, "p", -1, at("t"), api.OK}, {0, "sub", -1, 1, api.OK}, {0, "p", at("w"), -1, api.OK}, {1, "p", at("o"), -1, api.OK}, {0, "p", at("h"), at("ht"), api.OK}, {3, "sub", -1, -1, api.OK},
	} {
		n, id, e := enter.Open(s, c.up, c.proc, c.node, c.at)
		if e != c.want || e != api.OK && (id != 0 || !arena.Same(n, s)) {
			t.Error(c, id, e)
		}
		if e == api.OK && c.at >= 0 && n.Items[len(n.Items)-1].Node != c.at {
			t.Error(c, n.Items)
		}
	}
	noStart := sketch.Process("p; start s signal:k; end e; s>e; part w; .start q signal:k")
	s = api.State{Defs: []api.Process{noStart}}
	if _, _, e := enter.Open(s, 0, "p", -1, -1); e != api.ErrNone {
		t.Error(e)
	}
	if n, id, e := enter.Open(s, 0, "p", -1, 0); e != api.OK || id != 1 || len(n.Items) != 2 {
		t.Error(e)
	}
	if _, _, e := enter.Open(s, 0, "p", 2, -1); e != api.ErrNone {
		t.Error(e)
	}
	// The errors of the watches, and of the limits, leave everything as it was.
	bad := api.State{Clock: api.MaxClock, Defs: []api.Process{p}}
	if n, id, e := enter.Open(bad, 0, "p", at("w"), -1); e != api.ErrTooLarge || id != 0 || !arena.Same(n, bad) {
		t.Error(e)
	}
	s = api.State{Defs: []api.Process{p}}
	for len(s.Items) < api.MaxItems-1 {
		s, _, _ = arena.Add(s, api.Item{Is: api.Scope, Proc: "p", Node: -1, From: -1})
	}
	if n, id, e := enter.Open(s, 0, "p", -1, -1); e != api.ErrTooLarge || id != 0 || !arena.Same(n, s) {
		t.Error(e)
	}
	if n, id, e := enter.Open(s, 0, "p", at("h"), -1); e != api.OK || id != s.Next+1 || len(n.Items) != api.MaxItems {
		t.Error(e)
	}
}

func TestP24_1OpenCells(t *testing.T) {
	s, _ := open(t, base(), 0, "p", -1, -1)
	if got := vars.Cells(s, 1); !slices.Equal(got, []api.Cell{{Scope: 1, Name: "b", V: api.Value{Kind: api.Bool, N: 1}}, {Scope: 1, Name: "m", V: num(4)}, {Scope: 1, Name: "n", V: num(2)}}) {
		t.Error(got)
	}
	// For a Call: what it sees, if it is of the same type.
	s, e := vars.Put(s, 1, []api.Set{{Name: "n", V: num(55)}})
	if e != api.OK {
		t.Fatal(e)
	}
	called, token := put(t, s, 1, at("j"))
	called = begin(t, called, token)
	id := arena.Kids(called, token)[0]
	if got := vars.Cells(called, id); !slices.Equal(got, []api.Cell{{Scope: id, Name: "b", V: api.Value{Kind: api.Bool, N: 1}}, {Scope: id, Name: "m", V: api.Value{Kind: api.Text, T: "q"}}, {Scope: id, Name: "n", V: num(55)}}) {
		t.Error(got)
	}
	// In a Part another n is nearer, of another type.
	part, token := put(t, s, 1, at("w"))
	part = begin(t, part, token)
	scope := arena.Kids(part, token)[0]
	if got := vars.Cells(part, scope); !slices.Equal(got, []api.Cell{{Scope: scope, Name: "c", V: num(1)}, {Scope: scope, Name: "n", V: api.Value{Kind: api.Text, T: "in"}}}) {
		t.Error(got)
	}
	// Not for a process below something else.
	for _, up := range []int{0, 1, 3} {
		n, id := open(t, s, up, "sub", -1, -1)
		if c, _ := vars.Seen(n, id, "n"); c.V != num(7) {
			t.Error(up, c)
		}
	}
	if n, id := open(t, s, 1, "p", at("y"), -1); len(vars.Cells(n, id)) != 1 {
		t.Error(vars.Cells(n, id))
	}
}

func TestP24_1OpenWatches(t *testing.T) {
	s, id := open(t, base(), 0, "p", -1, -1)
	if got := subs.Of(s, id); !slices.Equal(got, []api.Watch{{ID: 2, Item: 1, Node: at("o1"), Event: api.Signal, Key: "k"}}) || s.Next != 3 {
		t.Error(got, s.Next)
	}
	s, token := put(t, s, id, at("w"))
	s = begin(t, s, token)
	scope := arena.Kids(s, token)[0]
	if got := subs.Of(s, scope); !slices.Equal(got, []api.Watch{{ID: scope + 1, Item: scope, Node: at("x1"), Event: api.Timer, Due: 16}, {ID: scope + 2, Item: scope, Node: at("u1"), Event: api.Cond, Armed: true}}) {
		t.Error(got)
	}
	if got := subs.Of(s, token); !slices.Equal(got, []api.Watch{{ID: token + 1, Item: token, Node: at("b6"), Event: api.Signal, Key: "l"}}) || scope != token+2 {
		t.Error(got)
	}
	if it := item(t, s, arena.Kids(s, scope)[0]); it.ID != scope+3 || it.Node != at("a") || it.Wait != api.Ready {
		t.Error(it)
	}
	// An AdHoc gets its watches, and no token.
	s, token = put(t, s, 1, at("h"))
	s = begin(t, s, token)
	scope = arena.Kids(s, token)[0]
	if len(arena.Kids(s, scope)) != 0 || len(subs.Of(s, scope)) != 1 || item(t, s, token).Wait != api.Holds || !arena.Sound(s) {
		t.Error(s.Items)
	}
}

func TestP24_1Begin(t *testing.T) {
	s, _ := open(t, base(), 0, "p", -1, -1)
	s, token := put(t, s, 1, at("t"))
	n := begin(t, s, token)
	if got := subs.Of(n, token); !slices.Equal(got, []api.Watch{
		{ID: token + 1, Item: token, Node: at("b1"), Event: api.Timer, Due: 12}, {ID: token + 2, Item: token, Node: at("b3"), Event: api.Signal, Key: "k"}, {ID: token + 3, Item: token, Node: at("b4"), Event: api.Cond, Armed: true},
	}) {
		t.Error(got)
	}
	if it := item(t, n, token); it.Wait != api.Works || n.Next != token+3 || len(n.Items) != len(s.Items) {
		t.Error(it)
	}
	for name, want := range map[string]api.Errno{"s": api.ErrForm, "g": api.ErrForm, "e": api.ErrForm, "b1": api.ErrForm, "o": api.ErrForm, "t": api.OK, "w": api.OK, "j": api.OK, "h": api.OK} {
		s, token := put(t, s, 1, at(name))
		n, e := enter.Begin(s, token)
		if e != want || e != api.OK && !arena.Same(n, s) {
			t.Error(name, e)
		}
	}
	for _, id := range []int{0, 1, 99} {
		if n, e := enter.Begin(s, id); e != api.ErrNone || !arena.Same(n, s) {
			t.Error(id, e)
		}
	}
	x := api.State{Next: 2, Defs: base().Defs, Items: []api.Item{{ID: 1, Is: api.Scope, Proc: "p", Node: -1}, {ID: 2, Up: 1, Is: api.Token, Proc: "p", Node: 99}}}
	if _, e := enter.Begin(x, 2); e != api.ErrNone {
		t.Error(e)
	}
	// Errors of watches, of what is called, and of limits.
	late := s
	late.Clock = api.MaxClock
	for name, want := range map[string]api.Errno{"t": api.ErrTooLarge, "w": api.ErrTooLarge, "j": api.ErrTooLarge, "h": api.OK} {
		late, token := put(t, late, 1, at(name))
		if n, e := enter.Begin(late, token); e != want || e != api.OK && !arena.Same(n, late) {
			t.Error(name, e)
		}
	}
	alone := s
	alone.Defs = []api.Process{p}
	alone, token = put(t, alone, 1, at("j"))
	if n, e := enter.Begin(alone, token); e != api.ErrNone || !arena.Same(n, alone) {
		t.Error(e)
	}
	full := s
	for len(full.Items) < api.MaxItems-1 {
		full, _ = put(t, full, 1, at("t"))
	}
	full, token = put(t, full, 1, at("w"))
	if n, e := enter.Begin(full, token); e != api.ErrTooLarge || !arena.Same(n, full) {
		t.Error(e)
	}
}

func TestP24_1Leave(t *testing.T) {
	s, _ := open(t, base(), 0, "p", -1, -1)
	s, token := put(t, s, 1, at("t"))
	s = begin(t, s, token)
	flows := graph.From(p, at("g"))
	for i, c := range []struct {
		token, node int
		flows       []int
		want        api.Errno
		to          []string
	}{
		{token, at("t"), []int{1}, api.OK, []string{"w"}}, {token, at("t"), nil, api.OK, nil}, {token, at("g"), []int{flows[1], flows[0]}, api.OK, []string{"f", "e"}}, {token, at("g"), []int{flows[0], flows[0]}, api.OK, []string{"e", "e"}}, {token, at("e"), nil, api.OK, nil},
		{token, at("t"), []int{0}, api.ErrForm, nil}, {token, at("t"), []int{-1}, api.ErrForm, nil}, {token, at("t"), []int{len(p.Flows)}, api.ErrForm, nil}, {token, at("t"), []int{1, 0}, api.ErrForm, nil},
		{99, at("t"), nil, api.ErrNone, nil}, {1, at("t"), nil, api.ErrNone, nil}, {token, -1, nil, api.ErrNone, nil}, {token, len(p.Nodes), nil, api.ErrNone, nil}, {99, at("t"), []int{0}, api.ErrNone, nil},
		{token, at("a"), graph.From(p, at("a")), api.ErrNone, nil},
	} {
		n, e := enter.Leave(s, c.token, c.node, c.flows)
		if e != c.want || e != api.OK && !arena.Same(n, s) {
			t.Error(i, e)
		}
		if e != api.OK {
			continue
		}
		want := cancel.Take(s, token)
		for k, name := range c.to {
			want.Next++
			want.Items = append(want.Items, api.Item{ID: want.Next, Up: 1, Is: api.Token, Proc: "p", Node: at(name), From: c.flows[k], Wait: api.Ready})
		}
		if !arena.Same(n, want) {
			t.Error(i, n.Items)
		}
	}
	a, e1 := enter.All(s, token, at("g"))
	b, e2 := enter.Leave(s, token, at("g"), flows)
	if !arena.Same(a, b) || e1 != api.OK || e2 != api.OK {
		t.Error("All")
	}
	for _, c := range [][2]int{{99, 0}, {1, 0}, {token, -1}, {token, 99}} {
		if n, e := enter.All(s, c[0], c[1]); e != api.ErrNone || !arena.Same(n, s) {
			t.Error(c, e)
		}
	}
	// As many as may be: one token goes, one comes; two are one too many.
	for len(s.Items) < api.MaxItems {
		s, _ = put(t, s, 1, at("t"))
	}
	if _, e := enter.All(s, token, at("t")); e != api.OK {
		t.Error(e)
	}
	if n, e := enter.All(s, token, at("g")); e != api.ErrTooLarge || !arena.Same(n, s) {
		t.Error(e)
	}
}

// grown returns valid processes, each over those before it.
func grown(seed int64, n int) []api.Process {
	return sketch.Defs(n, false, rand.New(rand.NewSource(seed)).Intn)
}

func TestP24_2To5Grown(t *testing.T) {
	r := rand.New(rand.NewSource(240))
	done := map[string]int{}
	for seed := range int64(150) {
		s := api.State{Defs: grown(4000+seed, 3)}
		for range 60 {
			before := s
			copied := arena.Copy(s)
			var e api.Errno
			var what string
			ready := slices.DeleteFunc(slices.Clone(s.Items), func(it api.Item) bool { return it.Wait != api.Ready })
			switch {
			case len(ready) == 0 || r.Intn(12) == 0:
				what = "open"
				s, _, e = enter.Open(s, 0, s.Defs[r.Intn(3)].Name, -1, -1)
			default:
				it := ready[r.Intn(len(ready))]
				n, _ := arena.NodeOf(s, it)
				if model.Activity(n.Kind) {
					what = "begin"
					s, e = enter.Begin(s, it.ID)
				} else {
					what = "leave"
					s, e = enter.All(s, it.ID, it.Node)
				}
				if e == api.OK {
					stays(t, before, s, it, what)
				}
			}
			if !arena.Same(before, copied) {
				t.Fatal(what, "modified the state")
			}
			if e != api.OK {
				if !arena.Same(s, before) {
					t.Fatal(what, e, "something changed")
				}
				continue
			}
			done[what]++
			if !arena.Sound(s) {
				t.Fatal(what, "is not sound")
			}
			fresh(t, before, s)
		}
	}
	if done["open"] < 100 || done["begin"] < 300 || done["leave"] < 300 {
		t.Error("too few", done)
	}
}

// stays: P24.3 and P24.4.
func stays(t *testing.T, before, after api.State, it api.Item, what string) {
	t.Helper()
	gone := cancel.Gone(before, after)
	if what == "leave" {
		p, _ := arena.Def(before, it.Proc)
		flows := graph.From(p, it.Node)
		if !slices.Equal(gone, []int{it.ID}) || len(after.Items) != len(before.Items)-1+len(flows) {
			t.Fatal("leaving", gone)
		}
		for i, f := range flows {
			x := after.Items[len(after.Items)-len(flows)+i]
			if x != (api.Item{ID: before.Next + 1 + i, Up: it.Up, Is: api.Token, Proc: it.Proc, Node: p.Flows[f].To, From: f, Wait: api.Ready}) {
				t.Fatal("leaving", x)
			}
		}
		before = cancel.Take(before, it.ID)
	} else {
		if len(gone) > 0 {
			t.Fatal("beginning", gone)
		}
		now, _ := arena.Find(after, it.ID)
		before = arena.Turn(before, now)
	}
	if !slices.Equal(after.Items[:len(before.Items)], before.Items) || !slices.Equal(after.Watches[:len(before.Watches)], before.Watches) {
		t.Fatal("others changed")
	}
	for _, c := range after.Cells {
		if c.Scope <= before.Next && !slices.Contains(before.Cells, c) {
			t.Fatal("a cell changed", c)
		}
	}
}

// fresh: P24.5, for each scope that was opened.
func fresh(t *testing.T, before, after api.State) {
	t.Helper()
	for _, it := range after.Items {
		if it.ID <= before.Next || it.Is != api.Scope {
			continue
		}
		p, _ := arena.Def(after, it.Proc)
		want := p.Vars
		if it.Node >= 0 {
			want = p.Nodes[it.Node].Vars
		}
		cells := vars.Cells(after, it.ID)
		if len(cells) != len(want) {
			t.Fatal("cells", cells)
		}
		for _, v := range want {
			c, ok := vars.Seen(after, it.ID, v.Name)
			if !ok || c.Scope != it.ID || c.V.Kind != v.Init.Kind {
				t.Fatal("cells", c)
			}
		}
	}
}

func TestR1AnyState(t *testing.T) {
	r := rand.New(rand.NewSource(241))
	for range 3000 {
		s := api.State{Next: r.Intn(10), Clock: r.Intn(9) - 4, Defs: base().Defs}
		for range r.Intn(9) {
			s.Items = append(s.Items, api.Item{ID: r.Intn(10), Up: r.Intn(10), Is: uint8(r.Intn(4)), Proc: []string{"p", "sub", "none"}[r.Intn(3)], Node: r.Intn(40) - 2, From: r.Intn(40) - 2, Wait: uint8(r.Intn(8))})
		}
		before := arena.Copy(s)
		for id := range 10 {
			enter.Begin(s, id)
			enter.Put(s, id, r.Intn(40)-2, r.Intn(40)-2)
			enter.Open(s, id, []string{"p", "sub", "none"}[r.Intn(3)], r.Intn(40)-2, r.Intn(40)-2)
			enter.Leave(s, id, r.Intn(40)-2, []int{r.Intn(20) - 2})
			enter.All(s, id, r.Intn(40)-2)
		}
		if !arena.Same(s, before) {
			t.Fatal("a state was modified")
		}
	}
}
