package fire_test

import (
	"math/rand"
	"slices"
	"testing"

	"callboard/api"
	"callboard/arena"
	"callboard/cancel"
	"callboard/enter"
	"callboard/fire"
	"callboard/graph"
	"callboard/model"
	"callboard/route"
	"callboard/sketch"
	"callboard/subs"
	"callboard/vars"
)

var p = sketch.Process(`p n=2
	start s
	task t
	bound tb @t signal:k breaks
	bound tn @t signal:k
	bound tt @t timer:n
	bound tc @t cond:n<3
	bound te @t error:k breaks
	part w
	.start a
	.task b
	.end c
	.aside x
	..start x1 signal:k breaks
	..task x2
	..end x3
	.aside y
	..start y1 timer:1
	..end y2
	.aside z
	..start z1 cond:yes
	..end z2
	.aside v
	..start v1 escalate:k
	..end v2
	bound wb @w signal:l breaks
	catch g timer:1
	race r
	catch r1 signal:k
	catch r2 timer:5
	xor o
	end e
	end f
	aside q
	.start q1 signal:k breaks
	.end q2
	s>t>w>g>r; r>r1>o; r>r2>o; o>e; tb>e; tb>f; tn>e; tn>f; tt>e; te>e; a>b>c; x1>x2>x3; y1>y2; z1>z2; v1>v2; q1>q2; tc>f`)

func at(name string) int { return sketch.At(p, name) }

// with is the state of one scope, with a token at a node, moved by a step.
func with(t *testing.T, name string, wait uint8) (api.State, int) {
	t.Helper()
	s, _, e := enter.Open(api.State{Clock: 7, Defs: []api.Process{p}}, 0, "p", -1, at(name))
	if e != api.OK {
		t.Fatal(e)
	}
	id := s.Items[1].ID
	if wait == api.Awaits {
		it := s.Items[1]
		it.Wait = wait
		s = arena.Turn(s, it)
		nodes := []int{it.Node}
		if name == "r" {
			nodes = graph.Comes(p, it.Node)
		}
		for _, n := range nodes {
			if s, e = subs.Add(s, id, n); e != api.OK {
				t.Fatal(e)
			}
		}
	} else if s, e = enter.Begin(s, id); e != api.OK {
		t.Fatal(e)
	}
	return s, id
}

// watch is the watch of an item for a node.
func watch(t *testing.T, s api.State, item int, name string) int {
	t.Helper()
	for _, w := range subs.Of(s, item) {
		if w.Node == at(name) {
			return w.ID
		}
	}
	t.Fatal("no watch", name)
	return 0
}

func fired(t *testing.T, s api.State, w int) api.State {
	t.Helper()
	n, e := fire.Fire(s, w)
	if e != api.OK {
		t.Fatal(e)
	}
	return n
}

// came returns the nodes at which there are tokens that a state did not have.
func came(before, after api.State) []int {
	var l []int
	for _, it := range after.Items {
		if it.ID > before.Next {
			l = append(l, it.Node)
		}
	}
	return l
}

func TestP25_1Bounds(t *testing.T) {
	s, id := with(t, "t", 0)
	// One that does not break: tokens along its flows; the watch stays.
	n := fired(t, s, watch(t, s, id, "tn"))
	want := s
	for _, f := range graph.From(p, at("tn")) {
		want, _, _ = enter.Put(want, 1, p.Flows[f].To, f)
	}
	if !arena.Same(n, want) || !slices.Equal(came(s, n), []int{at("e"), at("f")}) {
		t.Error(n.Items)
	}
	if again := fired(t, n, watch(t, n, id, "tn")); len(came(n, again)) != 2 {
		t.Error(again.Items)
	}
	// A Timer's watch is removed, a Cond's is no longer armed.
	w := watch(t, s, id, "tt")
	n = fired(t, s, w)
	want, _, _ = enter.Put(subs.Drop(s, []int{w}), 1, at("e"), graph.From(p, at("tt"))[0])
	if !arena.Same(n, want) {
		t.Error(n)
	}
	if _, e := fire.Fire(n, w); e != api.ErrNone {
		t.Error(e)
	}
	w = watch(t, s, id, "tc")
	n = fired(t, s, w)
	if x, ok := subs.Find(n, w); !ok || x.Armed || x.ID != w || x.Item != id || len(n.Watches) != len(s.Watches) || !slices.Equal(came(s, n), []int{at("f")}) {
		t.Error(x)
	}
	// One that breaks: the token leaves as from it.
	n = fired(t, s, watch(t, s, id, "tb"))
	want, _ = enter.All(s, id, at("tb"))
	if !arena.Same(n, want) || !slices.Equal(came(s, n), []int{at("e"), at("f")}) || len(subs.Of(n, id)) != 0 {
		t.Error(n)
	}
	// Also if what it breaks holds something.
	s, id = with(t, "w", 0)
	h := route.Handler{Item: id, Node: at("tb")}
	if _, e := fire.Handle(s, h); e != api.ErrNone {
		t.Error("a Bound at another node", e)
	}
}

func TestP25_1Catches(t *testing.T) {
	s, id := with(t, "g", api.Awaits)
	w := watch(t, s, id, "g")
	n := fired(t, s, w)
	want, _ := enter.All(s, id, at("g"))
	if !arena.Same(n, want) || !slices.Equal(came(s, n), []int{at("r")}) {
		t.Error(n)
	}
	if _, e := fire.Fire(n, w); e != api.ErrNone {
		t.Error(e)
	}
	s, id = with(t, "r", api.Awaits)
	for _, name := range []string{"r1", "r2"} {
		n := fired(t, s, watch(t, s, id, name))
		want, _ := enter.All(s, id, at(name))
		if !arena.Same(n, want) || !slices.Equal(came(s, n), []int{at("o")}) || len(subs.Of(n, id)) != 0 {
			t.Error(name, n)
		}
		if it := n.Items[len(n.Items)-1]; it.From != graph.From(p, at(name))[0] {
			t.Error(it)
		}
	}
}

func TestP25_1Asides(t *testing.T) {
	s, id := with(t, "w", 0)
	scope := arena.Kids(s, id)[0]
	// One that does not break: one scope more.
	w := watch(t, s, scope, "y1")
	n := fired(t, s, w)
	want, _, _ := enter.Open(subs.Drop(s, []int{w}), scope, "p", at("y"), -1)
	if !arena.Same(n, want) || !arena.Sound(n) {
		t.Error(n)
	}
	w = watch(t, s, scope, "z1")
	n = fired(t, s, w)
	if x, ok := subs.Find(n, w); !ok || x.Armed || len(came(s, n)) != 2 {
		t.Error(x)
	}
	// One that breaks: the scope is broken first.
	n = fired(t, s, watch(t, s, scope, "x1"))
	want, _, _ = enter.Open(cancel.Break(s, scope), scope, "p", at("x"), -1)
	if !arena.Same(n, want) || len(subs.Of(n, scope)) != 0 || !slices.Equal(came(s, n), []int{at("x"), at("x1")}) || !arena.Sound(n) || !slices.Equal(vars.Cells(n, 1), vars.Cells(s, 1)) {
		t.Error(n)
	}
	// The scope of a whole process.
	n = fired(t, s, watch(t, s, 1, "q1"))
	if len(n.Items) != 3 || n.Items[1].Node != at("q") || n.Items[1].Up != 1 || len(n.Watches) != 0 {
		t.Error(n)
	}
	// Without a watch.
	n, e := fire.Handle(s, route.Handler{Item: scope, Node: at("v1")})
	want, _, _ = enter.Open(s, scope, "p", at("v"), -1)
	if e != api.OK || !arena.Same(n, want) {
		t.Error(e)
	}
}

func TestP25_1Errors(t *testing.T) {
	s, id := with(t, "t", 0)
	w, wid := with(t, "w", 0)
	scope := arena.Kids(w, wid)[0]
	g, gid := with(t, "g", api.Awaits)
	r, rid := with(t, "r", api.Awaits)
	ready := arena.Turn(g, api.Item{ID: gid, Up: 1, Is: api.Token, Proc: "p", Node: at("g"), From: -1, Wait: api.Ready})
	notRace := arena.Turn(r, api.Item{ID: rid, Up: 1, Is: api.Token, Proc: "p", Node: at("g"), From: -1, Wait: api.Awaits})
	xor := arena.Turn(s, api.Item{ID: id, Up: 1, Is: api.Token, Proc: "p", Node: at("o"), From: -1, Wait: api.Ready})
	odd := model.Copy(p)
	odd.Nodes[at("tb")].On = at("o")
	xor.Defs = []api.Process{odd}
	for i, c := range []struct {
		s      api.State
		item   int
		node   string
		breaks bool
		ok     bool
	}{
		{s, id, "tb", true, true}, {s, id, "tn", false, true}, {s, id, "te", true, true}, {s, id, "t", false, false}, {s, id, "s", false, false}, {s, 1, "tb", false, false}, {s, 99, "tb", false, false}, {s, 0, "tb", false, false}, {s, id, "nothing", false, false}, {s, id, "g", false, false},
		{w, wid, "tb", false, false}, {w, scope, "x1", true, true}, {w, scope, "y1", false, true}, {w, 1, "x1", false, false}, {w, 1, "q1", true, true}, {w, scope, "q1", false, false}, {w, scope, "a", false, false}, {w, 1, "s", false, false}, {w, wid, "x1", false, false}, {w, scope, "x", false, false}, {w, 1, "a", false, false}, {w, wid, "wb", true, true}, {w, scope, "wb", false, false}, {w, 1, "wb", false, false}, {w, wid, "q1", false, false},
		{g, gid, "g", false, true}, {g, gid, "r1", false, false}, {g, 1, "g", false, false}, {ready, gid, "g", false, false}, {r, rid, "r1", false, true}, {r, rid, "r2", false, true}, {r, rid, "g", false, false}, {r, rid, "r", false, false}, {r, rid, "o", false, false}, {notRace, rid, "r1", false, false},
		{xor, id, "tb", false, false},
	} {
		h := route.Handler{Item: c.item, Node: at(c.node)}
		if breaks, ok := fire.Breaks(c.s, h); breaks != c.breaks || ok != c.ok {
			t.Error(i, c.node, breaks, ok)
		}
		n, e := fire.Handle(c.s, h)
		if (e == api.OK) != c.ok || !c.ok && (e != api.ErrNone || !arena.Same(n, c.s)) {
			t.Error(i, c.node, e)
		}
		x := c.s
		x.Watches = append(slices.Clone(x.Watches), api.Watch{ID: 77, Item: c.item, Node: at(c.node), Event: api.Signal})
		n, e = fire.Fire(x, 77)
		if (e == api.OK) != c.ok || !c.ok && (e != api.ErrNone || !arena.Same(n, x)) {
			t.Error(i, c.node, e)
		}
	}
	if n, e := fire.Fire(s, 99); e != api.ErrNone || !arena.Same(n, s) {
		t.Error(e)
	}
	// Only a Race has a Catch that is not its own node.
	row := sketch.Process("p; start s; catch a signal:k; catch b signal:k; end e; s>a>b>e")
	x := api.State{Next: 9, Defs: []api.Process{row}, Items: []api.Item{{ID: 1, Is: api.Scope, Proc: "p", Node: -1, From: -1}, {ID: 2, Up: 1, Is: api.Token, Proc: "p", Node: 1, From: 0, Wait: api.Awaits}}}
	if _, e := fire.Handle(x, route.Handler{Item: 2, Node: 1}); e != api.OK {
		t.Error(e)
	}
	if _, e := fire.Handle(x, route.Handler{Item: 2, Node: 2}); e != api.ErrNone {
		t.Error(e)
	}
	// The errors of what is done leave everything as it was.
	full := s
	for len(full.Items) < api.MaxItems-1 {
		full, _, _ = enter.Put(full, 1, at("t"), -1)
	}
	for name, want := range map[string]api.Errno{"tn": api.ErrTooLarge, "tt": api.OK, "tb": api.OK} {
		if n, e := fire.Fire(full, watch(t, full, id, name)); e != want || e != api.OK && !arena.Same(n, full) {
			t.Error(name, e)
		}
	}
	if n, e := fire.Handle(full, route.Handler{Item: id, Node: at("tn")}); e != api.ErrTooLarge || !arena.Same(n, full) {
		t.Error(e)
	}
	w.Next = api.MaxNumber
	for _, name := range []string{"x1", "y1", "z1"} {
		if n, e := fire.Fire(w, watch(t, w, scope, name)); e != api.ErrTooLarge || !arena.Same(n, w) {
			t.Error(name, e)
		}
	}
}

// grown returns a state that was stirred for a while.
func grown(r *rand.Rand) api.State {
	return sketch.Stirred(3, 5+r.Intn(40), r.Intn)
}

func TestP25_3To7Grown(t *testing.T) {
	r := rand.New(rand.NewSource(250))
	done := map[string]int{}
	for range 250 {
		s := grown(r)
		if !arena.Sound(s) {
			t.Fatal("not sound")
		}
		copied := arena.Copy(s)
		for _, w := range s.Watches {
			h := route.Handler{Item: w.Item, Node: w.Node}
			n, e := fire.Fire(s, w.ID)
			if e != api.OK {
				if !arena.Same(n, s) || e == api.ErrNone {
					t.Fatal(e)
				}
				continue
			}
			breaks, ok := fire.Breaks(s, h)
			it, _ := arena.Find(s, w.Item)
			node, _ := arena.NodeOf(s, api.Item{Proc: it.Proc, Node: w.Node})
			if !ok || breaks != (node.Breaks && node.Kind != api.Catch) {
				t.Fatal("Breaks", breaks, ok)
			}
			precise(t, s, n, w, node)
			watched(t, n)
			if !arena.Sound(n) {
				t.Fatal("not sound")
			}
			if node.Kind == api.Catch || breaks || w.Event == api.Timer {
				if x, e := fire.Fire(n, w.ID); e != api.ErrNone || !arena.Same(x, n) {
					t.Fatal("fired twice", e)
				}
			}
			done[map[bool]string{true: "breaks", false: "does not"}[breaks]+" "+string([]byte{'0' + node.Kind})]++
		}
		handlers(t, s)
		if !arena.Same(s, copied) {
			t.Fatal("a state was modified")
		}
	}
	if len(done) < 5 {
		t.Error(done)
	}
}

// precise: P25.3 and P25.4.
func precise(t *testing.T, s, n api.State, w api.Watch, node api.Node) {
	t.Helper()
	var gone []int
	switch {
	case node.Kind == api.Catch:
		gone = []int{w.Item}
	case node.Breaks && node.Kind == api.Bound:
		gone = append(arena.Below(s, w.Item), w.Item)
	case node.Breaks:
		gone = arena.Below(s, w.Item)
	}
	slices.Sort(gone)
	if got := cancel.Gone(s, n); !slices.Equal(got, gone) {
		t.Fatal("gone", got, gone)
	}
	for _, it := range n.Items {
		if old, ok := arena.Find(s, it.ID); ok && old != it || !ok && it.ID <= s.Next {
			t.Fatal("an item", it)
		}
	}
	for _, c := range n.Cells {
		if c.Scope <= s.Next && !slices.Contains(s.Cells, c) {
			t.Fatal("a cell", c)
		}
	}
	for _, c := range s.Cells {
		if !slices.Contains(gone, c.Scope) && !slices.Contains(n.Cells, c) {
			t.Fatal("a cell is gone", c)
		}
	}
	for _, old := range s.Watches {
		now, ok := subs.Find(n, old.ID)
		want := !slices.Contains(gone, old.Item)
		if old.ID == w.ID && !node.Breaks && node.Kind != api.Catch {
			want = w.Event != api.Timer
			if w.Event == api.Cond {
				old.Armed = false
			}
		}
		if node.Breaks && node.Kind == api.Start && old.Item == w.Item {
			want = false
		}
		if ok != want || ok && now != old {
			t.Fatal("a watch", old, now, ok)
		}
	}
	if n.Clock != s.Clock || !slices.EqualFunc(n.Defs, s.Defs, model.Same) {
		t.Fatal("the clock, the processes")
	}
}

// watched: P25.5.
func watched(t *testing.T, s api.State) {
	t.Helper()
	for _, w := range s.Watches {
		if _, ok := arena.Find(s, w.Item); !ok {
			t.Fatal("a watch of nothing", w)
		}
	}
}

// handlers: handlers of errors and escalations fire, too, and leave items sound.
func handlers(t *testing.T, s api.State) {
	t.Helper()
	for _, it := range s.Items {
		for _, event := range []uint8{api.Error, api.Escalate} {
			h, ok := route.Find(s, it.ID, event, "k")
			if !ok {
				continue
			}
			n, e := fire.Handle(s, h)
			if e == api.ErrNone || e == api.OK && !arena.Sound(n) || e != api.OK && !arena.Same(n, s) {
				t.Fatal(h, e)
			}
			if e == api.OK {
				watched(t, n)
			}
		}
	}
}

func TestR1AnyState(t *testing.T) {
	r := rand.New(rand.NewSource(251))
	for range 3000 {
		s := api.State{Next: 20, Defs: []api.Process{p}}
		for range r.Intn(9) {
			s.Items = append(s.Items, api.Item{ID: r.Intn(9), Up: r.Intn(9), Is: uint8(r.Intn(4)), Proc: []string{"p", "none"}[r.Intn(2)], Node: r.Intn(40) - 2, Wait: uint8(r.Intn(8))})
			s.Watches = append(s.Watches, api.Watch{ID: r.Intn(9), Item: r.Intn(9), Node: r.Intn(40) - 2, Event: uint8(r.Intn(9))})
		}
		before := arena.Copy(s)
		for id := range 10 {
			fire.Fire(s, id)
			fire.Handle(s, route.Handler{Item: id, Node: r.Intn(40) - 2})
			fire.Breaks(s, route.Handler{Item: id, Node: r.Intn(40) - 2})
		}
		if !arena.Same(s, before) {
			t.Fatal("a state was modified")
		}
	}
}
