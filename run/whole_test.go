package run_test

import (
	"math/rand"
	"slices"
	"testing"

	"callboard/api"
	"callboard/arena"
	"callboard/cancel"
	"callboard/codec"
	"callboard/graph"
	"callboard/model"
	"callboard/run"
	"callboard/sketch"
	"callboard/step"
	"callboard/subs"
)

// TestP1Examples plays those of the ten examples of the whole that need no disk.
func TestP1Examples(t *testing.T) {
	// 1.
	w := deployed(t, simple)
	w.begin("p")
	w.done("t")
	if len(w.s.Items)+len(w.s.Cells)+len(w.s.Watches) != 0 {
		t.Error(w.s)
	}
	// 2.
	w = deployed(t, "p; start s; task t; bound b @t timer:3 breaks; task late; end e; s>t>e; b>late>e")
	w.begin("p")
	w.tick(2)
	w.sees("t")
	w.tick(1)
	w.sees("late")
	// 3.
	w = deployed(t, "p; start s; task t; bound b @t timer:3; task late; end e; s>t>e; b>late>e")
	w.begin("p")
	w.tick(3)
	w.sees("t late")
	w.tick(9)
	w.sees("t late")
	// 4.
	w = deployed(t, "p; start s; part w; .start a; .task b; .task c; .end z error:k; .aside x; ..start y error:k breaks; ..task v; ..end u; task after; end e; s>w>after>e; a>b; a>c; b>z; c>z; y>v>u")
	w.begin("p")
	w.sees("w+holds b c")
	w.done("b")
	w.sees("w+holds v")
	w.done("v")
	w.sees("after")
	// 5.
	w = deployed(t, "p; start s; catch a signal:k; catch b signal:k; task c; task d; end e; s>a>c>e; s>b>d>e", "q; start s signal:k; task f; end e; s>f>e")
	w.begin("p")
	w.cast("k")
	w.sees("c d f")
	// 6.
	w = deployed(t, "p n=1; start s; some x; task a; task b; some y; task c; end e; s>x; x>a if n==1; x>b if n==2; a>y; b>y; y>c>e")
	w.begin("p")
	w.sees("a")
	w.done("a")
	w.sees("c")
	// 7.
	for i, move := range []func(){func() { w.tick(4) }, func() { w.cast("k") }} {
		w = deployed(t, "p; start s; race r; catch a timer:4; catch b signal:k; task c; task d; end e; s>r; r>a>c>e; r>b>d>e")
		w.begin("p")
		move()
		w.sees([]string{"c", "d"}[i])
		if len(w.s.Watches) != 0 {
			t.Error(w.s.Watches)
		}
	}
	// 8.
	w = deployed(t, "p n=0; start s; adhoc h text:n==2; .task a; end e; s>h>e")
	id := w.begin("p")
	for range 2 {
		w.ok(api.Command{Kind: api.Enable, ID: w.scope("h"), Name: "a"})
	}
	w.done("a")
	w.put(id, "n", num(2))
	w.sees("h+holds a")
	w.done("a")
	w.sees("")
	// 10.
	w = deployed(t, "p n=1; start s; calc a n=1; calc b n=2; s>a>b>a")
	for _, budget := range []int{1, 10, api.MaxSteps} {
		if n, a := run.Do(w.s, api.Command{Kind: api.Begin, Name: "p"}, nil, budget); a.E != api.ErrBudget || !arena.Same(n, w.s) {
			t.Error(a)
		}
	}
}

// TestP4Order checks that targets are fired in the order that is picked: their tokens are put in that order.
func TestP4Order(t *testing.T) {
	text := "p; start s; catch a signal:k; catch b signal:k; task ta; task tb; end e; s>a>ta>e; s>b>tb>e"
	q := "q; start s signal:k; task tq; end e; s>tq>e"
	for picks, want := range map[[2]uint32]string{{0, 0}: "ta tb tq", {0, 1}: "ta tq tb", {1, 0}: "tb ta tq", {1, 1}: "tb tq ta", {2, 0}: "tq ta tb", {5, 3}: "tq tb ta"} {
		w := deployed(t, text, q)
		w.begin("p")
		w.cast("k", picks[0], picks[1])
		// The scope of q is opened when its turn comes; its token at tq comes later, in the run.
		var order string
		for _, it := range w.s.Items {
			if n, ok := arena.NodeOf(w.s, it); ok && it.Is == api.Token && n.Kind == api.Task && n.Name != "tq" {
				order += n.Name + " "
			} else if it.Is == api.Scope && it.Proc == "q" {
				order += "tq "
			}
		}
		if order != want+" " {
			t.Error(picks, order, want)
		}
	}
}

// player gives random commands to processes that were grown.
type player struct {
	r *rand.Rand
	s api.State
}

// play returns one with deployed processes.
func play(r *rand.Rand, quiet bool) *player {
	p := &player{r: r}
	for _, d := range sketch.Defs(3, quiet, r.Intn) {
		bytes, e := codec.Encode(d)
		if e != api.OK {
			panic(e)
		}
		n, a := run.Do(p.s, api.Command{Kind: api.Deploy, Bytes: bytes}, nil, 1)
		if a.E != api.OK {
			panic(a)
		}
		p.s = n
	}
	return p
}

// item returns the ID of an item that is as is asked, or of any.
func (p *player) item(as func(it api.Item) bool) int {
	l := slices.DeleteFunc(slices.Clone(p.s.Items), func(it api.Item) bool { return !as(it) })
	if len(l) == 0 || p.r.Intn(10) == 0 {
		return p.r.Intn(p.s.Next + 2)
	}
	return l[p.r.Intn(len(l))].ID
}

// command returns a random command.
func (p *player) command() api.Command {
	r := p.r
	var sets []api.Set
	for range r.Intn(2) {
		sets = append(sets, api.Set{Name: []string{"n", "b", "x", "t"}[r.Intn(4)], V: []api.Value{num(int64(r.Intn(5) - 1)), {Kind: api.Bool, N: int64(r.Intn(2))}}[r.Intn(2)]})
	}
	key := []string{"k", "l", "m"}[r.Intn(3)]
	switch r.Intn(12) {
	case 0, 1:
		return api.Command{Kind: api.Begin, Name: p.s.Defs[r.Intn(3)].Name, Sets: sets}
	case 2, 3, 4, 5:
		return api.Command{Kind: api.Done, ID: p.item(func(it api.Item) bool { return it.Wait == api.Works }), Sets: sets}
	case 6:
		return api.Command{Kind: api.Fail, ID: p.item(func(it api.Item) bool { return it.Wait == api.Works }), Key: key}
	case 7:
		id := p.item(func(it api.Item) bool {
			n, _ := arena.NodeOf(p.s, it)
			return it.Is == api.Scope && n.Kind == api.AdHoc
		})
		it, _ := arena.Find(p.s, id)
		d, _ := arena.Def(p.s, it.Proc)
		inside := graph.Within(d, it.Node)
		name := "none"
		if len(inside) > 0 {
			name = d.Nodes[inside[r.Intn(len(inside))]].Name
		}
		return api.Command{Kind: api.Enable, ID: id, Name: name}
	case 8:
		return api.Command{Kind: api.Put, ID: p.item(func(it api.Item) bool { return it.Is == api.Scope }), Sets: sets}
	case 9:
		return api.Command{Kind: api.Cast, Key: key}
	case 10:
		return api.Command{Kind: api.Tick, N: 1 + r.Intn(4)}
	}
	if r.Intn(2) == 0 {
		return api.Command{Kind: api.Retry, ID: p.item(func(it api.Item) bool { return it.Wait == api.Stuck })}
	}
	return api.Command{Kind: api.Stop, ID: p.item(func(it api.Item) bool { return it.Up == 0 })}
}

func (p *player) picks() []uint32 {
	var l []uint32
	for range p.r.Intn(12) {
		l = append(l, p.r.Uint32())
	}
	return l
}

func TestP29_3To7Grown(t *testing.T) {
	r := rand.New(rand.NewSource(290))
	answers := map[api.Errno]int{}
	kinds := map[uint8]int{}
	for range 220 {
		p := play(r, false)
		for range 40 {
			c, picks, budget := p.command(), p.picks(), []int{3, 60, 400}[r.Intn(3)]
			s := p.s
			before := arena.Copy(s)
			n, a := run.Do(s, c, picks, budget)
			answers[a.E]++
			if !arena.Same(s, before) {
				t.Fatal("a state was modified", c)
			}
			if a.E != api.OK {
				if !arena.Same(n, s) || a.ID != 0 {
					t.Fatal("something changed", c, a)
				}
				continue
			}
			kinds[c.Kind]++
			checked(t, s, n, c, a)
			for _, more := range []int{budget + 1, api.MaxSteps} {
				if x, b := run.Do(s, c, picks, more); b != a || !arena.Same(x, n) {
					t.Fatal("with a greater budget", c, b)
				}
			}
			p.s = n
		}
	}
	for kind := api.Begin; kind <= api.Retry; kind++ {
		if kinds[kind] < 10 {
			t.Error("too few", kind, kinds)
		}
	}
	for _, e := range []api.Errno{api.ErrNone, api.ErrState, api.ErrName, api.ErrType, api.ErrBudget, api.ErrUncaught} {
		if answers[e] < 10 {
			t.Error("too few", e, answers)
		}
	}
}

// checked: what holds after each command.
func checked(t *testing.T, s, n api.State, c api.Command, a api.Answer) {
	t.Helper()
	if l, e := step.Rules(n); e != api.OK || len(l) != 0 {
		t.Fatal("a rule may still be applied", c, l, e)
	}
	if !arena.Sound(n) {
		t.Fatal("not sound", c)
	}
	if c.Kind == api.Tick && n.Clock != s.Clock+c.N || c.Kind != api.Tick && n.Clock != s.Clock || !slices.EqualFunc(n.Defs, s.Defs, model.Same) {
		t.Fatal("the clock, the processes", c)
	}
	switch c.Kind {
	case api.Begin, api.Enable:
		if a.ID <= s.Next || a.ID > n.Next {
			t.Fatal("the ID", c, a)
		}
	default:
		if a.ID != 0 {
			t.Fatal("the ID", c, a)
		}
	}
	if c.Kind == api.Stop && !arena.Same(n, cancel.Take(s, c.ID)) {
		t.Fatal("Stop", c)
	}
	for _, w := range n.Watches {
		if _, ok := arena.Find(n, w.Item); !ok {
			t.Fatal("a watch of nothing", w)
		}
	}
	for _, c := range n.Cells {
		if _, ok := arena.Find(n, c.Scope); !ok {
			t.Fatal("a cell of nothing", c)
		}
	}
	if n.Clock == s.Clock && len(subs.Due(s)) == 0 && slices.ContainsFunc(subs.Due(n), func(id int) bool { _, old := subs.Find(s, id); return old }) {
		t.Fatal("a Timer that is due")
	}
}

// TestP5Quiet: a budget of Enough is enough.
func TestP5Quiet(t *testing.T) {
	r := rand.New(rand.NewSource(291))
	tried := 0
	for range 250 {
		p := play(r, true)
		if !graph.Quiet(p.s.Defs) || slices.ContainsFunc(p.s.Defs, graph.Circle) {
			t.Fatal("not quiet")
		}
		for range 40 {
			c, picks := p.command(), p.picks()
			enough := run.Enough(p.s)
			if enough > api.MaxSteps {
				break
			}
			n, a := run.Do(p.s, c, picks, max(enough, 1))
			if a.E == api.ErrBudget {
				t.Fatal("not enough", enough, c)
			}
			if a.E == api.OK {
				tried++
				p.s = n
			}
		}
	}
	if tried < 2000 {
		t.Error("too few:", tried)
	}
}

// TestP3Interruption: what a Bound or an Aside that breaks removes, and nothing else, with a neighbour that is not touched.
func TestP3Interruption(t *testing.T) {
	r := rand.New(rand.NewSource(292))
	for range 150 {
		p := play(r, false)
		for range 12 {
			c := p.command()
			if n, a := run.Do(p.s, c, p.picks(), 300); a.E == api.OK && c.Kind != api.Stop {
				p.s = n
			}
		}
		// Two whole processes beside each other: what is done to one leaves the other as it is, as long as nobody casts.
		for _, it := range p.s.Items {
			if it.Wait != api.Works {
				continue
			}
			root := it
			for root.Up != 0 {
				root, _ = arena.Find(p.s, root.Up)
			}
			n, a := run.Do(p.s, api.Command{Kind: api.Fail, ID: it.ID, Key: "k"}, nil, 300)
			if a.E != api.OK {
				continue
			}
			family := append(arena.Below(p.s, root.ID), root.ID)
			loud := !graph.Quiet(p.s.Defs)
			for _, x := range p.s.Items {
				now, ok := arena.Find(n, x.ID)
				if mine := slices.Contains(family, x.ID); !mine && !loud && (!ok || now != x) {
					t.Fatal("a neighbour changed", x)
				}
			}
			if gone := cancel.Gone(p.s, n); len(gone) == 0 {
				t.Fatal("nothing was interrupted")
			}
			for _, w := range n.Watches {
				if _, ok := arena.Find(n, w.Item); !ok {
					t.Fatal("a watch of nothing", w)
				}
			}
		}
	}
}

func TestR1AnyState(t *testing.T) {
	r := rand.New(rand.NewSource(293))
	base := play(r, false)
	for range 3000 {
		s := api.State{Next: 20, Clock: r.Intn(9) - 4, Defs: base.s.Defs}
		for range r.Intn(9) {
			s.Items = append(s.Items, api.Item{ID: r.Intn(9), Up: r.Intn(9), Is: uint8(r.Intn(4)), Proc: []string{"pa", "pb", "none"}[r.Intn(3)], Node: r.Intn(20) - 2, From: r.Intn(9) - 1, Wait: uint8(r.Intn(8))})
			s.Watches = append(s.Watches, api.Watch{ID: r.Intn(9), Item: r.Intn(9), Node: r.Intn(20) - 2, Event: uint8(r.Intn(5)), Key: "k"})
			s.Cells = append(s.Cells, api.Cell{Scope: r.Intn(9), Name: "n", V: num(1)})
		}
		before := arena.Copy(s)
		for range 20 {
			c := api.Command{Kind: uint8(r.Intn(12)), ID: r.Intn(10), N: r.Intn(5) - 1, Name: []string{"pa", "n5"}[r.Intn(2)], Key: []string{"k", "K"}[r.Intn(2)]}
			if n, a := run.Do(s, c, []uint32{r.Uint32()}, 50); a.E != api.OK && !arena.Same(n, s) {
				t.Fatal(c, a)
			}
			run.Calls(s, r.Intn(10))
		}
		if n := run.Enough(s); n < 0 || n > api.MaxSteps+1 {
			t.Fatal(n)
		}
		if !arena.Same(s, before) {
			t.Fatal("a state was modified")
		}
	}
}
