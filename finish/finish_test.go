package finish_test

import (
	"math/rand"
	"slices"
	"testing"

	"callboard/api"
	"callboard/arena"
	"callboard/cancel"
	"callboard/enter"
	"callboard/finish"
	"callboard/graph"
	"callboard/sketch"
	"callboard/subs"
	"callboard/vars"
)

func num(n int64) api.Value { return api.Value{Kind: api.Int, N: n} }

var sub = sketch.Process("sub n=7 m=8 t='q' k=1; start s; task v; end e; s>v>e")

var p = sketch.Process(`p n=5 m=6 t=3
	start s
	part w n=1
	.start a
	.call j key:sub back:n,k,m,t
	.end c
	.aside x
	..start x1 signal:k
	..end x2
	adhoc h text:n<3
	.task ht
	adhoc b text:n<3 breaks
	.task bt
	adhoc z text:1/n==1
	call i key:sub back:n,m
	bound ib @i timer:3
	end e
	end f
	s>w>h>b>z>i>e; a>j>c; x1>x2; w>f`)

func at(name string) int { return sketch.At(p, name) }

// held returns a state in which a token holds the scope of a node, cleared.
func held(t *testing.T, name string) (s api.State, token, scope int) {
	t.Helper()
	s, _, e := enter.Open(api.State{Defs: []api.Process{sub, p}}, 0, "p", -1, at(name))
	if e != api.OK {
		t.Fatal(e)
	}
	token = s.Items[1].ID
	if s, e = enter.Begin(s, token); e != api.OK {
		t.Fatal(e)
	}
	scope = arena.Kids(s, token)[0]
	return cancel.Clear(s, scope), token, scope
}

func with(t *testing.T, s api.State, scope int, name string, v api.Value) api.State {
	t.Helper()
	s, e := vars.Put(s, scope, []api.Set{{Name: name, V: v}})
	if e != api.OK {
		t.Fatal(e)
	}
	return s
}

func may(t *testing.T, s api.State, scope int, want bool, wantE api.Errno) {
	t.Helper()
	ok, e := finish.May(s, scope)
	if ok != want || e != wantE {
		t.Errorf("May: %v, %v, want %v, %v", ok, e, want, wantE)
	}
	n, e := finish.End(s, scope)
	if !want && wantE == api.OK {
		wantE = api.ErrState
	}
	if e != wantE || e != api.OK && !arena.Same(n, s) {
		t.Errorf("End: %v, want %v", e, wantE)
	}
}

func TestP26_1Parts(t *testing.T) {
	s, token, scope := held(t, "w")
	may(t, s, scope, true, api.OK)
	n, e := finish.End(s, scope)
	want, _ := enter.All(cancel.Take(s, scope), token, at("w"))
	if e != api.OK || !arena.Same(n, want) || !arena.Sound(n) || len(n.Items) != 3 {
		t.Error(n, e)
	}
	busy, _, _ := enter.Put(s, scope, at("a"), -1)
	may(t, busy, scope, false, api.OK)
	aside, inner, _ := enter.Open(s, scope, "p", at("x"), -1)
	may(t, aside, scope, false, api.OK)
	may(t, aside, inner, false, api.OK)
	aside = cancel.Clear(aside, inner)
	may(t, aside, inner, true, api.OK)
	// That of an Aside, and that of a whole process: that is all.
	if n, e := finish.End(aside, inner); e != api.OK || !arena.Same(n, cancel.Take(aside, inner)) {
		t.Error(e)
	}
	alone := cancel.Clear(s, 1)
	may(t, alone, 1, true, api.OK)
	if n, e := finish.End(alone, 1); e != api.OK || len(n.Items) != 0 || len(n.Cells) != 0 || len(n.Watches) != 0 {
		t.Error(n, e)
	}
	s, ready, _ := enter.Put(s, 1, at("s"), -1)
	for _, id := range []int{0, token, ready, 99} {
		if ok, e := finish.May(s, id); ok || e != api.OK {
			t.Error(id, ok, e)
		}
		if n, e := finish.End(s, id); e != api.ErrNone || !arena.Same(n, s) {
			t.Error(id, e)
		}
	}
}

func TestP26_1AdHocs(t *testing.T) {
	s, token, scope := held(t, "h")
	may(t, s, scope, false, api.OK)
	yes := with(t, s, 1, "n", num(2))
	may(t, yes, scope, true, api.OK)
	n, e := finish.End(yes, scope)
	want, _ := enter.All(cancel.Take(yes, scope), token, at("h"))
	if e != api.OK || !arena.Same(n, want) {
		t.Error(e)
	}
	busy, _, _ := enter.Put(yes, scope, at("ht"), -1)
	may(t, busy, scope, false, api.OK)

	// One that breaks may also end with something below it.
	s, token, scope = held(t, "b")
	may(t, s, scope, false, api.OK)
	yes = with(t, s, 1, "n", num(2))
	may(t, yes, scope, true, api.OK)
	busy, id, _ := enter.Put(yes, scope, at("bt"), -1)
	may(t, busy, scope, true, api.OK)
	n, e = finish.End(busy, scope)
	want, _ = enter.All(cancel.Take(busy, scope), token, at("b"))
	if _, ok := arena.Find(n, id); e != api.OK || ok || !arena.Same(n, want) || !arena.Sound(n) {
		t.Error(e)
	}
	may(t, with(t, busy, 1, "n", num(9)), scope, false, api.OK)

	// The Text is evaluated only if it matters.
	s, _, scope = held(t, "z")
	may(t, s, scope, false, api.OK)
	may(t, with(t, s, 1, "n", num(1)), scope, true, api.OK)
	zero := with(t, s, 1, "n", num(0))
	may(t, zero, scope, false, api.ErrZero)
	busy, _, _ = arena.Add(zero, api.Item{Up: scope, Is: api.Token, Proc: "p", Node: at("s"), Wait: api.Ready})
	may(t, busy, scope, false, api.OK)
}

func TestP26_1Back(t *testing.T) {
	s, token, scope := held(t, "i")
	for name, v := range map[string]api.Value{"n": num(70), "m": num(80), "k": num(90)} {
		s = with(t, s, scope, name, v)
	}
	n, e := finish.End(s, scope)
	want := with(t, with(t, cancel.Take(s, scope), 1, "n", num(70)), 1, "m", num(80))
	want, _ = enter.All(want, token, at("i"))
	if e != api.OK || !arena.Same(n, want) || len(vars.Cells(n, scope)) != 0 || len(subs.Of(n, token)) != 0 {
		t.Error(vars.Cells(n, 1), e)
	}
	// In a Part: its own n, the m around it; k is not seen there; the t that is seen is of another type.
	s, _, e = enter.Open(api.State{Defs: []api.Process{sub, p}}, 0, "p", -1, at("w"))
	if e != api.OK {
		t.Fatal(e)
	}
	s, _ = enter.Begin(s, 2)
	part := arena.Kids(s, 2)[0]
	s, token, _ = enter.Put(cancel.Clear(s, part), part, at("j"), -1)
	s, _ = enter.Begin(s, token)
	scope = arena.Kids(s, token)[0]
	s = cancel.Clear(s, scope)
	if n, e := finish.End(s, scope); e != api.ErrType || !arena.Same(n, s) {
		t.Error(e)
	}
	s = with(t, s, scope, "n", num(71))
	s = with(t, s, scope, "m", num(81))
	ints := s
	ints.Cells = slices.Clone(s.Cells)
	for i, c := range ints.Cells {
		if c.Name == "t" {
			ints.Cells[i].V = num(91)
		}
	}
	n, e = finish.End(ints, scope)
	for _, c := range []api.Cell{{Scope: part, Name: "n", V: num(71)}, {Scope: 1, Name: "m", V: num(81)}, {Scope: 1, Name: "n", V: num(5)}, {Scope: 1, Name: "t", V: num(91)}} {
		if got, ok := vars.Seen(n, c.Scope, c.Name); !ok || got != c {
			t.Error(got, c)
		}
	}
	if _, ok := vars.Seen(n, part, "k"); ok || e != api.OK || !arena.Sound(n) {
		t.Error(e)
	}
}

func TestP26_1Errors(t *testing.T) {
	s, token, scope := held(t, "w")
	for len(s.Items) < api.MaxItems {
		s, _, _ = enter.Put(s, 1, at("s"), -1)
	}
	// The scope and the token go, two tokens come.
	if _, e := finish.End(s, scope); e != api.OK {
		t.Error(e)
	}
	s.Next = api.MaxNumber - 1
	if n, e := finish.End(s, scope); e != api.ErrTooLarge || !arena.Same(n, s) {
		t.Error(e)
	}
	gone := s
	gone.Items = slices.Clone(s.Items)
	for i, it := range gone.Items {
		if it.ID == token {
			gone.Items[i].Node = 99
		}
	}
	if n, e := finish.End(gone, scope); e != api.ErrNone || !arena.Same(n, gone) {
		t.Error(e)
	}
}

// grown returns a state that was stirred for a while.
func grown(r *rand.Rand) api.State {
	return sketch.Stirred(3, 5+r.Intn(60), r.Intn)
}

func TestP26_2To5Grown(t *testing.T) {
	r := rand.New(rand.NewSource(260))
	ended := map[uint8]int{}
	for range 500 {
		s := grown(r)
		for range 8 {
			var scopes []int
			for _, it := range s.Items {
				if it.Is == api.Scope {
					scopes = append(scopes, it.ID)
				}
			}
			if len(scopes) == 0 {
				break
			}
			id := scopes[r.Intn(len(scopes))]
			it, _ := arena.Find(s, id)
			node, _ := arena.NodeOf(s, it)
			ok, e := finish.May(s, id)
			if len(arena.Kids(s, id)) > 0 && ok && !(node.Kind == api.AdHoc && node.Breaks) || node.Kind != api.AdHoc && (ok != (len(arena.Kids(s, id)) == 0) || e != api.OK) {
				t.Fatal("May", id, ok, e)
			}
			copied := arena.Copy(s)
			n, e2 := finish.End(s, id)
			if !arena.Same(s, copied) || (e2 == api.OK) != ok && e2 != api.ErrTooLarge || e2 != api.OK && !arena.Same(n, s) {
				t.Fatal("End", ok, e, e2)
			}
			if e2 != api.OK {
				// So that there are some that may end.
				if cleared := cancel.Clear(s, id); arena.Sound(cleared) {
					s = cleared
				}
				continue
			}
			ended[node.Kind]++
			after(t, s, n, it)
			s = n
		}
	}
	if len(ended) < 4 {
		t.Error("too few", ended)
	}
}

// after: P26.2 to P26.4.
func after(t *testing.T, s, n api.State, it api.Item) {
	t.Helper()
	if !arena.Sound(n) {
		t.Fatal("not sound")
	}
	gone := append(arena.Below(s, it.ID), it.ID)
	token, holds := arena.Find(s, it.Up)
	if holds = holds && token.Is == api.Token; holds {
		gone = append(gone, it.Up)
	}
	slices.Sort(gone)
	if got := cancel.Gone(s, n); !slices.Equal(got, gone) {
		t.Fatal("gone", got, gone)
	}
	var back []string
	if call, _ := arena.NodeOf(s, token); holds && it.Node == -1 {
		back = call.Back
	}
	for _, c := range s.Cells {
		if slices.Contains(gone, c.Scope) {
			if slices.ContainsFunc(n.Cells, func(x api.Cell) bool { return x.Scope == c.Scope }) {
				t.Fatal("a cell is left", c)
			}
			continue
		}
		now := n.Cells[slices.IndexFunc(n.Cells, func(x api.Cell) bool { return x.Scope == c.Scope && x.Name == c.Name })]
		want := c
		if seen, ok := vars.Seen(s, token.Up, c.Name); ok && seen == c && slices.Contains(back, c.Name) {
			inner, _ := vars.Seen(s, it.ID, c.Name)
			want.V = inner.V
		}
		if now != want {
			t.Fatal("a cell", now, want)
		}
	}
	for _, w := range n.Watches {
		if slices.Contains(gone, w.Item) {
			t.Fatal("a watch is left", w)
		}
	}
	if holds {
		p, _ := arena.Def(s, token.Proc)
		if put := len(graph.From(p, token.Node)); len(n.Items) != len(s.Items)-len(gone)+put {
			t.Fatal("tokens", put)
		}
	}
}

func TestR1AnyState(t *testing.T) {
	r := rand.New(rand.NewSource(261))
	for range 3000 {
		s := api.State{Next: 20, Defs: []api.Process{sub, p}}
		for range r.Intn(9) {
			s.Items = append(s.Items, api.Item{ID: r.Intn(9), Up: r.Intn(9), Is: uint8(r.Intn(4)), Proc: []string{"p", "sub", "none"}[r.Intn(3)], Node: r.Intn(20) - 2, Wait: uint8(r.Intn(8))})
			s.Cells = append(s.Cells, api.Cell{Scope: r.Intn(9), Name: []string{"n", "m", "k"}[r.Intn(3)], V: api.Value{Kind: uint8(r.Intn(4))}})
		}
		before := arena.Copy(s)
		for id := range 10 {
			finish.May(s, id)
			finish.End(s, id)
		}
		if !arena.Same(s, before) {
			t.Fatal("a state was modified")
		}
	}
}
