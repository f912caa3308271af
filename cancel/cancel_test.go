package cancel_test

import (
	"math/rand"
	"slices"
	"testing"

	"callboard/api"
	"callboard/arena"
	"callboard/cancel"
	"callboard/sketch"
	"callboard/subs"
	"callboard/vars"
)

func num(n int64) api.Value { return api.Value{Kind: api.Int, N: n} }

func ids(s api.State) []int {
	var l []int
	for _, it := range s.Items {
		l = append(l, it.ID)
	}
	return l
}

// base: 1 (a scope), 2 (a token in it), 3 (a scope below 2), 4 (a token in 3), 5 (another scope), each with cells and watches.
func base() api.State {
	s := api.State{Clock: 5, Next: 9, Defs: []api.Process{sketch.Process("p; start s")}, Items: []api.Item{
		{ID: 1, Is: api.Scope, Node: -1}, {ID: 2, Up: 1, Is: api.Token}, {ID: 3, Up: 2, Is: api.Scope}, {ID: 4, Up: 3, Is: api.Token}, {ID: 5, Is: api.Scope, Node: -1},
	}}
	for id := 1; id <= 5; id++ {
		s.Cells = append(s.Cells, api.Cell{Scope: id, Name: "a", V: num(int64(id))}, api.Cell{Scope: id, Name: "b"})
		s.Watches = append(s.Watches, api.Watch{ID: 10 + id, Item: id}, api.Watch{ID: 20 + id, Item: 6 - id})
	}
	return s
}

func TestP21_1Examples(t *testing.T) {
	s := base()
	for _, c := range []struct {
		got  api.State
		want []int
	}{
		{cancel.Take(s, 2), []int{1, 5}}, {cancel.Clear(s, 3), []int{1, 2, 3, 5}}, {cancel.Take(s, 9), []int{1, 2, 3, 4, 5}}, {cancel.Take(s, 1), []int{5}}, {cancel.Take(s, 4), []int{1, 2, 3, 5}}, {cancel.Take(s, 3), []int{1, 2, 5}},
		{cancel.Clear(s, 1), []int{1, 5}}, {cancel.Clear(s, 2), []int{1, 2, 5}}, {cancel.Clear(s, 4), []int{1, 2, 3, 4, 5}}, {cancel.Clear(s, 0), []int{1, 2, 3, 4, 5}}, {cancel.Take(s, 0), []int{1, 2, 3, 4, 5}}, {cancel.Break(s, 0), []int{1, 2, 3, 4, 5}},
		{cancel.Break(s, 1), []int{1, 5}}, {cancel.Break(s, 2), []int{1, 2, 5}}, {cancel.Break(s, 9), []int{1, 2, 3, 4, 5}},
	} {
		if got := ids(c.got); !slices.Equal(got, c.want) {
			t.Error(got, c.want)
		}
	}
	if got := cancel.Gone(s, cancel.Clear(s, 3)); !slices.Equal(got, []int{4}) {
		t.Error(got)
	}
	if got := cancel.Gone(s, cancel.Take(s, 2)); !slices.Equal(got, []int{2, 3, 4}) {
		t.Error(got)
	}
	if len(cancel.Gone(s, s)) != 0 || len(cancel.Gone(api.State{}, s)) != 0 || !slices.Equal(cancel.Gone(s, api.State{}), []int{1, 2, 3, 4, 5}) {
		t.Error("Gone")
	}
	x := api.State{Items: []api.Item{{ID: 7}, {ID: 3}, {ID: 7}, {ID: 1}}}
	if got := cancel.Gone(x, api.State{Items: []api.Item{{ID: 1}}}); !slices.Equal(got, []int{3, 7}) {
		t.Error(got)
	}
}

func TestP21_1NoItem(t *testing.T) {
	s := base()
	s.Items = append(s.Items, api.Item{ID: 6, Up: 77})
	s.Cells = append(s.Cells, api.Cell{Scope: 77})
	s.Watches = append(s.Watches, api.Watch{ID: 8, Item: 77})
	for _, n := range []api.State{cancel.Take(s, 77), cancel.Clear(s, 77), cancel.Break(s, 77)} {
		if !arena.Same(n, s) {
			t.Error("something was removed")
		}
	}
}

// precise checks that exactly some items are gone, with their cells and watches, and the watches of one more.
func precise(t *testing.T, before, after api.State, gone []int, broken int) {
	t.Helper()
	want := before
	want.Items, want.Cells, want.Watches = nil, nil, nil
	for _, it := range before.Items {
		if !slices.Contains(gone, it.ID) {
			want.Items = append(want.Items, it)
		}
	}
	for _, c := range before.Cells {
		if !slices.Contains(gone, c.Scope) {
			want.Cells = append(want.Cells, c)
		}
	}
	for _, w := range before.Watches {
		if !slices.Contains(gone, w.Item) && w.Item != broken {
			want.Watches = append(want.Watches, w)
		}
	}
	if !arena.Same(after, want) {
		t.Fatalf("%+v\n%+v", after, want)
	}
}

func random(r *rand.Rand) api.State {
	s := api.State{Clock: 3, Defs: []api.Process{sketch.Process("p; start s")}}
	for range 2 + r.Intn(20) {
		it := api.Item{Is: []uint8{api.Scope, api.Token}[r.Intn(2)], Node: -1}
		if len(s.Items) > 0 && r.Intn(6) > 0 {
			it.Up = s.Items[r.Intn(len(s.Items))].ID
		}
		n, id, e := arena.Add(s, it)
		if e != api.OK {
			continue
		}
		s = vars.Open(n, id, []api.Var{{Name: "a", Init: num(1)}, {Name: "b", Init: num(2)}}[:r.Intn(3)])
		for range r.Intn(3) {
			s.Next++
			s.Watches = append(s.Watches, api.Watch{ID: s.Next, Item: s.Items[r.Intn(len(s.Items))].ID})
		}
	}
	return s
}

func TestP21_2To5Random(t *testing.T) {
	r := rand.New(rand.NewSource(210))
	for range 800 {
		s := random(r)
		copied := arena.Copy(s)
		id := s.Items[r.Intn(len(s.Items))].ID
		below := arena.Below(s, id)
		taken, cleared, broken := cancel.Take(s, id), cancel.Clear(s, id), cancel.Break(s, id)
		precise(t, s, taken, append([]int{id}, below...), 0)
		precise(t, s, cleared, below, 0)
		precise(t, s, broken, below, id)
		if len(arena.Kids(cleared, id)) != 0 || len(arena.Kids(broken, id)) != 0 || len(subs.Of(broken, id)) != 0 || !slices.Equal(subs.Of(cleared, id), subs.Of(s, id)) || !slices.Equal(vars.Cells(broken, id), vars.Cells(s, id)) {
			t.Fatal("cleared")
		}
		if !arena.Same(cancel.Take(cleared, id), taken) || !arena.Same(cancel.Take(taken, id), taken) || !arena.Same(subs.DropOf(cleared, []int{id}), broken) {
			t.Fatal("cleared, then taken")
		}
		for _, b := range below {
			if !arena.Same(cancel.Take(cancel.Take(s, b), id), taken) {
				t.Fatal("something below it first")
			}
		}
		other := s.Items[r.Intn(len(s.Items))].ID
		if !arena.Same(cancel.Take(cancel.Take(s, id), other), cancel.Take(cancel.Take(s, other), id)) {
			t.Fatal("in another order")
		}
		if got := cancel.Gone(s, taken); !slices.Equal(got, slices.Sorted(slices.Values(append([]int{id}, below...)))) {
			t.Fatal("Gone", got)
		}
		if !arena.Same(s, copied) {
			t.Fatal("a state was modified")
		}
	}
}

func TestP21_6Soundness(t *testing.T) {
	p := sketch.Process("p; start s; task t; part w; .start a; .task b; .end c; .aside x; ..start d signal:k; ..task g; end e; s>t>w>e; a>b>c; d>g")
	s := api.State{Next: 20, Defs: []api.Process{p}, Items: []api.Item{
		{ID: 1, Is: api.Scope, Proc: "p", Node: -1, From: -1}, {ID: 2, Up: 1, Is: api.Token, Proc: "p", Node: 1, From: 0, Wait: api.Works}, {ID: 3, Up: 1, Is: api.Token, Proc: "p", Node: 2, From: 1, Wait: api.Holds},
		{ID: 4, Up: 3, Is: api.Scope, Proc: "p", Node: 2, From: -1}, {ID: 5, Up: 4, Is: api.Token, Proc: "p", Node: 4, From: -1, Wait: api.Works}, {ID: 6, Up: 4, Is: api.Scope, Proc: "p", Node: 6, From: -1}, {ID: 7, Up: 6, Is: api.Token, Proc: "p", Node: 8, From: -1, Wait: api.Ready},
	}}
	if !arena.Sound(s) {
		t.Fatal("base")
	}
	for _, it := range s.Items {
		held := it.ID == 4
		if arena.Sound(cancel.Take(s, it.ID)) == held {
			t.Error("Take", it.ID)
		}
		clears := it.ID == 3
		if arena.Sound(cancel.Clear(s, it.ID)) == clears || arena.Sound(cancel.Break(s, it.ID)) == clears {
			t.Error("Clear", it.ID)
		}
	}
}

func TestR1GoingRound(t *testing.T) {
	s := api.State{Items: []api.Item{{ID: 1, Up: 2}, {ID: 2, Up: 1}, {ID: 3, Up: 3}, {ID: 4, Up: 1}}}
	if got := ids(cancel.Take(s, 1)); !slices.Equal(got, []int{3}) {
		t.Error(got)
	}
	if got := ids(cancel.Clear(s, 1)); !slices.Equal(got, []int{1, 3}) {
		t.Error(got)
	}
	if got := ids(cancel.Take(s, 3)); !slices.Equal(got, []int{1, 2, 4}) {
		t.Error(got)
	}
}
