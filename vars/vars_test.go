package vars_test

import (
	"cmp"
	"math/rand"
	"slices"
	"testing"

	"callboard/api"
	"callboard/arena"
	"callboard/vars"
)

func num(n int64) api.Value { return api.Value{Kind: api.Int, N: n} }

func text(s string) api.Value { return api.Value{Kind: api.Text, T: s} }

func cell(scope int, name string, v api.Value) api.Cell {
	return api.Cell{Scope: scope, Name: name, V: v}
}

func set(name string, v api.Value) api.Set { return api.Set{Name: name, V: v} }

// base: scope 1 of a process; token 2 holds scope 3 of a Part; token 4 in it calls the process of scope 5; in that token 6 holds scope 7; scope 8 of an Aside below 3, token 9 in it holds 10.
func base() api.State {
	s := api.State{Next: 20, Items: []api.Item{
		{ID: 1, Is: api.Scope, Node: -1}, {ID: 2, Up: 1, Is: api.Token}, {ID: 3, Up: 2, Is: api.Scope, Node: 4}, {ID: 4, Up: 3, Is: api.Token}, {ID: 5, Up: 4, Is: api.Scope, Node: -1},
		{ID: 6, Up: 5, Is: api.Token}, {ID: 7, Up: 6, Is: api.Scope, Node: 2}, {ID: 8, Up: 3, Is: api.Scope, Node: 6}, {ID: 9, Up: 8, Is: api.Token}, {ID: 10, Up: 9, Is: api.Scope, Node: 7},
	}}
	s.Cells = []api.Cell{
		cell(1, "x", num(1)), cell(1, "z", text("one")), cell(3, "y", num(2)), cell(5, "x", num(5)), cell(7, "w", num(7)), cell(8, "x", text("eight")), cell(8, "x", text("later")), cell(10, "y", num(10)), cell(12, "x", num(12)),
	}
	return s
}

func TestP19_1Examples(t *testing.T) {
	s := base()
	if c, ok := vars.Seen(s, 3, "x"); !ok || c != cell(1, "x", num(1)) {
		t.Error(c, ok)
	}
	if c, ok := vars.Seen(s, 3, "y"); !ok || c != cell(3, "y", num(2)) {
		t.Error(c, ok)
	}
	n, e := vars.Put(s, 3, []api.Set{set("x", num(5))})
	if c := vars.Cells(n, 1); e != api.OK || c[0] != cell(1, "x", num(5)) {
		t.Error(c, e)
	}
	if !slices.Equal(vars.Way(s, 5), []int{5}) {
		t.Error(vars.Way(s, 5))
	}
}

func TestP19_1Way(t *testing.T) {
	s := base()
	for scope, want := range map[int][]int{1: {1}, 3: {3, 1}, 5: {5}, 7: {7, 5}, 8: {8, 3, 1}, 10: {10, 8, 3, 1}, 2: nil, 4: nil, 12: nil, 0: nil, -1: nil} {
		if got := vars.Way(s, scope); !slices.Equal(got, want) {
			t.Error(scope, got)
		}
	}
	// Ways that go round, or lead nowhere.
	odd := api.State{Items: []api.Item{
		{ID: 1, Up: 2, Is: api.Scope, Node: 0}, {ID: 2, Up: 3, Is: api.Scope, Node: 0}, {ID: 3, Up: 1, Is: api.Token}, {ID: 4, Up: 4, Is: api.Scope, Node: 0}, {ID: 5, Up: 99, Is: api.Scope, Node: 0}, {ID: 6, Up: 7, Is: api.Scope, Node: 0}, {ID: 7, Up: 8, Is: api.Token}, {ID: 8, Up: 1, Is: api.Token},
		{ID: 9, Up: 0, Is: api.Scope, Node: 0}, {ID: 10, Up: 11, Is: api.Scope, Node: 0}, {ID: 11, Up: 10, Is: api.Token},
	}}
	for scope, want := range map[int][]int{1: {1, 2}, 2: {2, 1}, 4: {4}, 5: {5}, 6: {6}, 9: {9}, 10: {10}} {
		if got := vars.Way(odd, scope); !slices.Equal(got, want) {
			t.Error(scope, got)
		}
	}
}

func TestP19_1Seen(t *testing.T) {
	s := base()
	for _, c := range []struct {
		scope int
		name  string
		want  api.Cell
	}{
		{10, "x", cell(8, "x", text("eight"))}, {10, "y", cell(10, "y", num(10))}, {8, "y", cell(3, "y", num(2))}, {8, "z", cell(1, "z", text("one"))}, {7, "x", cell(5, "x", num(5))}, {7, "z", api.Cell{}}, {7, "y", api.Cell{}},
		{5, "z", api.Cell{}}, {3, "w", api.Cell{}}, {12, "x", api.Cell{}}, {2, "x", api.Cell{}}, {1, "", api.Cell{}},
	} {
		if got, ok := vars.Seen(s, c.scope, c.name); got != c.want || ok != (c.want != api.Cell{}) {
			t.Error(c.scope, c.name, got, ok)
		}
	}
	for scope, want := range map[int]int{1: 2, 3: 1, 8: 2, 12: 1, 4: 0} {
		if got := vars.Cells(s, scope); len(got) != want {
			t.Error(scope, got)
		}
	}
	if got := vars.Env(s, 10); !slices.Equal(got, []api.Set{set("y", num(10)), set("x", text("eight")), set("x", text("later")), set("y", num(2)), set("x", num(1)), set("z", text("one"))}) {
		t.Error(got)
	}
	if got := vars.Env(s, 7); !slices.Equal(got, []api.Set{set("w", num(7)), set("x", num(5))}) {
		t.Error(got)
	}
	if len(vars.Env(s, 12)) != 0 || len(vars.Env(s, 4)) != 0 {
		t.Error("Env of what is no scope")
	}
}

func TestP19_2Open(t *testing.T) {
	s := base()
	n := vars.Open(s, 3, []api.Var{{Name: "b", Init: num(1)}, {Name: "y", Init: text("new")}, {Name: "a", Init: num(2)}, {Name: "b", Init: num(3)}})
	want := []api.Cell{
		cell(1, "x", num(1)), cell(1, "z", text("one")), cell(3, "a", num(2)), cell(3, "b", num(1)), cell(3, "y", text("new")), cell(5, "x", num(5)), cell(7, "w", num(7)), cell(8, "x", text("eight")), cell(8, "x", text("later")), cell(10, "y", num(10)), cell(12, "x", num(12)),
	}
	if !slices.Equal(n.Cells, want) || !arena.Same(s, base()) {
		t.Error(n.Cells)
	}
	n.Cells = s.Cells
	if !arena.Same(n, s) {
		t.Error("something else changed")
	}
	n = vars.Open(s, 8, []api.Var{{Name: "x", Init: num(0)}})
	if got := vars.Cells(n, 8); !slices.Equal(got, []api.Cell{cell(8, "x", num(0))}) {
		t.Error(got)
	}
	// All cells are sorted; those of one scope and name keep their order. A scope need not be there.
	s.Cells = []api.Cell{cell(9, "b", num(1)), cell(2, "z", num(2)), cell(2, "z", num(1)), cell(9, "a", num(3)), cell(2, "y", num(4)), cell(2, "z", num(0))}
	n = vars.Open(s, 77, []api.Var{{Name: "v"}})
	if want := []api.Cell{cell(2, "y", num(4)), cell(2, "z", num(2)), cell(2, "z", num(1)), cell(2, "z", num(0)), cell(9, "a", num(3)), cell(9, "b", num(1)), cell(77, "v", api.Value{})}; !slices.Equal(n.Cells, want) {
		t.Error(n.Cells)
	}
	if n = vars.Open(s, 77, nil); n.Cells[0] != cell(2, "y", num(4)) || len(n.Cells) != 6 || s.Cells[0] != cell(9, "b", num(1)) {
		t.Error(n.Cells)
	}
}

func TestP19_2Put(t *testing.T) {
	s := base()
	for i, c := range []struct {
		scope int
		sets  []api.Set
		want  api.Errno
	}{
		{3, nil, api.OK}, {99, nil, api.OK}, {3, []api.Set{set("x", num(1)), set("y", num(2))}, api.OK}, {3, []api.Set{set("w", num(1))}, api.ErrName}, {99, []api.Set{set("x", num(1))}, api.ErrName}, {2, []api.Set{set("x", num(1))}, api.ErrName},
		{3, []api.Set{set("x", text("t"))}, api.ErrType}, {3, []api.Set{set("x", api.Value{})}, api.ErrType}, {3, []api.Set{set("x", api.Value{Kind: api.Int, T: "t"})}, api.ErrType}, {8, []api.Set{set("x", text("'"))}, api.ErrType}, {8, []api.Set{set("x", num(1))}, api.ErrType},
		{3, []api.Set{set("x", num(9)), set("w", num(1))}, api.ErrName}, {3, []api.Set{set("x", num(9)), set("x", text("t"))}, api.ErrType}, {3, []api.Set{set("w", num(9)), set("x", text("t"))}, api.ErrName}, {3, []api.Set{set("x", text("")), set("w", num(1))}, api.ErrType},
	} {
		n, e := vars.Put(s, c.scope, c.sets)
		if e != c.want || e != api.OK && !arena.Same(n, s) || !arena.Same(s, base()) {
			t.Error(i, e)
		}
	}
	n, e := vars.Put(s, 10, []api.Set{set("x", text("a")), set("y", num(3)), set("z", text("b")), set("x", text("c"))})
	want := base().Cells
	want[5].V, want[7].V, want[1].V = text("c"), num(3), text("b")
	if e != api.OK || !slices.Equal(n.Cells, want) {
		t.Error(n.Cells, e)
	}
	n.Cells = s.Cells
	if !arena.Same(n, s) {
		t.Error("something else changed")
	}
}

func TestP19_2Drop(t *testing.T) {
	s := base()
	for _, c := range []struct {
		scopes []int
		left   []int
	}{
		{nil, []int{1, 1, 3, 5, 7, 8, 8, 10, 12}}, {[]int{8, 1}, []int{3, 5, 7, 10, 12}}, {[]int{99, 2}, []int{1, 1, 3, 5, 7, 8, 8, 10, 12}}, {[]int{12, 12, 10}, []int{1, 1, 3, 5, 7, 8, 8}}, {[]int{1, 3, 5, 7, 8, 10, 12}, nil},
	} {
		n := vars.Drop(s, c.scopes)
		var left []int
		for _, x := range n.Cells {
			left = append(left, x.Scope)
		}
		if !slices.Equal(left, c.left) || !arena.Same(s, base()) {
			t.Error(c.scopes, left)
		}
		n.Cells = s.Cells
		if !arena.Same(n, s) {
			t.Error("something else changed")
		}
	}
}

// random returns a state of scopes and tokens below one another, with cells, and all its scopes.
func random(r *rand.Rand) (api.State, []int) {
	var s api.State
	var scopes, all []int
	for range 4 + r.Intn(16) {
		it := api.Item{Is: []uint8{api.Scope, api.Token}[r.Intn(2)], Node: r.Intn(4) - 1}
		if len(all) > 0 && r.Intn(8) > 0 {
			it.Up = all[r.Intn(len(all))]
		}
		n, id, e := arena.Add(s, it)
		if e != api.OK {
			continue
		}
		s, all = n, append(all, id)
		if it.Is == api.Scope {
			scopes = append(scopes, id)
			var l []api.Var
			for range r.Intn(4) {
				l = append(l, api.Var{Name: []string{"a", "b", "c", "d"}[r.Intn(4)], Init: []api.Value{num(int64(id)), text("t")}[r.Intn(2)]})
			}
			s = vars.Open(s, id, l)
		}
	}
	return s, scopes
}

func TestP19_3To7Random(t *testing.T) {
	r := rand.New(rand.NewSource(190))
	names := []string{"a", "b", "c", "d", "e"}
	for range 1500 {
		s, scopes := random(r)
		if len(scopes) == 0 {
			continue
		}
		id := scopes[r.Intn(len(scopes))]
		// P19.3, P19.6: opening is seen from the scopes that see it, and from no others; dropping it leaves what was there.
		empty := vars.Drop(s, []int{id})
		open := vars.Open(empty, id, []api.Var{{Name: "e", Init: num(77)}})
		for _, other := range scopes {
			c, ok := vars.Seen(open, other, "e")
			if sees := slices.Contains(vars.Way(s, other), id); ok != sees || ok && c != cell(id, "e", num(77)) {
				t.Fatal("opened", id, other, c)
			}
			for _, name := range names[:4] {
				a, ok1 := vars.Seen(empty, other, name)
				b, ok2 := vars.Seen(open, other, name)
				if a != b || ok1 != ok2 {
					t.Fatal("another name", name)
				}
			}
		}
		if !arena.Same(vars.Drop(open, []int{id}), empty) {
			t.Fatal("dropped")
		}
		// P19.4, P19.5: exactly the visible cell changes.
		name, v := names[r.Intn(5)], []api.Value{num(99), text("new")}[r.Intn(2)]
		before, ok := vars.Seen(s, id, name)
		n, e := vars.Put(s, id, []api.Set{set(name, v)})
		if want := map[bool]api.Errno{true: api.ErrType, false: api.ErrName}[ok]; (!ok || before.V.Kind != v.Kind) != (e != api.OK) || e != api.OK && e != want {
			t.Fatal(e, ok)
		}
		if e == api.OK {
			for i, c := range s.Cells {
				d := n.Cells[i]
				if changed := c.Scope == before.Scope && c.Name == name; d.Scope != c.Scope || d.Name != c.Name || !changed && d != c || changed && d.V != v || d.V.Kind != c.V.Kind {
					t.Fatal("Put", c, d)
				}
			}
			if !slices.Contains(vars.Way(s, id), before.Scope) {
				t.Fatal("a scope that it does not see")
			}
		}
		// P19.7: the first entry of a name is the visible one.
		env := vars.Env(s, id)
		for _, name := range names {
			c, ok := vars.Seen(s, id, name)
			i := slices.IndexFunc(env, func(x api.Set) bool { return x.Name == name })
			if ok != (i >= 0) || ok && env[i].V != c.V {
				t.Fatal("Env", name)
			}
		}
		if !slices.IsSortedFunc(s.Cells, func(a, b api.Cell) int {
			return cmp.Or(cmp.Compare(a.Scope, b.Scope), cmp.Compare(a.Name, b.Name))
		}) {
			t.Fatal("cells are not sorted")
		}
		if it, _ := arena.Find(s, id); it.Node == -1 && !slices.Equal(vars.Way(s, id), []int{id}) {
			t.Fatal("a scope of a whole process")
		}
	}
}

func TestR1NewMemory(t *testing.T) {
	s := base()
	vars.Cells(s, 1)[0].Name = "!"
	vars.Env(s, 1)[0].Name = "!"
	n, _ := vars.Put(s, 1, []api.Set{set("x", num(4))})
	vars.Put(n, 1, []api.Set{set("x", num(8))})
	if !arena.Same(s, base()) || n.Cells[0].V != num(4) {
		t.Error("something was overwritten")
	}
}

func TestR1AnyState(t *testing.T) {
	r := rand.New(rand.NewSource(191))
	for range 5000 {
		var s api.State
		for range r.Intn(9) {
			s.Items = append(s.Items, api.Item{ID: r.Intn(9), Up: r.Intn(9), Is: uint8(r.Intn(4)), Node: r.Intn(4) - 2})
			s.Cells = append(s.Cells, cell(r.Intn(9), []string{"a", "b"}[r.Intn(2)], api.Value{Kind: uint8(r.Intn(5)), N: int64(r.Intn(3))}))
		}
		before := arena.Copy(s)
		for id := range 9 {
			vars.Seen(s, id, "a")
			vars.Env(s, id)
			vars.Open(s, id, []api.Var{{Name: "a"}, {Name: "a", Init: num(1)}})
			vars.Put(s, id, []api.Set{set("a", num(1)), set("b", api.Value{})})
			if l := vars.Way(s, id); len(l) > len(s.Items) || len(vars.Cells(vars.Drop(s, []int{id}), id)) > 0 {
				t.Fatal(l)
			}
		}
		if !arena.Same(s, before) {
			t.Fatal("a state was modified")
		}
	}
}
