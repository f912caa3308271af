package subs_test

import (
	"math"
	"math/rand"
	"slices"
	"testing"

	"callboard/api"
	"callboard/arena"
	"callboard/sketch"
	"callboard/subs"
)

func num(n int64) api.Value { return api.Value{Kind: api.Int, N: n} }

var p = sketch.Process(`p n=2
	catch sig signal:k
	catch tim timer:2+3
	catch cond cond:n<3
	task t
	bound b @t timer:n*10
	bound f @t error:k breaks
	catch neg timer:n-5
	catch zero timer:0
	catch far timer:1099511627776
	catch type timer:n<3
	catch name timer:q
	catch div timer:1/0
	catch form timer:1+
	aside a
	.start as timer:n+1
	part w n=100
	.catch in timer:n
	catch most timer:9223372036854775807
	bound bc @t cond:yes
	bound bs @t signal:l
	throw th signal:m`)

func at(name string) int { return sketch.At(p, name) }

// base: scope 1 with a cell n, token 2 in it, scope 3 of the Part below token 4, with a cell n, token 5 in that.
func base() api.State {
	return api.State{Clock: 10, Next: 7, Defs: []api.Process{p}, Items: []api.Item{
		{ID: 1, Is: api.Scope, Proc: "p", Node: -1}, {ID: 2, Up: 1, Is: api.Token, Proc: "p", Node: 3}, {ID: 4, Up: 1, Is: api.Token, Proc: "p", Node: at("w")}, {ID: 5, Up: 4, Is: api.Scope, Proc: "p", Node: at("w")}, {ID: 6, Up: 5, Is: api.Token, Proc: "p", Node: at("in")},
		{ID: 7, Up: 1, Is: api.Token, Proc: "gone"},
	}, Cells: []api.Cell{{Scope: 1, Name: "n", V: num(2)}, {Scope: 5, Name: "n", V: num(100)}}}
}

func TestP20_1Add(t *testing.T) {
	for _, c := range []struct {
		item int
		node string
		want api.Watch
		e    api.Errno
	}{
		{2, "sig", api.Watch{Event: api.Signal, Key: "k"}, api.OK}, {2, "tim", api.Watch{Event: api.Timer, Due: 15}, api.OK}, {2, "cond", api.Watch{Event: api.Cond, Armed: true}, api.OK}, {2, "b", api.Watch{Event: api.Timer, Due: 30}, api.OK},
		{2, "bs", api.Watch{Event: api.Signal, Key: "l"}, api.OK}, {2, "bc", api.Watch{Event: api.Cond, Armed: true}, api.OK}, {1, "as", api.Watch{Event: api.Timer, Due: 13}, api.OK}, {5, "as", api.Watch{Event: api.Timer, Due: 111}, api.OK}, {6, "in", api.Watch{Event: api.Timer, Due: 110}, api.OK}, {4, "in", api.Watch{Event: api.Timer, Due: 12}, api.OK},
		{2, "zero", api.Watch{Event: api.Timer, Due: 10}, api.OK}, {2, "th", api.Watch{Event: api.Signal, Key: "m"}, api.OK},
		{2, "neg", api.Watch{}, api.ErrRange}, {2, "far", api.Watch{}, api.ErrTooLarge}, {2, "most", api.Watch{}, api.ErrTooLarge}, {2, "type", api.Watch{}, api.ErrType}, {2, "name", api.Watch{}, api.ErrName}, {2, "div", api.Watch{}, api.ErrZero}, {2, "form", api.Watch{}, api.ErrForm},
		{2, "t", api.Watch{}, api.ErrForm}, {2, "f", api.Watch{}, api.ErrForm}, {3, "sig", api.Watch{}, api.ErrNone}, {99, "t", api.Watch{}, api.ErrNone}, {2, "nothing", api.Watch{}, api.ErrNone}, {7, "sig", api.Watch{}, api.ErrNone},
	} {
		s := base()
		n, e := subs.Add(s, c.item, at(c.node))
		if e != c.e || !arena.Same(s, base()) {
			t.Error(c.node, e)
		}
		if e != api.OK {
			if !arena.Same(n, s) {
				t.Error(c.node, "something changed")
			}
			continue
		}
		c.want.ID, c.want.Item, c.want.Node = 8, c.item, at(c.node)
		w, ok := subs.Find(n, 8)
		if w != c.want || !ok || n.Next != 8 || !slices.Equal(n.Watches, []api.Watch{w}) {
			t.Error(c.node, w)
		}
		n.Watches, n.Next = nil, 7
		if !arena.Same(n, s) {
			t.Error(c.node, "something else changed")
		}
	}
	if _, e := subs.Add(base(), 2, len(p.Nodes)); e != api.ErrNone {
		t.Error(e)
	}
}

func TestP20_1Limits(t *testing.T) {
	s := base()
	for range api.MaxItems {
		var e api.Errno
		if s, e = subs.Add(s, 2, at("sig")); e != api.OK {
			t.Fatal(e)
		}
	}
	if n, e := subs.Add(s, 2, at("sig")); e != api.ErrTooLarge || !arena.Same(n, s) {
		t.Error(e)
	}
	if _, e := subs.Add(s, 2, at("neg")); e != api.ErrRange {
		t.Error(e)
	}
	if _, e := subs.Add(s, 2, at("t")); e != api.ErrForm {
		t.Error(e)
	}
	s = base()
	s.Next = api.MaxNumber - 1
	s, e := subs.Add(s, 2, at("sig"))
	if w, ok := subs.Find(s, api.MaxNumber); e != api.OK || !ok || w.ID != api.MaxNumber {
		t.Error(e)
	}
	if n, e := subs.Add(s, 2, at("sig")); e != api.ErrTooLarge || !arena.Same(n, s) {
		t.Error(e)
	}
	for clock, want := range map[int]api.Errno{api.MaxClock - 5: api.OK, api.MaxClock - 4: api.ErrTooLarge, api.MaxClock: api.ErrTooLarge, math.MaxInt: api.ErrTooLarge} {
		s := base()
		s.Clock = clock
		n, e := subs.Add(s, 2, at("tim"))
		if e != want || e == api.OK && n.Watches[0].Due != api.MaxClock {
			t.Error(clock, e)
		}
	}
	s = base()
	s.Clock = 0
	if n, e := subs.Add(s, 2, at("far")); e != api.OK || n.Watches[0].Due != api.MaxClock {
		t.Error(e)
	}
}

func watches() api.State {
	s := base()
	s.Watches = []api.Watch{
		{ID: 8, Item: 2, Node: at("b"), Event: api.Timer, Due: 9}, {ID: 9, Item: 1, Event: api.Signal, Key: "k"}, {ID: 11, Item: 2, Event: api.Timer, Due: 3}, {ID: 12, Item: 2, Event: api.Cond, Armed: true}, {ID: 13, Item: 6, Event: api.Timer, Due: 10},
		{ID: 14, Item: 6, Event: api.Timer, Due: 11}, {ID: 15, Item: 2, Event: api.Signal, Key: "k"}, {ID: 16, Item: 2, Event: api.Signal, Key: "l"}, {ID: 17, Item: 4, Event: api.Timer, Due: 3}, {ID: 18, Item: 5, Event: api.Cond}, {ID: 19, Item: 2, Event: api.Signal, Due: 1, Key: "k"},
	}
	s.Next = 19
	return s
}

func find(t *testing.T, s api.State, id int) api.Watch {
	t.Helper()
	w, ok := subs.Find(s, id)
	if !ok {
		t.Fatal(id)
	}
	return w
}

func all(s api.State) []int {
	var l []int
	for _, w := range s.Watches {
		l = append(l, w.ID)
	}
	return l
}

func TestP20_2Lists(t *testing.T) {
	s := watches()
	for _, c := range []struct{ got, want []int }{
		{subs.Due(s), []int{11, 17, 8, 13}}, {subs.Named(s, "k"), []int{9, 15, 19}}, {subs.Named(s, "l"), []int{16}}, {subs.Named(s, "m"), nil}, {subs.Named(s, ""), nil}, {subs.Conds(s), []int{12, 18}},
		{all(subs.Drop(s, []int{9, 18, 18, 77})), []int{8, 11, 12, 13, 14, 15, 16, 17, 19}}, {all(subs.Drop(s, nil)), all(s)}, {all(subs.DropOf(s, []int{2, 99})), []int{9, 13, 14, 17, 18}}, {all(subs.DropOf(s, []int{6, 5, 1})), []int{8, 11, 12, 15, 16, 17, 19}},
	} {
		if !slices.Equal(c.got, c.want) {
			t.Error(c.got, c.want)
		}
	}
	if got := subs.Of(s, 6); len(got) != 2 || got[0].ID != 13 || got[1].ID != 14 || len(subs.Of(s, 99)) != 0 {
		t.Error(got)
	}
	if w, ok := subs.Find(s, 10); ok || w != (api.Watch{}) {
		t.Error(w)
	}
	subs.Of(s, 6)[0].Key = "!"
	subs.Drop(s, []int{8}).Watches[0].Key = "!"
	if !arena.Same(s, watches()) {
		t.Error("something was overwritten")
	}
	// Also of watches that are in no order.
	slices.Reverse(s.Watches)
	if !slices.Equal(subs.Due(s), []int{11, 17, 8, 13}) || !slices.Equal(subs.Named(s, "k"), []int{9, 15, 19}) || !slices.Equal(subs.Conds(s), []int{12, 18}) {
		t.Error("the order")
	}
}

func TestP20_1Turn(t *testing.T) {
	s := watches()
	w := find(t, s, 12)
	w.Armed, w.Item = false, 4
	n := subs.Turn(s, w)
	for i, x := range n.Watches {
		if x.ID == 12 && x != w || x.ID != 12 && x != s.Watches[i] {
			t.Error(x)
		}
	}
	if !arena.Same(s, watches()) || !arena.Same(subs.Turn(n, find(t, s, 12)), s) {
		t.Error("turned back")
	}
	first := find(t, s, 8)
	first.Due = 77
	if n := subs.Turn(s, first); n.Watches[0] != first {
		t.Error(n.Watches[0])
	}
	w.ID = 10
	if !arena.Same(subs.Turn(s, w), s) {
		t.Error("a watch that is not there")
	}
	s.Watches = append(s.Watches, api.Watch{ID: 12, Key: "second"})
	w.ID = 12
	if n := subs.Turn(s, w); n.Watches[3] != w || n.Watches[11].Key != "second" || find(t, s, 12).Key != "" {
		t.Error("the first watch of an ID")
	}
}

func TestP20_3To6Random(t *testing.T) {
	r := rand.New(rand.NewSource(200))
	nodes := []string{"sig", "tim", "cond", "b", "zero", "bc", "bs", "neg"}
	for range 300 {
		s := base()
		for range r.Intn(30) {
			item := []int{1, 2, 5, 6}[r.Intn(4)]
			before := s
			n, e := subs.Add(s, item, at(nodes[r.Intn(len(nodes))]))
			if e != api.OK {
				if !arena.Same(n, s) {
					t.Fatal("something changed")
				}
				continue
			}
			of := subs.Of(n, item)
			if last := of[len(of)-1]; last.ID != before.Next+1 || n.Next != last.ID || len(n.Watches) != len(s.Watches)+1 || !slices.Equal(n.Watches[:len(s.Watches)], s.Watches) {
				t.Fatal("added", last)
			}
			s = n
			s.Clock += r.Intn(4)
		}
		later := s
		later.Clock += r.Intn(20)
		early, late := subs.Due(s), subs.Due(later)
		if len(early) > len(late) || !slices.Equal(early, late[:len(early)]) {
			t.Fatal("due", early, late)
		}
		for _, id := range late {
			if w := find(t, s, id); w.Event != api.Timer || w.Due > later.Clock {
				t.Fatal(w)
			}
		}
		for _, w := range s.Watches {
			later.Clock = api.MaxClock
			count := 0
			for _, l := range [][]int{subs.Due(later), subs.Named(s, w.Key), subs.Conds(s)} {
				if slices.Contains(l, w.ID) {
					count++
				}
			}
			if count != 1 {
				t.Fatal("partition", w, count)
			}
		}
		var gone []int
		for _, w := range s.Watches {
			if r.Intn(3) == 0 {
				gone = append(gone, w.ID)
			}
		}
		n := subs.Drop(s, gone)
		if !arena.Same(subs.Drop(n, gone), n) || len(n.Watches) != len(s.Watches)-len(gone) {
			t.Fatal("dropped again")
		}
		for _, w := range s.Watches {
			if got, ok := subs.Find(n, w.ID); ok == slices.Contains(gone, w.ID) || ok && got != w {
				t.Fatal("dropped", w)
			}
		}
		item := []int{1, 2, 5, 6}[r.Intn(4)]
		n = subs.DropOf(s, []int{item})
		if len(subs.Of(n, item)) != 0 || len(n.Watches) != len(s.Watches)-len(subs.Of(s, item)) {
			t.Fatal("dropped of", item)
		}
	}
}

func TestR1AnyState(t *testing.T) {
	r := rand.New(rand.NewSource(201))
	for range 5000 {
		s := api.State{Next: r.Intn(20) - 3, Clock: []int{0, -5, math.MinInt, math.MaxInt, api.MaxClock}[r.Intn(5)], Defs: []api.Process{p}}
		for range r.Intn(9) {
			s.Items = append(s.Items, api.Item{ID: r.Intn(9), Up: r.Intn(9), Is: uint8(r.Intn(4)), Proc: []string{"p", "none"}[r.Intn(2)], Node: r.Intn(4) - 2})
			s.Watches = append(s.Watches, api.Watch{ID: r.Intn(9), Item: r.Intn(9), Event: uint8(r.Intn(9)), Due: r.Intn(9) - 3})
		}
		before := arena.Copy(s)
		for id := range 9 {
			subs.Add(s, id, r.Intn(len(p.Nodes)+4)-2)
			subs.Turn(s, api.Watch{ID: id})
			if len(subs.Of(subs.DropOf(s, []int{id}), id)) > 0 {
				t.Fatal(id)
			}
			if _, ok := subs.Find(subs.Drop(s, []int{id}), id); ok {
				t.Fatal(id)
			}
		}
		subs.Due(s)
		subs.Conds(s)
		subs.Named(s, "")
		if !arena.Same(s, before) {
			t.Fatal("a state was modified")
		}
	}
}
