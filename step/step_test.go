package step_test

import (
	"math/rand"
	"slices"
	"strings"
	"testing"

	"callboard/api"
	"callboard/arena"
	"callboard/cancel"
	"callboard/cast"
	"callboard/enter"
	"callboard/finish"
	"callboard/fire"
	"callboard/gate"
	"callboard/model"
	"callboard/route"
	"callboard/sketch"
	"callboard/step"
	"callboard/subs"
	"callboard/valid"
	"callboard/vars"
)

func num(n int64) api.Value { return api.Value{Kind: api.Int, N: n} }

var sub = sketch.Process("sub n=1; start s; task t; end e; s>t>e")

// state opens a process, with a single token, at a node.
func state(t *testing.T, text, node string) (api.State, int) {
	t.Helper()
	p := sketch.Process(text)
	if e := valid.Check([]api.Process{sub}, p); e != api.OK {
		t.Fatal(text, e)
	}
	s, id, e := enter.Open(api.State{Clock: 4, Defs: []api.Process{sub, p}}, 0, "p", -1, sketch.At(p, node))
	if e != api.OK {
		t.Fatal(e)
	}
	return s, arena.Kids(s, id)[0]
}

func do(t *testing.T, s api.State, kind uint8, id int) api.State {
	t.Helper()
	n, e := step.Do(s, step.Rule{Kind: kind, ID: id}, nil)
	if e != api.OK {
		t.Fatal(kind, id, e)
	}
	return n
}

func rules(t *testing.T, s api.State) []step.Rule {
	t.Helper()
	l, e := step.Rules(s)
	if e != api.OK {
		t.Fatal(e)
	}
	return l
}

// tokens tells the tokens of a state: the names of their nodes, and how they wait.
func tokens(s api.State) string {
	var l []string
	for _, it := range s.Items {
		if it.Is == api.Token {
			n, _ := arena.NodeOf(s, it)
			l = append(l, n.Name+[]string{"?", "", "+works", "+holds", "+awaits", "+joins", "+stuck:" + it.Code}[it.Wait])
		}
	}
	return strings.Join(l, " ")
}

func TestP28_1Examples(t *testing.T) {
	if l, e := step.Rules(api.State{}); len(l) != 0 || e != api.OK {
		t.Error(l, e)
	}
	s, id := state(t, "p; start s; task t; end e; s>t>e", "s")
	if l := rules(t, s); !slices.Equal(l, []step.Rule{{step.Moves, id}}) {
		t.Error(l)
	}
	if n := do(t, s, step.Moves, id); tokens(n) != "t" || n.Items[1].ID != id+1 || n.Items[1].From != 0 {
		t.Error(n.Items)
	}
	s, id = state(t, "p; start s; end e error:k; s>e", "e")
	if n := do(t, s, step.Moves, id); tokens(n) != "e+stuck:!k" || n.Items[1].ID != id || len(rules(t, n)) != 0 {
		t.Error(n.Items)
	}
	if step.Moves != 1 || step.Joined != 2 || step.Ends != 3 || step.Turns != 4 {
		t.Error("the Kinds")
	}
}

func TestP28_1Moves(t *testing.T) {
	for _, c := range []struct{ text, node, want string }{
		{"p; start s; task a; task b; end e; s>a; s>b; a>e; b>e", "s", "a b"},
		{"p; start s signal:k; end e; s>e", "s", "e"},
		{"p; start s; throw a; end e; s>a>e", "a", "e"},
		{"p; start s; throw a link:k; catch b link:k; end e; s>a; b>e", "a", "b"},
		{"p; start s; throw a link:k; catch b link:k; end e; s>a; b>e", "b", "e"},
		{"p; start s; throw a signal:k; end e; s>a>e", "a", "e"},
		{"p; start s; throw a escalate:k; end e; s>a>e", "a", "e"},
		{"p; start s; task t; end e; s>t>e", "t", "t+works"},
		{"p; start s; part w; .start a; .end b; end e; s>w>e; a>b", "w", "w+holds a"},
		{"p; start s; adhoc w text:yes; .task a; end e; s>w>e", "w", "w+holds"},
		{"p; start s; call c key:sub; end e; s>c>e", "c", "c+holds s"},
		{"p; start s; catch c signal:k; end e; s>c>e", "c", "c+awaits"},
		{"p; start s; catch c timer:3; end e; s>c>e", "c", "c+awaits"},
		{"p; start s; catch c cond:no; end e; s>c>e", "c", "c+awaits"},
		{"p; start s; race r; catch a signal:k; catch b timer:1; end e; s>r; r>a>e; r>b>e", "r", "r+awaits"},
		{"p n=1; start s; xor x; task a; task b; end e; s>x; x>a if n<1; x>b else; a>e; b>e", "x", "b"},
		{"p n=1; start s; xor x; task a; task b; end e; s>x; x>a if n<2; x>b if yes; a>e; b>e", "x", "a"},
		{"p n=1; start s; xor x; task a; task b; end e; s>x; x>a if n<1; x>b if no; a>e; b>e", "x", "x+stuck:way"},
		{"p n=1; start s; xor x; end e; s>x>e", "x", "e"},
		{"p n=1; start s; some x; task a; task b; end e; s>x; x>a if yes; x>b if n==1; a>e; b>e", "x", "a b"},
		{"p n=1; start s; some x; task a; task b; end e; s>x; x>a if no; x>b if n==2; a>e; b>e", "x", "x+stuck:way"},
		{"p n=1; start s; all x; task a; task b; end e; s>x; x>a; x>b; a>e; b>e", "x", "a b"},
		{"p n=1; start s; all x; task a; end e; s>x; s>a; a>x; x>e", "x", "x+joins"},
		{"p n=1; start s; some x; task a; end e; s>x; s>a; a>x; x>e", "x", "x+joins"},
		{"p; start s; end e; s>e", "e", ""},
		{"p; start s; end e signal:k; s>e", "e", ""},
		{"p; start s; end e escalate:k; s>e", "e", ""},
		{"p; start s; end e finish; s>e", "e", ""},
		{"p; start s; end e error:k; s>e", "e", "e+stuck:!k"},
	} {
		s, id := state(t, c.text, c.node)
		n := do(t, s, step.Moves, id)
		if got := tokens(n); got != c.want {
			t.Error(c.text, c.node, got)
		}
		if !arena.Sound(n) || !slices.Contains(rules(t, s), step.Rule{step.Moves, id}) {
			t.Error(c.text, "not sound")
		}
		if x, _ := arena.Find(s, id); x.Wait != api.Ready {
			t.Error("a state was modified")
		}
	}
}

func TestP28_1MovesInDetail(t *testing.T) {
	// A Link: the token is put without a flow.
	s, id := state(t, "p; start s; throw a link:k; catch b link:k; end e; s>a; b>e", "a")
	if n := do(t, s, step.Moves, id); n.Items[1] != (api.Item{ID: id + 1, Up: 1, Is: api.Token, Proc: "p", Node: 2, From: -1, Wait: api.Ready}) {
		t.Error(n.Items)
	}
	// Watches: of a Catch, and of a Race in the order of its flows.
	s, id = state(t, "p n=3; start s; catch c timer:n*2; end e; s>c>e", "c")
	if n := do(t, s, step.Moves, id); !slices.Equal(n.Watches, []api.Watch{{ID: id + 1, Item: id, Node: 1, Event: api.Timer, Due: 10}}) {
		t.Error(n.Watches)
	}
	s, id = state(t, "p; start s; race r; catch a signal:k; catch b timer:1; catch c cond:no; end e; s>r; r>b>e; r>c>e; r>a>e", "r")
	if n := do(t, s, step.Moves, id); !slices.Equal(n.Watches, []api.Watch{{ID: id + 1, Item: id, Node: 3, Event: api.Timer, Due: 5}, {ID: id + 2, Item: id, Node: 4, Event: api.Cond, Armed: true}, {ID: id + 3, Item: id, Node: 2, Event: api.Signal, Key: "k"}}) {
		t.Error(n.Watches)
	}
	// A Calc sets the visible variable.
	s, id = state(t, "p n=3; start s; part w n=10; .start a; .calc c n=n+1; .end b; end e; s>w>e; a>c>b", "w")
	s = do(t, s, step.Moves, id)
	scope := arena.Kids(s, id)[0]
	s = do(t, s, step.Moves, arena.Kids(s, scope)[0])
	s = do(t, s, step.Moves, arena.Kids(s, scope)[0])
	if a, _ := vars.Seen(s, scope, "n"); a != (api.Cell{Scope: scope, Name: "n", V: num(11)}) || tokens(s) != "w+holds b" {
		t.Error(a, tokens(s))
	}
	if b, _ := vars.Seen(s, 1, "n"); b.V != num(3) {
		t.Error(b)
	}
	// Finish: everything in the scope, and its watches.
	s, id = state(t, "p; start s; task t; end e finish; s>t>e; aside a; .start b signal:k; .end c; b>c", "t")
	s = do(t, s, step.Moves, id)
	s, id, _ = enter.Put(s, 1, 2, -1)
	if n := do(t, s, step.Moves, id); len(n.Items) != 1 || len(n.Watches) != 0 || len(s.Watches) != 1 {
		t.Error(n)
	}
}

// inPart opens a Part with a token at a node in it.
func inPart(t *testing.T, text, node string) (api.State, int) {
	t.Helper()
	s, id := state(t, text, "w")
	s = do(t, s, step.Moves, id)
	scope := arena.Kids(s, id)[0]
	s = cancel.Clear(s, scope)
	p, _ := arena.Def(s, "p")
	s, id, e := enter.Put(s, scope, sketch.At(p, node), -1)
	if e != api.OK {
		t.Fatal(e)
	}
	return s, id
}

func TestP28_1Raising(t *testing.T) {
	text := func(throw, end, handlers string) string {
		return "p; start s; part w; .start a; .throw u " + throw + "; .end v " + end + "; " + handlers + "; end e; end f; s>w>e; a>u>v"
	}
	for _, c := range []struct{ throw, end, handlers, flows, node, want string }{
		{"escalate:k", "", "bound b @w escalate:k breaks", "; b>f", "u", "f"},
		{"escalate:k", "", "bound b @w escalate:k", "; b>f", "u", "w+holds f v"},
		{"escalate:k", "", "bound b @w escalate:l", "; b>f", "u", "w+holds v"},
		{"escalate:k", "", "bound b @w error:k breaks", "; b>f", "u", "w+holds v"},
		{"escalate:k", "", ".aside x; ..start y escalate: breaks; ..end z", "; y>z; w>f", "u", "w+holds y"},
		{"escalate:k", "", ".aside x; ..start y escalate:; ..end z", "; y>z; w>f", "u", "w+holds y v"},
		{"", "escalate:k", "bound b @w escalate:k breaks", "; b>f", "v", "f"},
		{"", "escalate:k", "bound b @w escalate:k", "; b>f", "v", "w+holds f"},
		{"", "escalate:k", "bound b @w escalate:l", "; b>f", "v", "w+holds"},
		{"", "error:k", "bound b @w error:k breaks", "; b>f", "v", "f"},
		{"", "error:k", "bound b @w error: breaks", "; b>f", "v", "f"},
		{"", "error:k", "bound b @w error:l breaks", "; b>f", "v", "w+holds v+stuck:!k"},
		{"", "error:k", ".aside x; ..start y error:k breaks; ..end z", "; y>z; w>f", "v", "w+holds y"},
		{"signal:k", "", "bound b @w signal:k breaks", "; b>f", "u", "f"},
		{"signal:k", "", "bound b @w signal:k", "; b>f", "u", "w+holds f v"},
		{"", "signal:k", "bound b @w signal:k breaks", "; b>f", "v", "f"},
		{"", "signal:k", "bound b @w signal:k", "; b>f", "v", "w+holds f"},
		{"", "signal:k", ".aside x; ..start y signal:k; ..end z", "; y>z; w>f", "v", "w+holds y"},
		{"", "finish", "bound b @w signal:k", "; b>f", "v", "w+holds"},
	} {
		s, id := inPart(t, text(c.throw, c.end, c.handlers)+c.flows, c.node)
		n := do(t, s, step.Moves, id)
		if got := tokens(n); got != c.want || !arena.Sound(n) {
			t.Error(c, got)
		}
	}
}

func TestP28_1Signals(t *testing.T) {
	s, id := state(t, "p; start s; task t; bound b @t signal:k breaks; bound c @t signal:k; throw u signal:k; end e; end f; end g; s>t>e; s>u>e; b>f; c>g", "t")
	s = do(t, s, step.Moves, id)
	s, u, _ := enter.Put(s, 1, 4, -1)
	for pick, want := range map[uint32]string{0: "f e", 1: "g f e"} {
		p := cast.NewPicks([]uint32{pick})
		n, e := step.Do(s, step.Rule{step.Moves, u}, p)
		if got := tokens(n); got != want || e != api.OK || p.Used() != 2 {
			t.Error(pick, got, e, p.Used())
		}
	}
}

func TestP28_1Joined(t *testing.T) {
	for _, c := range []struct {
		text  string
		froms []int
		want  string
	}{
		{"p; start s; all x; task a; task b; end e; s>a; s>b; a>x; b>x; x>e", []int{2, 3}, "e"},
		{"p; start s; all x; task a; task b; end e; s>a; s>b; a>x; b>x; x>e", []int{3, 2, 2}, "x+joins e"},
		{"p; start s; all x; task a; task b; end e; s>a; s>b; a>x; b>x; x>e; x>a", []int{2, 3}, "e a"},
		{"p; start s; some x; task a; task b; end e; s>a; s>b; a>x; b>x; x>e", []int{2}, "e"},
		{"p; start s; some x; task a; task b; end e; s>a; s>b; a>x; b>x; x>e", []int{2, 3, 3}, "e"},
		{"p n=1; start s; some x; task a; task b; end e; end f; s>a; s>b; a>x; b>x; x>e if n<1; x>f if n<2", []int{2, 3}, "f"},
		{"p n=1; start s; some x; task a; task b; end e; end f; s>a; s>b; a>x; b>x; x>e if n<1; x>f if no", []int{2, 3}, "x+stuck:way"},
	} {
		s, _ := state(t, c.text, "s")
		s = cancel.Clear(s, 1)
		var ids []int
		for _, f := range c.froms {
			var id int
			s, id, _ = enter.Put(s, 1, 1, f)
			s = do(t, s, step.Moves, id)
			ids = append(ids, id)
		}
		if l := rules(t, s); !slices.Equal(l, []step.Rule{{step.Joined, ids[0]}}) {
			t.Error(c, l)
		}
		n := do(t, s, step.Joined, ids[0])
		if got := tokens(n); got != c.want || !arena.Sound(n) {
			t.Error(c, got)
		}
		if _, ok := arena.Find(n, ids[0]); ok != strings.Contains(c.want, "stuck") {
			t.Error(c, "the least is still there")
		}
		for _, id := range ids[1:] {
			if n, e := step.Do(s, step.Rule{step.Joined, id}, nil); e != api.ErrState || !arena.Same(n, s) {
				t.Error(c, e)
			}
		}
	}
	// A Some waits for what can still come.
	s, _ := state(t, "p; start s; some x; task a; task b; end e; s>a; s>b; a>x; b>x; x>e", "a")
	s, id, _ := enter.Put(s, 1, 1, 2)
	s = do(t, s, step.Moves, id)
	if _, e := step.Do(s, step.Rule{step.Joined, id}, nil); e != api.ErrState || slices.Contains(rules(t, s), step.Rule{step.Joined, id}) {
		t.Error(e)
	}
}

func TestP28_1EndsAndTurns(t *testing.T) {
	s, id := state(t, "p n=1; start s; adhoc w text:n==2; .task a; bound b @w cond:n<2; bound c @w cond:n==3; end e; end f; s>w>e; b>f; c>f", "w")
	s = do(t, s, step.Moves, id)
	scope := arena.Kids(s, id)[0]
	b, c := subs.Of(s, id)[0].ID, subs.Of(s, id)[1].ID
	set := func(s api.State, n int64) api.State {
		s, _ = vars.Put(s, 1, []api.Set{{Name: "n", V: num(n)}})
		return s
	}
	if l := rules(t, s); !slices.Equal(l, []step.Rule{{step.Turns, b}}) {
		t.Error(l)
	}
	// It fires, and is no longer armed; with n at 2 it becomes armed again, and the AdHoc may end.
	s = do(t, s, step.Turns, b)
	if w, _ := subs.Find(s, b); w.Armed || tokens(s) != "w+holds f" {
		t.Error(w, tokens(s))
	}
	s = do(t, s, step.Moves, s.Items[3].ID)
	if l := rules(t, s); len(l) != 0 {
		t.Error(l)
	}
	two := set(s, 2)
	if l := rules(t, two); !slices.Equal(l, []step.Rule{{step.Ends, scope}, {step.Turns, b}}) {
		t.Error(l)
	}
	armed := do(t, two, step.Turns, b)
	if w, _ := subs.Find(armed, b); !w.Armed || len(armed.Items) != len(two.Items) {
		t.Error(w)
	}
	ended := do(t, two, step.Ends, scope)
	if want, _ := finish.End(two, scope); !arena.Same(ended, want) || tokens(ended) != "e" {
		t.Error(tokens(ended))
	}
	if l := rules(t, set(s, 3)); !slices.Equal(l, []step.Rule{{step.Turns, b}, {step.Turns, c}}) {
		t.Error(l)
	}
	for id, want := range map[int]api.Errno{b: api.ErrState, c: api.ErrState, 99: api.ErrNone} {
		if n, e := step.Do(s, step.Rule{step.Turns, id}, nil); e != want || !arena.Same(n, s) {
			t.Error(id, e)
		}
	}
	if n, e := step.Do(s, step.Rule{step.Ends, scope}, nil); e != api.ErrState || !arena.Same(n, s) {
		t.Error(e)
	}
}

func TestP28_1Order(t *testing.T) {
	s, id := state(t, "p n=1; start s; task t; bound b @t cond:yes; some x; end e; s>t; s>x; t>e; b>e; x>e; s>x", "t")
	s = do(t, s, step.Moves, id)
	w := subs.Of(s, id)[0].ID
	s, join, _ := enter.Put(s, 1, 3, 1)
	s = do(t, s, step.Moves, join)
	s, a, _ := enter.Put(s, 1, 4, -1)
	s, empty, _ := arena.Add(s, api.Item{Is: api.Scope, Proc: "p", Node: -1, From: -1})
	s, empty2, _ := arena.Add(s, api.Item{Is: api.Scope, Proc: "sub", Node: -1, From: -1})
	s, b, _ := enter.Put(s, 1, 4, -1)
	if l := rules(t, s); !slices.Equal(l, []step.Rule{{step.Moves, a}, {step.Moves, b}, {step.Joined, join}, {step.Ends, empty}, {step.Ends, empty2}, {step.Turns, w}}) {
		t.Error(l)
	}
	slices.Reverse(s.Items)
	if l := rules(t, s); !slices.Equal(l, []step.Rule{{step.Moves, a}, {step.Moves, b}, {step.Joined, join}, {step.Ends, empty}, {step.Ends, empty2}, {step.Turns, w}}) {
		t.Error("in another order", l)
	}
}

func TestP28_1RuleErrors(t *testing.T) {
	s, id := state(t, "p n=0; start s; task t; bound b @t cond:1/n==1; adhoc w text:n+9223372036854775807<1; .task v; end e; s>t>w>e; b>e", "t")
	s = do(t, s, step.Moves, id)
	if l, e := step.Rules(s); l != nil || e != api.ErrZero {
		t.Error(l, e)
	}
	if n, e := step.Do(s, step.Rule{step.Turns, subs.Of(s, id)[0].ID}, nil); e != api.ErrZero || !arena.Same(n, s) {
		t.Error(e)
	}
	// Scopes come before conditions, and the first one first.
	s, token, _ := enter.Put(s, 1, 3, -1)
	s = do(t, s, step.Moves, token)
	scope := arena.Kids(s, token)[0]
	s, _ = vars.Put(s, 1, []api.Set{{Name: "n", V: num(1)}})
	if l, e := step.Rules(s); l != nil || e != api.ErrRange {
		t.Error(l, e)
	}
	if n, e := step.Do(s, step.Rule{step.Ends, scope}, nil); e != api.ErrRange || !arena.Same(n, s) {
		t.Error(e)
	}
	for _, w := range []api.Watch{{ID: 70, Item: 99, Node: 2, Event: api.Cond}, {ID: 70, Item: id, Node: 99, Event: api.Cond}} {
		x := s
		x.Items = x.Items[:2]
		x.Watches = []api.Watch{w}
		if l, e := step.Rules(x); l != nil || e != api.ErrNone {
			t.Error(l, e)
		}
		if _, e := step.Do(x, step.Rule{step.Turns, 70}, nil); e != api.ErrNone {
			t.Error(e)
		}
	}
	calc, id := state(t, "p n=0; start s; calc c n=1/n; xor x; end e; end f; s>c>x; x>e if 1/n==1; x>f else", "c")
	if n, e := step.Do(calc, step.Rule{step.Moves, id}, nil); e != api.ErrZero || !arena.Same(n, calc) {
		t.Error(e)
	}
	calc, id, _ = enter.Put(calc, 1, 2, -1)
	if n, e := step.Do(calc, step.Rule{step.Moves, id}, nil); e != api.ErrZero || !arena.Same(n, calc) {
		t.Error(e)
	}
	timer, id := state(t, "p n=0; start s; catch c timer:n-1; end e; s>c>e", "c")
	if n, e := step.Do(timer, step.Rule{step.Moves, id}, nil); e != api.ErrRange || !arena.Same(n, timer) {
		t.Error(e)
	}
}

func TestP28_1AsideConds(t *testing.T) {
	// The condition of an Aside is over what its scope has.
	s, id := state(t, "p m=9; start s; part w m=1; .start a; .task t; .end b; .aside x; ..start y cond:m==2 breaks; ..task z; ..end v; end e; s>w>e; a>t>b; y>z>v", "w")
	s = do(t, s, step.Moves, id)
	scope := arena.Kids(s, id)[0]
	s = do(t, s, step.Moves, arena.Kids(s, scope)[0])
	s = do(t, s, step.Moves, arena.Kids(s, scope)[0])
	if l := rules(t, s); len(l) != 0 {
		t.Error(l)
	}
	s, _ = vars.Put(s, scope, []api.Set{{Name: "m", V: num(2)}})
	w := subs.Of(s, scope)[0].ID
	if l := rules(t, s); !slices.Equal(l, []step.Rule{{step.Turns, w}}) {
		t.Error(l)
	}
	if n := do(t, s, step.Turns, w); tokens(n) != "w+holds y" {
		t.Error(tokens(n))
	}
}

func TestP28_1SignalErrors(t *testing.T) {
	for _, node := range []string{"u", "v"} {
		s, id := state(t, "p n=0; start s; throw u signal:k; end v signal:k; s>u>v; aside x; .start y signal:k; .catch c timer:0; .end z; y>c>z", node)
		if _, e := step.Do(s, step.Rule{step.Moves, id}, nil); e != api.OK {
			t.Error(e)
		}
		s.Next = api.MaxNumber - 1
		if n, e := step.Do(s, step.Rule{step.Moves, id}, nil); e != api.ErrTooLarge || !arena.Same(n, s) {
			t.Error(node, e)
		}
	}
	s, id := state(t, "p; start s; throw u escalate:k; end e; s>u>e; aside x; .start y escalate:k; .end z; y>z", "u")
	s.Next = api.MaxNumber - 1
	if n, e := step.Do(s, step.Rule{step.Moves, id}, nil); e != api.ErrTooLarge || !arena.Same(n, s) {
		t.Error(e)
	}
}

func TestP28_1DoErrors(t *testing.T) {
	s, id := state(t, "p; start s; task t; bound b @t signal:k; all x; end e; aside a; .start v signal:k; .end w; s>t>x>e; v>w; b>x", "t")
	s = do(t, s, step.Moves, id)
	for _, node := range []int{2, 5} {
		var at int
		s, at, _ = enter.Put(s, 1, node, -1)
		if n, e := step.Do(s, step.Rule{step.Moves, at}, nil); e != api.ErrNone || !arena.Same(n, s) {
			t.Error(node, e)
		}
		it, _ := arena.Find(s, at)
		it.Wait = api.Works
		if _, e := step.Do(arena.Turn(s, it), step.Rule{step.Moves, at}, nil); e != api.ErrNone {
			t.Error(node, e)
		}
	}
	odd := model.Copy(s.Defs[1])
	odd.Nodes[0].Kind = 16
	odd.Nodes[4].Kind = 0
	x := s
	x.Defs = []api.Process{sub, odd}
	for _, it := range []api.Item{{ID: 60, Up: 1, Is: api.Token, Proc: "p", Node: 0, Wait: api.Ready}, {ID: 60, Up: 1, Is: api.Token, Proc: "p", Node: 4, Wait: api.Ready}, {ID: 60, Up: 1, Is: api.Token, Proc: "p", Node: 99, Wait: api.Ready}, {ID: 60, Up: 1, Is: api.Token, Proc: "q", Wait: api.Ready}, {ID: 60, Up: 1, Is: api.Scope, Proc: "p", Node: 1, Wait: api.Ready}} {
		y := x
		y.Items = append(slices.Clone(x.Items), it)
		if n, e := step.Do(y, step.Rule{step.Moves, 60}, nil); e != api.ErrNone || !arena.Same(n, y) {
			t.Error(it, e)
		}
	}
	for r, want := range map[step.Rule]api.Errno{
		{0, id}: api.ErrNone, {5, id}: api.ErrNone, {255, 1}: api.ErrNone, {step.Moves, 99}: api.ErrNone, {step.Moves, 1}: api.ErrNone, {step.Moves, id}: api.ErrState, {step.Joined, 99}: api.ErrNone, {step.Joined, 1}: api.ErrNone, {step.Joined, id}: api.ErrState,
		{step.Ends, 99}: api.ErrNone, {step.Ends, id}: api.ErrNone, {step.Ends, 1}: api.ErrState, {step.Turns, 99}: api.ErrNone, {step.Turns, subs.Of(s, id)[0].ID}: api.ErrNone, {step.Turns, id}: api.ErrNone,
	} {
		if n, e := step.Do(s, r, nil); e != want || !arena.Same(n, s) {
			t.Error(r, e)
		}
	}
}

// run does random steps on processes that were grown, and calls f before each, with the rule that is done.
func run(t *testing.T, r *rand.Rand, rounds int, f func(s, n api.State, rule step.Rule, e api.Errno)) {
	for range rounds {
		s := api.State{Defs: sketch.Defs(3, false, r.Intn)}
		for range 80 {
			if r.Intn(8) == 0 || len(s.Items) == 0 {
				s, _, _ = enter.Open(s, 0, s.Defs[r.Intn(3)].Name, -1, -1)
			}
			if r.Intn(6) == 0 {
				s = outside(r, s)
			}
			l, e := step.Rules(s)
			if e != api.OK || len(l) == 0 {
				s.Clock++
				continue
			}
			rule := l[r.Intn(len(l))]
			n, e := step.Do(s, rule, cast.NewPicks([]uint32{r.Uint32(), r.Uint32()}))
			f(s, n, rule, e)
			s = n
		}
	}
}

// outside does what may come from outside: a Task is done, a watch fires, something is enabled, a variable changes.
func outside(r *rand.Rand, s api.State) api.State {
	if len(s.Items) == 0 {
		return s
	}
	it := s.Items[r.Intn(len(s.Items))]
	node, _ := arena.NodeOf(s, it)
	switch {
	case it.Wait == api.Works:
		s, _ = enter.All(s, it.ID, it.Node)
	case it.Is == api.Scope && node.Kind == api.AdHoc:
		p, _ := arena.Def(s, it.Proc)
		for i, n := range p.Nodes {
			if n.In == it.Node && n.Kind == api.Task {
				s, _, _ = enter.Put(s, it.ID, i, -1)
				return s
			}
		}
	case it.Is == api.Scope:
		s, _ = vars.Put(s, it.ID, []api.Set{{Name: "n", V: num(int64(r.Intn(5)))}})
	case len(s.Watches) > 0:
		if n, e := fire.Fire(s, s.Watches[r.Intn(len(s.Watches))].ID); e == api.OK {
			s = n
		}
	}
	return s
}

func TestP28_2To5Grown(t *testing.T) {
	r := rand.New(rand.NewSource(280))
	kinds := map[uint8]int{}
	run(t, r, 250, func(s, n api.State, rule step.Rule, e api.Errno) {
		switch e {
		case api.OK:
		case api.ErrRange, api.ErrZero, api.ErrTooLarge:
			if !arena.Same(n, s) {
				t.Fatal("something changed", e)
			}
			return
		default:
			t.Fatal(rule, e)
		}
		kinds[rule.Kind]++
		if !arena.Sound(n) {
			t.Fatal("not sound", rule)
		}
		for _, w := range n.Watches {
			if _, ok := arena.Find(n, w.Item); !ok {
				t.Fatal("a watch of nothing", rule, w)
			}
		}
		if n.Clock != s.Clock || n.Next < s.Next || !slices.EqualFunc(n.Defs, s.Defs, model.Same) {
			t.Fatal("the clock, Next, the processes")
		}
		for _, it := range n.Items {
			if _, stays := arena.Find(s, it.ID); !stays || it.Is != api.Scope {
				continue
			}
			a, b := vars.Cells(s, it.ID), vars.Cells(n, it.ID)
			if !slices.EqualFunc(a, b, func(a, b api.Cell) bool { return a.Name == b.Name && a.V.Kind == b.V.Kind }) {
				t.Fatal("the variables of a scope", a, b)
			}
		}
		consistent(t, n)
	})
	for _, kind := range []uint8{step.Moves, step.Joined, step.Ends, step.Turns} {
		if kinds[kind] < 50 {
			t.Error("too few", kinds)
		}
	}
}

// consistent: P28.2 and P28.5.
func consistent(t *testing.T, s api.State) {
	t.Helper()
	l, e := step.Rules(s)
	if e != api.OK {
		return
	}
	want := map[step.Rule]int{}
	for _, it := range s.Items {
		if it.Is == api.Token && it.Wait == api.Ready {
			want[step.Rule{step.Moves, it.ID}]++
		}
		if may, _ := finish.May(s, it.ID); may {
			want[step.Rule{step.Ends, it.ID}]++
		}
	}
	for _, id := range gate.Ready(s) {
		want[step.Rule{step.Joined, id}]++
	}
	for _, w := range s.Watches {
		if w.Event == api.Cond {
			x := s
			x, e := step.Do(x, step.Rule{step.Turns, w.ID}, nil)
			if e == api.OK || e != api.ErrState {
				want[step.Rule{step.Turns, w.ID}]++
			}
			if now, ok := subs.Find(x, w.ID); e == api.OK && ok && now.Armed == w.Armed && len(x.Items) == len(s.Items) && !breaks(s, w) {
				t.Fatal("a Cond that did not turn", w)
			}
		}
	}
	if len(l) != len(want) {
		t.Fatal("rules", l, want)
	}
	for _, rule := range l {
		if want[rule] == 0 {
			t.Fatal("a rule", rule)
		}
	}
	for id := range s.Next + 1 {
		for kind := uint8(0); kind < 6; kind++ {
			rule := step.Rule{kind, id}
			_, e := step.Do(s, rule, nil)
			if want[rule] == 0 && (e != api.ErrNone && e != api.ErrState) || want[rule] > 0 && (e == api.ErrNone || e == api.ErrState) {
				t.Fatal(rule, e)
			}
		}
	}
}

// breaks reports whether what a watch fires breaks.
func breaks(s api.State, w api.Watch) bool {
	b, _ := fire.Breaks(s, route.Handler{Item: w.Item, Node: w.Node})
	return b
}

func TestR1AnyState(t *testing.T) {
	r := rand.New(rand.NewSource(281))
	p := sketch.Process("p n=1; start s; throw a link:k; throw b signal:k; throw c escalate:k; catch d cond:n<3; race f; xor g; all h; some i; part w; call j key:p; adhoc q text:n; end x error:k; end y finish; s>h; s>h; s>i; s>i; f>d; f>s; g>h if n; g>i else")
	for range 4000 {
		s := api.State{Next: 20, Defs: []api.Process{p, sub}}
		for range r.Intn(9) {
			s.Items = append(s.Items, api.Item{ID: r.Intn(9), Up: r.Intn(9), Is: uint8(r.Intn(4)), Proc: []string{"p", "none"}[r.Intn(2)], Node: r.Intn(18) - 2, From: r.Intn(9) - 1, Wait: uint8(r.Intn(8))})
			s.Watches = append(s.Watches, api.Watch{ID: r.Intn(9), Item: r.Intn(9), Node: r.Intn(18) - 2, Event: uint8(r.Intn(5)), Key: "k"})
		}
		before := arena.Copy(s)
		l, e := step.Rules(s)
		if e != api.OK && l != nil {
			t.Fatal("rules beside an error")
		}
		for id := range 10 {
			for kind := range 6 {
				if n, e := step.Do(s, step.Rule{uint8(kind), id}, nil); e != api.OK && !arena.Same(n, s) {
					t.Fatal(e)
				}
			}
		}
		if !arena.Same(s, before) {
			t.Fatal("a state was modified")
		}
	}
}
