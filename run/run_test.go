package run_test

import (
	"math"
	"slices"
	"strings"
	"testing"

	"callboard/api"
	"callboard/arena"
	"callboard/cancel"
	"callboard/cast"
	"callboard/codec"
	"callboard/enter"
	"callboard/graph"
	"callboard/model"
	"callboard/run"
	"callboard/sketch"
	"callboard/step"
	"callboard/vars"
)

func num(n int64) api.Value { return api.Value{Kind: api.Int, N: n} }

func set(name string, v api.Value) []api.Set { return []api.Set{{Name: name, V: v}} }

// world is a state on which commands are executed.
type world struct {
	t *testing.T
	s api.State
}

// deployed returns a world with processes.
func deployed(t *testing.T, texts ...string) *world {
	t.Helper()
	w := &world{t: t}
	for _, text := range texts {
		bytes, e := codec.Encode(sketch.Process(text))
		if e != api.OK {
			t.Fatal(text, e)
		}
		w.ok(api.Command{Kind: api.Deploy, Bytes: bytes})
	}
	return w
}

// do executes a command, with the budget 100; one with an error changes nothing.
func (w *world) do(c api.Command, picks ...uint32) api.Answer {
	w.t.Helper()
	before := arena.Copy(w.s)
	n, a := run.Do(w.s, c, picks, 100)
	if !arena.Same(w.s, before) {
		w.t.Fatal("a state was modified", c)
	}
	if a.E != api.OK && (a.ID != 0 || !arena.Same(n, w.s)) {
		w.t.Fatal("something beside an error", c, a)
	}
	if a.E == api.OK && !arena.Sound(n) {
		w.t.Fatal("not sound", c)
	}
	w.s = n
	return a
}

// ok executes a command that has no error, and returns its ID.
func (w *world) ok(c api.Command, picks ...uint32) int {
	w.t.Helper()
	a := w.do(c, picks...)
	if a.E != api.OK {
		w.t.Fatal(c, a)
	}
	return a.ID
}

// no executes a command that has an error.
func (w *world) no(want api.Errno, c api.Command, picks ...uint32) {
	w.t.Helper()
	if a := w.do(c, picks...); a.E != want {
		w.t.Error(c, a, want)
	}
}

// at returns the token at a node.
func (w *world) at(name string) int {
	w.t.Helper()
	for _, it := range w.s.Items {
		if n, ok := arena.NodeOf(w.s, it); ok && it.Is == api.Token && n.Name == name {
			return it.ID
		}
	}
	w.t.Fatal("no token at", name, w.tokens())
	return 0
}

// scope returns the scope of a node, or of a process.
func (w *world) scope(name string) int {
	w.t.Helper()
	for _, it := range w.s.Items {
		n, _ := arena.NodeOf(w.s, it)
		if it.Is == api.Scope && (n.Name == name || it.Node == -1 && it.Proc == name) {
			return it.ID
		}
	}
	w.t.Fatal("no scope", name)
	return 0
}

// tokens tells the tokens: the names of their nodes, and how they wait.
func (w *world) tokens() string {
	var l []string
	for _, it := range w.s.Items {
		if it.Is == api.Token {
			n, _ := arena.NodeOf(w.s, it)
			l = append(l, n.Name+[]string{"?", "+ready", "", "+holds", "+awaits", "+joins", "+stuck:" + it.Code}[it.Wait])
		}
	}
	return strings.Join(l, " ")
}

// sees checks where the tokens are.
func (w *world) sees(want string) {
	w.t.Helper()
	if got := w.tokens(); got != want {
		w.t.Errorf("tokens %q, want %q", got, want)
	}
}

func (w *world) begin(name string, picks ...uint32) int {
	w.t.Helper()
	return w.ok(api.Command{Kind: api.Begin, Name: name}, picks...)
}

func (w *world) done(name string, picks ...uint32) {
	w.t.Helper()
	w.ok(api.Command{Kind: api.Done, ID: w.at(name)}, picks...)
}

func (w *world) tick(n int, picks ...uint32) {
	w.t.Helper()
	w.ok(api.Command{Kind: api.Tick, N: n}, picks...)
}

func (w *world) cast(key string, picks ...uint32) {
	w.t.Helper()
	w.ok(api.Command{Kind: api.Cast, Key: key}, picks...)
}

func (w *world) put(scope int, name string, v api.Value) {
	w.t.Helper()
	w.ok(api.Command{Kind: api.Put, ID: scope, Sets: set(name, v)})
}

const simple = "p; start s; task t; end e; s>t>e"

func TestP29_1Examples(t *testing.T) {
	w := deployed(t, simple)
	if id := w.begin("p"); id != 1 || w.at("t") != 3 || w.s.Next != 3 {
		t.Error(id, w.s.Items)
	}
	w.ok(api.Command{Kind: api.Done, ID: 3})
	if len(w.s.Items) != 0 || w.s.Next != 4 {
		t.Error(w.s.Items)
	}
	w.no(api.ErrNone, api.Command{Kind: api.Done, ID: 3})
	w.no(api.ErrArg, api.Command{Kind: api.Tick})
	if n, a := run.Do(w.s, api.Command{Kind: api.Begin, Name: "p"}, nil, 1); a != (api.Answer{E: api.ErrBudget}) || !arena.Same(n, w.s) {
		t.Error(a)
	}
	if _, a := run.Do(w.s, api.Command{Kind: api.Begin, Name: "p"}, nil, 2); a != (api.Answer{ID: 5}) {
		t.Error(a)
	}
}

func TestP29_1Run(t *testing.T) {
	w := deployed(t, simple)
	s, _, _ := enter.Open(w.s, 0, "p", -1, -1)
	for budget, want := range map[int]api.Errno{-1: api.ErrArg, math.MinInt: api.ErrArg, 0: api.ErrBudget, 1: api.ErrBudget, 2: api.OK, 3: api.OK, api.MaxSteps: api.OK, api.MaxSteps + 1: api.ErrArg} {
		n, steps, e := run.Run(s, nil, budget)
		if e != want || e != api.OK && (steps != 0 || !arena.Same(n, s)) || e == api.OK && (steps != 2 || n.Items[1].Wait != api.Works) {
			t.Error(budget, steps, e)
		}
	}
	if n, steps, e := run.Run(w.s, nil, 0); e != api.OK || steps != 0 || !arena.Same(n, w.s) {
		t.Error(steps, e)
	}
	// One pick for each step, among as many as there are rules.
	w = deployed(t, "p n=0; start s; calc a n=n*2+1; calc b n=n*3; all x; task t; end e; s>a; s>b; a>x; b>x; x>t; t>e")
	for picks, want := range map[[3]uint32]int64{{0, 0, 0}: 3, {0, 1, 0}: 1, {7, 2, 0}: 3, {7, 3, 0}: 1} {
		s, _, _ := enter.Open(w.s, 0, "p", -1, -1)
		p := cast.NewPicks(picks[:])
		n, steps, e := run.Run(s, p, 100)
		if e != api.OK || steps != 7 || p.Used() != 7 || n.Cells[0].V != num(want) {
			t.Error(picks, n.Cells, steps, p.Used(), e)
		}
	}
	bad := s
	bad.Items = slices.Clone(s.Items)
	bad.Items[1].Node = 99
	if n, steps, e := run.Run(bad, nil, 9); e != api.ErrNone || steps != 0 || !arena.Same(n, bad) {
		t.Error(e)
	}
}

func TestP29_1Budgets(t *testing.T) {
	w := deployed(t, simple)
	for _, budget := range []int{0, -1, api.MaxSteps + 1, math.MaxInt, math.MinInt} {
		for _, kind := range []uint8{api.Begin, 0, 99, api.Deploy} {
			if n, a := run.Do(w.s, api.Command{Kind: kind}, nil, budget); a != (api.Answer{E: api.ErrArg}) || !arena.Same(n, w.s) {
				t.Error(budget, kind, a)
			}
		}
	}
	for _, kind := range []uint8{0, 11, 99, 255} {
		w.no(api.ErrForm, api.Command{Kind: kind})
	}
	if _, a := run.Do(w.s, api.Command{Kind: api.Begin, Name: "p"}, nil, api.MaxSteps); a.E != api.OK {
		t.Error(a)
	}
}

func TestP29_1Deploy(t *testing.T) {
	w := deployed(t, simple)
	bytes := func(text string) string {
		s, e := codec.Encode(sketch.Process(text))
		if e != api.OK {
			t.Fatal(e)
		}
		return s
	}
	good := bytes(simple)
	w.no(api.ErrTwice, api.Command{Kind: api.Deploy, Bytes: good})
	w.no(api.ErrShort, api.Command{Kind: api.Deploy})
	w.no(api.ErrSum, api.Command{Kind: api.Deploy, Bytes: good[:len(good)-1] + "x"})
	w.no(api.ErrForm, api.Command{Kind: api.Deploy, Bytes: "\x01\x00\x00\x00"})
	w.no(api.ErrTooLarge, api.Command{Kind: api.Deploy, Bytes: strings.Repeat("x", 4001)})
	w.no(api.ErrForm, api.Command{Kind: api.Deploy, Bytes: bytes("q; start s")})
	w.no(api.ErrTwice, api.Command{Kind: api.Deploy, Bytes: bytes("p; start s")})
	w.no(api.ErrName, api.Command{Kind: api.Deploy, Bytes: bytes("q; start s; call c key:none; end e; s>c>e")})
	w.ok(api.Command{Kind: api.Deploy, Bytes: bytes("q; start s; call c key:p; end e; s>c>e")})
	if len(w.s.Defs) != 2 || !model.Same(w.s.Defs[1], sketch.Process("q; start s; call c key:p; end e; s>c>e")) {
		t.Error(w.s.Defs)
	}
	for i := len(w.s.Defs); i < api.MaxProcs; i++ {
		w.ok(api.Command{Kind: api.Deploy, Bytes: bytes("x" + string([]byte{byte('a' + i)}) + "; start s; end e; s>e")})
	}
	w.no(api.ErrTooLarge, api.Command{Kind: api.Deploy, Bytes: bytes("y; start s; end e; s>e")})
	w.no(api.ErrTooLarge, api.Command{Kind: api.Deploy, Bytes: bytes("y; start s")})
	w.no(api.ErrTwice, api.Command{Kind: api.Deploy, Bytes: good})
	// It is deployed without a run, and the state is not looked at.
	s := api.State{Next: 1, Items: []api.Item{{ID: 1, Is: api.Token, Wait: api.Ready}}}
	n, a := run.Do(s, api.Command{Kind: api.Deploy, Bytes: good}, nil, 1)
	if a != (api.Answer{}) || len(n.Defs) != 1 || !slices.Equal(n.Items, s.Items) {
		t.Error(a)
	}
}

func TestP29_1Begin(t *testing.T) {
	w := deployed(t, "p n=1 t='x' b=no; start s; start g signal:k; task t; end e; s>t>e; g>t", "q; start s signal:k; end e; s>e")
	for _, c := range []struct {
		name string
		sets []api.Set
		want api.Errno
	}{
		{"none", nil, api.ErrNone}, {"q", nil, api.ErrNone}, {"", nil, api.ErrNone}, {"p", set("z", num(1)), api.ErrName}, {"p", set("n", api.Value{Kind: api.Text}), api.ErrType}, {"p", set("n", api.Value{}), api.ErrType}, {"p", set("b", api.Value{Kind: api.Bool, N: 2}), api.ErrType}, {"p", set("t", api.Value{Kind: api.Text, T: "'"}), api.ErrType},
		{"none", set("z", num(1)), api.ErrNone}, {"p", append(set("n", num(1)), set("z", num(1))...), api.ErrName}, {"p", append(set("z", num(1)), set("n", api.Value{})...), api.ErrName}, {"p", append(set("n", api.Value{}), set("z", num(1))...), api.ErrType},
	} {
		w.no(c.want, api.Command{Kind: api.Begin, Name: c.name, Sets: c.sets})
	}
	id := w.ok(api.Command{Kind: api.Begin, Name: "p", Sets: append(append(set("n", num(7)), set("b", api.Value{Kind: api.Bool, N: 1})...), set("n", num(8))...)})
	if c, _ := vars.Seen(w.s, id, "n"); id != 1 || c.V != num(8) {
		t.Error(id, c)
	}
	if c, _ := vars.Seen(w.s, id, "t"); c.V.T != "x" {
		t.Error(c)
	}
	w.sees("t")
	// Opened with the initial values: a Timer of the scope does not see the Sets.
	w = deployed(t, "p n=5; start s; task t; end e; s>t>e; aside a; .start b timer:n; .end c; b>c")
	w.ok(api.Command{Kind: api.Begin, Name: "p", Sets: set("n", num(50))})
	if w.s.Watches[0].Due != 5 {
		t.Error(w.s.Watches)
	}
}

func TestP29_1Done(t *testing.T) {
	w := deployed(t, "p n=1 m=2; start s; part w n='x'; .start a; .task t; .end b; catch c signal:k; end e; s>w>c>e; a>t>b")
	w.begin("p")
	id := w.at("t")
	for _, c := range []struct {
		id   int
		sets []api.Set
		want api.Errno
	}{
		{0, nil, api.ErrNone}, {99, nil, api.ErrNone}, {1, nil, api.ErrNone}, {w.scope("w"), nil, api.ErrNone}, {w.at("w"), nil, api.ErrState}, {w.at("w"), set("z", num(1)), api.ErrState}, {id, set("z", num(1)), api.ErrName}, {id, set("n", num(1)), api.ErrType}, {id, append(set("m", num(3)), set("z", num(1))...), api.ErrName},
	} {
		w.no(c.want, api.Command{Kind: api.Done, ID: c.id, Sets: c.sets})
	}
	w.ok(api.Command{Kind: api.Done, ID: id, Sets: append(set("m", num(3)), set("n", api.Value{Kind: api.Text, T: "y"})...)})
	if c, _ := vars.Seen(w.s, 1, "m"); c.V != num(3) {
		t.Error(c)
	}
	w.sees("c+awaits")
	w.no(api.ErrState, api.Command{Kind: api.Done, ID: w.at("c")})
}

func TestP29_1Fail(t *testing.T) {
	w := deployed(t, "p; start s; task t; bound b @t error:k breaks; part w; .start a; .task u; .end v; .aside x; ..start y error:l breaks; ..task z; ..end q; bound c @w error: breaks; end e; task f; s>t>w>e; b>f>e; a>u>v; y>z>q; c>f")
	w.begin("p")
	for _, c := range []struct {
		id   int
		key  string
		want api.Errno
	}{{0, "k", api.ErrNone}, {1, "k", api.ErrNone}, {w.at("t"), "K", api.ErrForm}, {w.at("t"), "", api.ErrForm}, {w.at("t"), "l", api.ErrUncaught}, {99, "", api.ErrNone}} {
		w.no(c.want, api.Command{Kind: api.Fail, ID: c.id, Key: c.key})
	}
	other := *w
	other.ok(api.Command{Kind: api.Fail, ID: w.at("t"), Key: "k"})
	other.sees("f")
	w.done("t")
	w.no(api.ErrState, api.Command{Kind: api.Fail, ID: w.at("w"), Key: "k"})
	w.no(api.ErrState, api.Command{Kind: api.Fail, ID: w.at("w"), Key: ""})
	other = *w
	other.ok(api.Command{Kind: api.Fail, ID: w.at("u"), Key: "other"})
	other.sees("f")
	w.ok(api.Command{Kind: api.Fail, ID: w.at("u"), Key: "l"})
	w.sees("w+holds z")
	w.done("z")
	w.sees("")
}

func TestP29_1Enable(t *testing.T) {
	w := deployed(t, `p n=1; start s
		adhoc h text:n==9
		.task a
		.task b
		.calc c n=n+1
		.throw d signal:k
		.xor x
		.catch y signal:k
		.part q
		..start q1
		..task q2
		..end q3
		.bound z @a signal:zz
		end e
		s>h>e; a>b; q1>q2>q3`)
	w.begin("p")
	h := w.scope("h")
	for _, c := range []struct {
		id   int
		name string
		want api.Errno
	}{{0, "a", api.ErrNone}, {99, "a", api.ErrNone}, {w.at("h"), "a", api.ErrNone}, {1, "a", api.ErrState}, {1, "none", api.ErrState}, {h, "none", api.ErrName}, {h, "b", api.ErrName}, {h, "x", api.ErrName}, {h, "y", api.ErrName}, {h, "z", api.ErrName}, {h, "q2", api.ErrName}, {h, "h", api.ErrName}, {h, "s", api.ErrName}, {h, "", api.ErrName}} {
		w.no(c.want, api.Command{Kind: api.Enable, ID: c.id, Name: c.name})
	}
	id := w.ok(api.Command{Kind: api.Enable, ID: h, Name: "a"})
	if it, _ := arena.Find(w.s, id); it.Node != 2 || it.Wait != api.Works || it.From != -1 || it.Up != h {
		t.Error(it)
	}
	w.ok(api.Command{Kind: api.Enable, ID: h, Name: "a"})
	w.ok(api.Command{Kind: api.Enable, ID: h, Name: "q"})
	w.sees("h+holds a a q+holds q2")
	next := w.s.Next
	if id := w.ok(api.Command{Kind: api.Enable, ID: h, Name: "c"}); id != next+1 {
		t.Error(id)
	}
	if c, _ := vars.Seen(w.s, 1, "n"); c.V != num(2) {
		t.Error(c)
	}
	w.ok(api.Command{Kind: api.Enable, ID: h, Name: "d"})
	w.sees("h+holds a a q+holds q2")
	w.no(api.ErrState, api.Command{Kind: api.Enable, ID: w.scope("q"), Name: "q2"})
}

func TestP29_1Put(t *testing.T) {
	w := deployed(t, "p n=1; start s; part w m=2; .start a; .task t; .end b; end e; xor x; end f; s>w>x; x>e if n==1; x>f else; a>t>b; bound c @w cond:n==5 breaks; c>e")
	w.begin("p")
	scope := w.scope("w")
	for _, c := range []struct {
		id   int
		sets []api.Set
		want api.Errno
	}{{0, nil, api.ErrNone}, {99, nil, api.ErrNone}, {w.at("t"), nil, api.ErrNone}, {1, set("m", num(1)), api.ErrName}, {scope, set("n", api.Value{}), api.ErrType}, {scope, append(set("n", num(5)), set("z", num(1))...), api.ErrName}} {
		w.no(c.want, api.Command{Kind: api.Put, ID: c.id, Sets: c.sets})
	}
	w.ok(api.Command{Kind: api.Put, ID: scope, Sets: append(set("n", num(4)), set("m", num(9))...)})
	w.sees("w+holds t")
	// A run follows: the condition fires.
	w.ok(api.Command{Kind: api.Put, ID: scope, Sets: set("n", num(5))})
	w.sees("")
}

func TestP29_1TickAndCast(t *testing.T) {
	w := deployed(t, "p; start s; catch c timer:5; task t; end e; s>c>t>e")
	w.begin("p")
	for n, want := range map[int]api.Errno{0: api.ErrArg, -1: api.ErrArg, math.MinInt: api.ErrArg, api.MaxClock + 1: api.ErrArg, math.MaxInt: api.ErrArg} {
		w.no(want, api.Command{Kind: api.Tick, N: n})
	}
	w.tick(4)
	w.sees("c+awaits")
	w.tick(1)
	w.sees("t")
	if w.s.Clock != 5 {
		t.Error(w.s.Clock)
	}
	w.no(api.ErrArg, api.Command{Kind: api.Tick, N: api.MaxClock - 4})
	w.tick(api.MaxClock - 5)
	w.no(api.ErrArg, api.Command{Kind: api.Tick, N: 1})
	for _, key := range []string{"", "K", "yes", "abcdefghijklm"} {
		w.no(api.ErrForm, api.Command{Kind: api.Cast, Key: key})
	}
	before := w.s
	w.cast("nobody")
	if !arena.Same(w.s, before) {
		t.Error("something changed")
	}
}

func TestP29_1TickOrder(t *testing.T) {
	// By Due, then by ID; with a run after each; what is made by that waits for the next Tick.
	w := deployed(t, `p n=0
		start s
		catch a timer:3
		catch b timer:2
		catch c timer:2
		calc ca n=n*10+1
		calc cb n=n*10+2
		calc cc n=n*10+3
		catch again timer:0
		task t
		end e
		s>a; s>b; s>c; a>ca>t; b>cb>t; c>cc>again>t; t>e`)
	w.begin("p")
	w.tick(7)
	w.sees("t again+awaits t")
	if w.s.Cells[0].V != num(231) {
		t.Error(w.s.Cells)
	}
	w.tick(1)
	w.sees("t t t")
	// Each once, if it is still there: the first breaks what the second waits for.
	w = deployed(t, "p n=0; start s; part w; .start a; .catch c timer:2; .calc d n=7; .end z; bound b @w timer:1 breaks; task t; end e; s>w>t>e; b>t; a>c>d>z")
	w.begin("p")
	w.tick(9)
	w.sees("t")
	if w.s.Cells[0].V != num(0) {
		t.Error(w.s.Cells)
	}
	// A run after each: what the first one leads to removes the second one, whatever is picked.
	for _, pick := range []uint32{0, 1} {
		w = deployed(t, "p n=0; start s; part v; .start a; .catch b timer:1; .end c error:k; .catch d timer:2; .calc f n=1; .end g; bound h @v error:k breaks; task t; end e; s>v>t>e; h>t; a>b>c; a>d>f>g")
		w.begin("p")
		w.tick(5, pick, pick, pick)
		w.sees("t")
		if w.s.Cells[0].V != num(0) {
			t.Error(w.s.Cells)
		}
	}
	// The budget is that of all runs together.
	w = deployed(t, "p; start s; catch a timer:1; catch b timer:1; throw u; throw v; end e; s>a; s>b; a>u>e; b>v>e")
	w.begin("p")
	for budget, want := range map[int]api.Errno{4: api.ErrBudget, 5: api.OK} {
		n, a := run.Do(w.s, api.Command{Kind: api.Tick, N: 1}, nil, budget)
		if a.E != want || a.E != api.OK && !arena.Same(n, w.s) || a.E == api.OK && len(n.Items) != 0 {
			t.Error(budget, a, n.Items)
		}
	}
	// Without a watch that is due there is a run, too.
	s, _, _ := enter.Open(w.s, 0, "p", -1, -1)
	n, a := run.Do(s, api.Command{Kind: api.Tick, N: 1}, nil, 100)
	if l, _ := step.Rules(n); a.E != api.OK || len(l) != 0 {
		t.Error(a, l)
	}
}

func TestP29_1StopAndRetry(t *testing.T) {
	w := deployed(t, "p n=0; start s; part w; .start a; .task t; .end z; xor x; end e; end f; s>w>x; x>e if n==1; x>f if n==2; a>t>z; aside q; .start y error:k breaks; .end v; y>v", "r; start s; end e error:zz; s>e")
	one, two := w.begin("p"), w.begin("p")
	for id, want := range map[int]api.Errno{0: api.ErrNone, 99: api.ErrNone, w.at("t"): api.ErrNone, w.scope("w"): api.ErrState} {
		w.no(want, api.Command{Kind: api.Stop, ID: id})
	}
	before := w.s
	w.ok(api.Command{Kind: api.Stop, ID: one})
	if !arena.Same(w.s, cancel.Take(before, one)) || len(arena.Kids(w.s, two)) != 1 {
		t.Error(w.s)
	}
	w.done("t")
	w.sees("x+stuck:way")
	x := w.at("x")
	for id, want := range map[int]api.Errno{0: api.ErrNone, 99: api.ErrNone, two: api.ErrNone} {
		w.no(want, api.Command{Kind: api.Retry, ID: id})
	}
	w.ok(api.Command{Kind: api.Retry, ID: x})
	w.sees("x+stuck:way")
	w.put(two, "n", num(2))
	w.sees("x+stuck:way")
	w.ok(api.Command{Kind: api.Retry, ID: x})
	w.sees("")
	w.begin("r")
	w.sees("e+stuck:!zz")
	w.ok(api.Command{Kind: api.Retry, ID: w.at("e")})
	w.sees("e+stuck:!zz")
	w.begin("p")
	w.no(api.ErrState, api.Command{Kind: api.Retry, ID: w.at("t")})
}

func TestP29_2Calls(t *testing.T) {
	w := deployed(t, "c; start s; part w; .start a; .task t; .end b; .aside x; ..start y signal:k; ..task z; ..end v; end e; s>w>e; a>t>b; y>z>v", "b; start s; adhoc h text:no; .call q key:c; end e; s>h>e", "a; start s; call r key:b; end e; s>r>e")
	w.begin("a")
	w.ok(api.Command{Kind: api.Enable, ID: w.scope("h"), Name: "q"})
	w.cast("k")
	w.sees("r+holds h+holds q+holds w+holds t z")
	q, r := graph.Site{Proc: "b", Node: 2}, graph.Site{Proc: "a", Node: 1}
	for scope, want := range map[int][]graph.Site{w.scope("x"): {q, r}, w.scope("w"): {q, r}, w.scope("c"): {q, r}, w.scope("h"): {r}, w.scope("b"): {r}, w.scope("a"): nil, w.at("t"): nil, 0: nil, 99: nil} {
		if got := run.Calls(w.s, scope); !slices.Equal(got, want) {
			t.Error(scope, got)
		}
	}
	round := api.State{Items: []api.Item{{ID: 1, Up: 2, Is: api.Scope, Node: -1}, {ID: 2, Up: 1, Is: api.Token, Proc: "p", Node: 5}}}
	if got := run.Calls(round, 1); !slices.Equal(got, []graph.Site{{Proc: "p", Node: 5}}) {
		t.Error(got)
	}
}

func TestP29_2Enough(t *testing.T) {
	if run.Enough(api.State{}) != 0 {
		t.Error("nothing")
	}
	w := deployed(t, "q; start s; throw u; end e; start k signal:k; s>u>e; k>e", "p; start s; task t; bound b @t timer:1; adhoc h text:no; .task v; .throw x; .task y; end e; s>t>h>e; b>e; y>x; aside a; .start c signal:l; .throw d; .end f; c>d>f")
	// The Starts: 1 + 3, 1 + 2; 1 + 2.
	const starts = 4 + 3 + 3
	if got := run.Enough(w.s); got != starts {
		t.Error(got)
	}
	w.begin("p")
	// The scope: 1, and 1 + 3 for the Aside. The token at t: 2 + 1, along its flow 3 (h: 2, e: 1), along the Bound 1.
	if got := run.Enough(w.s); got != starts+1+4+3+3+1 {
		t.Error(got)
	}
	w.done("t")
	// At h: 2 + 3, along its flow 1. Its scope: 1, v: 1, x: 1, y: 1.
	if got := run.Enough(w.s); got != starts+5+6+1+3 {
		t.Error(got)
	}
	w = deployed(t, "p; start s; race r; catch a signal:k; catch b timer:3; throw u; end e; s>r; r>a; r>b; a>u>e; b>e")
	w.begin("p")
	// The Start: 1 + 2. The scope: 1. At r: 2 + 1, along its flows 2, along a: 2, along b: 1.
	if got := run.Enough(w.s); got != 3+1+3+2+3 {
		t.Error(got)
	}
	w = deployed(t, "p n=1; start s; task t; xor x; calc a n=1; s>t>x>a>x")
	if got := run.Enough(w.s); got != 3 {
		t.Error(got)
	}
	w.begin("p")
	if got := run.Enough(w.s); got != api.MaxSteps+1 {
		t.Error(got)
	}
	// What a token may do depends on where its scope came from.
	w = deployed(t, "q; start s; task t; end e error:k; s>t>e", "p; start s; call c key:q; bound b @c error:k breaks; throw u; throw v; end e; s>c>e; b>u>v>e")
	w.begin("p")
	q := 1 + 2
	p := 1 + 1 + 2 + 2 + 1
	scopes := 2
	c := 2 + (2 + 2 + 1) + 1 + 3
	tt := 2 + 1 + (1 + 3)
	if got := run.Enough(w.s); got != q+p+scopes+c+tt {
		t.Error(got, q+p+scopes+c+tt)
	}
}

func TestP29_1ErrorsOfWhatIsDone(t *testing.T) {
	// Opening a scope.
	w := deployed(t, "p n=1; start s; task t; end e; s>t>e; aside a; .start b timer:n-2; .end c; b>c", "q; start s; task t; end e; s>t>e")
	w.no(api.ErrRange, api.Command{Kind: api.Begin, Name: "p"})
	w.no(api.ErrRange, api.Command{Kind: api.Begin, Name: "p", Sets: set("n", num(5))})
	for len(w.s.Items) < api.MaxItems {
		w.begin("q")
	}
	w.no(api.ErrTooLarge, api.Command{Kind: api.Begin, Name: "q"})
	// A Timer that fires.
	w = deployed(t, "p n=1; start s; task t; end e; s>t>e; aside a; .start b timer:1; .end c; .aside d; ..start f timer:n-2; ..end g; b>c; f>g")
	w.begin("p")
	w.no(api.ErrRange, api.Command{Kind: api.Tick, N: 1})
	// The run after a Timer, even if the next Timer removed what fails.
	w = deployed(t, "p n=0; start s; part v; .start a; .catch b timer:1; .calc c n=1/n; .end d; bound f @v timer:2 breaks; end e; s>v>e; f>e; a>b>c>d")
	w.begin("p")
	w.no(api.ErrZero, api.Command{Kind: api.Tick, N: 5})
	// A run: an AdHoc whose Text cannot be evaluated makes each run fail, until a command changes that.
	w = deployed(t, "p n=1; start s; adhoc h text:1/n==2; .task a; end e; s>h>e", "q; start s; task t; end e; s>t>e")
	w.no(api.ErrZero, api.Command{Kind: api.Begin, Name: "p", Sets: set("n", num(0))})
	id := w.begin("p")
	w.no(api.ErrZero, api.Command{Kind: api.Put, ID: id, Sets: set("n", num(0))})
	bad, e := vars.Put(w.s, id, set("n", num(0)))
	if e != api.OK {
		t.Fatal(e)
	}
	if n, steps, e := run.Run(bad, nil, 5); e != api.ErrZero || steps != 0 || !arena.Same(n, bad) {
		t.Error(e)
	}
	for _, c := range []struct {
		c    api.Command
		want api.Errno
	}{
		{api.Command{Kind: api.Tick, N: 1}, api.ErrZero}, {api.Command{Kind: api.Begin, Name: "q"}, api.ErrZero}, {api.Command{Kind: api.Cast, Key: "k"}, api.ErrZero}, {api.Command{Kind: api.Enable, ID: w.scope("h"), Name: "a"}, api.OK},
		{api.Command{Kind: api.Put, ID: id, Sets: set("n", num(3))}, api.OK}, {api.Command{Kind: api.Stop, ID: id}, api.OK},
	} {
		w.s = bad
		w.no(c.want, c.c)
	}
}
