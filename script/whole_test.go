package script_test

import (
	"math/rand"
	"slices"
	"sort"
	"testing"

	"callboard/api"
	"callboard/arena"
	"callboard/cancel"
	"callboard/codec"
	"callboard/graph"
	"callboard/run"
	"callboard/script"
	"callboard/sketch"
	"callboard/step"
)

// author writes scripts: it follows the state that they lead to.
type author struct {
	r    *rand.Rand
	defs []api.Process
	s    api.State
}

func newAuthor(r *rand.Rand, quiet bool) *author {
	return &author{r: r, defs: sketch.Defs(2, quiet, r.Intn)}
}

// op returns a random command for the state.
func (a *author) op(t *testing.T) script.Op {
	r := a.r
	var picks []uint32
	for range r.Intn(6) {
		picks = append(picks, r.Uint32())
	}
	if n := len(a.s.Defs); n < len(a.defs) && r.Intn(2) == 0 {
		s, e := codec.Encode(a.defs[n])
		if e != api.OK {
			t.Fatal(e)
		}
		return told(api.Command{Kind: api.Deploy, Bytes: s}, picks...)
	}
	kinds := []uint8{api.Begin, api.Begin, api.Done, api.Done, api.Done, api.Done, api.Fail, api.Enable, api.Put, api.Cast, api.Tick, api.Stop, api.Retry}
	c := api.Command{Kind: kinds[r.Intn(len(kinds))], N: r.Intn(4), Name: a.defs[r.Intn(2)].Name, Key: []string{"k", "l", "m", "K"}[r.Intn(4)]}
	c.ID = r.Intn(a.s.Next + 2)
	if n := len(a.s.Items); n > 0 && r.Intn(5) > 0 {
		it := a.s.Items[r.Intn(n)]
		c.ID = it.ID
		if c.Kind == api.Enable {
			d, _ := arena.Def(a.s, it.Proc)
			if l := graph.Within(d, it.Node); len(l) > 0 {
				c.Name = d.Nodes[l[r.Intn(len(l))]].Name
			}
		}
	}
	if r.Intn(3) == 0 {
		c.Sets = []api.Set{{Name: []string{"n", "b"}[r.Intn(2)], V: num(int64(r.Intn(5) - 1))}}
	}
	return told(c, picks...)
}

// TestP1Rules: without crashes each answer, and the state, is the result of the rules.
func TestP1Rules(t *testing.T) {
	for seed := range int64(40) {
		a := newAuthor(rand.New(rand.NewSource(400+seed)), false)
		var l []script.Op
		var want []api.Answer
		commits := 0
		for range 50 {
			o := a.op(t)
			n, w := run.Do(a.s, o.C, o.Picks, 150)
			if w.E != api.OK && !arena.Same(n, a.s) {
				t.Fatal("a refused command changed something")
			}
			if !arena.Same(n, a.s) {
				commits++
			}
			a.s = n
			l, want = append(l, o), append(want, w)
		}
		r, e := script.Play(4*api.MaxPages, 150, l)
		if e != api.OK || !slices.Equal(r.Answers, want) || !arena.Same(r.State, a.s) || r.Commits != commits {
			t.Fatal(e, r.Commits, commits)
		}
	}
}

// TestP2Atomicity: the state after each crash is that of the commands that were answered, or with the one in progress.
func TestP2Atomicity(t *testing.T) {
	both := map[bool]int{}
	for seed := range int64(40) {
		a := newAuthor(rand.New(rand.NewSource(500+seed)), false)
		r := a.r
		var l []script.Op
		// What may be there after a crash: the state, and the one with the command in progress.
		pending := a.s
		for range 12 {
			for range 1 + r.Intn(4) {
				o := a.op(t)
				n, _ := run.Do(a.s, o.C, o.Picks, 150)
				a.s, pending = n, n
				l = append(l, o)
			}
			if r.Intn(2) == 0 {
				o := a.op(t)
				n, _ := run.Do(a.s, o.C, o.Picks, 150)
				fuse := r.Intn(40)
				if r.Intn(2) == 0 {
					fuse = max(needs(t, l, o)-1-r.Intn(4), 0)
				}
				l = append(l, script.Op{Kind: script.Fuse, N: fuse}, o)
				rep := prefix(t, l)
				if last := rep.Answers[len(l)-1]; last.E == api.ErrDead {
					pending = n
				} else {
					a.s, pending = rep.State, rep.State
				}
			}
			crash := script.Op{Kind: script.Crash, Torn: r.Intn(8) - 1, Cut: r.Intn(65)}
			for range r.Intn(30) {
				crash.Keep = append(crash.Keep, r.Intn(2) == 0)
			}
			l = append(l, crash)
			rep := prefix(t, l)
			isOld, isNew := arena.Same(rep.State, a.s), arena.Same(rep.State, pending)
			if !isOld && !isNew || rep.Answers[len(l)-1].E != api.OK || rep.Commits != 0 {
				t.Fatal("after a crash", rep.Answers)
			}
			if !arena.Same(a.s, pending) {
				both[isNew]++
			}
			a.s, pending = rep.State, rep.State
		}
	}
	if both[true] < 5 || both[false] < 20 {
		t.Error("too few", both)
	}
}

// needs returns how many writes and flushes an operation does, after others.
func needs(t *testing.T, l []script.Op, o script.Op) int {
	t.Helper()
	return sort.Search(400, func(n int) bool {
		r := prefix(t, append(slices.Clone(l), script.Op{Kind: script.Fuse, N: n}, o))
		return r.Answers[len(l)+1].E != api.ErrDead
	})
}

// prefix plays operations.
func prefix(t *testing.T, l []script.Op) script.Report {
	t.Helper()
	r, e := script.Play(1600, 150, l)
	if e != api.OK || len(r.Answers) != len(l) {
		t.Fatal(e)
	}
	return r
}

// TestP32_4Determinism: a script has one outcome, and a prefix of it a prefix of the answers.
func TestP32_4Determinism(t *testing.T) {
	for seed := range int64(15) {
		a := newAuthor(rand.New(rand.NewSource(600+seed)), false)
		var l []script.Op
		for range 25 {
			o := a.op(t)
			switch a.r.Intn(6) {
			case 0:
				o = script.Op{Kind: script.Fuse, N: a.r.Intn(60)}
			case 1:
				o = script.Op{Kind: script.Crash, Keep: []bool{true, false, true}, Torn: a.r.Intn(4) - 1, Cut: a.r.Intn(65)}
			}
			l = append(l, o)
			a.s = prefix(t, l).State
		}
		whole, again := prefix(t, l), prefix(t, l)
		if !slices.Equal(whole.Answers, again.Answers) || !arena.Same(whole.State, again.State) || whole.Commits != again.Commits {
			t.Fatal("another outcome")
		}
		for n := range l {
			if r := prefix(t, l[:n]); !slices.Equal(r.Answers, whole.Answers[:n]) {
				t.Fatal("a prefix", n)
			}
		}
	}
}

// TestP32_5NothingLost: a crash after a command that was answered, with nothing kept, changes nothing.
func TestP32_5NothingLost(t *testing.T) {
	for seed := range int64(20) {
		a := newAuthor(rand.New(rand.NewSource(700+seed)), false)
		var l, crashing []script.Op
		for range 30 {
			o := a.op(t)
			a.s, _ = run.Do(a.s, o.C, o.Picks, 150)
			l = append(l, o)
			crashing = append(crashing, o, script.Op{Kind: script.Crash})
		}
		x, y := prefix(t, l), prefix(t, crashing)
		if !arena.Same(x.State, y.State) || !arena.Same(x.State, a.s) {
			t.Fatal("something was lost")
		}
		for i, answer := range x.Answers {
			if y.Answers[2*i] != answer || y.Answers[2*i+1] != (api.Answer{}) {
				t.Fatal("another answer")
			}
		}
	}
}

// TestP3Interruption: what is interrupted is gone, and nothing else; each example tells what is there afterwards.
func TestP3Interruption(t *testing.T) {
	text := "p n=1; start s; part w m=2; .start a; .part v; ..start b; ..task c; ..task d; ..end f; .task g; .end h; .aside x; ..start y signal:k breaks; ..task z; ..end q; .aside o; ..start oo signal:l; ..task ot; ..end oe; bound i @w timer:5 breaks; bound j @w signal:m; task u; task r; end e; s>w>e; s>u>e; a>v>h; a>g>h; b>c>f; b>d>f; y>z>q; oo>ot>oe; i>r>e; j>r"
	begin := []script.Op{deploy(t, text), told(api.Command{Kind: api.Begin, Name: "p"})}
	before := play(t, begin...).State
	at := func(s api.State, name string) int {
		for _, it := range s.Items {
			if n, ok := arena.NodeOf(s, it); ok && it.Is == api.Token && n.Name == name {
				return it.ID
			}
		}
		t.Fatal("nothing at", name)
		return 0
	}
	w := at(before, "w")
	scope := arena.Kids(before, w)[0]
	for _, c := range []struct {
		c    api.Command
		gone []int
		put  int
	}{
		{api.Command{Kind: api.Cast, Key: "k"}, arena.Below(before, scope), 2},
		{api.Command{Kind: api.Cast, Key: "l"}, nil, 2},
		{api.Command{Kind: api.Cast, Key: "m"}, nil, 1},
		{api.Command{Kind: api.Tick, N: 5}, append(arena.Below(before, w), w), 1},
		{api.Command{Kind: api.Tick, N: 4}, nil, 0},
	} {
		after := play(t, append(slices.Clone(begin), told(c.c))...).State
		slices.Sort(c.gone)
		if got := cancel.Gone(before, after); !slices.Equal(got, c.gone) {
			t.Error(c.c, "gone", got, c.gone)
		}
		if got := cancel.Gone(after, before); len(got) != c.put {
			t.Error(c.c, "put", got)
		}
		for _, it := range after.Items {
			if old, ok := arena.Find(before, it.ID); ok && old != it {
				t.Error(c.c, "an item changed", it)
			}
		}
		for _, cell := range before.Cells {
			if _, stays := arena.Find(after, cell.Scope); stays && !slices.Contains(after.Cells, cell) {
				t.Error(c.c, "a cell changed", cell)
			}
		}
		for _, x := range after.Watches {
			if _, ok := arena.Find(after, x.Item); !ok || c.c.Key == "k" && x.Item == scope {
				t.Error(c.c, "a watch is left", x)
			}
		}
	}
}

// TestP4EachOnce: each watch and each process once, and what is created by a signal receives nothing of it.
func TestP4EachOnce(t *testing.T) {
	p := "p n=0; start s; catch a signal:k; catch b signal:k; task t; bound c @t signal:k; calc d n=n+1; catch again signal:k; calc f n=n+10; calc g n=n+100; task u; end e; s>a>d>again>u; s>b>f>u; s>t>e; c>g>u; u>e"
	q := "q; start s signal:k; catch c signal:k; end e; s>c>e"
	l := []script.Op{deploy(t, p), deploy(t, q), told(api.Command{Kind: api.Begin, Name: "p"})}
	r := rand.New(rand.NewSource(800))
	for range 20 {
		o := told(api.Command{Kind: api.Cast, Key: "k"}, r.Uint32(), r.Uint32(), r.Uint32())
		s := play(t, append(slices.Clone(l), o)...).State
		scopes := 0
		for _, it := range s.Items {
			if it.Is == api.Scope && it.Proc == "q" {
				scopes++
			}
		}
		if s.Cells[0].V != num(111) || scopes != 1 || len(s.Watches) != 3 {
			t.Error(s.Cells, scopes, s.Watches)
		}
		s = play(t, append(slices.Clone(l), o, o)...).State
		if s.Cells[0].V != num(211) {
			t.Error(s.Cells)
		}
	}
	// If nobody waits, nothing changes.
	l = l[:1]
	nobody := append(slices.Clone(l), told(api.Command{Kind: api.Cast, Key: "k"}))
	if a, b := play(t, l...), play(t, nobody...); !arena.Same(a.State, b.State) || b.Commits != 1 || b.Answers[1].E != api.OK {
		t.Error(b)
	}
}

// TestP5Termination: every command ends, in a state without rules, or with ErrBudget; for quiet processes a budget of Enough is enough.
func TestP5Termination(t *testing.T) {
	for seed := range int64(40) {
		quiet := seed%2 == 0
		a := newAuthor(rand.New(rand.NewSource(900+seed)), quiet)
		var l []script.Op
		for range 30 {
			o := a.op(t)
			enough := run.Enough(a.s)
			if quiet && enough <= api.MaxSteps {
				if _, answer := run.Do(a.s, o.C, o.Picks, max(enough, 1)); answer.E == api.ErrBudget {
					t.Fatal("not enough", enough)
				}
			}
			n, answer := run.Do(a.s, o.C, o.Picks, 150)
			if rules, e := step.Rules(n); answer.E == api.OK && o.C.Kind != api.Deploy && (len(rules) > 0 || e != api.OK) {
				t.Fatal("a rule is left", rules, e)
			}
			a.s = n
			l = append(l, o)
		}
		if r := prefix(t, l); !arena.Same(r.State, a.s) {
			t.Fatal("another state")
		}
	}
	// A cycle without a node that waits ends all the same.
	r := play(t, deploy(t, "p n=1; start s; calc a n=1; calc b n=2; s>a>b>a"), told(api.Command{Kind: api.Begin, Name: "p"}))
	if r.Answers[1].E != api.ErrBudget || len(r.State.Items) != 0 || r.Commits != 1 {
		t.Error(r)
	}
}

// TestR1Arguments: what is handed in is not changed.
func TestR1Arguments(t *testing.T) {
	l := append(full(), deploy(t, simple), told(api.Command{Kind: api.Begin, Name: "p", Sets: []api.Set{{Name: "n", V: num(1)}}}))
	s, e := script.Encode(l)
	if e != api.OK {
		t.Fatal(e)
	}
	l = l[:1]
	before, _ := script.Encode(l)
	script.Play(100, 10, l)
	if after, _ := script.Encode(l); after != before {
		t.Error("operations were modified")
	}
	a, _ := script.Decode(s)
	b, _ := script.Decode(s)
	a[0].C.Sets[0].Name, a[0].Picks[0], a[2].Keep[0] = "!", 99, false
	if b[0].C.Sets[0].Name == "!" || b[0].Picks[0] == 99 || !b[2].Keep[0] {
		t.Error("shared memory")
	}
}
