package cast_test

import (
	"math"
	"math/rand"
	"slices"
	"testing"

	"callboard/api"
	"callboard/arena"
	"callboard/cancel"
	"callboard/cast"
	"callboard/enter"
	"callboard/fire"
	"callboard/sketch"
	"callboard/subs"
)

func TestP27_1Picks(t *testing.T) {
	l := []uint32{7, 0, math.MaxUint32, 5, 1 << 31}
	p := cast.NewPicks(l)
	l[0] = 99
	for i, c := range []struct{ n, want, used int }{
		{3, 1, 1}, {0, 0, 1}, {-4, 0, 1}, {math.MinInt, 0, 1}, {1, 0, 2}, {10, 5, 3}, {math.MaxInt, 5, 4}, {3, 2, 5}, {9, 0, 6}, {1, 0, 7}, {0, 0, 7},
	} {
		if got := p.Next(c.n); got != c.want || p.Used() != c.used {
			t.Error(i, got, p.Used())
		}
	}
	big := cast.NewPicks([]uint32{math.MaxUint32})
	if got := big.Next(math.MaxInt); got != math.MaxUint32 {
		t.Error(got)
	}
	var none *cast.Picks
	if none.Next(5) != 0 || none.Used() != 0 || cast.NewPicks(nil).Next(5) != 0 || cast.NewPicks(nil).Used() != 0 {
		t.Error("no picks")
	}
}

var waiter = sketch.Process(`waiter
	start s
	catch c signal:k
	catch d signal:l
	task t
	bound b @t signal:k
	bound bb @t signal:k breaks
	part w
	.start a
	.catch ac signal:k
	.task at
	.end z
	bound wb @w signal:k breaks
	end e
	end f
	s>c>d>t>w>e; b>f; bb>f; wb>f; a>ac>at>z`)

var begun = sketch.Process("begun; start p; start s signal:k; start u signal:l; task t; end e; p>t; s>t>e; u>t; aside q; .start r signal:m; .end v; r>v")

var other = sketch.Process("other; start s signal:k; catch c signal:k; end e; s>c>e")

var quiet = sketch.Process("quiet; start s; part w; .start a; .end b; end e; s>w>e; a>b; aside x; .start y signal:k; .end z; y>z")

func at(name string) int { return sketch.At(waiter, name) }

// token adds a token at a node, in scope 1, that waits there.
func token(t *testing.T, s api.State, name string) (api.State, int) {
	t.Helper()
	s, id, e := enter.Put(s, 1, at(name), -1)
	if e != api.OK {
		t.Fatal(e)
	}
	it, _ := arena.Find(s, id)
	if n, _ := arena.NodeOf(s, it); n.Kind == api.Catch {
		it.Wait = api.Awaits
		s, e = subs.Add(arena.Turn(s, it), id, it.Node)
	} else {
		s, e = enter.Begin(s, id)
	}
	if e != api.OK {
		t.Fatal(e)
	}
	return s, id
}

func base(t *testing.T, defs ...api.Process) api.State {
	t.Helper()
	s, _, e := enter.Open(api.State{Defs: append([]api.Process{waiter}, defs...)}, 0, "waiter", -1, -1)
	if e != api.OK {
		t.Fatal(e)
	}
	return cancel.Clear(s, 1)
}

func TestP27_2Targets(t *testing.T) {
	s := base(t, quiet, begun, other)
	s, a := token(t, s, "c")
	s, _ = token(t, s, "d")
	s, b := token(t, s, "t")
	of := subs.Of(s, b)
	for key, want := range map[string]struct {
		watches []int
		begins  []cast.Begin
	}{
		"k": {[]int{subs.Of(s, a)[0].ID, of[0].ID, of[1].ID}, []cast.Begin{{"begun", 1}, {"other", 0}}}, "l": {[]int{a + 3}, []cast.Begin{{"begun", 2}}}, "m": {nil, nil}, "": {nil, nil}, "none": {nil, nil},
	} {
		watches, begins := cast.Targets(s, key)
		if key == "l" {
			want.watches = []int{subs.Named(s, "l")[0]}
		}
		if !slices.Equal(watches, want.watches) || !slices.Equal(begins, want.begins) {
			t.Error(key, watches, begins)
		}
	}
	two := sketch.Process("two; start p; start s signal:k; start u signal:k")
	if _, begins := cast.Targets(api.State{Defs: []api.Process{two}}, "k"); !slices.Equal(begins, []cast.Begin{{"two", 1}}) {
		t.Error(begins)
	}
}

func TestP27_2Examples(t *testing.T) {
	s := base(t, begun)
	s, a := token(t, s, "c")
	s, b := token(t, s, "c")
	w1, w2 := subs.Of(s, a)[0].ID, subs.Of(s, b)[0].ID
	p := cast.NewPicks([]uint32{1, 1, 9})
	got, e := cast.Cast(s, "k", p)
	want, _ := fire.Fire(s, w2)
	want, _, _ = enter.Open(want, 0, "begun", -1, 1)
	want, _ = fire.Fire(want, w1)
	if e != api.OK || !arena.Same(got, want) || p.Used() != 3 {
		t.Error(got.Items, e, p.Used())
	}
	if n, _ := arena.Find(got, got.Next); n.Node != at("d") {
		t.Error(n)
	}
	// Without targets nothing changes.
	p = cast.NewPicks([]uint32{4})
	if n, e := cast.Cast(s, "m", p); e != api.OK || !arena.Same(n, s) || p.Used() != 0 {
		t.Error(e, p.Used())
	}
	// Nil picks are 0.
	a1, e1 := cast.Cast(s, "k", nil)
	a2, e2 := cast.Cast(s, "k", cast.NewPicks(nil))
	if e1 != api.OK || e2 != api.OK || !arena.Same(a1, a2) {
		t.Error(e1, e2)
	}
	// The Start that is begun is that of the signal; there is no other token.
	n, _ := cast.Cast(base(t, begun), "l", nil)
	if len(n.Items) != 3 || n.Items[1].Proc != "begun" || n.Items[1].Up != 0 || n.Items[1].Node != -1 || n.Items[2].Node != 2 {
		t.Error(n.Items)
	}
}

func TestP27_3StillThere(t *testing.T) {
	s := base(t)
	s, id := token(t, s, "w")
	scope := arena.Kids(s, id)[0]
	inner, _, _ := enter.Put(cancel.Clear(s, scope), scope, at("ac"), -1)
	it := inner.Items[len(inner.Items)-1]
	it.Wait = api.Awaits
	inner, _ = subs.Add(arena.Turn(inner, it), it.ID, it.Node)
	outer := subs.Of(inner, id)[0].ID
	nested := subs.Of(inner, it.ID)[0].ID
	// The Bound first: what is in the Part is gone when its turn comes; a pick is used all the same.
	p := cast.NewPicks([]uint32{0, 5})
	got, e := cast.Cast(inner, "k", p)
	want, _ := fire.Fire(inner, outer)
	if e != api.OK || !arena.Same(got, want) || p.Used() != 2 {
		t.Error(got.Items, e, p.Used())
	}
	p = cast.NewPicks([]uint32{1})
	got, e = cast.Cast(inner, "k", p)
	want, _ = fire.Fire(inner, nested)
	want, _ = fire.Fire(want, outer)
	if e != api.OK || !arena.Same(got, want) || p.Used() != 2 {
		t.Error(got.Items, e, p.Used())
	}
}

func TestP27_4NothingMore(t *testing.T) {
	// The scope of quiet has an Aside of k: its watch is made by the signal, and receives nothing of it.
	again := sketch.Process("again; start s signal:k; end e; s>e; aside x; .start y signal:k; .task v; .end z; y>v>z")
	s := api.State{Defs: []api.Process{again}}
	n, e := cast.Cast(s, "k", nil)
	if e != api.OK || len(n.Items) != 2 || len(n.Watches) != 1 {
		t.Error(n, e)
	}
	n, e = cast.Cast(n, "k", nil)
	if e != api.OK || len(n.Items) != 6 || len(n.Watches) != 2 {
		t.Error(n, e)
	}
}

func TestP27_2Errors(t *testing.T) {
	s := base(t, begun)
	s, _ = token(t, s, "t")
	for len(s.Items) < api.MaxItems-3 {
		s, _, _ = enter.Put(s, 1, at("e"), -1)
	}
	// One token more, one that leaves by the Bound that breaks, a scope and its token: three items more.
	for _, picks := range []uint32{0, 2} {
		p := cast.NewPicks([]uint32{picks})
		if n, e := cast.Cast(s, "k", p); e != api.OK || len(n.Items) != api.MaxItems || p.Used() != 3 {
			t.Error(picks, e, p.Used())
		}
		full, _, _ := enter.Put(s, 1, at("e"), -1)
		p = cast.NewPicks([]uint32{picks})
		if n, e := cast.Cast(full, "k", p); e != api.ErrTooLarge || !arena.Same(n, full) || p.Used() == 0 {
			t.Error(picks, e, p.Used())
		}
	}
	bad := sketch.Process("bad; start s signal:k; end e; s>e; aside x; .start y timer:0-1; .end z; y>z")
	s = base(t, bad)
	if n, e := cast.Cast(s, "k", nil); e != api.ErrRange || !arena.Same(n, s) {
		t.Error(e)
	}
	stray := base(t)
	stray.Watches = []api.Watch{{ID: 7, Item: 99, Event: api.Signal, Key: "k"}}
	if n, e := cast.Cast(stray, "k", nil); e != api.ErrNone || !arena.Same(n, stray) {
		t.Error(e)
	}
}

// grown returns a state that was stirred for a while.
func grown(r *rand.Rand) api.State {
	return sketch.Stirred(3, 5+r.Intn(40), r.Intn)
}

// plain is what a broadcast is: all targets in the order that is picked.
func plain(s api.State, key string, picks []uint32) (api.State, api.Errno, int) {
	watches, begins := cast.Targets(s, key)
	targets := len(watches) + len(begins)
	n := s
	for i := 0; len(watches)+len(begins) > 0; i++ {
		at := 0
		if i < len(picks) {
			at = int(picks[i]) % (len(watches) + len(begins))
		}
		var e api.Errno
		if at < len(watches) {
			if _, ok := subs.Find(n, watches[at]); ok {
				n, e = fire.Fire(n, watches[at])
			}
			watches = slices.Delete(watches, at, at+1)
		} else {
			at -= len(watches)
			n, _, e = enter.Open(n, 0, begins[at].Proc, -1, begins[at].Start)
			begins = slices.Delete(begins, at, at+1)
		}
		if e != api.OK {
			return s, e, 0
		}
	}
	return n, api.OK, targets
}

func TestP27_3To7Grown(t *testing.T) {
	r := rand.New(rand.NewSource(270))
	many := 0
	for range 500 {
		s := grown(r)
		copied := arena.Copy(s)
		key := []string{"k", "l", "m"}[r.Intn(3)]
		var picks []uint32
		for range r.Intn(6) {
			picks = append(picks, r.Uint32()>>r.Intn(32))
		}
		p := cast.NewPicks(picks)
		n, e := cast.Cast(s, key, p)
		want, e2, targets := plain(s, key, picks)
		if e != e2 || !arena.Same(n, want) || !arena.Same(s, copied) {
			t.Fatal("another result", e, e2)
		}
		if again, e2 := cast.Cast(s, key, cast.NewPicks(picks)); e2 != e || !arena.Same(again, n) {
			t.Fatal("another result the second time")
		}
		if e != api.OK {
			if !arena.Same(n, s) {
				t.Fatal("something changed")
			}
			continue
		}
		if p.Used() != targets || !arena.Sound(n) {
			t.Fatal("picks", p.Used(), targets)
		}
		if targets > 1 {
			many++
		}
		_, begins := cast.Targets(s, key)
		opened := map[string]int{}
		for _, it := range n.Items {
			if it.ID > s.Next && it.Is == api.Scope && it.Up == 0 {
				opened[it.Proc]++
			}
		}
		if len(opened) != len(begins) {
			t.Fatal("begun", opened, begins)
		}
		for _, b := range begins {
			if opened[b.Proc] != 1 {
				t.Fatal("begun", opened)
			}
		}
		for _, w := range n.Watches {
			if w.ID > s.Next && w.Event == api.Cond && !w.Armed {
				t.Fatal("what was made has fired", w)
			}
		}
	}
	if many < 50 {
		t.Error("too few:", many)
	}
}

func TestR1AnyState(t *testing.T) {
	r := rand.New(rand.NewSource(271))
	for range 2000 {
		s := api.State{Next: 20, Defs: []api.Process{waiter, begun}}
		for range r.Intn(9) {
			s.Items = append(s.Items, api.Item{ID: r.Intn(9), Up: r.Intn(9), Is: uint8(r.Intn(4)), Proc: []string{"waiter", "none"}[r.Intn(2)], Node: r.Intn(20) - 2, Wait: uint8(r.Intn(8))})
			s.Watches = append(s.Watches, api.Watch{ID: r.Intn(9), Item: r.Intn(9), Node: r.Intn(20) - 2, Event: api.Signal, Key: "k"})
		}
		before := arena.Copy(s)
		cast.Cast(s, "k", cast.NewPicks([]uint32{r.Uint32(), r.Uint32()}))
		if !arena.Same(s, before) {
			t.Fatal("a state was modified")
		}
	}
}
