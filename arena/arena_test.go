package arena_test

import (
	"math/rand"
	"slices"
	"testing"

	"callboard/api"
	"callboard/arena"
	"callboard/model"
	"callboard/sketch"
)

func scope(up int, proc string, node int) api.Item {
	return api.Item{Up: up, Is: api.Scope, Proc: proc, Node: node, From: -1}
}

func token(up int, proc string, node int, wait uint8) api.Item {
	return api.Item{Up: up, Is: api.Token, Proc: proc, Node: node, From: -1, Wait: wait}
}

func add(t *testing.T, s api.State, it api.Item) (api.State, int) {
	t.Helper()
	s, id, e := arena.Add(s, it)
	if e != api.OK {
		t.Fatal(e)
	}
	return s, id
}

var p = sketch.Process(`p
	start s
	task t
	part w
	.start a
	.task b
	.end c
	.aside x
	..start d signal:k
	..task g
	..end f
	adhoc h text:yes
	.task i
	call j key:q
	catch k signal:k
	race l
	all m
	some n
	xor o
	end e error:k
	aside y
	.start u signal:k
	.end v
	s>t>w>h>j>k>l>m>n>o>e; a>b>c; d>g>f; u>v`)

var q = sketch.Process("q; start s; task t; end e; s>t>e")

func at(name string) int { return sketch.At(p, name) }

// base is a sound state with an item of every sort.
func base() api.State {
	s := api.State{Clock: 7, Next: 30, Defs: []api.Process{p, q}}
	s.Items = []api.Item{
		1:  {ID: 3, Up: 2, Is: api.Token, Proc: "p", Node: at("t"), From: 0, Wait: api.Works},
		0:  {ID: 2, Up: 0, Is: api.Scope, Proc: "p", Node: -1, From: -1},
		2:  {ID: 4, Up: 2, Is: api.Token, Proc: "p", Node: at("w"), From: 1, Wait: api.Holds},
		3:  {ID: 5, Up: 4, Is: api.Scope, Proc: "p", Node: at("w"), From: -1},
		4:  {ID: 6, Up: 5, Is: api.Token, Proc: "p", Node: at("b"), From: -1, Wait: api.Ready},
		5:  {ID: 7, Up: 5, Is: api.Scope, Proc: "p", Node: at("x"), From: -1},
		6:  {ID: 8, Up: 7, Is: api.Token, Proc: "p", Node: at("g"), From: -1, Wait: api.Works},
		7:  {ID: 9, Up: 2, Is: api.Token, Proc: "p", Node: at("h"), From: -1, Wait: api.Holds},
		8:  {ID: 10, Up: 9, Is: api.Scope, Proc: "p", Node: at("h"), From: -1},
		9:  {ID: 12, Up: 2, Is: api.Token, Proc: "p", Node: at("j"), From: -1, Wait: api.Holds},
		10: {ID: 13, Up: 12, Is: api.Scope, Proc: "q", Node: -1, From: -1},
		11: {ID: 14, Up: 13, Is: api.Token, Proc: "q", Node: 1, From: 0, Wait: api.Works},
		12: {ID: 15, Up: 2, Is: api.Token, Proc: "p", Node: at("k"), From: -1, Wait: api.Awaits},
		13: {ID: 16, Up: 2, Is: api.Token, Proc: "p", Node: at("l"), From: -1, Wait: api.Awaits},
		14: {ID: 17, Up: 2, Is: api.Token, Proc: "p", Node: at("m"), From: -1, Wait: api.Joins},
		15: {ID: 18, Up: 2, Is: api.Token, Proc: "p", Node: at("n"), From: -1, Wait: api.Joins},
		16: {ID: 19, Up: 2, Is: api.Token, Proc: "p", Node: at("o"), From: -1, Wait: api.Stuck, Code: "way"},
		17: {ID: 20, Up: 2, Is: api.Token, Proc: "p", Node: at("e"), From: -1, Wait: api.Stuck, Code: "!k"},
		18: {ID: 21, Up: 2, Is: api.Token, Proc: "p", Node: at("n"), From: -1, Wait: api.Stuck, Code: "way"},
		19: {ID: 22, Up: 2, Is: api.Scope, Proc: "p", Node: at("y"), From: -1},
		20: {ID: 23, Up: 0, Is: api.Scope, Proc: "q", Node: -1, From: -1},
	}
	return s
}

func TestP18_1Examples(t *testing.T) {
	s, a := add(t, api.State{}, scope(0, "p", -1))
	s, b := add(t, s, token(1, "p", 0, api.Ready))
	if a != 1 || b != 2 || s.Next != 2 || !slices.Equal(arena.Kids(s, 1), []int{2}) || arena.Depth(s, 2) != 1 || arena.Depth(s, 1) != 1 {
		t.Error(a, b, s)
	}
	if s2, id, e := arena.Add(s, token(9, "p", 0, api.Ready)); e != api.ErrNone || id != 0 || !arena.Same(s, s2) {
		t.Error(e)
	}
}

func TestP18_1Add(t *testing.T) {
	s := base()
	it := token(2, "p", 0, api.Ready)
	it.ID, it.Code, it.From = 3, "anything", 99
	n, id := add(t, s, it)
	it.ID = 31
	if got, ok := arena.Find(n, 31); id != 31 || n.Next != 31 || got != it || !ok || n.Items[len(n.Items)-1] != it || len(n.Items) != len(s.Items)+1 {
		t.Error(id, got)
	}
	for _, c := range []struct {
		it   api.Item
		want api.Errno
	}{
		{api.Item{Up: 2}, api.ErrForm}, {api.Item{Up: 99, Is: 3}, api.ErrForm}, {api.Item{Is: 255}, api.ErrForm}, {scope(99, "p", -1), api.ErrNone}, {scope(-1, "p", -1), api.ErrNone}, {token(1, "p", 0, 0), api.ErrNone},
		{token(0, "p", 0, 0), api.OK}, {scope(0, "p", -1), api.OK}, {token(3, "nowhere", 77, 0), api.OK},
	} {
		n, id, e := arena.Add(s, c.it)
		if e != c.want || e != api.OK && (id != 0 || !arena.Same(n, s)) || e == api.OK && id != 31 {
			t.Error(c.it, id, e)
		}
	}
	if !arena.Same(s, base()) {
		t.Error("a state was modified")
	}
}

func TestP18_1AddLimits(t *testing.T) {
	s := api.State{}
	for range api.MaxItems {
		s, _ = add(t, s, scope(0, "p", -1))
	}
	if n, id, e := arena.Add(s, scope(0, "p", -1)); e != api.ErrTooLarge || id != 0 || !arena.Same(n, s) {
		t.Error(e)
	}
	if _, _, e := arena.Add(s, api.Item{}); e != api.ErrForm {
		t.Error(e)
	}
	if _, _, e := arena.Add(s, token(999, "p", 0, 0)); e != api.ErrNone {
		t.Error(e)
	}
	s = api.State{Next: api.MaxNumber - 1}
	s, id := add(t, s, scope(0, "p", -1))
	if n, _, e := arena.Add(s, scope(0, "p", -1)); id != api.MaxNumber || e != api.ErrTooLarge || n.Next != api.MaxNumber {
		t.Error(id, e)
	}
	// Scopes, one in the other, with tokens that hold them.
	s = api.State{}
	up := 0
	for d := 1; d <= api.MaxDepth; d++ {
		s, up = add(t, s, scope(up, "p", -1))
		if arena.Depth(s, up) != d {
			t.Error(d)
		}
		s, up = add(t, s, token(up, "p", 0, api.Holds))
		if arena.Depth(s, up) != d {
			t.Error(d)
		}
	}
	if n, id, e := arena.Add(s, scope(up, "p", -1)); e != api.ErrTooLarge || id != 0 || !arena.Same(n, s) {
		t.Error(e)
	}
	if _, _, e := arena.Add(s, token(up, "p", 0, 0)); e != api.OK {
		t.Error(e)
	}
	if _, _, e := arena.Add(s, scope(0, "p", -1)); e != api.OK {
		t.Error(e)
	}
	if _, _, e := arena.Add(s, scope(up-2, "p", -1)); e != api.OK {
		t.Error(e)
	}
}

func TestP18_1Turn(t *testing.T) {
	s := base()
	it, ok := arena.Find(s, 6)
	if !ok || it.Node != at("b") {
		t.Fatal(it)
	}
	it.Wait, it.Code = api.Works, "x"
	n := arena.Turn(s, it)
	for i, x := range n.Items {
		if x.ID == 6 && x != it || x.ID != 6 && x != s.Items[i] {
			t.Error(x)
		}
	}
	if !arena.Same(s, base()) {
		t.Error("a state was modified")
	}
	old, _ := arena.Find(s, 6)
	if !arena.Same(arena.Turn(n, old), s) {
		t.Error("turned back")
	}
	it.ID = 11
	if !arena.Same(arena.Turn(s, it), s) {
		t.Error("an item that is not there")
	}
	for _, id := range []int{0, -1, 1, 11, 99} {
		if x, ok := arena.Find(s, id); ok || x != (api.Item{}) {
			t.Error(id, x)
		}
	}
	// Of several with an ID the first counts.
	s.Items = append(s.Items, api.Item{ID: 6, Code: "second"})
	if x, _ := arena.Find(s, 6); x.Code != "" {
		t.Error(x)
	}
	it.ID = 6
	if n = arena.Turn(s, it); n.Items[len(n.Items)-1].Code != "second" || n.Items[4] != it {
		t.Error(n.Items)
	}
}

func TestP18_2Relations(t *testing.T) {
	s := base()
	for id, want := range map[int][]int{2: {3, 4, 9, 12, 15, 16, 17, 18, 19, 20, 21, 22}, 4: {5}, 5: {6, 7}, 0: {2, 23}, 23: nil, 3: nil, 99: nil, 12: {13}} {
		if got := arena.Kids(s, id); !slices.Equal(got, want) {
			t.Error("Kids", id, got)
		}
	}
	for id, want := range map[int][]int{2: {3, 4, 5, 6, 7, 8, 9, 10, 12, 13, 14, 15, 16, 17, 18, 19, 20, 21, 22}, 4: {5, 6, 7, 8}, 5: {6, 7, 8}, 12: {13, 14}, 14: nil, 99: nil, 23: nil} {
		if got := arena.Below(s, id); !slices.Equal(got, want) {
			t.Error("Below", id, got)
		}
	}
	for id, want := range map[int]int{2: 1, 3: 1, 4: 1, 5: 2, 6: 2, 7: 3, 8: 3, 10: 2, 13: 2, 14: 2, 22: 2, 23: 1, 99: 0, 0: 0} {
		if got := arena.Depth(s, id); got != want {
			t.Error("Depth", id, got)
		}
	}
	if d, ok := arena.Def(s, "q"); !ok || !model.Same(d, q) {
		t.Error(d)
	}
	if d, ok := arena.Def(s, "r"); ok || !model.Same(d, api.Process{}) {
		t.Error(d)
	}
	if n, ok := arena.NodeOf(s, token(0, "p", at("w"), 0)); !ok || n.Name != "w" {
		t.Error(n)
	}
	for _, it := range []api.Item{token(0, "p", -1, 0), token(0, "p", len(p.Nodes), 0), token(0, "r", 0, 0), token(0, "q", 3, 0)} {
		if n, ok := arena.NodeOf(s, it); ok || n.Name != "" {
			t.Error(n)
		}
	}
	s.Defs = append(s.Defs, sketch.Process("q; end other"))
	if n, ok := arena.NodeOf(s, token(0, "q", 0, 0)); !ok || n.Name != "s" {
		t.Error("the first process of a name", n)
	}
}

func TestP18_2GoingRound(t *testing.T) {
	s := api.State{Next: 9, Items: []api.Item{{ID: 4, Up: 5, Is: api.Scope}, {ID: 5, Up: 6, Is: api.Scope}, {ID: 6, Up: 4, Is: api.Token}, {ID: 7, Up: 7, Is: api.Scope}, {ID: 8, Up: 4}, {ID: 8, Up: 4}}}
	if !slices.Equal(arena.Below(s, 4), []int{5, 6, 8}) || !slices.Equal(arena.Below(s, 5), []int{4, 6, 8}) || len(arena.Below(s, 7)) != 0 || len(arena.Kids(s, 7)) != 0 {
		t.Error(arena.Below(s, 4), arena.Below(s, 5), arena.Below(s, 7))
	}
	if !slices.Equal(arena.Kids(s, 4), []int{6, 8}) || arena.Depth(s, 4) != 2 || arena.Depth(s, 6) != 2 || arena.Depth(s, 7) != 1 || arena.Depth(s, 8) != 2 {
		t.Error(arena.Kids(s, 4), arena.Depth(s, 4), arena.Depth(s, 7))
	}
	if arena.Sound(s) {
		t.Error("sound")
	}
	// Two items with one ID, below different ones.
	s = api.State{Items: []api.Item{{ID: 4}, {ID: 8, Up: 4}, {ID: 8, Up: 9}, {ID: 9, Up: 8}}}
	if got := arena.Below(s, 4); !slices.Equal(got, []int{8, 9}) {
		t.Error(got)
	}
}

func TestP18_2Sound(t *testing.T) {
	if !arena.Sound(base()) || !arena.Sound(api.State{}) {
		t.Fatal("base")
	}
	set := func(id int, change func(it *api.Item)) func(s *api.State) {
		return func(s *api.State) {
			for i := range s.Items {
				if s.Items[i].ID == id {
					change(&s.Items[i])
					return
				}
			}
			panic("no such item")
		}
	}
	drop := func(id int) func(s *api.State) {
		return func(s *api.State) {
			s.Items = slices.DeleteFunc(s.Items, func(it api.Item) bool { return it.ID == id })
		}
	}
	last := func(it api.Item) func(s *api.State) {
		return func(s *api.State) { it.ID = 30; s.Items = append(s.Items, it) }
	}
	for what, c := range map[string]struct {
		want   bool
		change func(s *api.State)
	}{
		"Next is the last ID":           {true, func(s *api.State) { s.Next = 23 }},
		"Next is less":                  {false, func(s *api.State) { s.Next = 22 }},
		"Next is negative":              {false, func(s *api.State) { s.Items, s.Next = nil, -1 }},
		"no items":                      {true, func(s *api.State) { s.Items, s.Next = nil, 0 }},
		"160 items":                     {true, func(s *api.State) { many(s, 160) }},
		"161 items":                     {false, func(s *api.State) { many(s, 161) }},
		"an ID twice":                   {false, set(23, func(it *api.Item) { it.ID = 22 })},
		"an ID below the one before":    {false, set(23, func(it *api.Item) { it.ID = 11 })},
		"an ID of 0":                    {false, func(s *api.State) { s.Items = s.Items[:1]; s.Items[0].ID = 0 }},
		"an ID of 1":                    {true, func(s *api.State) { s.Items = s.Items[:1]; s.Items[0].ID = 1 }},
		"an unknown item":               {false, set(3, func(it *api.Item) { it.Is = 3 })},
		"no item":                       {false, set(3, func(it *api.Item) { it.Is = 0 })},
		"a process not deployed":        {false, set(23, func(it *api.Item) { it.Proc = "r" })},
		"an Up that is not there":       {false, set(3, func(it *api.Item) { it.Up = 1 })},
		"an Up behind it":               {false, set(3, func(it *api.Item) { it.Up = 23 })},
		"an Up that is itself":          {false, set(22, func(it *api.Item) { it.Up = 22 })},
		"a scope with From":             {false, set(23, func(it *api.Item) { it.From = 0 })},
		"a scope that waits":            {false, set(23, func(it *api.Item) { it.Wait = api.Ready })},
		"a scope with a Code":           {false, set(23, func(it *api.Item) { it.Code = "x" })},
		"a scope of a Task":             {false, set(23, func(it *api.Item) { it.Node = 1 })},
		"a scope of no node":            {false, set(23, func(it *api.Item) { it.Node = 3 })},
		"a scope of a negative node":    {false, set(23, func(it *api.Item) { it.Node = -2 })},
		"a Part's scope below nothing":  {false, last(scope(0, "p", at("w")))},
		"a scope below a Task":          {false, last(scope(3, "p", at("w")))},
		"a second scope below a token":  {false, last(scope(4, "p", at("w")))},
		"a second scope of a Call":      {false, last(scope(12, "q", -1))},
		"a token without its scope":     {false, drop(10)},
		"a Call without its scope":      {false, func(s *api.State) { drop(14)(s); drop(13)(s) }},
		"a scope without its token":     {false, drop(9)},
		"the Part's scope of another":   {false, set(10, func(it *api.Item) { it.Node = at("w") })},
		"a Call of another process":     {false, func(s *api.State) { drop(14)(s); set(13, func(it *api.Item) { it.Proc = "p" })(s) }},
		"an Up that was never there":    {false, last(scope(99, "q", -1))},
		"a scope of no node in another": {false, last(scope(2, "p", 99))},
		"a scope of node -2 in another": {false, last(scope(2, "p", -2))},
		"a token below the holder":      {false, last(token(4, "p", at("b"), api.Ready))},
		"a process below a Part":        {false, func(s *api.State) { drop(14)(s); set(10, func(it *api.Item) { it.Proc, it.Node = "q", -1 })(s) }},
		"a Part below a Call":           {false, func(s *api.State) { drop(14)(s); set(13, func(it *api.Item) { it.Proc, it.Node = "p", at("w") })(s) }},
		"a held scope of another process": {false, func(s *api.State) {
			s.Defs = append(s.Defs, p)
			s.Defs[2].Name = "r"
			set(10, func(it *api.Item) { it.Proc = "r" })(s)
		}},
		"an Aside in another scope":   {false, set(22, func(it *api.Item) { it.Node = at("x") })},
		"an Aside in the inner scope": {false, set(7, func(it *api.Item) { it.Node = at("y") })},
		"a Part below a scope":        {false, last(scope(2, "p", at("w")))},
		"a process below a scope":     {false, last(scope(2, "q", -1))},
		"an Aside below a token":      {false, func(s *api.State) { set(10, func(it *api.Item) { it.Node = at("y") })(s) }},
		"an Aside of another process": {false, last(scope(23, "p", at("y")))},
		"another Aside's scope":       {true, last(scope(2, "p", at("y")))},
		"a token below a token":       {false, last(token(3, "p", 0, api.Ready))},
		"a token below nothing":       {false, last(token(0, "p", 0, api.Ready))},
		"a token of another process":  {false, last(token(2, "q", 0, api.Ready))},
		"a token in the wrong scope":  {false, last(token(2, "p", at("b"), api.Ready))},
		"a token at no node":          {false, last(token(2, "p", len(p.Nodes), api.Ready))},
		"a token at node -1":          {false, last(token(2, "p", -1, api.Ready))},
		"a token at an Aside":         {true, last(token(2, "p", at("y"), api.Ready))},
		"a flow to its node":          {true, set(3, func(it *api.Item) { it.From = 0 })},
		"no flow":                     {true, set(3, func(it *api.Item) { it.From = -1 })},
		"a flow to another node":      {false, set(3, func(it *api.Item) { it.From = 1 })},
		"a flow that is not there":    {false, set(3, func(it *api.Item) { it.From = len(p.Flows) })},
		"a flow of -2":                {false, set(3, func(it *api.Item) { it.From = -2 })},
		"a Code of a Task":            {false, set(3, func(it *api.Item) { it.Code = "x" })},
		"Stuck without a Code":        {false, set(19, func(it *api.Item) { it.Code = "" })},
		"Stuck with another Code":     {true, set(19, func(it *api.Item) { it.Code = "anything" })},
	} {
		s := base()
		c.change(&s)
		if got := arena.Sound(s); got != c.want {
			t.Error(what, got)
		}
	}
}

// many has a state have so many items.
func many(s *api.State, n int) {
	s.Next = 1000
	for id := 100; len(s.Items) < n; id++ {
		s.Items = append(s.Items, api.Item{ID: id, Is: api.Scope, Proc: "q", Node: -1, From: -1})
	}
}

func TestP18_2SoundWaits(t *testing.T) {
	allowed := map[string][]uint8{
		"s": {}, "t": {api.Works}, "w": {api.Holds}, "h": {api.Holds}, "j": {api.Holds}, "k": {api.Awaits}, "l": {api.Awaits}, "m": {api.Joins}, "n": {api.Joins, api.Stuck}, "o": {api.Stuck}, "e": {api.Stuck}, "y": {},
	}
	for name, ways := range allowed {
		for wait := range 9 {
			w := uint8(wait)
			s := base()
			it := token(2, "p", at(name), w)
			it.ID = 28
			if w == api.Stuck {
				it.Code = "x"
			}
			s.Items = append(s.Items, it)
			if w == api.Holds {
				below := scope(28, "p", at(name))
				if name == "j" {
					below = scope(28, "q", -1)
				}
				below.ID = 29
				s.Items = append(s.Items, below)
			}
			if got := arena.Sound(s); got != (w == api.Ready || slices.Contains(ways, w)) {
				t.Error(name, wait, got)
			}
		}
	}
}

func TestP18_2SoundDepth(t *testing.T) {
	r := sketch.Process("r; start s; call c key:r; end e; s>c>e")
	s := api.State{Defs: []api.Process{r}}
	up := 0
	for d := 1; d <= api.MaxDepth+1; d++ {
		s.Next++
		s.Items = append(s.Items, api.Item{ID: s.Next, Up: up, Is: api.Scope, Proc: "r", Node: -1, From: -1})
		if got := arena.Sound(s); got != (d <= api.MaxDepth) {
			t.Error(d, got)
		}
		s.Next++
		s.Items = append(s.Items, api.Item{ID: s.Next, Up: s.Next - 1, Is: api.Token, Proc: "r", Node: 1, From: 0, Wait: api.Holds})
		up = s.Next
	}
}

// TestP18_3To6Random builds states by adding and turning, and holds them against a plain list.
func TestP18_3To6Random(t *testing.T) {
	r := rand.New(rand.NewSource(180))
	for range 200 {
		s := api.State{Defs: []api.Process{p, q}}
		var all []api.Item
		for range 60 {
			before := arena.Copy(s)
			old := s
			if len(all) > 0 && r.Intn(4) == 0 {
				i := r.Intn(len(all))
				it := all[i]
				it.Code = "turned"
				s = arena.Turn(s, it)
				if !arena.Same(arena.Turn(s, all[i]), old) {
					t.Fatal("turned back")
				}
				all[i] = it
			} else {
				it := scope(0, "p", -1)
				if len(all) > 0 {
					it.Up = all[r.Intn(len(all))].ID
				}
				it.Is = []uint8{api.Scope, api.Token}[r.Intn(2)]
				n, id, e := arena.Add(s, it)
				if e == api.ErrTooLarge {
					continue
				}
				if id != s.Next+1 || n.Next != id {
					t.Fatal("the ID", id)
				}
				it.ID = id
				s, all = n, append(all, it)
			}
			if !arena.Same(old, before) || !slices.Equal(s.Items, all) {
				t.Fatal("other items")
			}
		}
		for _, it := range all {
			tree(t, s, it)
		}
	}
}

// tree: P18.4.
func tree(t *testing.T, s api.State, it api.Item) {
	t.Helper()
	var below []int
	for _, k := range arena.Kids(s, it.ID) {
		below = append(append(below, k), arena.Below(s, k)...)
	}
	slices.Sort(below)
	if !slices.Equal(below, arena.Below(s, it.ID)) || slices.Contains(below, it.ID) {
		t.Fatal("below", it.ID)
	}
	want := arena.Depth(s, it.Up)
	if it.Is == api.Scope {
		want++
	}
	if arena.Depth(s, it.ID) != want {
		t.Fatal("depth", it.ID)
	}
}

func TestP18_6ReadyTokens(t *testing.T) {
	s := base()
	for _, it := range s.Items {
		if it.Is != api.Scope {
			continue
		}
		d, _ := arena.Def(s, it.Proc)
		for n, node := range d.Nodes {
			x, id := add(t, s, token(it.ID, it.Proc, n, api.Ready))
			if arena.Sound(x) != (node.In == it.Node) || id != 31 {
				t.Error(it.ID, node.Name)
			}
		}
	}
}

func TestP18_2SameAndCopy(t *testing.T) {
	full := func() api.State {
		s := base()
		s.Defs = []api.Process{model.Copy(p), model.Copy(q)}
		s.Cells = []api.Cell{{Scope: 2, Name: "a", V: api.Value{Kind: api.Int, N: 4}}}
		s.Watches = []api.Watch{{ID: 25, Item: 15, Node: 13, Event: api.Signal, Key: "k"}}
		return s
	}
	if !arena.Same(full(), full()) {
		t.Fatal("the same are not the same")
	}
	for what, change := range map[string]func(s *api.State){
		"clock": func(s *api.State) { s.Clock++ }, "next": func(s *api.State) { s.Next++ }, "defs": func(s *api.State) { s.Defs = s.Defs[:1] }, "a def": func(s *api.State) { s.Defs[1].Nodes[0].Name = "z" },
		"items": func(s *api.State) { s.Items = s.Items[:9] }, "an item": func(s *api.State) { s.Items[3].Code = "x" }, "cells": func(s *api.State) { s.Cells = nil }, "a cell": func(s *api.State) { s.Cells[0].V.N++ },
		"watches": func(s *api.State) { s.Watches = nil }, "a watch": func(s *api.State) { s.Watches[0].Armed = true }, "a flow": func(s *api.State) { s.Defs[0].Flows[0].To++ },
	} {
		a := full()
		b := arena.Copy(a)
		change(&b)
		if arena.Same(a, b) || arena.Same(b, a) || !arena.Same(a, full()) {
			t.Error(what)
		}
	}
	a, b := api.State{Items: []api.Item{}, Defs: []api.Process{}, Cells: []api.Cell{}, Watches: []api.Watch{}}, api.State{}
	if !arena.Same(a, b) || !arena.Same(b, arena.Copy(a)) {
		t.Error("none and empty")
	}
}

// TestR1Shared: two states made of one do not disturb each other.
func TestR1Shared(t *testing.T) {
	s, _ := add(t, api.State{}, scope(0, "p", -1))
	a, _ := add(t, s, token(1, "p", 0, api.Ready))
	b, _ := add(t, s, token(1, "p", 1, api.Works))
	if a.Items[1].Node != 0 || b.Items[1].Node != 1 || len(s.Items) != 1 {
		t.Error("one overwrote the other")
	}
	s.Items = slices.Grow(s.Items, 9)
	a, _ = add(t, s, token(1, "p", 0, api.Ready))
	b, _ = add(t, s, token(1, "p", 1, api.Works))
	if a.Items[1].Node != 0 || b.Items[1].Node != 1 {
		t.Error("one overwrote the other")
	}
}

func TestR1AnyState(t *testing.T) {
	r := rand.New(rand.NewSource(181))
	for range 5000 {
		s := api.State{Next: r.Intn(20) - 3, Defs: []api.Process{p, q}}
		for range r.Intn(9) {
			s.Items = append(s.Items, api.Item{ID: r.Intn(9), Up: r.Intn(10) - 1, Is: uint8(r.Intn(4)), Proc: []string{"p", "q", "none"}[r.Intn(3)], Node: r.Intn(len(p.Nodes)+4) - 2, From: r.Intn(20) - 2, Wait: uint8(r.Intn(8)), Code: []string{"", "x"}[r.Intn(2)]})
		}
		before := arena.Copy(s)
		arena.Sound(s)
		for id := -1; id < 10; id++ {
			it, _ := arena.Find(s, id)
			arena.NodeOf(s, it)
			arena.Turn(s, api.Item{ID: id})
			arena.Add(s, api.Item{Up: id, Is: uint8(r.Intn(3))})
			if l := append(arena.Below(s, id), arena.Kids(s, id)...); slices.Contains(l, id) || arena.Depth(s, id) > len(s.Items) {
				t.Fatal(id, l)
			}
		}
		if !arena.Same(s, before) {
			t.Fatal("a state was modified")
		}
	}
}
