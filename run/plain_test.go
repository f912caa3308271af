package run_test

import (
	"maps"
	"math/rand"
	"slices"
	"strings"
	"testing"

	"callboard/api"
	"callboard/arena"
	"callboard/codec"
	"callboard/eval"
	"callboard/run"
	"callboard/valid"
)

// engine is an engine that follows the sections S3 to S9 of the document word by word, on items that change in place. An error is a panic.
type engine struct {
	clock, next int
	defs        []api.Process
	items       map[int]*api.Item
	cells       map[int]map[string]api.Value
	watches     map[int]*api.Watch
	picks       []uint32
	budget      int
}

// engineOf returns an engine in a state.
func engineOf(s api.State, picks []uint32, budget int) *engine {
	g := &engine{s.Clock, s.Next, slices.Clone(s.Defs), map[int]*api.Item{}, map[int]map[string]api.Value{}, map[int]*api.Watch{}, picks, budget}
	for _, it := range s.Items {
		g.items[it.ID] = &it
	}
	for _, c := range s.Cells {
		if g.cells[c.Scope] == nil {
			g.cells[c.Scope] = map[string]api.Value{}
		}
		g.cells[c.Scope][c.Name] = c.V
	}
	for _, w := range s.Watches {
		g.watches[w.ID] = &w
	}
	return g
}

// state returns the state of an engine.
func (g *engine) state() api.State {
	s := api.State{Clock: g.clock, Next: g.next, Defs: g.defs}
	for _, id := range ids(g.items) {
		s.Items = append(s.Items, *g.items[id])
	}
	for _, id := range ids(g.cells) {
		for _, name := range slices.Sorted(maps.Keys(g.cells[id])) {
			s.Cells = append(s.Cells, api.Cell{Scope: id, Name: name, V: g.cells[id][name]})
		}
	}
	for _, id := range ids(g.watches) {
		s.Watches = append(s.Watches, *g.watches[id])
	}
	return s
}

func ids[T any](m map[int]T) []int { return slices.Sorted(maps.Keys(m)) }

// fail is an error, if something is so.
func fail(so bool, e api.Errno) {
	if so {
		panic(e)
	}
}

func (g *engine) def(name string) *api.Process {
	for i := range g.defs {
		if g.defs[i].Name == name {
			return &g.defs[i]
		}
	}
	return nil
}

// node returns the node of an item, or nil for the scope of a whole process.
func (g *engine) node(it *api.Item) *api.Node {
	if it.Node < 0 {
		return nil
	}
	return &g.def(it.Proc).Nodes[it.Node]
}

func (g *engine) number() int {
	fail(g.next >= api.MaxNumber, api.ErrTooLarge)
	g.next++
	return g.next
}

func (g *engine) add(it api.Item) *api.Item {
	fail(len(g.items) >= api.MaxItems, api.ErrTooLarge)
	it.ID = g.number()
	if it.Is == api.Scope {
		depth := 0
		for x := &it; x != nil; x = g.items[x.Up] {
			if x.Is == api.Scope {
				depth++
			}
		}
		fail(it.Up != 0 && depth > api.MaxDepth, api.ErrTooLarge)
	}
	g.items[it.ID] = &it
	return &it
}

func (g *engine) put(scope *api.Item, node, from int) *api.Item {
	return g.add(api.Item{Up: scope.ID, Is: api.Token, Proc: scope.Proc, Node: node, From: from, Wait: api.Ready})
}

// sight returns the scopes that a scope sees.
func (g *engine) sight(scope *api.Item) []*api.Item {
	l := []*api.Item{scope}
	for scope.Node >= 0 {
		scope = g.items[scope.Up]
		if scope.Is == api.Token {
			scope = g.items[scope.Up]
		}
		l = append(l, scope)
	}
	return l
}

func (g *engine) cell(scope *api.Item, name string) (*api.Item, api.Value, bool) {
	for _, x := range g.sight(scope) {
		if v, ok := g.cells[x.ID][name]; ok {
			return x, v, true
		}
	}
	return nil, api.Value{}, false
}

func (g *engine) eval(text string, scope *api.Item) api.Value {
	var env []api.Set
	for _, x := range g.sight(scope) {
		for name, v := range g.cells[x.ID] {
			if !slices.ContainsFunc(env, func(s api.Set) bool { return s.Name == name }) {
				env = append(env, api.Set{Name: name, V: v})
			}
		}
	}
	v, e := eval.Of(text, env)
	fail(e != api.OK, e)
	return v
}

func (g *engine) yes(text string, scope *api.Item) bool { return g.eval(text, scope).N == 1 }

func (g *engine) set(scope *api.Item, sets []api.Set) {
	for _, x := range sets {
		at, old, ok := g.cell(scope, x.Name)
		fail(!ok, api.ErrName)
		fail(x.V.Kind != old.Kind, api.ErrType)
		g.cells[at.ID][x.Name] = x.V
	}
}

// scopeOf returns the scope in which an item is, or itself.
func (g *engine) scopeOf(it *api.Item) *api.Item {
	if it.Is == api.Token {
		return g.items[it.Up]
	}
	return it
}

func (g *engine) watch(it *api.Item, node int) {
	n := g.def(it.Proc).Nodes[node]
	w := api.Watch{Item: it.ID, Node: node, Event: n.Event, Key: n.Key, Armed: n.Event == api.Cond}
	if n.Event == api.Timer {
		v := g.eval(n.Text, g.scopeOf(it))
		fail(v.N < 0, api.ErrRange)
		fail(v.N > api.MaxClock-int64(g.clock), api.ErrTooLarge)
		w.Due = g.clock + int(v.N)
	}
	fail(len(g.watches) >= api.MaxItems, api.ErrTooLarge)
	w.ID = g.number()
	g.watches[w.ID] = &w
}

func awaited(event uint8) bool {
	return event == api.Signal || event == api.Timer || event == api.Cond
}

func (g *engine) open(up int, proc string, node, start int) *api.Item {
	p := g.def(proc)
	it := g.add(api.Item{Up: up, Is: api.Scope, Proc: proc, Node: node, From: -1})
	l := p.Vars
	if node >= 0 {
		l = p.Nodes[node].Vars
	}
	g.cells[it.ID] = map[string]api.Value{}
	for _, v := range l {
		g.cells[it.ID][v.Name] = v.Init
		if call := g.items[up]; node == -1 && call != nil {
			if _, seen, ok := g.cell(g.items[call.Up], v.Name); ok && seen.Kind == v.Init.Kind {
				g.cells[it.ID][v.Name] = seen
			}
		}
	}
	if len(l) == 0 {
		delete(g.cells, it.ID)
	}
	for a, n := range p.Nodes {
		for s, m := range p.Nodes {
			if n.Kind == api.Aside && n.In == node && m.Kind == api.Start && m.In == a && awaited(m.Event) {
				g.watch(it, s)
			}
		}
	}
	for s, m := range p.Nodes {
		if start < 0 && m.Kind == api.Start && m.In == node && (m.Event == api.Plain || node >= 0 && p.Nodes[node].Kind == api.Aside) {
			start = s
		}
	}
	if start >= 0 {
		g.put(it, start, -1)
	}
	return it
}

// remove removes an item, and everything below it.
func (g *engine) remove(id int) {
	g.clear(id)
	delete(g.items, id)
	delete(g.cells, id)
	g.unwatch(id)
}

func (g *engine) clear(id int) {
	for _, k := range ids(g.items) {
		if it := g.items[k]; it != nil && it.Up == id {
			g.remove(k)
		}
	}
}

func (g *engine) unwatch(id int) {
	maps.DeleteFunc(g.watches, func(_ int, w *api.Watch) bool { return w.Item == id })
}

func (g *engine) from(p *api.Process, n int) []int {
	var l []int
	for i, f := range p.Flows {
		if f.From == n {
			l = append(l, i)
		}
	}
	return l
}

func (g *engine) to(p *api.Process, n int) []int {
	var l []int
	for i, f := range p.Flows {
		if f.To == n {
			l = append(l, i)
		}
	}
	return l
}

func (g *engine) leave(it *api.Item, flows []int) {
	scope, p := g.items[it.Up], g.def(it.Proc)
	g.remove(it.ID)
	for _, f := range flows {
		g.put(scope, p.Flows[f].To, f)
	}
}

// ways returns the ways of a token, or none if it is stuck.
func (g *engine) ways(it *api.Item) ([]int, bool) {
	p := g.def(it.Proc)
	all := g.from(p, it.Node)
	kind := p.Nodes[it.Node].Kind
	if kind != api.Xor && kind != api.Some || len(all) < 2 {
		return all, false
	}
	var l []int
	for _, f := range all {
		if p.Flows[f].Else || kind == api.Xor && len(l) > 0 {
			continue
		}
		if g.yes(p.Flows[f].If, g.items[it.Up]) {
			l = append(l, f)
		}
	}
	for _, f := range all {
		if len(l) == 0 && p.Flows[f].Else {
			return []int{f}, false
		}
	}
	return l, len(l) == 0
}

func (g *engine) choose(it *api.Item) {
	l, stuck := g.ways(it)
	if stuck {
		it.Wait, it.Code = api.Stuck, "way"
		return
	}
	g.leave(it, l)
}

func (g *engine) pick(n int) int {
	pick := 0
	if len(g.picks) > 0 {
		pick = int(g.picks[0]) % n
		g.picks = g.picks[1:]
	}
	return pick
}

// handle has a handler fire.
func (g *engine) handle(it *api.Item, node int) {
	p := g.def(it.Proc)
	n := p.Nodes[node]
	switch {
	case n.Kind == api.Catch:
		g.leave(it, g.from(p, node))
	case n.Kind == api.Bound && n.Breaks:
		g.leave(it, g.from(p, node))
	case n.Kind == api.Bound:
		for _, f := range g.from(p, node) {
			g.put(g.items[it.Up], p.Flows[f].To, f)
		}
	default:
		if n.Breaks {
			g.clear(it.ID)
			g.unwatch(it.ID)
		}
		g.open(it.ID, it.Proc, n.In, -1)
	}
}

func (g *engine) fire(id int) {
	w := g.watches[id]
	it := g.items[w.Item]
	if n := g.def(it.Proc).Nodes[w.Node]; n.Kind != api.Catch && !n.Breaks {
		if w.Event == api.Timer {
			delete(g.watches, id)
		}
		w.Armed = false
	}
	g.handle(it, w.Node)
}

// raise has the handler of an error or an escalation fire, and returns whether there is one.
func (g *engine) raise(it *api.Item, event uint8, key string) bool {
	match := func(p *api.Process, l []int) (int, bool) {
		for _, k := range []string{key, ""} {
			for _, n := range l {
				if p.Nodes[n].Event == event && p.Nodes[n].Key == k {
					return n, true
				}
			}
		}
		return 0, false
	}
	bounds := func(it *api.Item) bool {
		p := g.def(it.Proc)
		var l []int
		for i, n := range p.Nodes {
			if n.Kind == api.Bound && n.On == it.Node {
				l = append(l, i)
			}
		}
		n, ok := match(p, l)
		if ok {
			g.handle(it, n)
		}
		return ok
	}
	if bounds(it) {
		return true
	}
	scope, aside := g.items[it.Up], false
	for scope != nil {
		p := g.def(scope.Proc)
		var l []int
		for a, n := range p.Nodes {
			for s, m := range p.Nodes {
				if n.Kind == api.Aside && n.In == scope.Node && m.Kind == api.Start && m.In == a {
					l = append(l, s)
				}
			}
		}
		if n, ok := match(p, l); ok && !aside {
			g.handle(scope, n)
			return true
		}
		above := g.items[scope.Up]
		if above == nil {
			return false
		}
		aside = above.Is == api.Scope
		if !aside {
			if bounds(above) {
				return true
			}
			above = g.items[above.Up]
		}
		scope = above
	}
	return false
}

func (g *engine) broadcast(key string) {
	var targets []func()
	for _, id := range ids(g.watches) {
		if w := g.watches[id]; w.Event == api.Signal && w.Key == key {
			targets = append(targets, func() {
				if g.watches[id] != nil {
					g.fire(id)
				}
			})
		}
	}
	for _, p := range g.defs {
		for s, n := range p.Nodes {
			if n.Kind == api.Start && n.In == -1 && n.Event == api.Signal && n.Key == key {
				targets = append(targets, func() { g.open(0, p.Name, -1, s) })
			}
		}
	}
	for len(targets) > 0 {
		i := g.pick(len(targets))
		f := targets[i]
		targets = slices.Delete(targets, i, i+1)
		f()
	}
}

func (g *engine) await(it *api.Item, nodes ...int) {
	it.Wait = api.Awaits
	for _, n := range nodes {
		g.watch(it, n)
	}
}

// move is what a Ready token does (S4).
func (g *engine) move(it *api.Item) {
	p := g.def(it.Proc)
	n := p.Nodes[it.Node]
	all := g.from(p, it.Node)
	switch n.Kind {
	case api.Start:
		g.leave(it, all)
	case api.Task, api.Part, api.AdHoc, api.Call:
		for i, b := range p.Nodes {
			if b.Kind == api.Bound && b.On == it.Node && awaited(b.Event) {
				g.watch(it, i)
			}
		}
		it.Wait = api.Holds
		switch n.Kind {
		case api.Task:
			it.Wait = api.Works
		case api.Call:
			g.open(it.ID, n.Key, -1, -1)
		default:
			g.open(it.ID, it.Proc, it.Node, -1)
		}
	case api.Calc:
		g.set(g.items[it.Up], []api.Set{{Name: n.Set, V: g.eval(n.Text, g.items[it.Up])}})
		g.leave(it, all)
	case api.Catch:
		if n.Event == api.Link {
			g.leave(it, all)
		} else {
			g.await(it, it.Node)
		}
	case api.Race:
		var l []int
		for _, f := range all {
			l = append(l, p.Flows[f].To)
		}
		g.await(it, l...)
	case api.Xor:
		g.choose(it)
	case api.All, api.Some:
		if len(g.to(p, it.Node)) > 1 {
			it.Wait = api.Joins
		} else {
			g.choose(it)
		}
	case api.Throw, api.End:
		g.speak(it, p, n)
	}
}

// speak is what a token at a Throw or an End does.
func (g *engine) speak(it *api.Item, p *api.Process, n api.Node) {
	switch n.Event {
	case api.Link:
		scope := g.items[it.Up]
		g.remove(it.ID)
		for i, c := range p.Nodes {
			if c.Kind == api.Catch && c.Event == api.Link && c.Key == n.Key && c.In == n.In {
				g.put(scope, i, -1)
			}
		}
		return
	case api.Error:
		if !g.raise(it, api.Error, n.Key) {
			it.Wait, it.Code = api.Stuck, "!"+n.Key
		}
		return
	case api.Finish:
		g.clear(it.Up)
		g.unwatch(it.Up)
		return
	case api.Signal:
		g.broadcast(n.Key)
	case api.Escalate:
		g.raise(it, api.Escalate, n.Key)
	}
	if g.items[it.ID] == nil {
		return
	}
	if n.Kind == api.Throw {
		g.leave(it, g.from(p, it.Node))
	} else {
		g.remove(it.ID)
	}
}

// joins returns the tokens that go on together with the first of them, if the All or the Some at which a token Joins is ready.
func (g *engine) joins(it *api.Item) []int {
	p := g.def(it.Proc)
	var there, l []int
	for _, id := range ids(g.items) {
		if x := g.items[id]; x.Wait == api.Joins && x.Up == it.Up && x.Node == it.Node {
			there = append(there, id)
		}
	}
	if p.Nodes[it.Node].Kind == api.All {
		for _, f := range g.to(p, it.Node) {
			i := slices.IndexFunc(there, func(id int) bool { return g.items[id].From == f })
			if i < 0 {
				return nil
			}
			l = append(l, there[i])
		}
		slices.Sort(l)
		return l
	}
	for _, x := range g.items {
		if x.Is == api.Token && x.Up == it.Up && !slices.Contains(there, x.ID) && (x.Node == it.Node || g.reaches(p, x.Node, it.Node)) {
			return nil
		}
	}
	return there
}

func (g *engine) reaches(p *api.Process, from, to int) bool {
	met := map[int]bool{}
	var visit func(n int) bool
	visit = func(n int) bool {
		for i, m := range p.Nodes {
			a := p.Nodes[n]
			next := slices.ContainsFunc(p.Flows, func(f api.Flow) bool { return f.From == n && f.To == i })
			next = next || m.Kind == api.Bound && m.On == n
			next = next || a.Kind == api.Throw && a.Event == api.Link && m.Kind == api.Catch && m.Event == api.Link && m.Key == a.Key && m.In == a.In
			if !next {
				continue
			}
			if i == to {
				return true
			}
			if !met[i] {
				met[i] = true
				if visit(i) {
					return true
				}
			}
		}
		return false
	}
	return visit(from)
}

// mayEnd reports whether a scope may end.
func (g *engine) mayEnd(it *api.Item) bool {
	empty := true
	for _, x := range g.items {
		empty = empty && x.Up != it.ID
	}
	n := g.node(it)
	if n == nil || n.Kind != api.AdHoc {
		return empty
	}
	return (empty || n.Breaks) && g.yes(n.Text, it)
}

func (g *engine) end(it *api.Item) {
	values := g.cells[it.ID]
	token := g.items[it.Up]
	g.remove(it.ID)
	if token == nil || token.Is != api.Token {
		return
	}
	if it.Node == -1 {
		for _, name := range g.node(token).Back {
			if _, _, ok := g.cell(g.items[token.Up], name); ok {
				g.set(g.items[token.Up], []api.Set{{Name: name, V: values[name]}})
			}
		}
	}
	g.leave(token, g.from(g.def(token.Proc), token.Node))
}

// rules returns the rules that may be applied next (S8).
func (g *engine) rules() []func() {
	var l []func()
	for _, id := range ids(g.items) {
		if it := g.items[id]; it.Wait == api.Ready {
			l = append(l, func() { g.move(it) })
		}
	}
	for _, id := range ids(g.items) {
		it := g.items[id]
		if it.Wait != api.Joins {
			continue
		}
		if join := g.joins(it); len(join) > 0 && join[0] == id {
			l = append(l, func() {
				for _, other := range join[1:] {
					g.remove(other)
				}
				g.choose(it)
			})
		}
	}
	for _, id := range ids(g.items) {
		if it := g.items[id]; it.Is == api.Scope && g.mayEnd(it) {
			l = append(l, func() { g.end(it) })
		}
	}
	for _, id := range ids(g.watches) {
		w := g.watches[id]
		if w.Event != api.Cond {
			continue
		}
		it := g.items[w.Item]
		switch yes := g.yes(g.def(it.Proc).Nodes[w.Node].Text, g.scopeOf(it)); {
		case yes && w.Armed:
			l = append(l, func() { g.fire(id) })
		case !yes && !w.Armed:
			l = append(l, func() { w.Armed = true })
		}
	}
	return l
}

func (g *engine) run() {
	for l := g.rules(); len(l) > 0; l = g.rules() {
		fail(g.budget == 0, api.ErrBudget)
		g.budget--
		l[g.pick(len(l))]()
	}
}

// command executes a command (S9), and returns its ID.
func (g *engine) command(c api.Command) (id int) {
	it := g.items[c.ID]
	isToken, isScope := it != nil && it.Is == api.Token, it != nil && it.Is == api.Scope
	named := func() bool { return c.Key == "k" || c.Key == "l" || c.Key == "m" }
	switch c.Kind {
	case api.Begin:
		p := g.def(c.Name)
		fail(p == nil, api.ErrNone)
		fail(!slices.ContainsFunc(p.Nodes, func(n api.Node) bool { return n.Kind == api.Start && n.In == -1 && n.Event == api.Plain }), api.ErrNone)
		for _, s := range c.Sets {
			i := slices.IndexFunc(p.Vars, func(v api.Var) bool { return v.Name == s.Name })
			fail(i < 0, api.ErrName)
			fail(p.Vars[i].Init.Kind != s.V.Kind, api.ErrType)
		}
		scope := g.open(0, c.Name, -1, -1)
		g.set(scope, c.Sets)
		id = scope.ID
	case api.Done:
		fail(!isToken, api.ErrNone)
		fail(it.Wait != api.Works, api.ErrState)
		g.set(g.items[it.Up], c.Sets)
		g.leave(it, g.from(g.def(it.Proc), it.Node))
	case api.Fail:
		fail(!isToken, api.ErrNone)
		fail(it.Wait != api.Works, api.ErrState)
		fail(!named(), api.ErrForm)
		fail(!g.raise(it, api.Error, c.Key), api.ErrUncaught)
	case api.Enable:
		fail(!isScope, api.ErrNone)
		n := g.node(it)
		fail(n == nil || n.Kind != api.AdHoc, api.ErrState)
		p := g.def(it.Proc)
		at := slices.IndexFunc(p.Nodes, func(n api.Node) bool { return n.Name == c.Name && n.In == it.Node })
		fail(at < 0 || len(g.to(p, at)) > 0 || !strings.ContainsRune(string([]rune{rune(api.Task), rune(api.Part), rune(api.AdHoc), rune(api.Call), rune(api.Calc), rune(api.Throw)}), rune(p.Nodes[max(at, 0)].Kind)), api.ErrName)
		id = g.put(it, at, -1).ID
	case api.Put:
		fail(!isScope, api.ErrNone)
		g.set(it, c.Sets)
	case api.Cast:
		fail(!named(), api.ErrForm)
		g.broadcast(c.Key)
	case api.Tick:
		fail(c.N < 1 || g.clock+c.N > api.MaxClock, api.ErrArg)
		g.clock += c.N
		var due []int
		for _, id := range ids(g.watches) {
			if w := g.watches[id]; w.Event == api.Timer && w.Due <= g.clock {
				due = append(due, id)
			}
		}
		dues := map[int]int{}
		for _, id := range due {
			dues[id] = g.watches[id].Due
		}
		slices.SortStableFunc(due, func(a, b int) int { return dues[a] - dues[b] })
		for _, id := range due {
			if g.watches[id] != nil {
				g.fire(id)
				g.run()
			}
		}
	case api.Stop:
		fail(!isScope, api.ErrNone)
		fail(it.Up != 0, api.ErrState)
		g.remove(it.ID)
	case api.Retry:
		fail(!isToken, api.ErrNone)
		fail(it.Wait != api.Stuck, api.ErrState)
		it.Wait, it.Code = api.Ready, ""
	}
	g.run()
	return id
}

// do executes a command as a whole.
func plainDo(s api.State, c api.Command, picks []uint32, budget int) (n api.State, a api.Answer) {
	g := engineOf(s, picks, budget)
	defer func() {
		if r := recover(); r != nil {
			n, a = s, api.Answer{E: r.(api.Errno)}
		}
	}()
	a.ID = g.command(c)
	return g.state(), a
}

// TestP1Plain holds each answer and each state against the plain engine.
func TestP1Plain(t *testing.T) {
	r := rand.New(rand.NewSource(294))
	done := map[uint8]int{}
	errors := map[api.Errno]int{}
	for range 500 {
		p := play(r, false)
		for range 50 {
			c, picks, budget := p.command(), p.picks(), []int{4, 80, 300}[r.Intn(3)]
			n, a := run.Do(p.s, c, picks, budget)
			m, b := plainDo(p.s, c, picks, budget)
			if a != b || !arena.Same(n, m) {
				t.Fatalf("%+v, picks %v: %v, want %v\n%+v\n%+v\n%+v", c, picks, a, b, p.s, n, m)
			}
			if a.E == api.OK {
				done[c.Kind]++
			}
			errors[a.E]++
			p.s = n
		}
	}
	for kind := api.Begin; kind <= api.Retry; kind++ {
		if done[kind] < 30 {
			t.Error("too few", kind, done)
		}
	}
	if len(errors) < 8 {
		t.Error("too few", errors)
	}
}

// TestP1PlainDeploy: what is deployed is what is valid.
func TestP1PlainDeploy(t *testing.T) {
	r := rand.New(rand.NewSource(295))
	for range 100 {
		p := play(r, false)
		for i, d := range p.s.Defs {
			s, e := codec.Encode(d)
			if e != api.OK || valid.Check(p.s.Defs[:i], d) != api.OK {
				t.Fatal(e)
			}
			if _, a := run.Do(p.s, api.Command{Kind: api.Deploy, Bytes: s}, nil, 1); a.E != api.ErrTwice {
				t.Fatal(a)
			}
		}
	}
}
