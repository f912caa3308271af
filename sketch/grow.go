package sketch

import (
	"strconv"

	"callboard/api"
)

// crowded is how many nodes are enough for a process: then only small ones are added.
const crowded = 24

// grower grows a process, by picks.
type grower struct {
	p     api.Process
	pick  func(n int) int
	calls []api.Process
	quiet bool
}

// link makes the flow to what comes next.
type link func(to int)

// Grow returns a valid process over those that it may call; pick(n) is a number below n.
// A quiet one throws no signals, and has no conditions and no cycles.
func Grow(name string, calls []api.Process, quiet bool, pick func(n int) int) api.Process {
	g := &grower{pick: pick, calls: calls, quiet: quiet}
	g.p.Name = name
	g.p.Vars = []api.Var{{Name: "n", Init: number(int64(pick(4)))}, {Name: "b", Init: api.Value{Kind: api.Bool, N: int64(pick(2))}}, {Name: "t", Init: api.Value{Kind: api.Text, T: "x"}}}
	if pick(8) > 0 {
		g.fill(-1, api.Node{Kind: api.Start}, 0)
	}
	if len(g.p.Nodes) == 0 || pick(4) == 0 {
		g.fill(-1, api.Node{Kind: api.Start, Event: api.Signal, Key: g.key()}, 2)
	}
	g.asides(-1, 0)
	return g.p
}

func number(n int64) api.Value { return api.Value{Kind: api.Int, N: n} }

// one returns one of some texts.
func (g *grower) one(l ...string) string { return l[g.pick(len(l))] }

func (g *grower) key() string { return g.one("k", "l", "m") }

func (g *grower) truth() string {
	return g.one("n<3", "b", "!b", "n==2", "n%2==0", "yes", "no", "t=='x'", "n<=1|b")
}

// node adds a node, with a name of its own.
func (g *grower) node(in int, n api.Node) int {
	n.Name = "n" + strconv.Itoa(len(g.p.Nodes))
	n.In = in
	if n.Kind != api.Bound {
		n.On = -1
	}
	g.p.Nodes = append(g.p.Nodes, n)
	return len(g.p.Nodes) - 1
}

// flow adds a flow.
func (g *grower) flow(from, to int) { g.p.Flows = append(g.p.Flows, api.Flow{From: from, To: to}) }

// after returns what makes the flow from a node.
func (g *grower) after(from int) link { return func(to int) { g.flow(from, to) } }

// fill fills a scope from a Start on.
func (g *grower) fill(in int, start api.Node, depth int) {
	next := g.after(g.node(in, start))
	for range 1 + g.pick(3) {
		next = g.block(in, next, depth)
	}
	next(g.end(in))
}

// end adds an End.
func (g *grower) end(in int) int {
	event := [...]uint8{api.Plain, api.Plain, api.Plain, api.Error, api.Escalate, api.Finish, api.Signal}[g.pick(7)]
	if g.quiet && event == api.Signal {
		event = api.Plain
	}
	n := api.Node{Kind: api.End, Event: event}
	if event != api.Plain && event != api.Finish {
		n.Key = g.key()
	}
	return g.node(in, n)
}

// block adds something, and returns what makes the flow from it.
func (g *grower) block(in int, enter link, depth int) link {
	kind := g.pick(12)
	if len(g.p.Nodes) > crowded || depth > 2 {
		kind = g.pick(4)
	}
	switch kind {
	case 0, 1:
		return g.activity(in, enter, api.Node{Kind: api.Task})
	case 2:
		return g.step(in, enter)
	case 3:
		return g.plain(in, enter, g.waiter())
	case 4, 5:
		return g.split(in, enter, depth)
	case 6:
		return g.race(in, enter)
	case 7, 8:
		return g.part(in, enter, depth)
	case 9:
		return g.adhoc(in, enter)
	case 10:
		return g.call(in, enter)
	}
	return g.jump(in, enter, depth)
}

// plain adds a node.
func (g *grower) plain(in int, enter link, n api.Node) link {
	i := g.node(in, n)
	enter(i)
	return g.after(i)
}

// step adds what does not wait.
func (g *grower) step(in int, enter link) link {
	n := api.Node{Kind: api.Calc, Set: "n", Text: g.one("n+1", "n-1", "n*2%7", "5", "0", "len(t)")}
	switch g.pick(5) {
	case 0:
		n = api.Node{Kind: api.Calc, Set: "b", Text: g.truth()}
	case 1:
		n = api.Node{Kind: api.Throw}
	case 2:
		n = api.Node{Kind: api.Throw, Event: api.Escalate, Key: g.key()}
	case 3:
		if !g.quiet {
			n = api.Node{Kind: api.Throw, Event: api.Signal, Key: g.key()}
		}
	}
	return g.plain(in, enter, n)
}

// waiter returns a Catch.
func (g *grower) waiter() api.Node {
	n := api.Node{Kind: api.Catch}
	g.event(&n, 3)
	return n
}

// event gives a node one of the first events: Signal, Timer, Cond, Error, Escalate.
func (g *grower) event(n *api.Node, most int) {
	n.Event = [...]uint8{api.Signal, api.Timer, api.Cond, api.Error, api.Escalate}[g.pick(most)]
	if g.quiet && n.Event == api.Cond {
		n.Event = api.Timer
	}
	switch n.Event {
	case api.Signal:
		n.Key = g.key()
	case api.Timer:
		n.Text = g.one("1", "2", "n+1", "n%3*n%3", "10")
	case api.Cond:
		n.Text = g.truth()
	default:
		n.Key = g.one("k", "l", "")
	}
}

// activity adds an activity, with Bounds.
func (g *grower) activity(in int, enter link, n api.Node) link {
	i := g.node(in, n)
	enter(i)
	g.bounds(in, i)
	return g.after(i)
}

// bounds adds Bounds to an activity.
func (g *grower) bounds(in, on int) {
	for range max(g.pick(5)-2, 0) {
		n := api.Node{Kind: api.Bound, On: on, Breaks: g.pick(2) == 0}
		g.event(&n, 5)
		n.Breaks = n.Breaks || n.Event == api.Error
		next := g.after(g.node(in, n))
		switch g.pick(4) {
		case 0:
		case 1:
			g.step(in, next)(g.endIn(in))
		default:
			next(g.endIn(in))
		}
	}
}

// endIn adds where a way ends: an End, but in an AdHoc a Task.
func (g *grower) endIn(in int) int {
	if in >= 0 && g.p.Nodes[in].Kind == api.AdHoc {
		return g.node(in, api.Node{Kind: api.Task})
	}
	return g.end(in)
}

// split adds a gateway, branches, and a gateway that joins them.
func (g *grower) split(in int, enter link, depth int) link {
	kind := [...]uint8{api.Xor, api.All, api.Some}[g.pick(3)]
	join := kind
	if g.pick(4) == 0 {
		join = [...]uint8{api.Xor, api.Some}[g.pick(2)]
	}
	from := g.node(in, api.Node{Kind: kind})
	enter(from)
	branches := 2 + g.pick(2)
	var ends []link
	for i := range branches {
		next := func(to int) {
			f := api.Flow{From: from, To: to}
			if kind != api.All {
				f.Else = i == branches-1 && g.pick(4) > 0
				if !f.Else {
					f.If = g.truth()
				}
			}
			g.p.Flows = append(g.p.Flows, f)
		}
		if g.pick(4) > 0 {
			ends = append(ends, g.block(in, next, depth+1))
		} else {
			ends = append(ends, next)
		}
	}
	to := g.node(in, api.Node{Kind: join})
	for _, end := range ends {
		end(to)
	}
	return g.after(to)
}

// race adds a Race, its Catches, and what comes of them.
func (g *grower) race(in int, enter link) link {
	from := g.node(in, api.Node{Kind: api.Race})
	enter(from)
	var catches []int
	for range 2 + g.pick(2) {
		n := g.node(in, g.waiter())
		g.flow(from, n)
		catches = append(catches, n)
	}
	to := g.node(in, api.Node{Kind: api.Xor})
	for _, n := range catches {
		g.flow(n, to)
	}
	return g.after(to)
}

// part adds a Part, and what is in it.
func (g *grower) part(in int, enter link, depth int) link {
	n := api.Node{Kind: api.Part}
	if g.pick(2) == 0 {
		n.Vars = []api.Var{{Name: g.one("x", "n"), Init: number(int64(g.pick(5)))}}
	}
	i := g.node(in, n)
	enter(i)
	g.fill(i, api.Node{Kind: api.Start}, depth+1)
	g.asides(i, depth+1)
	g.bounds(in, i)
	return g.after(i)
}

// asides adds Asides to a scope.
func (g *grower) asides(in, depth int) {
	for range max(g.pick(4)-2, 0) {
		n := api.Node{Kind: api.Aside}
		if g.pick(3) == 0 {
			n.Vars = []api.Var{{Name: "n", Init: number(1)}}
		}
		i := g.node(in, n)
		start := api.Node{Kind: api.Start, Breaks: g.pick(2) == 0}
		g.event(&start, 5)
		start.Breaks = start.Breaks || start.Event == api.Error
		g.fill(i, start, depth+2)
	}
}

// adhoc adds an AdHoc, and what may be enabled in it.
func (g *grower) adhoc(in int, enter link) link {
	i := g.node(in, api.Node{Kind: api.AdHoc, Text: g.truth(), Breaks: g.pick(2) == 0})
	enter(i)
	for range 1 + g.pick(2) {
		next := g.activity(i, func(int) {}, api.Node{Kind: api.Task})
		if g.pick(2) == 0 {
			g.step(i, next)
		}
	}
	g.step(i, func(int) {})
	g.bounds(in, i)
	return g.after(i)
}

// call adds a Call, if there is something to call.
func (g *grower) call(in int, enter link) link {
	var fit []api.Process
	for _, d := range g.calls {
		for _, n := range d.Nodes {
			if n.Kind == api.Start && n.In == -1 && n.Event == api.Plain {
				fit = append(fit, d)
			}
		}
	}
	if len(fit) == 0 {
		return g.activity(in, enter, api.Node{Kind: api.Task})
	}
	n := api.Node{Kind: api.Call, Key: fit[g.pick(len(fit))].Name}
	if g.pick(2) == 0 {
		n.Back = []string{"n", "b"}
	}
	return g.activity(in, enter, n)
}

// jump adds a Link, or a cycle that is left some time.
func (g *grower) jump(in int, enter link, depth int) link {
	if g.quiet || g.pick(2) == 0 {
		key := "link" + strconv.Itoa(len(g.p.Nodes))
		enter(g.node(in, api.Node{Kind: api.Throw, Event: api.Link, Key: key}))
		return g.after(g.node(in, api.Node{Kind: api.Catch, Event: api.Link, Key: key}))
	}
	merge := g.node(in, api.Node{Kind: api.Xor})
	enter(merge)
	next := g.block(in, g.after(merge), depth+1)
	fork := g.node(in, api.Node{Kind: api.Xor})
	next(fork)
	g.p.Flows = append(g.p.Flows, api.Flow{From: fork, To: merge, If: g.truth()})
	return func(to int) { g.p.Flows = append(g.p.Flows, api.Flow{From: fork, To: to, Else: true}) }
}
