package step

import (
	"callboard/api"
	"callboard/arena"
	"callboard/cancel"
	"callboard/cast"
	"callboard/enter"
	"callboard/eval"
	"callboard/fire"
	"callboard/graph"
	"callboard/route"
	"callboard/subs"
	"callboard/vars"
)

// mover is a token that moves, at its node.
type mover struct {
	s     api.State
	it    api.Item
	p     api.Process
	n     api.Node
	picks *cast.Picks
}

// kinds returns what a token does, by the Kind of its node; nothing at one to which no token comes.
func kinds() [api.Bound + 1]func(m *mover) (api.State, api.Errno) {
	return [api.Bound + 1]func(m *mover) (api.State, api.Errno){
		api.Start: (*mover).leave,
		api.End:   (*mover).end,
		api.Task:  (*mover).begin,
		api.Calc:  (*mover).calc,
		api.Throw: (*mover).throw,
		api.Catch: (*mover).catch,
		api.Xor:   (*mover).choose,
		api.All:   (*mover).gather,
		api.Some:  (*mover).gather,
		api.Race:  (*mover).race,
		api.Part:  (*mover).begin,
		api.AdHoc: (*mover).begin,
		api.Call:  (*mover).begin,
	}
}

// move has a Ready token do what its node requires.
func move(s api.State, id int, picks *cast.Picks) (api.State, api.Errno) {
	it, ok := arena.Find(s, id)
	n, placed := arena.NodeOf(s, it)
	if !ok || it.Is != api.Token || !placed || n.Kind > api.Bound || kinds()[n.Kind] == nil {
		return s, api.ErrNone
	}
	if it.Wait != api.Ready {
		return s, api.ErrState
	}
	p, _ := arena.Def(s, it.Proc)
	return kinds()[n.Kind](&mover{s, it, p, n, picks})
}

// leave: it leaves by all flows.
func (m *mover) leave() (api.State, api.Errno) { return enter.All(m.s, m.it.ID, m.it.Node) }

// begin: it begins the activity.
func (m *mover) begin() (api.State, api.Errno) { return enter.Begin(m.s, m.it.ID) }

// choose: it leaves by its ways.
func (m *mover) choose() (api.State, api.Errno) { return choose(m.s, m.it) }

// gather: it joins where several flows meet.
func (m *mover) gather() (api.State, api.Errno) {
	if len(graph.To(m.p, m.it.Node)) < 2 {
		return m.choose()
	}
	m.it.Wait = api.Joins
	return arena.Turn(m.s, m.it), api.OK
}

// calc: a variable becomes a value; it leaves.
func (m *mover) calc() (api.State, api.Errno) {
	v, e := eval.Of(m.n.Text, vars.Env(m.s, m.it.Up))
	if e != api.OK {
		return m.s, e
	}
	if m.s, e = vars.Put(m.s, m.it.Up, []api.Set{{Name: m.n.Set, V: v}}); e != api.OK {
		return m.s, e
	}
	return m.leave()
}

// catch: it awaits its event; at the end of a Link it leaves.
func (m *mover) catch() (api.State, api.Errno) {
	if m.n.Event == api.Link {
		return m.leave()
	}
	return m.await(m.it.Node)
}

// race: it awaits the first event of the Catches that come next.
func (m *mover) race() (api.State, api.Errno) {
	var nodes []int
	for _, f := range graph.From(m.p, m.it.Node) {
		nodes = append(nodes, m.p.Flows[f].To)
	}
	return m.await(nodes...)
}

// await: it awaits what some nodes wait for.
func (m *mover) await(nodes ...int) (api.State, api.Errno) {
	m.it.Wait = api.Awaits
	s := arena.Turn(m.s, m.it)
	for _, n := range nodes {
		var e api.Errno
		if s, e = subs.Add(s, m.it.ID, n); e != api.OK {
			return s, e
		}
	}
	return s, api.OK
}

// throw: it says what it has to say; then it leaves, if it is still there.
func (m *mover) throw() (api.State, api.Errno) {
	if m.n.Event == api.Link {
		to, ok := graph.Link(m.p, m.it.Node)
		if !ok {
			return m.s, api.ErrNone
		}
		s, _, e := enter.Put(cancel.Take(m.s, m.it.ID), m.it.Up, to, -1)
		return s, e
	}
	return m.announce((*mover).leave)
}

// end: it is removed, after what its event requires.
func (m *mover) end() (api.State, api.Errno) {
	switch m.n.Event {
	case api.Error:
		if h, ok := route.Find(m.s, m.it.ID, api.Error, m.n.Key); ok {
			return fire.Handle(m.s, h)
		}
		return stick(m.s, m.it, "!"+m.n.Key), api.OK
	case api.Finish:
		return cancel.Break(m.s, m.it.Up), api.OK
	}
	return m.announce((*mover).vanish)
}

// vanish: it is removed.
func (m *mover) vanish() (api.State, api.Errno) { return cancel.Take(m.s, m.it.ID), api.OK }

// announce: a signal is broadcast, an escalation is raised; then the token goes on, if it is still there.
func (m *mover) announce(goOn func(m *mover) (api.State, api.Errno)) (api.State, api.Errno) {
	e := api.OK
	switch m.n.Event {
	case api.Signal:
		m.s, e = cast.Cast(m.s, m.n.Key, m.picks)
	case api.Escalate:
		if h, ok := route.Find(m.s, m.it.ID, api.Escalate, m.n.Key); ok {
			m.s, e = fire.Handle(m.s, h)
		}
	}
	if e != api.OK {
		return m.s, e
	}
	if _, there := arena.Find(m.s, m.it.ID); !there {
		return m.s, api.OK
	}
	return goOn(m)
}
