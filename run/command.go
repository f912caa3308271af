package run

import (
	"slices"

	"callboard/api"
	"callboard/arena"
	"callboard/cancel"
	"callboard/cast"
	"callboard/codec"
	"callboard/enter"
	"callboard/fire"
	"callboard/graph"
	"callboard/model"
	"callboard/route"
	"callboard/subs"
	"callboard/valid"
	"callboard/value"
	"callboard/vars"
)

// Do returns the state after a command, and its answer.
func Do(s api.State, c api.Command, picks []uint32, budget int) (api.State, api.Answer) {
	if budget < 1 || budget > api.MaxSteps {
		return s, api.Answer{E: api.ErrArg}
	}
	if c.Kind > api.Retry || effects()[c.Kind] == nil {
		return s, api.Answer{E: api.ErrForm}
	}
	x := &executor{s: s, c: c, p: cast.NewPicks(picks), budget: budget}
	e := effects()[c.Kind](x)
	if e == api.OK && c.Kind != api.Deploy {
		e = x.run()
	}
	if e != api.OK {
		return s, api.Answer{E: e}
	}
	return x.s, api.Answer{ID: x.id}
}

// effects returns what each command does before a run, by its Kind.
func effects() [api.Retry + 1]func(x *executor) api.Errno {
	return [api.Retry + 1]func(x *executor) api.Errno{
		api.Deploy: (*executor).deploy,
		api.Begin:  (*executor).begin,
		api.Done:   (*executor).done,
		api.Fail:   (*executor).fail,
		api.Enable: (*executor).enable,
		api.Put:    (*executor).put,
		api.Cast:   (*executor).cast,
		api.Tick:   (*executor).tick,
		api.Stop:   (*executor).stop,
		api.Retry:  (*executor).retry,
	}
}

// executor executes a command: after an error its state is of no use.
type executor struct {
	s      api.State
	c      api.Command
	p      *cast.Picks
	budget int
	id     int
}

// run does a run, with what is left of the budget.
func (x *executor) run() api.Errno {
	s, steps, e := Run(x.s, x.p, x.budget)
	x.s = s
	x.budget -= steps
	return e
}

// item returns the item of the command, if it is a scope, or a token, as is asked.
func (x *executor) item(is uint8) (api.Item, api.Errno) {
	it, ok := arena.Find(x.s, x.c.ID)
	if !ok || it.Is != is {
		return api.Item{}, api.ErrNone
	}
	return it, api.OK
}

// working returns the token of the command, if it Works.
func (x *executor) working() (api.Item, api.Errno) {
	it, e := x.item(api.Token)
	if e == api.OK && it.Wait != api.Works {
		e = api.ErrState
	}
	return it, e
}

// set applies the Sets of the command, from a scope.
func (x *executor) set(scope int) (e api.Errno) {
	x.s, e = vars.Put(x.s, scope, x.c.Sets)
	return e
}

// deploy: a process is deployed.
func (x *executor) deploy() api.Errno {
	p, e := codec.Decode(x.c.Bytes)
	if e != api.OK {
		return e
	}
	if _, ok := arena.Def(x.s, p.Name); ok {
		return api.ErrTwice
	}
	if len(x.s.Defs) >= api.MaxProcs {
		return api.ErrTooLarge
	}
	if e := valid.Check(x.s.Defs, p); e != api.OK {
		return e
	}
	x.s.Defs = slices.Concat(x.s.Defs, []api.Process{p})
	return api.OK
}

// begin: a scope of a process is opened.
func (x *executor) begin() (e api.Errno) {
	p, ok := arena.Def(x.s, x.c.Name)
	if _, plain := graph.StartOf(p, -1); !ok || !plain {
		return api.ErrNone
	}
	for _, set := range x.c.Sets {
		i := slices.IndexFunc(p.Vars, func(v api.Var) bool { return v.Name == set.Name })
		if i < 0 {
			return api.ErrName
		}
		if !value.Is(set.V, p.Vars[i].Init.Kind) {
			return api.ErrType
		}
	}
	if x.s, x.id, e = enter.Open(x.s, 0, p.Name, -1, -1); e != api.OK {
		return e
	}
	return x.set(x.id)
}

// done: a Task is done.
func (x *executor) done() api.Errno {
	it, e := x.working()
	if e != api.OK {
		return e
	}
	if e := x.set(it.Up); e != api.OK {
		return e
	}
	x.s, e = enter.All(x.s, it.ID, it.Node)
	return e
}

// fail: a Task fails.
func (x *executor) fail() api.Errno {
	it, e := x.working()
	if e != api.OK {
		return e
	}
	if !model.Name(x.c.Key) {
		return api.ErrForm
	}
	h, ok := route.Find(x.s, it.ID, api.Error, x.c.Key)
	if !ok {
		return api.ErrUncaught
	}
	x.s, e = fire.Handle(x.s, h)
	return e
}

// enable: a token is put into an AdHoc.
func (x *executor) enable() api.Errno {
	it, e := x.item(api.Scope)
	if e != api.OK {
		return e
	}
	if n, _ := arena.NodeOf(x.s, it); n.Kind != api.AdHoc {
		return api.ErrState
	}
	p, _ := arena.Def(x.s, it.Proc)
	for _, i := range graph.Within(p, it.Node) {
		if p.Nodes[i].Name == x.c.Name && enabled(p, i) {
			x.s, x.id, e = enter.Put(x.s, it.ID, i, -1)
			return e
		}
	}
	return api.ErrName
}

// enabled reports whether a node of an AdHoc is enabled from outside.
func enabled(p api.Process, n int) bool {
	kind := p.Nodes[n].Kind
	return (model.Activity(kind) || kind == api.Calc || kind == api.Throw) && len(graph.To(p, n)) == 0
}

// put: variables become values.
func (x *executor) put() api.Errno {
	it, e := x.item(api.Scope)
	if e != api.OK {
		return e
	}
	return x.set(it.ID)
}

// cast: a signal is broadcast.
func (x *executor) cast() (e api.Errno) {
	if !model.Name(x.c.Key) {
		return api.ErrForm
	}
	x.s, e = cast.Cast(x.s, x.c.Key, x.p)
	return e
}

// tick: the clock advances, and the Timers that are due fire, with a run after each.
func (x *executor) tick() api.Errno {
	if x.c.N < 1 || x.s.Clock > api.MaxClock-x.c.N {
		return api.ErrArg
	}
	x.s.Clock += x.c.N
	for _, w := range subs.Due(x.s) {
		if _, ok := subs.Find(x.s, w); !ok {
			continue
		}
		s, e := fire.Fire(x.s, w)
		if e != api.OK {
			return e
		}
		x.s = s
		if e := x.run(); e != api.OK {
			return e
		}
	}
	return api.OK
}

// stop: a scope below nothing is removed.
func (x *executor) stop() api.Errno {
	it, e := x.item(api.Scope)
	if e != api.OK {
		return e
	}
	if it.Up != 0 {
		return api.ErrState
	}
	x.s = cancel.Take(x.s, it.ID)
	return api.OK
}

// retry: a token that is stuck is Ready again.
func (x *executor) retry() api.Errno {
	it, e := x.item(api.Token)
	if e != api.OK {
		return e
	}
	if it.Wait != api.Stuck {
		return api.ErrState
	}
	it.Wait, it.Code = api.Ready, ""
	x.s = arena.Turn(x.s, it)
	return api.OK
}
