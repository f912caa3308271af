package graph

import (
	"slices"

	"callboard/api"
	"callboard/model"
)

// def returns the deployed process of a name, and whether there is one.
func def(defs []api.Process, name string) (api.Process, bool) {
	i := slices.IndexFunc(defs, func(d api.Process) bool { return d.Name == name })
	if i < 0 {
		return api.Process{}, false
	}
	return defs[i], true
}

// place returns the process and the node of a site, and whether there is one.
func place(defs []api.Process, at Site) (api.Process, api.Node, bool) {
	p, ok := def(defs, at.Proc)
	if !ok || !isNode(p, at.Node) {
		return api.Process{}, api.Node{}, false
	}
	return p, p.Nodes[at.Node], true
}

// Handler returns the site that handles what is raised at a site, and the call stack that belongs to it.
func Handler(defs []api.Process, calls []Site, at Site, event uint8, key string) (Site, []Site, bool) {
	if event != api.Error && event != api.Escalate {
		return Site{}, nil, false
	}
	p, n, ok := place(defs, at)
	// What is raised inside of an Aside is not handled by an Aside of the scope around that; what is raised at its own node may be.
	outOfAside := false
	// In a process whose scopes go round the way up is no longer than there are nodes.
	for left := len(p.Nodes); ok && left > 0; left-- {
		if model.Activity(n.Kind) {
			bounds := Bounds(p, at.Node)
			if i, found := choose(p, bounds, event, key); found {
				return Site{at.Proc, bounds[i]}, slices.Clone(calls), true
			}
		}
		if !outOfAside {
			asides, starts := begun(p, n.In)
			if i, found := choose(p, starts, event, key); found {
				return Site{at.Proc, asides[i]}, slices.Clone(calls), true
			}
		}
		switch {
		case isNode(p, n.In):
			at.Node = n.In
			n = p.Nodes[n.In]
			outOfAside = n.Kind == api.Aside
		case len(calls) > 0:
			at = calls[0]
			calls = calls[1:]
			p, n, ok = place(defs, at)
			outOfAside = false
			left = len(p.Nodes) + 1
		default:
			ok = false
		}
	}
	return Site{}, nil, false
}

// begun returns the Asides directly in a scope that have a Start, and their Starts.
func begun(p api.Process, in int) (asides, starts []int) {
	for _, a := range Asides(p, in) {
		if s, ok := StartOf(p, a); ok {
			asides, starts = append(asides, a), append(starts, s)
		}
	}
	return asides, starts
}

// choose returns the first place in a list of a node with an event and a Key, or else with the event and no Key.
func choose(p api.Process, nodes []int, event uint8, key string) (int, bool) {
	for _, k := range [...]string{key, ""} {
		for i, n := range nodes {
			if p.Nodes[n].Event == event && p.Nodes[n].Key == k {
				return i, true
			}
		}
	}
	return 0, false
}

// Steps returns the steps of a site.
func Steps(defs []api.Process, calls []Site, at Site) int {
	return counted(defs, func(c *counter) { c.steps(calls, at) })
}

// Along returns the steps along the flows of a site.
func Along(defs []api.Process, calls []Site, at Site) int {
	return counted(defs, func(c *counter) { c.along(calls, at) })
}

// tooMany is the panic of a counter that has counted enough.
type tooMany struct{}

// counter counts steps, until there are too many.
type counter struct {
	defs []api.Process
	n    int
}

// counted returns what is counted, or one more than a budget may be.
func counted(defs []api.Process, count func(c *counter)) (n int) {
	c := &counter{defs: defs}
	defer func() {
		if r := recover(); r != nil {
			if _, ok := r.(tooMany); !ok {
				panic(r)
			}
			n = api.MaxSteps + 1
		}
	}()
	count(c)
	return c.n
}

// one counts a step.
func (c *counter) one() {
	c.n++
	if c.n > api.MaxSteps {
		panic(tooMany{})
	}
}

// steps counts the steps of a site.
func (c *counter) steps(calls []Site, at Site) {
	p, n, ok := place(c.defs, at)
	if !ok {
		return
	}
	c.one()
	switch {
	case waits(n):
		return
	case n.Kind == api.Throw && n.Event == api.Link:
		if to, ok := Link(p, at.Node); ok {
			c.steps(calls, Site{at.Proc, to})
		}
		return
	case n.Kind == api.Part:
		c.one()
		c.start(calls, p, at.Node)
	case n.Kind == api.Call:
		c.one()
		if q, ok := def(c.defs, n.Key); ok {
			c.start(slices.Concat([]Site{at}, calls), q, -1)
		}
	case n.Kind == api.AdHoc, n.Kind == api.All, n.Kind == api.Some:
		c.one()
	case n.Kind == api.End && n.Event == api.Error, (n.Kind == api.End || n.Kind == api.Throw) && n.Event == api.Escalate:
		c.raised(calls, at, n)
	}
	c.along(calls, at)
}

// start counts the steps of the Start of a scope.
func (c *counter) start(calls []Site, p api.Process, in int) {
	if s, ok := StartOf(p, in); ok {
		c.steps(calls, Site{p.Name, s})
	}
}

// raised counts the steps of what handles the event of a node.
func (c *counter) raised(calls []Site, at Site, n api.Node) {
	h, rest, ok := Handler(c.defs, calls, at, n.Event, n.Key)
	if !ok {
		return
	}
	p, handler, _ := place(c.defs, h)
	if handler.Kind == api.Bound {
		c.along(rest, h)
		return
	}
	c.one()
	c.start(rest, p, h.Node)
}

// along counts the steps along the flows of a site.
func (c *counter) along(calls []Site, at Site) {
	p, _, ok := place(c.defs, at)
	if !ok {
		return
	}
	for _, f := range From(p, at.Node) {
		c.steps(calls, Site{at.Proc, p.Flows[f].To})
	}
}
