package sketch

import (
	"callboard/api"
	"callboard/arena"
	"callboard/cancel"
	"callboard/enter"
	"callboard/fire"
	"callboard/graph"
	"callboard/model"
	"callboard/subs"
)

// Stir moves one Ready token of a state, picked, by a step that a token at its node might take; or a watch fires;
// or a scope is opened. It chooses no ways, so that every way is taken some time.
func Stir(s api.State, pick func(n int) int) api.State {
	if len(s.Watches) > 0 && pick(6) == 0 {
		n, _ := fire.Fire(s, s.Watches[pick(len(s.Watches))].ID)
		return n
	}
	var ready []api.Item
	for _, it := range s.Items {
		if it.Wait == api.Ready {
			ready = append(ready, it)
		}
	}
	if len(ready) == 0 || pick(15) == 0 {
		p := s.Defs[pick(len(s.Defs))]
		n, _, _ := enter.Open(s, 0, p.Name, -1, -1)
		return n
	}
	return move(s, ready[pick(len(ready))])
}

// move moves a token.
func move(s api.State, it api.Item) api.State {
	n, _ := arena.NodeOf(s, it)
	p, _ := arena.Def(s, it.Proc)
	switch {
	case model.Activity(n.Kind):
		s, _ = enter.Begin(s, it.ID)
		return s
	case n.Kind == api.Catch && n.Event != api.Link:
		return await(s, it, it.Node)
	case n.Kind == api.Race:
		return await(s, it, graph.Comes(p, it.Node)...)
	case n.Kind == api.End:
		return cancel.Take(s, it.ID)
	case (n.Kind == api.All || n.Kind == api.Some) && len(graph.To(p, it.Node)) > 1:
		it.Wait = api.Joins
		return arena.Turn(s, it)
	}
	s, _ = enter.All(s, it.ID, it.Node)
	return s
}

// await has a token await what some nodes say.
func await(s api.State, it api.Item, nodes ...int) api.State {
	it.Wait = api.Awaits
	n := arena.Turn(s, it)
	for _, node := range nodes {
		var e api.Errno
		if n, e = subs.Add(n, it.ID, node); e != api.OK {
			return s
		}
	}
	return n
}
