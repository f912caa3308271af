package arena

import (
	"slices"

	"callboard/api"
	"callboard/model"
)

// Sound reports whether items are sound.
func Sound(s api.State) bool {
	if s.Next < 0 || len(s.Items) > api.MaxItems {
		return false
	}
	last := 0
	for i, it := range s.Items {
		if it.ID <= last || it.ID > s.Next || !placed(s, i) {
			return false
		}
		last = it.ID
	}
	return held(s)
}

// placed reports whether an item may be where it is, below one before it.
func placed(s api.State, i int) bool {
	it := s.Items[i]
	p, ok := Def(s, it.Proc)
	if !ok {
		return false
	}
	at := slices.IndexFunc(s.Items[:i], func(x api.Item) bool { return x.ID == it.Up })
	if at < 0 && it.Up != 0 {
		return false
	}
	var above api.Item
	if at >= 0 {
		above = s.Items[at]
	}
	switch it.Is {
	case api.Scope:
		return soundScope(s, p, it, above)
	case api.Token:
		return soundToken(p, it, above)
	}
	return false
}

// soundScope reports whether a scope of a process may be below an item (none: 0).
func soundScope(s api.State, p api.Process, it, above api.Item) bool {
	if it.From != -1 || it.Wait != 0 || it.Code != "" || Depth(s, it.ID) > api.MaxDepth {
		return false
	}
	if it.Node != -1 && (it.Node < 0 || it.Node >= len(p.Nodes) || !model.ScopeNode(p.Nodes[it.Node].Kind)) {
		return false
	}
	switch above.Is {
	case api.Token:
		n, ok := NodeOf(s, above)
		if it.Node == -1 {
			return ok && above.Wait == api.Holds && n.Kind == api.Call && n.Key == it.Proc
		}
		return above.Wait == api.Holds && above.Node == it.Node && above.Proc == it.Proc
	case api.Scope:
		return it.Node != -1 && p.Nodes[it.Node].Kind == api.Aside && above.Proc == it.Proc && p.Nodes[it.Node].In == above.Node
	}
	return it.Node == -1
}

// soundToken reports whether a token of a process may be below an item.
func soundToken(p api.Process, it, above api.Item) bool {
	if above.Is != api.Scope || above.Proc != it.Proc || it.Node < 0 || it.Node >= len(p.Nodes) {
		return false
	}
	n := p.Nodes[it.Node]
	if n.In != above.Node || !waits(n.Kind, it.Wait) || (it.Wait == api.Stuck) != (it.Code != "") {
		return false
	}
	return it.From == -1 || it.From >= 0 && it.From < len(p.Flows) && p.Flows[it.From].To == it.Node
}

// waits reports whether a token may wait in a way at a node of a Kind.
func waits(kind, wait uint8) bool {
	ways := map[uint8][]uint8{
		api.Task:  {api.Works},
		api.Part:  {api.Holds},
		api.AdHoc: {api.Holds},
		api.Call:  {api.Holds},
		api.Catch: {api.Awaits},
		api.Race:  {api.Awaits},
		api.All:   {api.Joins},
		api.Some:  {api.Joins, api.Stuck},
		api.Xor:   {api.Stuck},
		api.End:   {api.Stuck},
	}
	return wait == api.Ready || slices.Contains(ways[kind], wait)
}

// held reports whether each token that Holds has exactly one scope below it, and all others none.
func held(s api.State) bool {
	scopes := map[int]int{}
	for _, it := range s.Items {
		if it.Is == api.Scope {
			scopes[it.Up]++
		}
	}
	for _, it := range s.Items {
		want := 0
		if it.Wait == api.Holds {
			want = 1
		}
		if it.Is == api.Token && scopes[it.ID] != want {
			return false
		}
	}
	return true
}
