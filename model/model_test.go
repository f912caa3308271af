package model_test

import (
	"math"
	"slices"
	"strings"
	"testing"

	"callboard/api"
	"callboard/model"
)

var five = api.Value{Kind: api.Int, N: 5}

func rep(s string, n int) string { return strings.Repeat(s, n) }

func TestP14_1Names(t *testing.T) {
	for _, s := range []string{"a", "z", "total_1", "a0", "a_", "abcdefghijkl", "yesno", "ye", "lens", "n", "nop", "le"} {
		if !model.Name(s) {
			t.Error(s)
		}
	}
	for _, s := range []string{"", "A", "1a", "_a", "yes", "no", "len", "abcdefghijklm", "a b", "aB", "a-", "a.", "é", "a\x00", " a", "a "} {
		if model.Name(s) {
			t.Error(s)
		}
	}
	for b := range 256 {
		lower, digit := b >= 'a' && b <= 'z', b >= '0' && b <= '9'
		if model.Name(string([]byte{byte(b)})) != lower || model.Name(string([]byte{'q', byte(b)})) != (lower || digit || b == '_') {
			t.Error(b)
		}
	}
}

func TestP14_6Prefixes(t *testing.T) {
	for _, s := range []string{"abcdefghijkl", "yes1", "lenght", "no_1", "z____"} {
		for n := range len(s) + 1 {
			want := n > 0 && s[:n] != "yes" && s[:n] != "no" && s[:n] != "len"
			if model.Name(s[:n]) != want {
				t.Error(s[:n])
			}
		}
	}
}

// table is the chapter's table: which events each Kind has.
var table = map[uint8][]uint8{
	api.Start: {api.Plain, api.Signal, api.Timer, api.Cond, api.Error, api.Escalate}, api.End: {api.Plain, api.Signal, api.Error, api.Escalate, api.Finish},
	api.Task: {api.Plain}, api.Xor: {api.Plain}, api.All: {api.Plain}, api.Some: {api.Plain}, api.Race: {api.Plain}, api.Calc: {api.Plain},
	api.Throw: {api.Plain, api.Signal, api.Escalate, api.Link}, api.Catch: {api.Signal, api.Timer, api.Cond, api.Link}, api.Part: {api.Plain}, api.Aside: {api.Plain},
	api.AdHoc: {api.Plain}, api.Call: {api.Plain}, api.Bound: {api.Signal, api.Timer, api.Cond, api.Error, api.Escalate},
}

func TestP14_1Kinds(t *testing.T) {
	for kind := range 256 {
		k := uint8(kind)
		for event := range 256 {
			if model.Event(k, uint8(event)) != slices.Contains(table[k], uint8(event)) {
				t.Error(kind, event)
			}
		}
		if model.Activity(k) != (k == api.Task || k == api.Part || k == api.AdHoc || k == api.Call) || model.ScopeNode(k) != (k == api.Part || k == api.AdHoc || k == api.Aside) {
			t.Error(kind)
		}
	}
}

// What a node with a Kind and an event has besides its name.
const (
	never = iota
	maybe
	always
)

type has struct{ key, text, set, breaks, vars, back int }

// hasOf is the chapter's table: which fields a node has. A Key that may be empty is a maybe.
func hasOf(kind, event uint8) has {
	var h has
	switch event {
	case api.Signal, api.Link:
		h.key = always
	case api.Error, api.Escalate:
		h.key = always
		if kind == api.Start || kind == api.Bound {
			h.key = maybe
		}
	case api.Timer, api.Cond:
		h.text = always
	}
	switch kind {
	case api.Start:
		if event != api.Plain {
			h.breaks = maybe
		}
	case api.Calc:
		h.text, h.set = always, always
	case api.Part, api.Aside:
		h.vars = maybe
	case api.AdHoc:
		h.text, h.breaks, h.vars = always, maybe, maybe
	case api.Call:
		h.key, h.back = always, maybe
	case api.Bound:
		h.breaks = maybe
		if event == api.Error {
			h.breaks = always
		}
	}
	return h
}

// least returns a node with what it needs, and nothing else.
func least(kind, event uint8) api.Node {
	n := api.Node{Name: "n", Kind: kind, In: -1, On: -1, Event: event}
	h := hasOf(kind, event)
	if h.key == always {
		n.Key = "k"
	}
	if h.text == always {
		n.Text = "1"
	}
	if h.set == always {
		n.Set = "s"
	}
	n.Breaks = h.breaks == always
	if kind == api.Bound {
		n.On = 0
	}
	return n
}

// each calls f for each Kind with each of its events.
func each(f func(kind, event uint8)) {
	for kind := api.Start; kind <= api.Bound; kind++ {
		for _, event := range table[kind] {
			f(kind, event)
		}
	}
}

func TestP14_3Table(t *testing.T) {
	each(func(kind, event uint8) {
		h := hasOf(kind, event)
		base := least(kind, event)
		check := func(what string, want bool, change func(n *api.Node)) {
			t.Helper()
			n := base
			change(&n)
			e := model.Node(n)
			if want && e != api.OK || !want && e != api.ErrForm {
				t.Errorf("%d, %d: %s: %v", kind, event, what, e)
			}
		}
		check("least", true, func(n *api.Node) {})
		check("another Key", h.key != never, func(n *api.Node) { n.Key = "key_9" })
		check("no Key", h.key != always, func(n *api.Node) { n.Key = "" })
		check("a Key that is no name", false, func(n *api.Node) { n.Key = "Key" })
		check("a Key that is yes", false, func(n *api.Node) { n.Key = "yes" })
		check("another Text", h.text != never, func(n *api.Node) { n.Text = "whatever!" })
		check("no Text", h.text != always, func(n *api.Node) { n.Text = "" })
		check("the longest Text", h.text != never, func(n *api.Node) { n.Text = rep("x", 100) })
		check("another Set", h.set != never, func(n *api.Node) { n.Set = "total_1" })
		check("no Set", h.set != always, func(n *api.Node) { n.Set = "" })
		check("a Set that is no name", false, func(n *api.Node) { n.Set = "len" })
		check("Breaks", h.breaks != never, func(n *api.Node) { n.Breaks = true })
		check("no Breaks", h.breaks != always, func(n *api.Node) { n.Breaks = false })
		check("Vars", h.vars != never, func(n *api.Node) { n.Vars = []api.Var{{Name: "v", Init: five}} })
		check("Vars that are the same", false, func(n *api.Node) { n.Vars = []api.Var{{Name: "v", Init: five}, {Name: "v", Init: five}} })
		check("a Var of None", false, func(n *api.Node) { n.Vars = []api.Var{{Name: "v"}} })
		check("empty Vars", true, func(n *api.Node) { n.Vars, n.Back = []api.Var{}, []string{} })
		check("Back", h.back != never, func(n *api.Node) { n.Back = []string{"a", "b"} })
		check("Back that is the same", false, func(n *api.Node) { n.Back = []string{"a", "b", "a"} })
		check("Back that is no name", false, func(n *api.Node) { n.Back = []string{"a", ""} })
		check("In 0", true, func(n *api.Node) { n.In = 0 })
		check("In far away", true, func(n *api.Node) { n.In = math.MaxInt })
		check("In -2", false, func(n *api.Node) { n.In = -2 })
		check("On 0", kind == api.Bound, func(n *api.Node) { n.On = 0 })
		check("On far away", kind == api.Bound, func(n *api.Node) { n.On = math.MaxInt })
		check("On -1", kind != api.Bound, func(n *api.Node) { n.On = -1 })
		check("On -2", false, func(n *api.Node) { n.On = -2 })
		check("no Name", false, func(n *api.Node) { n.Name = "" })
		check("a Name that is none", false, func(n *api.Node) { n.Name = "no" })
		check("a long Name", false, func(n *api.Node) { n.Name = "abcdefghijklm" })
		for k := range 256 {
			check("another Kind", uint8(k) == kind, func(n *api.Node) {
				if n.Kind = uint8(k); slices.Contains(table[n.Kind], n.Event) && n.Kind != kind {
					n.Kind = 0 // it may be one of that Kind
				}
			})
			check("another event", uint8(k) == event, func(n *api.Node) {
				if n.Event = uint8(k); slices.Contains(table[n.Kind], n.Event) && n.Event != event {
					n.Event = 99
				}
			})
		}
	})
}

func TestP14_1NodeLimits(t *testing.T) {
	vars := make([]api.Var, 0, 9)
	var back []string
	for i := range 9 {
		name := "v" + string([]byte{byte('0' + i)})
		vars, back = append(vars, api.Var{Name: name, Init: five}), append(back, name)
	}
	each(func(kind, event uint8) {
		for _, n := range []api.Node{{Text: rep("x", 101)}, {Vars: make([]api.Var, 9)}, {Back: make([]string, 9)}} {
			m := least(kind, event)
			m.Name = "" // what is too large comes before what is invalid
			m.Vars, m.Back = n.Vars, n.Back
			if n.Text != "" {
				m.Text = n.Text
			}
			if e := model.Node(m); e != api.ErrTooLarge {
				t.Error(kind, event, e)
			}
		}
	})
	part, call := least(api.Part, api.Plain), least(api.Call, api.Plain)
	part.Vars, call.Back = vars[:8], back[:8]
	if model.Node(part) != api.OK || model.Node(call) != api.OK {
		t.Error("eight")
	}
	if model.Vars(vars[:8]) != api.OK || model.Vars(vars) != api.ErrTooLarge || model.Vars(nil) != api.OK || model.Vars(make([]api.Var, 9)) != api.ErrTooLarge {
		t.Error("Vars")
	}
	for _, l := range [][]api.Var{{{Name: "a"}}, {{Name: "A", Init: five}}, {{Name: "a", Init: five}, {Name: "b", Init: five}, {Name: "a", Init: five}}, {{Name: "a", Init: api.Value{Kind: api.Bool, N: 2}}}, {{Name: "a", Init: api.Value{Kind: 9}}}} {
		if e := model.Vars(l); e != api.ErrForm {
			t.Error(l, e)
		}
	}
}

func TestP14_1Flows(t *testing.T) {
	for f, want := range map[api.Flow]api.Errno{
		{}: api.OK, {From: 5, To: math.MaxInt}: api.OK, {If: "not even an expression"}: api.OK, {Else: true}: api.OK, {If: rep("x", 100)}: api.OK,
		{From: -1}: api.ErrForm, {To: -1}: api.ErrForm, {If: "a", Else: true}: api.ErrForm, {If: rep("x", 101)}: api.ErrTooLarge, {If: rep("x", 101), From: -1, Else: true}: api.ErrTooLarge,
	} {
		if e := model.Flow(f); e != want {
			t.Error(f, e)
		}
	}
}

func process() api.Process {
	return api.Process{
		Name:  "p",
		Vars:  []api.Var{{Name: "a", Init: five}},
		Nodes: []api.Node{least(api.Start, api.Plain), {Name: "part", Kind: api.Part, In: -1, On: -1, Vars: []api.Var{{Name: "b", Init: five}}}, {Name: "call", Kind: api.Call, In: -1, On: -1, Key: "q", Back: []string{"a", "b"}}, least(api.End, api.Plain)},
		Flows: []api.Flow{{From: 0, To: 1}, {From: 1, To: 2, If: "x"}, {From: 2, To: 3, Else: true}},
	}
}

func TestP14_4OneByOne(t *testing.T) {
	long := least(api.Calc, api.Plain)
	long.Text = rep("x", 101)
	for what, c := range map[string]struct {
		want   api.Errno
		change func(p *api.Process)
	}{
		"nothing":        {api.OK, func(p *api.Process) {}},
		"only nodes":     {api.OK, func(p *api.Process) { p.Vars, p.Flows = nil, nil }},
		"the same nodes": {api.OK, func(p *api.Process) { p.Nodes = []api.Node{p.Nodes[0], p.Nodes[0]} }},
		"a name":         {api.ErrForm, func(p *api.Process) { p.Name = "P" }},
		"no name":        {api.ErrForm, func(p *api.Process) { p.Name = "" }},
		"no node":        {api.ErrForm, func(p *api.Process) { p.Nodes = nil }},
		"vars":           {api.ErrForm, func(p *api.Process) { p.Vars = append(p.Vars, p.Vars[0]) }},
		"many vars":      {api.ErrTooLarge, func(p *api.Process) { p.Vars = make([]api.Var, 9) }},
		"a node":         {api.ErrForm, func(p *api.Process) { p.Nodes[3].Key = "k" }},
		"a long node":    {api.ErrTooLarge, func(p *api.Process) { p.Nodes[3] = long }},
		"a flow":         {api.ErrForm, func(p *api.Process) { p.Flows[2].To = -1 }},
		"a long flow":    {api.ErrTooLarge, func(p *api.Process) { p.Flows[1].If = rep("x", 101) }},
		"40 nodes":       {api.OK, func(p *api.Process) { p.Nodes = slices.Repeat(p.Nodes, 10) }},
		"41 nodes":       {api.ErrTooLarge, func(p *api.Process) { p.Nodes = append(slices.Repeat(p.Nodes, 10), p.Nodes[0]) }},
		"80 flows":       {api.OK, func(p *api.Process) { p.Flows = slices.Repeat(p.Flows[:1], 80) }},
		"81 flows":       {api.ErrTooLarge, func(p *api.Process) { p.Flows = slices.Repeat(p.Flows[:1], 81) }},
		// In order: too many, the name, the variables, the nodes, the flows.
		"too many, a name": {api.ErrTooLarge, func(p *api.Process) { p.Name = ""; p.Flows = slices.Repeat(p.Flows[:1], 81) }},
		"too many, none":   {api.ErrTooLarge, func(p *api.Process) { p.Nodes = nil; p.Flows = slices.Repeat(p.Flows[:1], 81) }},
		"a name, vars":     {api.ErrForm, func(p *api.Process) { p.Name = ""; p.Vars = make([]api.Var, 9) }},
		"vars, a node":     {api.ErrForm, func(p *api.Process) { p.Vars[0].Name = ""; p.Nodes[0] = long }},
		"many vars, nodes": {api.ErrTooLarge, func(p *api.Process) { p.Vars = make([]api.Var, 9); p.Nodes[0].Name = "" }},
		"the first node":   {api.ErrForm, func(p *api.Process) { p.Nodes[1].Name = ""; p.Nodes[2] = long }},
		"the second node":  {api.ErrTooLarge, func(p *api.Process) { p.Nodes[2].Name = ""; p.Nodes[1] = long }},
		"a node, a flow":   {api.ErrForm, func(p *api.Process) { p.Nodes[3].Name = ""; p.Flows[0].If = rep("x", 101) }},
		"a flow, another":  {api.ErrForm, func(p *api.Process) { p.Flows[0].To = -1; p.Flows[1].If = rep("x", 101) }},
	} {
		p := process()
		c.change(&p)
		if e := model.Process(p); e != c.want {
			t.Error(what, e)
		}
	}
}

// changes are all ways to make a process another one.
var changes = map[string]func(p *api.Process){
	"name": func(p *api.Process) { p.Name = "q" }, "vars": func(p *api.Process) { p.Vars = nil }, "var": func(p *api.Process) { p.Vars[0].Init.N++ }, "var name": func(p *api.Process) { p.Vars[0].Name = "z" },
	"nodes": func(p *api.Process) { p.Nodes = p.Nodes[:3] }, "flows": func(p *api.Process) { p.Flows = p.Flows[:2] }, "flow from": func(p *api.Process) { p.Flows[0].From++ }, "flow to": func(p *api.Process) { p.Flows[0].To++ },
	"flow if": func(p *api.Process) { p.Flows[1].If = "y" }, "flow else": func(p *api.Process) { p.Flows[2].Else = false }, "node name": func(p *api.Process) { p.Nodes[0].Name = "m" }, "node kind": func(p *api.Process) { p.Nodes[0].Kind++ },
	"in": func(p *api.Process) { p.Nodes[0].In++ }, "on": func(p *api.Process) { p.Nodes[0].On++ }, "event": func(p *api.Process) { p.Nodes[0].Event++ }, "key": func(p *api.Process) { p.Nodes[2].Key = "r" },
	"text": func(p *api.Process) { p.Nodes[0].Text = "1" }, "set": func(p *api.Process) { p.Nodes[0].Set = "1" }, "breaks": func(p *api.Process) { p.Nodes[0].Breaks = true },
	"node vars": func(p *api.Process) { p.Nodes[1].Vars = nil }, "node var": func(p *api.Process) { p.Nodes[1].Vars[0].Init.N++ }, "back": func(p *api.Process) { p.Nodes[2].Back[1] = "c" }, "less back": func(p *api.Process) { p.Nodes[2].Back = p.Nodes[2].Back[:1] },
	"order": func(p *api.Process) { p.Nodes[0], p.Nodes[3] = p.Nodes[3], p.Nodes[0] },
}

func TestP14_5Equality(t *testing.T) {
	for what, change := range changes {
		p, q := process(), process()
		if !model.Same(p, q) {
			t.Fatal("the same are not the same")
		}
		change(&q)
		if model.Same(p, q) || model.Same(q, p) || !model.Same(q, model.Copy(q)) {
			t.Error(what)
		}
		c := model.Copy(p)
		change(&c)
		if !model.Same(p, process()) {
			t.Error("the copy shares memory:", what)
		}
	}
	p := process()
	p.Vars, p.Flows = []api.Var{}, []api.Flow{}
	q := process()
	q.Vars, q.Flows = nil, nil
	for i := range p.Nodes {
		p.Nodes[i].Vars, p.Nodes[i].Back = []api.Var{}, []string{}
		q.Nodes[i].Vars, q.Nodes[i].Back = nil, nil
	}
	if !model.Same(p, q) || !model.Same(q, p) || model.Process(p) != model.Process(q) {
		t.Error("none and empty")
	}
	if !model.Same(api.Process{}, model.Copy(api.Process{})) {
		t.Error("the empty process")
	}
}

func TestR1Arguments(t *testing.T) {
	p := process()
	model.Process(p)
	for _, n := range p.Nodes {
		model.Node(n)
	}
	if !model.Same(p, process()) {
		t.Error("a process was modified")
	}
}
