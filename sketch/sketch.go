// Package sketch makes processes for tests: from a short notation, and grown by picks.
package sketch

import (
	"strconv"
	"strings"

	"callboard/api"
)

// kinds are the words for the Kinds of nodes.
var kinds = [api.Bound + 1]string{
	api.Start: "start", api.End: "end", api.Task: "task", api.Calc: "calc", api.Throw: "throw", api.Catch: "catch", api.Xor: "xor", api.All: "all",
	api.Some: "some", api.Race: "race", api.Part: "part", api.AdHoc: "adhoc", api.Aside: "aside", api.Call: "call", api.Bound: "bound",
}

// events are the words for the events of nodes.
var events = [api.Finish + 1]string{
	api.Signal: "signal", api.Timer: "timer", api.Cond: "cond", api.Error: "error", api.Escalate: "escalate", api.Link: "link", api.Finish: "finish",
}

// Process returns the process of a notation: parts between semicolons or on lines of their own.
//
//	name x=5 ..         the process, with its variables
//	task t ..           a node: its Kind and its name; a point before it for each scope that it is in
//	a>b>c               flows, one after another
//	a>b if x<3, a>b else
//
// Of a node: signal:key, error:key, escalate:key, link:key, timer:text, cond:text, finish; @activity, text:text, key:key, back:a,b, breaks;
// x=5 is a variable, of a Calc its Set and its Text. There are no blanks in expressions.
func Process(s string) api.Process {
	s = strings.ReplaceAll(s, "\n", ";")
	var p api.Process
	var scopes []int
	for _, line := range strings.Split(s, ";") {
		words := strings.Fields(line)
		switch {
		case len(words) == 0:
		case p.Name == "":
			p.Name = words[0]
			p.Vars = vars(words[1:])
		case strings.Contains(words[0], ">"):
			p.Flows = append(p.Flows, flows(p, words)...)
		default:
			bare := strings.TrimLeft(words[0], ".")
			depth := len(words[0]) - len(bare)
			n := node(p, bare, words[1:])
			scopes = append(scopes[:min(depth, len(scopes))], len(p.Nodes))
			n.In = -1
			if depth > 0 && depth < len(scopes) {
				n.In = scopes[depth-1]
			}
			p.Nodes = append(p.Nodes, n)
		}
	}
	return p
}

// At returns the index of the node of a name, or -1.
func At(p api.Process, name string) int {
	for i, n := range p.Nodes {
		if n.Name == name {
			return i
		}
	}
	return -1
}

// vars returns the variables of words.
func vars(words []string) []api.Var {
	var l []api.Var
	for _, w := range words {
		if name, v, ok := strings.Cut(w, "="); ok {
			l = append(l, api.Var{Name: name, Init: Value(v)})
		}
	}
	return l
}

// Value returns the value of a literal: a number, yes, no, a text between two '; otherwise None.
func Value(s string) api.Value {
	if s == "yes" {
		return api.Value{Kind: api.Bool, N: 1}
	}
	if s == "no" {
		return api.Value{Kind: api.Bool}
	}
	if t, ok := strings.CutPrefix(s, "'"); ok {
		return api.Value{Kind: api.Text, T: strings.TrimSuffix(t, "'")}
	}
	n, err := strconv.ParseInt(s, 10, 64)
	if err != nil {
		return api.Value{}
	}
	return api.Value{Kind: api.Int, N: n}
}

// flows returns the flows of words.
func flows(p api.Process, words []string) []api.Flow {
	var l []api.Flow
	names := strings.Split(words[0], ">")
	for i := 1; i < len(names); i++ {
		l = append(l, api.Flow{From: At(p, names[i-1]), To: At(p, names[i])})
	}
	last := &l[len(l)-1]
	if len(words) > 1 {
		last.Else = words[1] == "else"
	}
	if len(words) > 2 {
		last.If = words[2]
	}
	return l
}

// node returns the node of words.
func node(p api.Process, kind string, words []string) api.Node {
	n := api.Node{On: -1}
	for i, k := range kinds {
		if k == kind {
			n.Kind = uint8(i)
		}
	}
	for i, w := range words {
		if i == 0 {
			n.Name = w
			continue
		}
		field(p, &n, w)
	}
	return n
}

// field gives a node what a word says.
func field(p api.Process, n *api.Node, w string) {
	if on, ok := strings.CutPrefix(w, "@"); ok {
		n.On = At(p, on)
		return
	}
	what, arg, said := strings.Cut(w, ":")
	for i, e := range events {
		if e != "" && e == what {
			n.Event = uint8(i)
			if n.Event == api.Timer || n.Event == api.Cond {
				n.Text = arg
			} else {
				n.Key = arg
			}
			return
		}
	}
	switch {
	case w == "breaks":
		n.Breaks = true
	case said && what == "text":
		n.Text = arg
	case said && what == "key":
		n.Key = arg
	case said && what == "back":
		n.Back = strings.Split(arg, ",")
	case n.Kind == api.Calc:
		n.Set, n.Text, _ = strings.Cut(w, "=")
	default:
		n.Vars = append(n.Vars, vars([]string{w})...)
	}
}
