package valid_test

import (
	"math/rand"
	"slices"
	"strings"
	"testing"

	"callboard/api"
	"callboard/eval"
	"callboard/model"
	"callboard/sketch"
	"callboard/typed"
	"callboard/valid"
)

// lib are processes that may be called.
var lib = []api.Process{
	sketch.Process("sub n=1 t='x' s='y'; start s; end e; s>e"),
	sketch.Process("awaits n=1; start s signal:go; end e; s>e"),
	sketch.Process("sub n='later'; start s; end e; s>e"),
}

func check(t *testing.T, s string, want api.Errno) {
	t.Helper()
	if e := valid.Check(lib, sketch.Process(s)); e != want {
		t.Errorf("%s: %v, want %v", s, e, want)
	}
}

func TestP16_1Examples(t *testing.T) {
	check(t, "p; start s; task t; end e; s>t>e", api.OK)
	check(t, "p; start s; task t; s>t", api.ErrForm)
	check(t, "p; start s; calc c x=1; end e; s>c>e", api.ErrName)
	check(t, "p x=1; start s; calc c x=1; end e; s>c>e", api.OK)
	check(t, "p; start s; xor x; task t; task u; end e; s>x; x>t if 1; x>u else; t>e; u>e", api.ErrType)
	check(t, "p; start s; xor x; task t; task u; end e; s>x; x>t if 1<2; x>u else; t>e; u>e", api.OK)
}

func TestP16_1WellFormed(t *testing.T) {
	p := sketch.Process("p; start s; end e; s>e")
	p.Nodes = slices.Repeat(p.Nodes, 21)
	if e := valid.Check(nil, p); e != api.ErrTooLarge {
		t.Error(e)
	}
	check(t, "P; start s; end e; s>e", api.ErrForm)
	check(t, "p a=1 a=2; start s; end e; s>e", api.ErrForm)
	p = sketch.Process("p; start s; end e; s>e")
	p.Flows[0].If = strings.Repeat(" ", 101)
	if e := valid.Check(nil, p); e != api.ErrTooLarge {
		t.Error(e)
	}
	if e := valid.Check(nil, api.Process{}); e != api.ErrForm {
		t.Error(e)
	}
}

func TestP16_1Places(t *testing.T) {
	check(t, "p; start s; task t; task t; end e; s>t>e", api.ErrForm)
	check(t, "p; start s; part w; .start a; .end b; end e; s>w>e; a>b", api.OK)
	base := sketch.Process("p; start s; part w; .start a; .end b; task t; end e; bound c @t timer:1; s>w>t>e; a>b; c>e")
	for what, c := range map[string]struct {
		want   api.Errno
		change func(p *api.Process)
	}{
		"nothing":                 {api.OK, func(p *api.Process) {}},
		"in itself":               {api.ErrForm, func(p *api.Process) { p.Nodes[1].In = 1 }},
		"in a later node":         {api.ErrForm, func(p *api.Process) { p.Nodes[1].In = 4 }},
		"in no node":              {api.ErrForm, func(p *api.Process) { p.Nodes[5].In = 60 }},
		"in a Start":              {api.ErrForm, func(p *api.Process) { p.Nodes[4].In = 0; p.Nodes[6].In = 0 }},
		"a Bound of a Part":       {api.OK, func(p *api.Process) { p.Nodes[6].On = 1 }},
		"a Bound of a Start":      {api.ErrForm, func(p *api.Process) { p.Nodes[6].On = 0 }},
		"a Bound of itself":       {api.ErrForm, func(p *api.Process) { p.Nodes[6].On = 6 }},
		"a Bound of none":         {api.ErrForm, func(p *api.Process) { p.Nodes[6].On = 7 }},
		"a Bound elsewhere":       {api.ErrForm, func(p *api.Process) { p.Nodes[6].In = 1; p.Flows[4].To = 3 }},
		"a flow from none":        {api.ErrForm, func(p *api.Process) { p.Flows = append(p.Flows, api.Flow{From: 7, To: 5}) }},
		"a flow to none":          {api.ErrForm, func(p *api.Process) { p.Flows = append(p.Flows, api.Flow{From: 4, To: 7}) }},
		"a flow into a scope":     {api.ErrForm, func(p *api.Process) { p.Flows = append(p.Flows, api.Flow{From: 4, To: 3}) }},
		"a flow out of a scope":   {api.ErrForm, func(p *api.Process) { p.Flows = append(p.Flows, api.Flow{From: 2, To: 5}) }},
		"a flow to a Start":       {api.ErrForm, func(p *api.Process) { p.Flows = append(p.Flows, api.Flow{From: 4, To: 0}) }},
		"a flow to a Bound":       {api.ErrForm, func(p *api.Process) { p.Flows = append(p.Flows, api.Flow{From: 4, To: 6}) }},
		"a flow from an End":      {api.ErrForm, func(p *api.Process) { p.Flows = append(p.Flows, api.Flow{From: 5, To: 4}) }},
		"a flow more":             {api.OK, func(p *api.Process) { p.Flows = append(p.Flows, api.Flow{From: 4, To: 4}) }},
		"the same flow once more": {api.OK, func(p *api.Process) { p.Flows = append(p.Flows, p.Flows[0]) }},
		"a Bound before its node": {api.OK, func(p *api.Process) {
			p.Nodes[4], p.Nodes[6] = p.Nodes[6], p.Nodes[4]
			p.Nodes[4].On = 6
			p.Flows[1].To = 6
			p.Flows[2].From = 6
			p.Flows[4].From = 4
		}},
		"a Bound without a flow":   {api.OK, func(p *api.Process) { p.Flows = p.Flows[:4] }},
		"a Bound that is at a End": {api.ErrForm, func(p *api.Process) { p.Nodes[6].On = 5 }},
	} {
		p := model.Copy(base)
		c.change(&p)
		if e := valid.Check(lib, p); e != c.want {
			t.Error(what, e)
		}
	}
	check(t, "p; start s; end e; s>e; aside a; .start b signal:k; .end c; b>c; s>a", api.ErrForm)
	check(t, "p; start s; end e; s>e; aside a; .start b signal:k; .end c; b>c; a>e", api.ErrForm)
	check(t, "p; start s; end e; s>e; aside a; .start b signal:k; .end c; b>c", api.OK)
	check(t, "p; start s; throw t link:k; catch c link:k; end e; s>t; c>e", api.OK)
	check(t, "p; start s; throw t link:k; catch c link:k; end e; s>t; c>e; s>c", api.ErrForm)
	check(t, "p; start s; throw t link:k; catch c link:k; end e; s>t; c>e; t>e", api.ErrForm)
	check(t, "p; start s; throw t; catch c signal:k; end e; s>t>c>e", api.OK)
}

func TestP16_1Starts(t *testing.T) {
	rest := "; end e; s>e"
	check(t, "p; start s; start u; end e; s>e; u>e", api.ErrForm)
	check(t, "p; start s; start u signal:k; end e; s>e; u>e", api.OK)
	check(t, "p; start s signal:l; start u signal:k; end e; s>e; u>e", api.OK)
	check(t, "p; start s signal:k; start u signal:k; end e; s>e; u>e", api.ErrForm)
	check(t, "p; start s signal:k breaks"+rest, api.ErrForm)
	for _, event := range []string{"timer:1", "cond:yes", "error:k", "escalate:k", "error:", "timer:1 breaks"} {
		check(t, "p; start s "+event+rest, api.ErrForm)
		check(t, "p; start u; start s "+event+rest+"; u>e", api.ErrForm)
	}
	check(t, "p; aside a; .start s signal:k; .end e; s>e", api.ErrForm)
	check(t, "p; task t; t>t", api.ErrForm)

	part := func(inside string) string { return "p; start s; part w; " + inside + "; end e; s>w>e" }
	check(t, part(".start a; .end b")+"; a>b", api.OK)
	check(t, part(".task a; .task b")+"; a>b; b>a", api.ErrForm)
	check(t, part(".start a; .start c; .end b")+"; a>b; c>b", api.ErrForm)
	check(t, part(".start a signal:k; .end b")+"; a>b", api.ErrForm)
	check(t, part(".start a; .start c signal:k; .end b")+"; a>b; c>b", api.ErrForm)
	check(t, "p; start s; part w; end e; s>w>e", api.ErrForm)

	aside := func(inside string) string { return "p; start s; end e; s>e; aside w; " + inside }
	for _, event := range []string{"signal:k", "timer:1", "cond:yes", "error:k breaks", "error: breaks", "escalate:k", "escalate:", "escalate:k breaks", "signal:k breaks"} {
		check(t, aside(".start a "+event+"; .end b; a>b"), api.OK)
	}
	check(t, aside(".start a error:k; .end b; a>b"), api.ErrForm)
	check(t, aside(".start a; .end b; a>b"), api.ErrForm)
	check(t, aside(".start a signal:k; .start c signal:l; .end b; a>b; c>b"), api.ErrForm)
	check(t, aside(".task a; .task b; a>b; b>a"), api.ErrForm)
	check(t, "p; start s; end e; s>e; aside w", api.ErrForm)

	adhoc := func(inside string) string { return "p; start s; adhoc w text:yes; " + inside + "; end e; s>w>e" }
	check(t, adhoc(".task a"), api.OK)
	check(t, "p; start s; adhoc w text:yes; end e; s>w>e", api.OK)
	check(t, adhoc(".start a; .task b")+"; a>b", api.ErrForm)
	check(t, adhoc(".task a; .end b")+"; a>b", api.ErrForm)
	check(t, adhoc(".start a signal:k; .task b")+"; a>b", api.ErrForm)
	check(t, adhoc(".part a; ..start b; ..end c")+"; b>c", api.OK)
}

func TestP16_1Connected(t *testing.T) {
	for _, kind := range []string{"task", "calc", "throw", "catch", "xor", "all", "some", "part", "adhoc", "call"} {
		n := kind + " x"
		inside := ""
		switch kind {
		case "calc":
			n += " n=1"
		case "catch":
			n += " signal:k"
		case "part":
			inside = "; .start a; .end b; a>b"
		case "adhoc":
			n += " text:yes"
		case "call":
			n += " key:sub"
		}
		check(t, "p n=1; start s; task t; "+n+inside+"; end e; s>t>x>e", api.OK)
		check(t, "p n=1; start s; task t; "+n+inside+"; end e; s>t>e; x>e", api.ErrForm)
		check(t, "p n=1; start s; task t; "+n+inside+"; end e; s>t>e; t>x", api.ErrForm)
		check(t, "p n=1; start s; task t; adhoc y text:yes; ."+strings.ReplaceAll(n+inside, "; .", "; ..")+"; end e; s>t>y>e", api.OK)
	}
	check(t, "p; start s; end e; end f; s>e", api.ErrForm)
	check(t, "p; start s; start u signal:k; end e; s>e", api.ErrForm)
	check(t, "p; start s; throw t link:k; catch c link:k; end e; s>t; c>e; throw u link:k", api.ErrForm)
	check(t, "p; start s; throw t link:k; catch c link:k; s>t", api.ErrForm)
	check(t, "p; start s; task t; s>t; t>t", api.OK)
}

func TestP16_1Choices(t *testing.T) {
	for _, kind := range []string{"xor", "some"} {
		two := "p n=1; start s; " + kind + " x; task t; task u; end e; s>x; t>e; u>e; "
		check(t, two+"x>t if n<1; x>u if n<2", api.OK)
		check(t, two+"x>t if n<1; x>u else", api.OK)
		check(t, two+"x>t else; x>u if n<2", api.OK)
		check(t, two+"x>t else; x>u else", api.ErrForm)
		check(t, two+"x>t; x>u else", api.ErrForm)
		check(t, two+"x>t; x>u if n<1", api.ErrForm)
		check(t, two+"x>t; x>u", api.ErrForm)
		one := "p n=1; start s; " + kind + " x; end e; s>x; "
		check(t, one+"x>e", api.OK)
		check(t, one+"x>e if n<1", api.ErrForm)
		check(t, one+"x>e else", api.ErrForm)
		check(t, "p n=1; start s; "+kind+" x; task t; task u; task v; end e; s>x; t>e; u>e; v>e; x>t if yes; x>u if no; x>v else", api.OK)
		check(t, "p n=1; start s; "+kind+" x; task t; task u; task v; end e; s>x; t>e; u>e; v>e; x>t if yes; x>u else; x>v else", api.ErrForm)
	}
	for _, kind := range []string{"task", "all", "throw"} {
		check(t, "p n=1; start s; "+kind+" x; task t; task u; end e; s>x; t>e; u>e; x>t if n<1; x>u else", api.ErrForm)
		check(t, "p n=1; start s; "+kind+" x; task t; task u; end e; s>x; t>e; u>e; x>t; x>u", api.OK)
	}
	check(t, "p n=1; start s; task t; end e; s>t if n<1; t>e", api.ErrForm)
	check(t, "p n=1; start s; task t; bound b @t timer:1; end e; s>t>e; b>e else", api.ErrForm)
}

func TestP16_1Races(t *testing.T) {
	race := func(a, b string) string {
		return "p; start s; race r; catch a " + a + "; catch b " + b + "; end e; s>r; a>e; b>e; r>a; r>b"
	}
	for _, event := range []string{"signal:k", "timer:1", "cond:yes"} {
		check(t, race(event, "timer:5"), api.OK)
		check(t, race("signal:k", event), api.OK)
	}
	check(t, "p; start s; race r; catch a signal:k; end e; s>r>a>e", api.ErrForm)
	check(t, "p; start s; race r; catch a signal:k; end e; s>r>a>e; r>a", api.ErrForm)
	check(t, "p; start s; race r; s>r", api.ErrForm)
	check(t, "p; start s; race r; catch a signal:k; task b; end e; s>r>a>e; r>b>e", api.ErrForm)
	check(t, race("signal:k", "signal:k")+"; s>b", api.ErrForm)
	check(t, race("signal:k", "signal:k")+"; s>e", api.OK)
	check(t, "p; start s; race r; race q; catch a signal:k; catch b signal:k; catch c timer:1; end e; s>r; s>q; r>a; r>b; q>b; q>c; a>e; b>e; c>e", api.ErrForm)
	check(t, "p; start s; adhoc w text:yes; .race r; end e; s>w>e", api.ErrForm)
}

func TestP16_1Links(t *testing.T) {
	check(t, "p; start s; throw t link:k; throw u link:k; catch c link:k; end e; s>t; s>u; c>e", api.OK)
	check(t, "p; start s; throw t link:k; catch c link:l; end e; s>t; c>e", api.ErrForm)
	check(t, "p; start s; throw t link:k; catch c link:k; catch d link:k; end e; s>t; c>e; d>e", api.ErrForm)
	check(t, "p; start s; throw t link:k; end e; s>t; s>e", api.ErrForm)
	check(t, "p; start s; end e; s>e; catch c link:k; catch d link:k; c>e; d>e", api.OK)
	check(t, "p; start s; throw t link:k; part w; .start a; .catch c link:k; .end b; end e; s>t; s>w>e; a>b; c>b", api.ErrForm)
	check(t, "p; start s; throw t link:k; catch d link:k; part w; .start a; .catch c link:k; .end b; end e; s>t; s>w>e; a>b; c>b; d>e", api.OK)
}

func TestP16_1Texts(t *testing.T) {
	for _, c := range []struct {
		text string
		num  api.Errno
		yes  api.Errno
	}{
		{"1", api.OK, api.ErrType}, {"yes", api.ErrType, api.OK}, {"n", api.OK, api.ErrType}, {"n<3", api.ErrType, api.OK}, {"q", api.ErrName, api.ErrName}, {"n+'x'", api.ErrType, api.ErrType}, {"n+", api.ErrForm, api.ErrForm},
		{strings.Repeat("!", 17) + "yes", api.ErrTooLarge, api.ErrTooLarge}, {"1/0", api.OK, api.ErrType},
	} {
		check(t, "p n=1; start s; catch c timer:"+c.text+"; end e; s>c>e", c.num)
		check(t, "p n=1; start s; catch c cond:"+c.text+"; end e; s>c>e", c.yes)
		check(t, "p n=1; start s; task t; bound b @t timer:"+c.text+"; end e; s>t>e", c.num)
		check(t, "p n=1; start s; task t; bound b @t cond:"+c.text+"; end e; s>t>e", c.yes)
		check(t, "p n=1; start s; end e; s>e; aside w; .start a timer:"+c.text+"; .end b; a>b", c.num)
		check(t, "p n=1; start s; end e; s>e; aside w; .start a cond:"+c.text+"; .end b; a>b", c.yes)
		check(t, "p n=1; start s; adhoc w text:"+c.text+"; end e; s>w>e", c.yes)
		check(t, "p n=1; start s; calc c n="+c.text+"; end e; s>c>e", c.num)
		check(t, "p n=1 b=no; start s; calc c b="+c.text+"; end e; s>c>e", c.yes)
		check(t, "p n=1; start s; xor x; end e; end f; s>x; x>e if "+c.text+"; x>f else", c.yes)
	}
	check(t, "p n=1; start s; calc c m=1+; end e; s>c>e", api.ErrName)
	// Node by node, and then flow by flow: the first error counts.
	two := func(a, b string) string {
		return "p n=1; start s; calc a n=" + a + "; calc b n=" + b + "; xor x; end e; end f; s>a>b>x; x>e if "
	}
	check(t, two("q", "yes")+"1; x>f else", api.ErrName)
	check(t, two("yes", "q")+"1; x>f else", api.ErrType)
	check(t, two("1", "2")+"1; x>f if q", api.ErrType)
	check(t, two("1", "2")+"q; x>f if 1", api.ErrName)
	check(t, two("1", "q")+"1; x>f else; f>e", api.ErrForm)
}

func TestP16_1Calls(t *testing.T) {
	call := func(s string) string { return "p n=1 t='x' s=5; start a; call c " + s + "; end e; a>c>e" }
	check(t, call("key:sub"), api.OK)
	check(t, call("key:other"), api.ErrName)
	check(t, call("key:awaits"), api.ErrName)
	check(t, call("key:p"), api.ErrName)
	check(t, call("key:sub back:n"), api.OK)
	check(t, call("key:sub back:n,t"), api.OK)
	check(t, call("key:sub back:s"), api.ErrType)
	check(t, call("key:sub back:q"), api.ErrName)
	check(t, call("key:sub back:s,q"), api.ErrType)
	check(t, call("key:sub back:q,s"), api.ErrName)
	check(t, "p n=1; start a; call c key:sub back:t; end e; a>c>e", api.ErrName)
	check(t, "p n=1; start a; part w n='y'; .start b; .call c key:sub back:n; .end d; end e; a>w>e; b>c>d", api.ErrType)
	none := sketch.Process("none; start s; end e; s>e")
	none.Vars = []api.Var{{Name: "n"}}
	p := sketch.Process("p n=1; start a; call c key:none back:n; end e; a>c>e")
	if e := valid.Check([]api.Process{none}, p); e != api.ErrName {
		t.Error(e)
	}
	inner := sketch.Process("inner; part w; .start s; .end e; s>e")
	p = sketch.Process("p; start a; call c key:inner; end e; a>c>e")
	if e := valid.Check([]api.Process{inner}, p); e != api.ErrName {
		t.Error("a Start that is not in the process itself", e)
	}
}

func names(l []api.Var) string {
	s := ""
	for _, v := range l {
		s += v.Name + string([]byte{'0' + v.Init.Kind}) + " "
	}
	return s
}

func TestP16_1Seen(t *testing.T) {
	p := sketch.Process(`p n=1 m=2
		start s
		part w n='x' a=1
		.start t
		.adhoc h text:yes b=1 n=yes
		..task u
		.aside d c=1
		..start f signal:k
		..task g
		..adhoc j text:yes
		aside q z=1
		.start r signal:k
		.task y
		adhoc v text:yes o=1`)
	for name, want := range map[string]string{
		"s": "n1 m1 ", "w": "n1 m1 ", "t": "n3 a1 n1 m1 ", "h": "b1 n2 n3 a1 n1 m1 ", "u": "b1 n2 n3 a1 n1 m1 ", "d": "n3 a1 n1 m1 ", "f": "n3 a1 n1 m1 ", "g": "c1 n3 a1 n1 m1 ", "j": "c1 n3 a1 n1 m1 ",
		"q": "n1 m1 ", "r": "n1 m1 ", "y": "z1 n1 m1 ", "v": "o1 n1 m1 ",
	} {
		if got := names(valid.Seen(p, sketch.At(p, name))); got != want {
			t.Error(name, got)
		}
	}
	for _, n := range []int{-1, -100, len(p.Nodes), 1 << 60} {
		if got := names(valid.Seen(p, n)); got != "n1 m1 " {
			t.Error(n, got)
		}
	}
	l := valid.Seen(p, -1)
	l[0].Name = "zz"
	l = valid.Seen(p, 0)
	l[0].Name = "zz"
	if p.Vars[0].Name != "n" {
		t.Error("Seen shares memory")
	}
	// A node whose In is not the index of a node before it is in the process itself.
	for _, in := range []int{2, 3, 99, -7, 1 << 60} {
		p.Nodes[2].In = in
		if got := names(valid.Seen(p, 2)); got != "n1 m1 " {
			t.Error(in, got)
		}
	}
	if got := valid.Seen(api.Process{}, 0); len(got) != 0 {
		t.Error(got)
	}
}

// TestP16_1First: scope nodes that are the first node of all.
func TestP16_1First(t *testing.T) {
	rest := "; start s; task t; end e; s>t>e; "
	check(t, "p; part w x=1; .start a; .calc c x=x+1; .end b"+rest+"t>w; w>e; a>c>b", api.OK)
	check(t, "p; part w; .task a"+rest+"t>w; w>e; a>a", api.ErrForm)
	check(t, "p; adhoc w text:x<1 x=1; .task a; .calc c x=2"+rest+"t>w; w>e", api.OK)
	check(t, "p; adhoc w text:yes; .task a; .end b"+rest+"t>w; w>e; a>b", api.ErrForm)
	check(t, "p; aside w x=1; .start a cond:x<1; .end b"+rest+"a>b", api.ErrName)
	check(t, "p; aside w x=1; .start a signal:k; .calc c x=2; .end b"+rest+"a>c>b", api.OK)
	check(t, "p; task w; .task a"+rest+"t>w; w>e; a>a", api.ErrForm)
	p := sketch.Process("p n=1; adhoc w text:yes a=1; .task t; start s")
	if got := names(valid.Seen(p, 0)) + names(valid.Seen(p, 1)) + names(valid.Seen(p, 2)); got != "a1 n1 a1 n1 n1 " {
		t.Error(got)
	}
	p = sketch.Process("p n=1; aside w a=1; .start s signal:k; .task t")
	if got := names(valid.Seen(p, 0)) + names(valid.Seen(p, 1)) + names(valid.Seen(p, 2)); got != "n1 n1 a1 n1 " {
		t.Error(got)
	}
}

func TestP16_1WhatIsSeen(t *testing.T) {
	check(t, "p n=1; start s; part w n='x'; .start a; .calc c n='y'; .end b; end e; s>w>e; a>c>b", api.OK)
	check(t, "p n=1; start s; part w n='x'; .start a; .calc c n=2; .end b; end e; s>w>e; a>c>b", api.ErrType)
	check(t, "p n=1; start s; part w n='x'; .start a; .end b; end e; calc c n='y'; s>w>c>e; a>b", api.ErrType)
	check(t, "p; start s; adhoc w text:b b=yes; end e; s>w>e", api.OK)
	check(t, "p; start s; end e; s>e; aside w m=1; .start a cond:m<1; .end b; a>b", api.ErrName)
	check(t, "p; start s; end e; s>e; aside w m=1; .start a signal:k; .catch c cond:m<1; .end b; a>c>b", api.OK)
	check(t, "p; start s; part w m=1; .start a; .task u; .end b; .aside x; ..start c timer:m; ..end d; end e; s>w>e; a>u>b; c>d", api.OK)
	check(t, "p; start s; part w m=1; .start a; .end b; bound u @w cond:m<1; end e; s>w>e; a>b", api.ErrName)
	check(t, "p; start s; part w m=1; .start a; .xor x; .end b; .end c; end e; s>w>e; a>x; x>b if m<1; x>c else", api.OK)
	check(t, "p; start s; part w m=1; .start a; .end b; xor x; end e; end f; s>w>x; a>b; x>e if m<1; x>f else", api.ErrName)
}

// grown returns valid processes, each over those before it.
func grown(t *testing.T, seed int64, n int) []api.Process {
	r := rand.New(rand.NewSource(seed))
	var defs []api.Process
	for len(defs) < n {
		p := sketch.Grow("p"+string([]byte{byte('a' + len(defs))}), defs, r.Intn(3) == 0, r.Intn)
		switch e := valid.Check(defs, p); {
		case e == api.OK:
			defs = append(defs, p)
		case e != api.ErrTooLarge:
			t.Fatalf("%v: %+v", e, p)
		}
	}
	return defs
}

func TestP16_2To6Grown(t *testing.T) {
	r := rand.New(rand.NewSource(160))
	for seed := range int64(150) {
		defs := grown(t, 1000+seed, 3)
		for i, p := range defs {
			calls := slices.ContainsFunc(p.Nodes, func(n api.Node) bool { return n.Kind == api.Call })
			other := append([]api.Process{sketch.Process("other; start s; end e; s>e")}, defs[:i]...)
			if e := valid.Check(other, p); e != api.OK {
				t.Fatal("other processes", e)
			}
			if e := valid.Check(nil, p); (e == api.OK) == calls || calls && e != api.ErrName {
				t.Fatal("without processes", e)
			}
			q := p
			q.Name = "renamed"
			if e := valid.Check(defs[:i], q); e != api.OK {
				t.Fatal("its own name", e)
			}
			structure(t, p)
			expressions(t, p)
			spoilt(t, r, defs[:i], p)
		}
	}
}

// structure: P16.2.
func structure(t *testing.T, p api.Process) {
	starts := map[int]int{}
	for i, n := range p.Nodes {
		if n.In >= i || n.In >= 0 && !model.ScopeNode(p.Nodes[n.In].Kind) {
			t.Fatal("a node in no scope")
		}
		if n.Kind == api.Start {
			starts[n.In]++
		}
	}
	for i, n := range p.Nodes {
		if (n.Kind == api.Part || n.Kind == api.Aside) && starts[i] != 1 || n.Kind == api.AdHoc && starts[i] != 0 {
			t.Fatal("the Starts of a scope")
		}
	}
	for _, f := range p.Flows {
		if p.Nodes[f.From].In != p.Nodes[f.To].In {
			t.Fatal("a flow between scopes")
		}
	}
}

// expressions: P16.3.
func expressions(t *testing.T, p api.Process) {
	try := func(s string, n int, kind uint8) {
		var env []api.Set
		for _, v := range valid.Seen(p, n) {
			env = append(env, api.Set{Name: v.Name, V: v.Init})
		}
		v, e := eval.Of(s, env)
		if e == api.OK && v.Kind != kind || e != api.OK && e != api.ErrRange && e != api.ErrZero {
			t.Fatal(s, v, e)
		}
	}
	for i, n := range p.Nodes {
		switch {
		case n.Event == api.Timer:
			try(n.Text, i, api.Int)
		case n.Event == api.Cond, n.Kind == api.AdHoc:
			try(n.Text, i, api.Bool)
		case n.Kind == api.Calc:
			kind, e := typed.Type(api.Expr{Op: api.Name, Name: n.Set}, valid.Seen(p, i))
			if e != api.OK {
				t.Fatal(e)
			}
			try(n.Text, i, kind)
		}
	}
	for _, f := range p.Flows {
		if f.If != "" {
			try(f.If, f.From, api.Bool)
		}
	}
}

// spoilt: P16.6, and other ways to make a valid process invalid.
func spoilt(t *testing.T, r *rand.Rand, defs []api.Process, p api.Process) {
	to, from := map[int]int{}, map[int]int{}
	for _, f := range p.Flows {
		to[f.To]++
		from[f.From]++
	}
	for i, f := range p.Flows {
		q := model.Copy(p)
		q.Flows = slices.Delete(q.Flows, i, i+1)
		n, m := p.Nodes[f.To], p.Nodes[f.From]
		inAdHoc := n.In >= 0 && p.Nodes[n.In].Kind == api.AdHoc
		if (to[f.To] == 1 || from[f.From] == 1 && m.Kind != api.Bound) && !inAdHoc {
			if e := valid.Check(defs, q); e != api.ErrForm {
				t.Fatal("without a flow", n.Kind, e)
			}
		}
	}
	if len(p.Nodes) > 1 {
		q := model.Copy(p)
		i := r.Intn(len(q.Nodes) - 1)
		q.Nodes[i].Name = q.Nodes[i+1].Name
		if e := valid.Check(defs, q); e != api.ErrForm {
			t.Fatal("a name used twice", e)
		}
	}
	q := model.Copy(p)
	i := r.Intn(len(q.Nodes))
	q.Nodes[i].In = i
	if e := valid.Check(defs, q); e != api.ErrForm {
		t.Fatal("a node in itself", e)
	}
}

func TestP16_4OtherProcesses(t *testing.T) {
	p := sketch.Process("p n=1; start a; call c key:sub back:n; end e; a>c>e")
	for i, defs := range [][]api.Process{lib, lib[:1], append(slices.Clone(lib[1:2]), lib[0]), nil, lib[1:2], lib[1:]} {
		want := []api.Errno{api.OK, api.OK, api.OK, api.ErrName, api.ErrName, api.ErrType}[i]
		if e := valid.Check(defs, p); e != want {
			t.Error(i, e)
		}
	}
}

func TestR1AnyProcess(t *testing.T) {
	r := rand.New(rand.NewSource(161))
	for range 3000 {
		p := model.Copy(grown(t, 1000+int64(r.Intn(5)), 1)[0])
		for range 1 + r.Intn(4) {
			n := &p.Nodes[r.Intn(len(p.Nodes))]
			switch r.Intn(8) {
			case 0:
				n.In = r.Intn(90) - 3
			case 1:
				n.On = r.Intn(90) - 3
			case 2:
				n.Kind = uint8(r.Intn(18))
			case 3:
				n.Event = uint8(r.Intn(9))
			case 4:
				n.Text = []string{"", "q", "1", "yes", "1/0"}[r.Intn(5)]
			case 5:
				n.Key = []string{"", "k", "Q"}[r.Intn(3)]
			case 6:
				if len(p.Flows) > 0 {
					p.Flows[r.Intn(len(p.Flows))] = api.Flow{From: r.Intn(90) - 3, To: r.Intn(90) - 3, If: []string{"", "1", "b"}[r.Intn(3)], Else: r.Intn(3) == 0}
				}
			case 7:
				n.Breaks = !n.Breaks
			}
		}
		before := model.Copy(p)
		e := valid.Check(nil, p)
		if want := model.Process(p); want != api.OK && e != want || !model.Same(p, before) {
			t.Fatal(e, want)
		}
		for i := -2; i < len(p.Nodes)+2; i++ {
			valid.Seen(p, i)
		}
		if e == api.OK {
			structure(t, p)
			expressions(t, p)
		}
	}
}
