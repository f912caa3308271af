package eval_test

import (
	"math"
	"math/rand"
	"slices"
	"strings"
	"testing"

	"callboard/api"
	"callboard/eval"
	"callboard/parse"
	"callboard/typed"
	"callboard/value"
)

var none = api.Value{}

func lit(v api.Value) api.Expr { return api.Expr{Op: api.Lit, V: v} }

func text(s string) api.Value { return api.Value{Kind: api.Text, T: s} }

func name(s string) api.Expr { return api.Expr{Op: api.Name, Name: s} }

func op(o uint8, args ...api.Expr) api.Expr { return api.Expr{Op: o, Args: args} }

var env = []api.Set{
	{Name: "a", V: value.Num(5)}, {Name: "z", V: value.Num(0)}, {Name: "m", V: value.Num(math.MinInt64)}, {Name: "b", V: value.Truth(true)}, {Name: "c", V: value.Truth(false)}, {Name: "t", V: text("q")},
	{Name: "a", V: text("a later one")}, {Name: "n"}, {Name: "bad", V: api.Value{Kind: api.Bool, N: 2}}, {Name: "odd", V: api.Value{Kind: 9}},
}

func TestP13_1Examples(t *testing.T) {
	for _, c := range []struct {
		s    string
		want api.Value
		e    api.Errno
	}{
		{"a + 1", value.Num(6), api.OK}, {"q + 1", none, api.ErrName}, {"no & 1 / 0 == 1", value.Truth(false), api.OK}, {"yes & 1 / 0 == 1", none, api.ErrZero},
		{"yes | 1 / 0 == 1", value.Truth(true), api.OK}, {"no | 1 / 0 == 1", none, api.ErrZero}, {"1 + yes", none, api.ErrType}, {"len('ab') < 3", value.Truth(true), api.OK},
		{"n", none, api.ErrType}, {"bad", none, api.ErrType}, {"odd", none, api.ErrType}, {"n == n", none, api.ErrType}, {"m / -1", none, api.ErrRange}, {"m % -1", none, api.ErrRange}, {"-m", none, api.ErrRange}, {"m - 1", none, api.ErrRange},
		{"yes & 1", none, api.ErrType}, {"no | 'x'", none, api.ErrType}, {"no & 1", value.Truth(false), api.OK}, {"yes | q", value.Truth(true), api.OK}, {"1 & q", none, api.ErrType}, {"1 + q", none, api.ErrName}, {"t & 1 / 0", none, api.ErrType},
		{"q + 1 / 0", none, api.ErrName}, {"1 / 0 + q", none, api.ErrZero}, {"a + 1 / z", none, api.ErrZero}, {"t + 't'", text("qt"), api.OK}, {"!b", value.Truth(false), api.OK}, {"!a", none, api.ErrType}, {"-t", none, api.ErrType}, {"len(a)", none, api.ErrType},
		{"1 +", none, api.ErrForm}, {strings.Repeat(" ", 101), none, api.ErrTooLarge}, {strings.Repeat("!", 16) + "b", none, api.ErrTooLarge}, {"'a' < 'b' & 2 <= 2", value.Truth(true), api.OK}, {"b & c | b", value.Truth(true), api.OK},
		{"a % 3 * 10 - a / 2", value.Num(18), api.OK}, {"1 == 'x'", none, api.ErrType}, {"'a' != 'b'", value.Truth(true), api.OK},
	} {
		if v, e := eval.Of(c.s, env); v != c.want || e != c.e {
			t.Error(c.s, v, e)
		}
		yes, e := eval.Yes(c.s, env)
		want := c.e
		if c.e == api.OK && c.want.Kind != api.Bool {
			want = api.ErrType
		}
		if e != want || yes != (c.want == value.Truth(true)) {
			t.Error("Yes of", c.s, yes, e)
		}
		if x, err := parse.Parse(c.s); err == api.OK {
			if v, e := eval.Eval(x, env); v != c.want || e != c.e {
				t.Error(c.s, v, e)
			}
		}
	}
	if v, e := eval.Of("a + 1", nil); v != none || e != api.ErrName {
		t.Error(v, e)
	}
}

func TestP13_1Forms(t *testing.T) {
	zero := op(api.Div, lit(value.Num(1)), lit(value.Num(0)))
	for _, e := range []api.Expr{{}, {Op: 17}, op(api.Add, lit(value.Num(1))), lit(api.Value{Kind: api.Bool, N: 5}), op(api.And, lit(value.Truth(false)), api.Expr{}), op(api.Add, zero, op(api.Neg))} {
		if v, err := eval.Eval(e, env); v != none || err != api.ErrForm {
			t.Error(e, v, err)
		}
	}
	for _, c := range []struct {
		e    api.Expr
		want api.Value
		err  api.Errno
	}{
		{lit(none), none, api.ErrType}, {op(api.Equal, lit(none), lit(none)), none, api.ErrType}, {op(api.Add, lit(none), name("q")), none, api.ErrType}, {op(api.Add, name("q"), lit(none)), none, api.ErrName},
		{op(api.And, lit(value.Truth(false)), lit(none)), value.Truth(false), api.OK}, {lit(value.Num(-4)), value.Num(-4), api.OK}, {name(""), none, api.ErrName},
		{op(api.And, lit(value.Num(1)), name("q")), none, api.ErrType}, {op(api.Less, lit(value.Num(1)), name("q")), none, api.ErrName},
	} {
		if v, err := eval.Eval(c.e, env); v != c.want || err != c.err {
			t.Error(c.e, v, err)
		}
	}
}

func random(r *rand.Rand, most int) api.Expr {
	leaves := []api.Expr{lit(value.Num(1)), lit(value.Num(0)), lit(value.Truth(true)), lit(value.Truth(false)), lit(text("x")), name("a"), name("z"), name("m"), name("b"), name("c"), name("t"), name("q"), name("n")}
	if most <= 1 || r.Intn(6) == 0 {
		return leaves[r.Intn(len(leaves))]
	}
	o := api.Neg + uint8(r.Intn(int(api.Len-api.Neg)+1))
	if r.Intn(3) == 0 {
		o = []uint8{api.And, api.Or}[r.Intn(2)]
	}
	if o == api.Neg || o == api.Not || o == api.Len {
		return op(o, random(r, most-1))
	}
	return op(o, random(r, most-1), random(r, most-1))
}

// plain is the definition, word by word.
func plain(e api.Expr, env []api.Set) (api.Value, api.Errno) {
	use := func(v api.Value) (api.Value, api.Errno) {
		if v == none || !value.May(v) {
			return none, api.ErrType
		}
		return v, api.OK
	}
	if e.Op == api.Lit {
		return use(e.V)
	}
	if e.Op == api.Name {
		for _, s := range env {
			if s.Name == e.Name {
				return use(s.V)
			}
		}
		return none, api.ErrName
	}
	var sides []api.Value
	for i, x := range e.Args {
		v, err := plain(x, env)
		if err != api.OK {
			return none, err
		}
		if i == 0 && (e.Op == api.And || e.Op == api.Or) {
			if v.Kind != api.Bool {
				return none, api.ErrType
			}
			if e.Op == api.And && v == value.Truth(false) || e.Op == api.Or && v == value.Truth(true) {
				return v, api.OK
			}
		}
		sides = append(sides, v)
	}
	if len(sides) == 1 {
		return value.One(e.Op, sides[0])
	}
	return value.Two(e.Op, sides[0], sides[1])
}

// kinds returns variables whose types are those of values.
func kinds(env []api.Set) []api.Var {
	var l []api.Var
	for _, s := range env {
		l = append(l, api.Var{Name: s.Name, Init: s.V})
	}
	return l
}

// replaced returns an expression whose Names are Lits.
func replaced(e api.Expr, env []api.Set) api.Expr {
	if e.Op == api.Name {
		for _, s := range env {
			if s.Name == e.Name {
				return lit(s.V)
			}
		}
		return e
	}
	c := e
	c.Args = nil
	for _, x := range e.Args {
		c.Args = append(c.Args, replaced(x, env))
	}
	return c
}

func TestP13_2To6Random(t *testing.T) {
	r := rand.New(rand.NewSource(140))
	sound := env[:8]
	typedOnes := 0
	for range 30000 {
		e := random(r, 1+r.Intn(5))
		v, err := eval.Eval(e, sound)
		if w, e2 := plain(e, sound); v != w || err != e2 {
			t.Fatal(e, v, err, w, e2)
		}
		if err == api.OK && (v.Kind == api.None || !value.May(v)) || err != api.OK && v != none {
			t.Fatal("validity", e, v, err)
		}
		if kind, e2 := typed.Type(e, kinds(sound)); e2 == api.OK {
			typedOnes++
			if err == api.OK && v.Kind != kind || err != api.OK && err != api.ErrRange && err != api.ErrZero {
				t.Fatal("typing", e, v, err)
			}
		}
		more := append([]api.Set{{Name: "other", V: value.Num(9)}}, sound...)
		more = append(more, api.Set{Name: "a", V: value.Truth(true)}, api.Set{Name: "b", V: none})
		if w, e2 := eval.Eval(e, more); w != v || e2 != err {
			t.Fatal("names", e, w, e2)
		}
		if w, e2 := eval.Eval(replaced(e, sound), sound); w != v || e2 != err {
			t.Fatal("substitution", e, w, e2)
		}
		for o, left := range map[uint8]bool{api.And: false, api.Or: true} {
			if w, e2 := eval.Eval(op(o, lit(value.Truth(left)), e), sound); w != value.Truth(left) || e2 != api.OK {
				t.Fatal("short circuit", e, w, e2)
			}
		}
	}
	if typedOnes < 1000 {
		t.Error("too few:", typedOnes)
	}
}

func TestR1Arguments(t *testing.T) {
	before := slices.Clone(env)
	e := op(api.Add, name("a"), name("a"))
	eval.Eval(e, env)
	eval.Of("a + 1", env)
	eval.Yes("b", env)
	if !slices.Equal(env, before) || !parse.Same(e, op(api.Add, name("a"), name("a"))) {
		t.Error("arguments were modified")
	}
}
