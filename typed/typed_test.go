package typed_test

import (
	"math"
	"math/rand"
	"slices"
	"strings"
	"testing"

	"callboard/api"
	"callboard/parse"
	"callboard/typed"
	"callboard/value"
)

func lit(v api.Value) api.Expr { return api.Expr{Op: api.Lit, V: v} }

func text(s string) api.Value { return api.Value{Kind: api.Text, T: s} }

func name(s string) api.Expr { return api.Expr{Op: api.Name, Name: s} }

func op(o uint8, args ...api.Expr) api.Expr { return api.Expr{Op: o, Args: args} }

var (
	one  = lit(value.Num(1))
	yes  = lit(value.Truth(true))
	word = lit(text("x"))
	none = lit(api.Value{})
)

var vars = []api.Var{
	{Name: "i", Init: value.Num(5)}, {Name: "j", Init: value.Num(-1)}, {Name: "b", Init: value.Truth(false)}, {Name: "c", Init: value.Truth(true)}, {Name: "t", Init: text("q")}, {Name: "u", Init: text("")},
	{Name: "i", Init: text("a later one")}, {Name: "n"}, {Name: "k", Init: api.Value{Kind: 9}}, {Name: "w", Init: api.Value{Kind: api.Bool, N: 7, T: "x"}},
}

// table is the chapter's table: by operators, what sides give which type.
func table(o uint8, a, b uint8) uint8 {
	switch o {
	case api.Neg:
		if a == api.Int {
			return api.Int
		}
	case api.Not:
		if a == api.Bool {
			return api.Bool
		}
	case api.Len:
		if a == api.Text {
			return api.Int
		}
	case api.Mul, api.Div, api.Rem, api.Sub:
		if a == api.Int && b == api.Int {
			return api.Int
		}
	case api.Add:
		if a == b && a != api.Bool {
			return a
		}
	case api.Less, api.LessEq:
		if a == b && a != api.Bool {
			return api.Bool
		}
	case api.Equal, api.Unlike:
		if a == b {
			return api.Bool
		}
	case api.And, api.Or:
		if a == api.Bool && b == api.Bool {
			return api.Bool
		}
	}
	return api.None
}

func unary(o uint8) bool { return o == api.Neg || o == api.Not || o == api.Len }

func nested(d int) api.Expr {
	e := yes
	for range d - 1 {
		e = op(api.Not, e)
	}
	return e
}

func TestP12_1Examples(t *testing.T) {
	for _, c := range []struct {
		s    string
		want uint8
		e    api.Errno
	}{
		{"i + 1", api.Int, api.OK}, {"i + 'x'", api.None, api.ErrType}, {"q", api.None, api.ErrName}, {"(1 < 2) == yes", api.Bool, api.OK},
		{"t + 'x'", api.Text, api.OK}, {"b + b", api.None, api.ErrType}, {"len(t) < i", api.Bool, api.OK}, {"n", api.None, api.ErrType}, {"k", api.None, api.ErrType}, {"w", api.Bool, api.OK},
		{"n == n", api.None, api.ErrType}, {"1 / 0", api.Int, api.OK},
	} {
		x, err := parse.Parse(c.s)
		if err != api.OK {
			t.Fatal(c.s)
		}
		if got, e := typed.Type(x, vars); got != c.want || e != c.e {
			t.Error(c.s, got, e)
		}
	}
	a := []api.Var{{Name: "a", Init: value.Num(5)}}
	for _, c := range []struct {
		s    string
		kind uint8
		want api.Errno
	}{
		{"a < 3", api.Int, api.ErrType}, {"a < 3", api.Bool, api.OK}, {"a", api.Int, api.OK}, {"a", api.Text, api.ErrType}, {"a", api.None, api.ErrType}, {"a", 9, api.ErrType}, {"b", api.Int, api.ErrName}, {"b", api.None, api.ErrName},
		{"a <", api.Int, api.ErrForm}, {"", api.Int, api.ErrForm}, {strings.Repeat(" ", 101), api.Int, api.ErrTooLarge}, {strings.Repeat("!", 20) + "yes", api.Bool, api.ErrTooLarge}, {"!a", api.Bool, api.ErrType},
	} {
		if got := typed.Check(c.s, a, c.kind); got != c.want {
			t.Error(c.s, c.kind, got)
		}
	}
}

func TestP12_1Whole(t *testing.T) {
	for _, e := range []api.Expr{one, yes, word, none, name("anything At all"), name(""), lit(value.Num(math.MinInt64)), op(api.Add, one, yes), nested(16), {Op: api.Name, Name: "i", V: api.Value{Kind: 77}}, {Op: api.Neg, Name: "i", Args: []api.Expr{one}}, {Op: api.Neg, V: api.Value{Kind: 9}, Args: []api.Expr{one}}} {
		if !typed.Whole(e) {
			t.Error(e)
		}
	}
	bad := []api.Expr{
		{}, {Op: 17}, op(0, one), op(0, one, one), op(17, one), op(17, one, one), op(255, one, one), {Op: 255, Args: []api.Expr{one}}, op(api.Lit, one), op(api.Name, one), op(api.Neg), op(api.Neg, one, one), op(api.Not), op(api.Len, one, one), op(api.Add), op(api.Add, one), op(api.Add, one, one, one), op(api.Sub, one), op(api.Or),
		lit(api.Value{Kind: 4}), lit(api.Value{Kind: api.Bool, N: 2}), lit(api.Value{N: 1}), lit(text("'")), lit(text(strings.Repeat("a", 41))), lit(api.Value{Kind: api.Int, T: "x"}),
		nested(17), nested(40), op(api.And, yes, nested(16)), op(api.And, nested(16), yes), op(api.Not, api.Expr{}), op(api.And, yes, op(api.And, yes)),
	}
	for _, e := range bad {
		if typed.Whole(e) {
			t.Error(e)
		}
		if kind, err := typed.Type(e, vars); kind != api.None || err != api.ErrForm {
			t.Error(e, kind, err)
		}
		// What is not well-formed comes before everything else.
		if kind, err := typed.Type(op(api.And, name("unknown"), e), vars); kind != api.None || err != api.ErrForm {
			t.Error(e, kind, err)
		}
	}
}

func TestP12_1Table(t *testing.T) {
	sides := []api.Expr{one, yes, word, name("i"), name("b"), name("t")}
	kinds := []uint8{api.Int, api.Bool, api.Text, api.Int, api.Bool, api.Text}
	for o := api.Neg; o <= api.Len; o++ {
		for i, a := range sides {
			for j, b := range sides {
				e, want := op(o, a, b), table(o, kinds[i], kinds[j])
				if unary(o) {
					e = op(o, a)
				}
				got, err := typed.Type(e, vars)
				if got != want || (err == api.OK) != (want != api.None) || want == api.None && err != api.ErrType {
					t.Error(o, a, b, got, err)
				}
			}
		}
	}
}

func TestP12_1FirstError(t *testing.T) {
	unknown, bad := name("zz"), op(api.Add, one, word)
	for _, c := range []struct {
		e    api.Expr
		want api.Errno
	}{
		{op(api.Add, unknown, bad), api.ErrName}, {op(api.Add, bad, unknown), api.ErrType}, {op(api.Add, none, unknown), api.ErrType}, {op(api.Add, unknown, none), api.ErrName},
		// Both sides are examined before what is required of them.
		{op(api.And, one, unknown), api.ErrName}, {op(api.Add, word, unknown), api.ErrName}, {op(api.And, one, yes), api.ErrType}, {op(api.Or, yes, unknown), api.ErrName},
		{op(api.Neg, unknown), api.ErrName}, {op(api.Not, none), api.ErrType}, {name("n"), api.ErrType}, {op(api.Equal, none, none), api.ErrType}, {op(api.And, name("k"), unknown), api.ErrType},
	} {
		if kind, err := typed.Type(c.e, vars); kind != api.None || err != c.want {
			t.Error(c.e, kind, err)
		}
	}
}

func random(r *rand.Rand, most int) api.Expr {
	leaves := []api.Expr{one, yes, word, name("i"), name("j"), name("b"), name("c"), name("t"), name("u"), lit(value.Num(0)), lit(value.Num(math.MaxInt64))}
	if most <= 1 || r.Intn(5) == 0 {
		return leaves[r.Intn(len(leaves))]
	}
	o := api.Neg + uint8(r.Intn(int(api.Len-api.Neg)+1))
	if unary(o) {
		return op(o, random(r, most-1))
	}
	return op(o, random(r, most-1), random(r, most-1))
}

// result is the result by the operators, with values of variables.
func result(e api.Expr, env map[string]api.Value) (api.Value, api.Errno) {
	switch e.Op {
	case api.Lit:
		return e.V, api.OK
	case api.Name:
		return env[e.Name], api.OK
	}
	a, err := result(e.Args[0], env)
	if err != api.OK || len(e.Args) == 1 {
		if err == api.OK {
			return value.One(e.Op, a)
		}
		return a, err
	}
	b, err := result(e.Args[1], env)
	if err != api.OK {
		return b, err
	}
	return value.Two(e.Op, a, b)
}

func TestP12_2To5Random(t *testing.T) {
	r := rand.New(rand.NewSource(130))
	fine := 0
	for range 20000 {
		e := random(r, 1+r.Intn(4))
		kind, err := typed.Type(e, vars)
		more := append(slices.Clone(vars), api.Var{Name: "later", Init: value.Num(1)})
		if k, e2 := typed.Type(e, more); k != kind || e2 != err {
			t.Fatal("a variable more", e)
		}
		if k, e2 := typed.Type(e, append([]api.Var{{Name: "other", Init: text("x")}}, vars...)); k != kind || e2 != err {
			t.Fatal("a variable that it does not name", e)
		}
		if e.Op == api.Equal || e.Op == api.Unlike || e.Op == api.And || e.Op == api.Or || e.Op == api.Add || e.Op == api.Mul {
			if k, e2 := typed.Type(op(e.Op, e.Args[1], e.Args[0]), vars); k != kind || (e2 == api.OK) != (err == api.OK) {
				t.Fatal("exchanged", e)
			}
		}
		if err != api.OK {
			if kind != api.None || err != api.ErrType {
				t.Fatal(kind, err)
			}
			continue
		}
		fine++
		for _, x := range e.Args {
			if _, err := typed.Type(x, vars); err != api.OK {
				t.Fatal("a part", x, err)
			}
		}
		env := map[string]api.Value{}
		for _, v := range vars[:6] {
			env[v.Name] = map[uint8][]api.Value{api.Int: {value.Num(0), value.Num(math.MinInt64), value.Num(3)}, api.Bool: {value.Truth(true), value.Truth(false), value.Truth(true)}, api.Text: {text(""), text(strings.Repeat("z", 40)), text("a")}}[v.Init.Kind][r.Intn(3)]
		}
		v, err := result(e, env)
		if err == api.OK && v.Kind != kind || err != api.OK && err != api.ErrRange && err != api.ErrZero {
			t.Fatal(e, v, err)
		}
	}
	if fine < 2000 {
		t.Error("too few:", fine)
	}
}

func TestP12_3Names(t *testing.T) {
	x := []api.Var{{Name: "a", Init: text("s")}, {Name: "a", Init: value.Num(1)}}
	if kind, err := typed.Type(name("a"), x); kind != api.Text || err != api.OK {
		t.Error(kind, err)
	}
	if kind, err := typed.Type(name("a"), x[1:]); kind != api.Int || err != api.OK {
		t.Error(kind, err)
	}
	if kind, err := typed.Type(name("a"), nil); kind != api.None || err != api.ErrName {
		t.Error(kind, err)
	}
}
