package parse_test

import (
	"math"
	"math/rand"
	"slices"
	"strings"
	"testing"

	"callboard/api"
	"callboard/parse"
	"callboard/value"
)

func num(n int64) api.Expr { return api.Expr{Op: api.Lit, V: value.Num(n)} }

func text(s string) api.Expr { return api.Expr{Op: api.Lit, V: api.Value{Kind: api.Text, T: s}} }

func truth(yes bool) api.Expr { return api.Expr{Op: api.Lit, V: value.Truth(yes)} }

func name(s string) api.Expr { return api.Expr{Op: api.Name, Name: s} }

func op(o uint8, args ...api.Expr) api.Expr { return api.Expr{Op: o, Args: args} }

var a, b, c = name("a"), name("b"), name("c")

// signs are the binary operators, by levels, the weakest first.
var signs = []map[string]uint8{
	{"|": api.Or}, {"&": api.And}, {"<": api.Less, "<=": api.LessEq, "==": api.Equal, "!=": api.Unlike},
	{"+": api.Add, "-": api.Sub}, {"*": api.Mul, "/": api.Div, "%": api.Rem},
}

// loose returns the text of a tree with parentheses around everything.
func loose(e api.Expr) string {
	switch e.Op {
	case api.Lit:
		return "( " + value.Show(e.V) + ")"
	case api.Name:
		return "(" + e.Name + " )"
	case api.Neg:
		return "(-" + loose(e.Args[0]) + ")"
	case api.Not:
		return "(!" + loose(e.Args[0]) + ")"
	case api.Len:
		return "(len" + loose(e.Args[0]) + ")"
	}
	for _, m := range signs {
		for s, o := range m {
			if o == e.Op {
				return "(" + loose(e.Args[0]) + s + loose(e.Args[1]) + ")"
			}
		}
	}
	panic("no operator")
}

func depth(e api.Expr) int {
	d := 0
	for _, x := range e.Args {
		d = max(d, depth(x))
	}
	return d + 1
}

func random(r *rand.Rand, most int) api.Expr {
	leaves := []api.Expr{a, b, name("x_1"), num(0), num(17), text(""), text("x (y"), truth(true), truth(false)}
	if most <= 1 || r.Intn(5) == 0 {
		return leaves[r.Intn(len(leaves))]
	}
	o := api.Neg + uint8(r.Intn(int(api.Len-api.Neg)+1))
	if o == api.Neg || o == api.Not || o == api.Len {
		return op(o, random(r, most-1))
	}
	return op(o, random(r, most-1), random(r, most-1))
}

// nested returns a tree of a depth.
func nested(d int) api.Expr {
	e := a
	for range d - 1 {
		e = op(api.Not, e)
	}
	return e
}

func TestP11_1Examples(t *testing.T) {
	for s, want := range map[string]api.Expr{
		"a + b * 2 | !c":      op(api.Or, op(api.Add, a, op(api.Mul, b, num(2))), op(api.Not, c)),
		"(a)":                 a,
		"(a + b) * c":         op(api.Mul, op(api.Add, a, b), c),
		"len(a + 'x')":        op(api.Len, op(api.Add, a, text("x"))),
		"len (a)":             op(api.Len, a),
		"a-b-c":               op(api.Sub, op(api.Sub, a, b), c),
		"a-(b-c)":             op(api.Sub, a, op(api.Sub, b, c)),
		"a|b&c":               op(api.Or, a, op(api.And, b, c)),
		"-1":                  op(api.Neg, num(1)),
		"a - -1":              op(api.Sub, a, op(api.Neg, num(1))),
		"!-!a":                op(api.Not, op(api.Neg, op(api.Not, a))),
		"-a * b":              op(api.Mul, op(api.Neg, a), b),
		"a * -b":              op(api.Mul, a, op(api.Neg, b)),
		"yes & no":            op(api.And, truth(true), truth(false)),
		"(a<b)==(b<a)":        op(api.Equal, op(api.Less, a, b), op(api.Less, b, a)),
		"a<b&b<=c":            op(api.And, op(api.Less, a, b), op(api.LessEq, b, c)),
		"''":                  text(""),
		"yesno":               name("yesno"),
		"lens":                name("lens"),
		"9223372036854775807": num(math.MaxInt64),
	} {
		e, err := parse.Parse(s)
		if err != api.OK || !parse.Same(e, want) {
			t.Errorf("%s: %v, %v", s, e, err)
		}
	}
	for s, e := range map[string]api.Expr{
		"(a + b) * c": op(api.Mul, op(api.Add, a, b), c), "a - b - c": op(api.Sub, op(api.Sub, a, b), c), "a - (b - c)": op(api.Sub, a, op(api.Sub, b, c)),
		"a + (b + c)": op(api.Add, a, op(api.Add, b, c)), "(a < b) == c": op(api.Equal, op(api.Less, a, b), c), "a == (b < c)": op(api.Equal, a, op(api.Less, b, c)),
		"-(a + b)": op(api.Neg, op(api.Add, a, b)), "--a": op(api.Neg, op(api.Neg, a)), "!len(a | b)": op(api.Not, op(api.Len, op(api.Or, a, b))), "-1": op(api.Neg, num(1)),
		"a & (b | c)": op(api.And, a, op(api.Or, b, c)), "a * -b": op(api.Mul, a, op(api.Neg, b)), "'x (y'": text("x (y"), "no": truth(false),
	} {
		if got, err := parse.Show(e); got != s || err != api.OK {
			t.Errorf("%s: %s, %v", s, got, err)
		}
	}
}

func TestP11_1Errors(t *testing.T) {
	for _, s := range []string{"", " ", "a < b < c", "a == b != c", "a b", "1a", "a +", "+ a", "(a", "a)", "()", "len", "len a", "len()", "len(a", "a len(b)", "a ! b", "!", "-", "a & & b", "(a))", "a = b", "'a", "01", "a,b", "yes no", "a(b)", "1 2", "a < b <= c | d", ")(", "len(a)(b)"} {
		if e, err := parse.Parse(s); err != api.ErrForm || !parse.Same(e, api.Expr{}) {
			t.Errorf("%q: %v, %v", s, e, err)
		}
	}
	long := strings.Repeat(" ", 100)
	if _, err := parse.Parse(long + "a"); err != api.ErrTooLarge {
		t.Error(err)
	}
	if _, err := parse.Parse(long[1:] + "a"); err != api.OK {
		t.Error(err)
	}
	for d, want := range map[int]api.Errno{16: api.OK, 17: api.ErrTooLarge, 40: api.ErrTooLarge} {
		s := strings.Repeat("!", d-1) + "a"
		if e, err := parse.Parse(s); err != want || (err == api.OK) != parse.Same(e, nested(d)) || err != api.OK && !parse.Same(e, api.Expr{}) {
			t.Error(d, err)
		}
		// What is no expression comes before what is too deep.
		if _, err := parse.Parse(s + ")"); err != api.ErrForm {
			t.Error(d, err)
		}
	}
	// Parentheses add no depth.
	if e, err := parse.Parse(strings.Repeat("(", 45) + "a" + strings.Repeat(")", 45)); err != api.OK || !parse.Same(e, a) {
		t.Error(err)
	}
}

func TestP11_1May(t *testing.T) {
	for _, e := range []api.Expr{a, num(0), num(math.MaxInt64), text(strings.Repeat("q", 40)), truth(true), name("abcdefghijkl"), nested(16), op(api.Sub, a, b), {Op: api.Lit, V: value.Num(1), Args: []api.Expr{}}} {
		if !parse.May(e) {
			t.Error(e)
		}
	}
	for _, e := range []api.Expr{
		{}, {Op: 17, Args: []api.Expr{a}}, {Op: 255}, op(api.Lit), num(-1), num(math.MinInt64), text("'"), text(strings.Repeat("q", 41)), {Op: api.Lit, V: api.Value{Kind: api.Bool, N: 2}},
		{Op: api.Lit, V: value.Num(1), Name: "a"}, {Op: api.Lit, V: value.Num(1), Args: []api.Expr{a}},
		name(""), name("yes"), name("no"), name("len"), name("A"), name("1a"), name("abcdefghijklm"), {Op: api.Name, Name: "a", V: value.Num(0)}, {Op: api.Name, Name: "a", Args: []api.Expr{a}},
		op(api.Neg), op(api.Neg, a, b), op(api.Not, api.Expr{}), op(api.Len), op(api.Add, a), op(api.Add, a, b, c), op(api.Sub), op(api.Or, a, num(-1)), op(api.Or, num(-1), a),
		{Op: api.Neg, Args: []api.Expr{a}, Name: "a"}, {Op: api.Add, Args: []api.Expr{a, b}, V: value.Num(0)}, nested(17), op(api.And, a, nested(16)), op(api.And, nested(16), a),
	} {
		if parse.May(e) {
			t.Error(e)
		}
		if s, err := parse.Show(e); s != "" || err != api.ErrForm {
			t.Error(e, s, err)
		}
	}
	for o := range 256 {
		for n := range 4 {
			args := []api.Expr{a, b, c}[:n]
			want := 0
			switch o := uint8(o); {
			case o == api.Neg || o == api.Not || o == api.Len:
				want = 1
			case o >= api.Mul && o <= api.Sub:
				want = 2
			}
			if parse.May(op(uint8(o), args...)) != (want == n && n > 0) {
				t.Error(o, n)
			}
		}
	}
}

func TestP11_1TooLong(t *testing.T) {
	e := a
	for i := range 15 {
		e = op(api.Add, e, text(strings.Repeat("q", []int{0, 1}[i/14])))
	}
	// 1 + 14 * 5 + 6 = 77 bytes; one text more makes 100, or 101.
	for n, want := range map[int]api.Errno{23: api.OK, 24: api.ErrTooLarge} {
		e := e
		e.Args = []api.Expr{e.Args[0], text(strings.Repeat("q", n+1))}
		if s, err := parse.Show(e); err != want || (err == api.OK) != (len(s) == 100) {
			t.Error(n, len(s), err)
		}
	}
}

func TestP11_3Back(t *testing.T) {
	r := rand.New(rand.NewSource(120))
	shown := 0
	for range 6000 {
		e := random(r, 1+r.Intn(7))
		if !parse.May(e) {
			t.Fatal(e)
		}
		if s := loose(e); len(s) <= api.MaxExpr {
			if got, err := parse.Parse(s); err != api.OK || !parse.Same(got, e) {
				t.Fatal(s, got, err)
			}
		}
		s, err := parse.Show(e)
		if err == api.ErrTooLarge {
			continue
		}
		shown++
		back, err2 := parse.Parse(s)
		if err != api.OK || err2 != api.OK || !parse.Same(back, e) || depth(back) > api.MaxNest {
			t.Fatal(s, err, err2)
		}
		fewest(t, s, e)
	}
	if shown < 2000 {
		t.Error("too few:", shown)
	}
}

// fewest checks that without any pair of its parentheses a text is no longer that of a tree.
func fewest(t *testing.T, s string, e api.Expr) {
	t.Helper()
	quoted := false
	var open []int
	for i := range len(s) {
		if s[i] == '\'' {
			quoted = !quoted
		}
		if quoted {
			continue
		}
		if s[i] == '(' {
			open = append(open, i)
		}
		if s[i] == ')' {
			from := open[len(open)-1]
			open = open[:len(open)-1]
			without := s[:from] + " " + s[from+1:i] + " " + s[i+1:]
			if got, err := parse.Parse(without); err == api.OK && parse.Same(got, e) {
				t.Fatalf("%s has more parentheses than %s", s, without)
			}
		}
	}
}

func TestP11_3ShowOfParse(t *testing.T) {
	r := rand.New(rand.NewSource(121))
	parts := []string{"a", "b", "1", "'q'", "yes", "(", ")", "len(", "+", "-", "*", "/", "%", "|", "&", "<", "<=", "==", "!=", "!", " "}
	fine := 0
	for range 60000 {
		s := ""
		for range r.Intn(9) {
			s += parts[r.Intn(len(parts))]
		}
		e, err := parse.Parse(s)
		if err != api.OK {
			if err != api.ErrForm || !parse.Same(e, api.Expr{}) {
				t.Fatal(s, err)
			}
			continue
		}
		fine++
		shown, err := parse.Show(e)
		back, err2 := parse.Parse(shown)
		if err != api.OK || err2 != api.OK || !parse.Same(back, e) || !parse.May(e) {
			t.Fatal(s, shown, err, err2)
		}
	}
	if fine < 1000 {
		t.Error("too few:", fine)
	}
}

func TestP11_4Blanks(t *testing.T) {
	r := rand.New(rand.NewSource(122))
	for range 2000 {
		e := random(r, 4)
		s, err := parse.Show(e)
		if err != api.OK || strings.Contains(s, "'") {
			continue
		}
		for _, same := range []string{"(" + s + ")", "  " + s + " ", "( (" + s + " ))", strings.ReplaceAll(s, " ", "   "), strings.ReplaceAll(s, "(", "( ")} {
			if got, err := parse.Parse(same); len(same) <= api.MaxExpr && (err != api.OK || !parse.Same(got, e)) {
				t.Fatal(same, err)
			}
		}
	}
}

func TestP11_5Precedence(t *testing.T) {
	for i, first := range signs {
		for j, second := range signs {
			for s, o := range first {
				for u, p := range second {
					e, err := parse.Parse("a " + s + " b " + u + " c")
					if i == 2 && j == 2 {
						if err != api.ErrForm {
							t.Error(s, u, err)
						}
						continue
					}
					want := op(p, op(o, a, b), c)
					if i < j {
						want = op(o, a, op(p, b, c))
					}
					if err != api.OK || !parse.Same(e, want) {
						t.Error(s, u, e, err)
					}
				}
			}
		}
	}
}

func TestP11_6Parts(t *testing.T) {
	r := rand.New(rand.NewSource(123))
	var check func(e api.Expr)
	check = func(e api.Expr) {
		if !parse.May(e) {
			t.Fatal(e)
		}
		for _, x := range e.Args {
			check(x)
		}
	}
	for range 500 {
		check(random(r, 7))
	}
}

func TestP11_2Names(t *testing.T) {
	e := op(api.Add, name("z"), op(api.Mul, name("a"), op(api.Neg, op(api.Sub, name("z"), name("m")))))
	if got := parse.Names(e); !slices.Equal(got, []string{"a", "m", "z"}) {
		t.Error(got)
	}
	for _, e := range []api.Expr{num(1), {}, op(api.Add), {Op: api.Add, Name: "a"}, {Op: 99, Name: "q", Args: []api.Expr{num(1)}}} {
		if got := parse.Names(e); len(got) != 0 {
			t.Error(e, got)
		}
	}
	// Of any tree.
	odd := api.Expr{Op: 99, Args: []api.Expr{{Op: api.Name, Name: "B"}, {Op: api.Lit, Args: []api.Expr{b, a}}, b}}
	if got := parse.Names(odd); !slices.Equal(got, []string{"B", "a", "b"}) {
		t.Error(got)
	}
}

func TestP11_2Same(t *testing.T) {
	all := []api.Expr{a, b, num(1), num(2), text(""), truth(true), op(api.Add, a, b), op(api.Add, b, a), op(api.Sub, a, b), op(api.Neg, a), op(api.Neg, b), {}, {Op: api.Lit, Name: "a"}, op(api.Neg), op(api.Add, a, b, c)}
	for i, x := range all {
		for j, y := range all {
			if parse.Same(x, y) != (i == j) {
				t.Error(x, y)
			}
		}
	}
	if !parse.Same(api.Expr{Op: api.Lit, Args: []api.Expr{}}, api.Expr{Op: api.Lit}) {
		t.Error("none and empty")
	}
}
