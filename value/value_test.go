package value_test

import (
	"math"
	"math/big"
	"math/rand"
	"strings"
	"testing"

	"callboard/api"
	"callboard/value"
)

var none = api.Value{}

func text(s string) api.Value { return api.Value{Kind: api.Text, T: s} }

func rep(n int) string { return strings.Repeat("t", n) }

var numbers = []int64{0, 1, -1, 2, -2, 3, -3, 7, -7, 10, 1 << 31, -1 << 31, 1<<31 - 1, 3037000499, 3037000500, -3037000500, 1 << 32, -1 << 32, 1 << 62, -1 << 62, math.MaxInt64, math.MaxInt64 - 1, math.MinInt64, math.MinInt64 + 1}

var texts = []string{"", "a", "b", "ab", "aa", " ", "~", "0", "A", "none", "yes", rep(19), rep(20), rep(21), rep(39), rep(40)}

var valid = func() []api.Value {
	l := []api.Value{none, value.Truth(false), value.Truth(true)}
	for _, n := range numbers {
		l = append(l, value.Num(n))
	}
	for _, s := range texts {
		l = append(l, text(s))
	}
	return l
}()

var invalid = []api.Value{
	{N: 1}, {T: "a"}, {Kind: api.Int, T: "a"}, {Kind: api.Bool, N: 2}, {Kind: api.Bool, N: -1}, {Kind: api.Bool, T: "a"}, {Kind: api.Text, N: 1, T: "a"},
	text(rep(41)), text("'"), text("a'b"), text("\x1f"), text("\x7f"), text("\x00"), text("\xff"), text("\n"), {Kind: 4}, {Kind: 255},
}

func TestP9_1Valid(t *testing.T) {
	for _, v := range valid {
		if !value.May(v) {
			t.Error(v)
		}
		for kind := range 256 {
			if value.Is(v, uint8(kind)) != (int(v.Kind) == kind) {
				t.Error(v, kind)
			}
		}
	}
	for _, v := range invalid {
		if value.May(v) || value.Is(v, v.Kind) {
			t.Error(v)
		}
	}
	for b := range 256 {
		s := string([]byte{byte(b)})
		if value.May(text(s)) != (b >= 32 && b <= 126 && s != "'") {
			t.Error(b)
		}
	}
}

func TestP9_1Making(t *testing.T) {
	if value.Num(-5) != (api.Value{Kind: api.Int, N: -5}) || value.Truth(true) != (api.Value{Kind: api.Bool, N: 1}) || value.Truth(false) != (api.Value{Kind: api.Bool}) {
		t.Error("Num, Truth")
	}
	for v, want := range map[api.Value]bool{value.Truth(true): true, value.Truth(false): false, {Kind: api.Bool, N: -7}: true, {Kind: api.Bool, T: "x"}: false, value.Num(1): false, none: false, {N: 1}: false, {Kind: 9, N: 1}: false} {
		if value.Yes(v) != want {
			t.Error(v)
		}
	}
	for v, want := range map[api.Value]string{
		none: "none", {Kind: 9, N: 4, T: "x"}: "none", value.Num(0): "0", value.Num(-12): "-12", value.Num(math.MinInt64): "-9223372036854775808", value.Num(math.MaxInt64): "9223372036854775807",
		value.Truth(true): "yes", value.Truth(false): "no", {Kind: api.Bool, N: 5}: "yes", text(""): "''", text("a b"): "'a b'",
	} {
		if got := value.Show(v); got != want {
			t.Error(v, got)
		}
	}
}

func TestP9_2Examples(t *testing.T) {
	for _, c := range []struct {
		op   uint8
		a, b api.Value
		want api.Value
		e    api.Errno
	}{
		{api.Add, value.Num(math.MaxInt64), value.Num(1), none, api.ErrRange},
		{api.Div, value.Num(-7), value.Num(2), value.Num(-3), api.OK},
		{api.Rem, value.Num(-7), value.Num(2), value.Num(-1), api.OK},
		{api.Rem, value.Num(7), value.Num(-2), value.Num(1), api.OK},
		{api.Div, value.Num(7), value.Num(-2), value.Num(-3), api.OK},
		{api.Div, value.Num(math.MinInt64), value.Num(-1), none, api.ErrRange},
		{api.Rem, value.Num(math.MinInt64), value.Num(-1), none, api.ErrRange},
		{api.Div, value.Num(1), value.Num(0), none, api.ErrZero},
		{api.Rem, value.Num(math.MinInt64), value.Num(0), none, api.ErrZero},
		{api.Add, text("a"), text("b"), text("ab"), api.OK},
		{api.Less, value.Num(1), text("a"), none, api.ErrType},
		{api.Less, text("a"), text("ab"), value.Truth(true), api.OK},
		{api.Less, text("b"), text("ab"), value.Truth(false), api.OK},
		{api.LessEq, text("ab"), text("ab"), value.Truth(true), api.OK},
		{api.Equal, value.Truth(true), value.Truth(true), value.Truth(true), api.OK},
		{api.Unlike, value.Truth(true), value.Truth(false), value.Truth(true), api.OK},
		{api.Sub, text("a"), text("b"), none, api.ErrType},
		{api.Mul, value.Num(math.MinInt64), value.Num(-1), none, api.ErrRange},
		{api.Mul, value.Num(-1), value.Num(math.MinInt64), none, api.ErrRange},
		{api.Sub, value.Num(0), value.Num(math.MinInt64), none, api.ErrRange},
		{api.Sub, value.Num(-1), value.Num(math.MinInt64), value.Num(math.MaxInt64), api.OK},
	} {
		if v, e := value.Two(c.op, c.a, c.b); v != c.want || e != c.e {
			t.Errorf("%d of %v and %v: %v, %v", c.op, c.a, c.b, v, e)
		}
	}
}

// kinds returns the Kind that the sides of a binary operator may both have.
func kinds(op uint8) string {
	switch op {
	case api.Mul, api.Div, api.Rem, api.Sub:
		return "\x01"
	case api.Add, api.Less, api.LessEq:
		return "\x01\x03"
	case api.Equal, api.Unlike:
		return "\x01\x02\x03"
	}
	return "\x02"
}

func TestP9_2Types(t *testing.T) {
	some := []api.Value{value.Num(1), value.Truth(true), text("a"), none}
	for op := range 256 {
		op := uint8(op)
		for _, v := range some {
			got, e := value.One(op, v)
			switch {
			case op != api.Neg && op != api.Not && op != api.Len:
				if e != api.ErrForm || got != none {
					t.Error(op, v, e)
				}
			case (op == api.Neg) != (v.Kind == api.Int) || (op == api.Not) != (v.Kind == api.Bool) || (op == api.Len) != (v.Kind == api.Text):
				if e != api.ErrType || got != none {
					t.Error(op, v, e)
				}
			default:
				if e != api.OK {
					t.Error(op, v, e)
				}
			}
			for _, w := range some[:3] {
				got, e := value.Two(op, v, w)
				switch {
				case op < api.Mul || op > api.Sub:
					if e != api.ErrForm || got != none {
						t.Error(op, v, w, e)
					}
				case v.Kind != w.Kind || !strings.Contains(kinds(op), string([]byte{v.Kind})):
					if e != api.ErrType || got != none {
						t.Error(op, v, w, e)
					}
				default:
					if e != api.OK {
						t.Error(op, v, w, e)
					}
				}
			}
		}
	}
}

// TestP9_2NoType: None, and an unknown Kind, are of no type, for any operator, on either side.
func TestP9_2NoType(t *testing.T) {
	typeless := []api.Value{none, {N: 1}, {T: "a"}, {Kind: 4}, {Kind: 4, N: 1}, {Kind: 9}, {Kind: 255, T: "x"}}
	for op := range 256 {
		op := uint8(op)
		one, two := api.ErrForm, api.ErrForm
		if op == api.Neg || op == api.Not || op == api.Len {
			one = api.ErrType
		}
		if op >= api.Mul && op <= api.Sub {
			two = api.ErrType
		}
		for _, v := range typeless {
			if got, e := value.One(op, v); got != none || e != one {
				t.Error(op, v, got, e)
			}
			for _, w := range append(append([]api.Value{}, typeless...), valid...) {
				if got, e := value.Two(op, v, w); got != none || e != two {
					t.Error(op, v, w, got, e)
				}
				if got, e := value.Two(op, w, v); got != none || e != two {
					t.Error(op, w, v, got, e)
				}
			}
		}
	}
}

func TestP9_2One(t *testing.T) {
	for _, n := range numbers {
		v, e := value.One(api.Neg, value.Num(n))
		if n == math.MinInt64 {
			if e != api.ErrRange || v != none {
				t.Error(v, e)
			}
		} else if v != value.Num(-n) || e != api.OK {
			t.Error(n, v, e)
		}
	}
	for _, s := range texts {
		if v, e := value.One(api.Len, text(s)); v != value.Num(int64(len(s))) || e != api.OK {
			t.Error(s, v, e)
		}
	}
	for _, yes := range []bool{true, false} {
		if v, e := value.One(api.Not, value.Truth(yes)); v != value.Truth(!yes) || e != api.OK {
			t.Error(yes, v, e)
		}
	}
}

// TestP9_2Invalid: of invalid values operators go by Kind, N and T.
func TestP9_2Invalid(t *testing.T) {
	five := api.Value{Kind: api.Bool, N: 5}
	if v, e := value.One(api.Not, five); v != value.Truth(false) || e != api.OK {
		t.Error(v, e)
	}
	if v, e := value.Two(api.And, five, value.Truth(true)); v != value.Truth(true) || e != api.OK {
		t.Error(v, e)
	}
	if v, e := value.One(api.Len, text(rep(50))); v != value.Num(50) || e != api.OK {
		t.Error(v, e)
	}
	if v, e := value.One(api.Neg, api.Value{Kind: api.Int, N: 4, T: "x"}); v != value.Num(-4) || e != api.OK {
		t.Error(v, e)
	}
	if v, e := value.Two(api.Add, text(rep(41)), text("")); v != none || e != api.ErrRange {
		t.Error(v, e)
	}
	for _, a := range append(append([]api.Value{}, invalid...), valid...) {
		for _, b := range invalid {
			for op := range 20 {
				value.Two(uint8(op), a, b)
				value.Two(uint8(op), b, a)
			}
		}
	}
}

func TestP9_3Numbers(t *testing.T) {
	all := append([]int64{}, numbers...)
	r := rand.New(rand.NewSource(100))
	for range 60 {
		all = append(all, int64(r.Uint64())>>r.Intn(64))
	}
	for _, a := range all {
		for _, b := range all {
			x, y := big.NewInt(a), big.NewInt(b)
			exact := map[uint8]*big.Int{api.Add: new(big.Int).Add(x, y), api.Sub: new(big.Int).Sub(x, y), api.Mul: new(big.Int).Mul(x, y)}
			if b != 0 {
				exact[api.Div] = new(big.Int).Quo(x, y)
				exact[api.Rem] = new(big.Int).Rem(x, y)
			}
			for op, n := range exact {
				v, e := value.Two(op, value.Num(a), value.Num(b))
				fits := n.IsInt64() && !(op == api.Rem && a == math.MinInt64 && b == -1)
				if fits && (v != value.Num(n.Int64()) || e != api.OK) || !fits && (v != none || e != api.ErrRange) {
					t.Fatal(op, a, b, v, e)
				}
			}
			if b == 0 {
				for _, op := range []uint8{api.Div, api.Rem} {
					if v, e := value.Two(op, value.Num(a), value.Num(b)); v != none || e != api.ErrZero {
						t.Fatal(op, a, v, e)
					}
				}
			}
		}
	}
}

func holds(t *testing.T, op uint8, a, b api.Value) bool {
	t.Helper()
	v, e := value.Two(op, a, b)
	if e != api.OK || !value.Is(v, api.Bool) {
		t.Fatal(op, a, b, v, e)
	}
	return value.Yes(v)
}

func TestP9_4Order(t *testing.T) {
	var sorts [2][]api.Value
	for _, n := range numbers {
		sorts[0] = append(sorts[0], value.Num(n))
	}
	for _, s := range texts {
		sorts[1] = append(sorts[1], text(s))
	}
	for _, l := range sorts {
		for _, a := range l {
			for _, b := range l {
				less, equal, more := holds(t, api.Less, a, b), holds(t, api.Equal, a, b), holds(t, api.Less, b, a)
				if less != (a.N < b.N || a.T < b.T) || equal != (a == b) || more != (a.N > b.N || a.T > b.T) {
					t.Error(a, b, less, equal, more)
				}
				if holds(t, api.LessEq, a, b) != (less || equal) || holds(t, api.Unlike, a, b) == equal {
					t.Error(a, b)
				}
				for _, c := range l {
					if less && holds(t, api.Less, b, c) && !holds(t, api.Less, a, c) {
						t.Error(a, b, c)
					}
				}
			}
		}
	}
}

// TestP9_4Invalid: of invalid values N decides between numbers, T between texts, and whether N is 0 between booleans.
func TestP9_4Invalid(t *testing.T) {
	var sorts [4][]api.Value
	for _, n := range []int64{math.MinInt64, -1, 0, 1, 5} {
		for _, s := range []string{"", "x", "'"} {
			sorts[api.Int] = append(sorts[api.Int], api.Value{Kind: api.Int, N: n, T: s})
			sorts[api.Bool] = append(sorts[api.Bool], api.Value{Kind: api.Bool, N: n, T: s})
			sorts[api.Text] = append(sorts[api.Text], api.Value{Kind: api.Text, N: n, T: s})
		}
	}
	sorts[api.Text] = append(sorts[api.Text], text(rep(41)), api.Value{Kind: api.Text, N: 1, T: rep(41)})
	for kind, l := range sorts {
		for _, a := range l {
			for _, b := range l {
				want := map[int]bool{int(api.Int): a.N == b.N, int(api.Bool): (a.N != 0) == (b.N != 0), int(api.Text): a.T == b.T}[kind]
				equal := holds(t, api.Equal, a, b)
				if equal != want || holds(t, api.Unlike, a, b) == want {
					t.Error(a, b, equal, want)
				}
				if kind == int(api.Bool) {
					continue
				}
				less, more := holds(t, api.Less, a, b), holds(t, api.Less, b, a)
				if less && more || equal == (less || more) || holds(t, api.LessEq, a, b) != (less || equal) {
					t.Error(a, b, less, equal, more)
				}
			}
		}
	}
}

func TestP9_5Booleans(t *testing.T) {
	not := func(v api.Value) api.Value {
		w, e := value.One(api.Not, v)
		if e != api.OK {
			t.Fatal(e)
		}
		return w
	}
	for _, a := range []bool{false, true} {
		if v := value.Truth(a); not(not(v)) != v {
			t.Error(v)
		}
		for _, b := range []bool{false, true} {
			x, y := value.Truth(a), value.Truth(b)
			if holds(t, api.And, x, y) != (a && b) || holds(t, api.Or, x, y) != (a || b) || holds(t, api.And, x, y) == holds(t, api.Or, not(x), not(y)) {
				t.Error(a, b)
			}
		}
	}
}

func TestP9_6Texts(t *testing.T) {
	for _, a := range texts {
		for _, b := range texts {
			v, e := value.Two(api.Add, text(a), text(b))
			if len(a)+len(b) > api.MaxText {
				if v != none || e != api.ErrRange {
					t.Error(a, b, v, e)
				}
			} else if n, e2 := value.One(api.Len, v); v != text(a+b) || e != api.OK || e2 != api.OK || n != value.Num(int64(len(a)+len(b))) {
				t.Error(a, b, v, e)
			}
		}
	}
}

func TestP9_7Validity(t *testing.T) {
	shown := map[string]api.Value{}
	for _, a := range valid {
		if b, ok := shown[value.Show(a)]; ok {
			t.Error(a, b, "have one text")
		}
		shown[value.Show(a)] = a
		for op := range 20 {
			if v, e := value.One(uint8(op), a); !value.May(v) || (e != api.OK) != (v == none) {
				t.Error(op, a, v, e)
			}
			for _, b := range valid {
				if v, e := value.Two(uint8(op), a, b); !value.May(v) || (e != api.OK) != (v == none) {
					t.Error(op, a, b, v, e)
				}
			}
		}
	}
}
