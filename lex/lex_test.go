package lex_test

import (
	"math/rand"
	"slices"
	"strings"
	"testing"

	"callboard/api"
	"callboard/lex"
)

func rep(s string, n int) string { return strings.Repeat(s, n) }

const maxNum = "9223372036854775807"

var valid = []lex.Token{
	{lex.Num, "0"}, {lex.Num, "7"}, {lex.Num, "10"}, {lex.Num, maxNum}, {lex.Num, "999999999999999999"}, {lex.Num, "1000000000000000000"},
	{lex.Word, "a"}, {lex.Word, "z9_"}, {lex.Word, "abcdefghijkl"}, {lex.Word, "yes"}, {lex.Word, "len"}, {lex.Word, "a__0"},
	{lex.Quote, ""}, {lex.Quote, " "}, {lex.Quote, "x y"}, {lex.Quote, "a<=1|&"}, {lex.Quote, "~!\"#"}, {lex.Quote, rep("q", 40)},
	{lex.Sign, "|"}, {lex.Sign, "&"}, {lex.Sign, "<"}, {lex.Sign, "<="}, {lex.Sign, "=="}, {lex.Sign, "!="}, {lex.Sign, "+"}, {lex.Sign, "-"},
	{lex.Sign, "*"}, {lex.Sign, "/"}, {lex.Sign, "%"}, {lex.Sign, "!"}, {lex.Sign, "("}, {lex.Sign, ")"},
}

var invalid = []lex.Token{
	{}, {0, "a"}, {5, "a"}, {255, "1"},
	{lex.Num, ""}, {lex.Num, "01"}, {lex.Num, "00"}, {lex.Num, "9223372036854775808"}, {lex.Num, "10000000000000000000"}, {lex.Num, "-1"}, {lex.Num, "1a"}, {lex.Num, "a"}, {lex.Num, " 1"}, {lex.Num, "1 "},
	{lex.Word, ""}, {lex.Word, "abcdefghijklm"}, {lex.Word, "A"}, {lex.Word, "1a"}, {lex.Word, "_a"}, {lex.Word, "a b"}, {lex.Word, "aB"}, {lex.Word, "a-"}, {lex.Word, "é"},
	{lex.Quote, "'"}, {lex.Quote, "a'b"}, {lex.Quote, rep("q", 41)}, {lex.Quote, "\x1f"}, {lex.Quote, "\x7f"}, {lex.Quote, "\n"}, {lex.Quote, "\xc3"},
	{lex.Sign, ""}, {lex.Sign, "="}, {lex.Sign, ">"}, {lex.Sign, "<<"}, {lex.Sign, "<= "}, {lex.Sign, "==="}, {lex.Sign, "()"}, {lex.Sign, "a"}, {lex.Sign, "||"}, {lex.Sign, "'"},
}

func TestP10_1May(t *testing.T) {
	if lex.Num != 1 || lex.Word != 2 || lex.Quote != 3 || lex.Sign != 4 {
		t.Error("the Kinds")
	}
	for _, x := range valid {
		if !lex.May(x) {
			t.Error(x)
		}
	}
	for _, x := range invalid {
		if lex.May(x) {
			t.Error(x)
		}
		if s, e := lex.Show([]lex.Token{{lex.Num, "1"}, x}); s != "" || e != api.ErrForm {
			t.Error(x, s, e)
		}
	}
}

func TestP10_1Examples(t *testing.T) {
	for s, want := range map[string][]lex.Token{
		"a<=12 & 'x y'":  {{lex.Word, "a"}, {lex.Sign, "<="}, {lex.Num, "12"}, {lex.Sign, "&"}, {lex.Quote, "x y"}},
		"1a":             {{lex.Num, "1"}, {lex.Word, "a"}},
		"":               nil,
		"   ":            nil,
		"<==":            nil,
		"<===":           {{lex.Sign, "<="}, {lex.Sign, "=="}},
		"!!=!":           {{lex.Sign, "!"}, {lex.Sign, "!="}, {lex.Sign, "!"}},
		"<<=<":           {{lex.Sign, "<"}, {lex.Sign, "<="}, {lex.Sign, "<"}},
		"''''":           {{lex.Quote, ""}, {lex.Quote, ""}},
		"a_1b2(":         {{lex.Word, "a_1b2"}, {lex.Sign, "("}},
		"0 0":            {{lex.Num, "0"}, {lex.Num, "0"}},
		"-" + maxNum:     {{lex.Sign, "-"}, {lex.Num, maxNum}},
		"'it' 's'":       {{lex.Quote, "it"}, {lex.Quote, "s"}},
		"abcdefghijkl|b": {{lex.Word, "abcdefghijkl"}, {lex.Sign, "|"}, {lex.Word, "b"}},
	} {
		if s == "<==" {
			if l, e := lex.Lex(s); l != nil || e != api.ErrForm {
				t.Error(s, l, e)
			}
			continue
		}
		if l, e := lex.Lex(s); !slices.Equal(l, want) || e != api.OK {
			t.Error(s, l, e)
		}
	}
}

func TestP10_1Errors(t *testing.T) {
	for _, s := range []string{"01", "a=b", "=", "===", "1 01", "00", "9223372036854775808", "abcdefghijklm", "A", "_", "_a", "a$", "\t", "a\n", "\x00", "é", "'a", "'", "a 'b", "'''", "'" + rep("q", 41) + "'", "'\x1f'", "'\x7f'", "\"a\"", ">", "a . b", "1.5"} {
		if l, e := lex.Lex(s); l != nil || e != api.ErrForm {
			t.Errorf("%q: %v, %v", s, l, e)
		}
	}
	if l, e := lex.Lex(rep(" ", 100)); len(l) != 0 || e != api.OK {
		t.Error(l, e)
	}
	if l, e := lex.Lex(rep("(", 100)); len(l) != 100 || e != api.OK {
		t.Error(l, e)
	}
	for _, s := range []string{rep(" ", 101), rep("(", 101), rep("=", 101)} {
		if l, e := lex.Lex(s); l != nil || e != api.ErrTooLarge {
			t.Error(l, e)
		}
	}
}

func TestP10_1Show(t *testing.T) {
	if s, e := lex.Show(nil); s != "" || e != api.OK {
		t.Error(s, e)
	}
	if s, e := lex.Show([]lex.Token{{lex.Sign, "!"}, {lex.Sign, "("}, {lex.Quote, "x y"}, {lex.Quote, ""}, {lex.Num, "5"}}); s != "! ( 'x y' '' 5" || e != api.OK {
		t.Error(s, e)
	}
	var l []lex.Token
	for range 50 {
		l = append(l, lex.Token{lex.Sign, "-"})
	}
	if s, e := lex.Show(append(l, lex.Token{lex.Num, "1"})); s != "" || e != api.ErrTooLarge {
		t.Error(s, e)
	}
	if s, e := lex.Show(append(l[:49:49], lex.Token{lex.Num, "12"})); len(s) != 100 || e != api.OK {
		t.Error(len(s), e)
	}
	if s, e := lex.Show(append(append(l, l...), lex.Token{lex.Sign, "="})); s != "" || e != api.ErrForm {
		t.Error(s, e)
	}
}

// random returns some valid tokens.
func random(r *rand.Rand, most int) []lex.Token {
	var l []lex.Token
	for range r.Intn(most) {
		l = append(l, valid[r.Intn(len(valid))])
	}
	return l
}

func TestP10_2Back(t *testing.T) {
	r := rand.New(rand.NewSource(110))
	fine := 0
	for range 3000 {
		l := random(r, 20)
		before := slices.Clone(l)
		s, e := lex.Show(l)
		if e == api.ErrTooLarge {
			continue
		}
		fine++
		if back, e2 := lex.Lex(s); e != api.OK || e2 != api.OK || !slices.Equal(back, l) || !slices.Equal(l, before) {
			t.Fatal(l, s, back, e, e2)
		}
	}
	if fine < 1000 {
		t.Error("too few:", fine)
	}
}

func TestP10_3Blanks(t *testing.T) {
	r := rand.New(rand.NewSource(111))
	for range 3000 {
		l := random(r, 8)
		s, e := lex.Show(l)
		if e != api.OK {
			continue
		}
		wide := rep(" ", r.Intn(4))
		for _, x := range l {
			one, _ := lex.Show([]lex.Token{x})
			wide += one + rep(" ", 1+r.Intn(3))
		}
		if len(wide) > api.MaxExpr {
			continue
		}
		if back, e := lex.Lex(wide); e != api.OK || !slices.Equal(back, l) {
			t.Fatal(wide, s, back, e)
		}
	}
}

func TestP10_4Concatenation(t *testing.T) {
	r := rand.New(rand.NewSource(112))
	bytes := "ab1 0<=!&'(_|"
	text := func() string {
		b := make([]byte, r.Intn(9))
		for i := range b {
			b[i] = bytes[r.Intn(len(bytes))]
		}
		return string(b)
	}
	joined := 0
	for range 30000 {
		a, b := text(), text()
		l, e1 := lex.Lex(a)
		m, e2 := lex.Lex(b)
		if e1 != api.OK || e2 != api.OK {
			continue
		}
		joined++
		if both, e := lex.Lex(a + " " + b); e != api.OK || !slices.Equal(both, append(slices.Clone(l), m...)) {
			t.Fatalf("%q and %q: %v, %v", a, b, both, e)
		}
	}
	if joined < 500 {
		t.Error("too few:", joined)
	}
}

func TestP10_5Completeness(t *testing.T) {
	r := rand.New(rand.NewSource(113))
	bytes := "ab1 0<=!&'(_| "
	fine := 0
	for range 60000 {
		b := make([]byte, r.Intn(12))
		for i := range b {
			b[i] = bytes[r.Intn(len(bytes))]
		}
		l, e := lex.Lex(string(b))
		if e != api.OK {
			if l != nil || e != api.ErrForm {
				t.Fatal(l, e)
			}
			continue
		}
		fine++
		rest := string(b)
		for _, x := range l {
			one, _ := lex.Show([]lex.Token{x})
			rest = strings.TrimLeft(rest, " ")
			if !lex.May(x) || !strings.HasPrefix(rest, one) {
				t.Fatalf("%q: %v", b, l)
			}
			rest = rest[len(one):]
		}
		if strings.Trim(rest, " ") != "" {
			t.Fatalf("%q: %q is left", b, rest)
		}
	}
	if fine < 1000 {
		t.Error("too few:", fine)
	}
}
