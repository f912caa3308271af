package wire_test

import (
	"math"
	"math/rand"
	"strings"
	"testing"

	"callboard/api"
	"callboard/wire"
)

func num(n int) string {
	s, _ := wire.Num("", n)
	return s
}

func val(v api.Value) string {
	s, _ := wire.Value("", v)
	return s
}

var numbers = []int{0, 1, 2, 126, 127, 128, 129, 255, 256, 300, 16383, 16384, 1 << 21, 1<<21 - 1, 1 << 35, api.MaxNumber - 1, api.MaxNumber}

var integers = []int64{0, 1, -1, 2, -2, 63, -63, 64, -64, -65, 65, 8191, 8192, -8192, -8193, 1 << 40, -1 << 40, math.MaxInt64, math.MinInt64, math.MaxInt64 - 1, math.MinInt64 + 1, 1 << 62, -1 << 62}

var values = []api.Value{
	{}, {Kind: api.Int}, {Kind: api.Int, N: -1}, {Kind: api.Int, N: math.MinInt64}, {Kind: api.Int, N: math.MaxInt64},
	{Kind: api.Bool}, {Kind: api.Bool, N: 1}, {Kind: api.Text}, {Kind: api.Text, T: "a"}, {Kind: api.Text, T: "\x00\xff'"},
	{Kind: api.Text, T: strings.Repeat("z", api.MaxText)},
}

// septets is the definition of a number's bytes, word by word.
func septets(n uint64) string {
	if n < 128 {
		return string([]byte{byte(n)})
	}
	return string([]byte{byte(n%128 + 128)}) + septets(n/128)
}

func TestP2_1Examples(t *testing.T) {
	for _, c := range []struct{ got, want string }{
		{num(300), "\xac\x02"}, {num(0), "\x00"}, {num(127), "\x7f"}, {num(128), "\x80\x01"},
		{wire.Int("", 0), "\x00"}, {wire.Int("", -1), "\x01"}, {wire.Int("", 1), "\x02"}, {wire.Int("", -64), "\x7f"}, {wire.Int("", 64), "\x80\x01"},
		{wire.Text("", "hi"), "\x02hi"}, {wire.Text("", ""), "\x00"},
		{val(api.Value{Kind: api.Bool, N: 1}), "\x02\x01"}, {val(api.Value{Kind: api.Text, T: "a"}), "\x03\x01a"},
		{val(api.Value{}), "\x00"}, {val(api.Value{Kind: api.Int, N: -64}), "\x01\x7f"}, {val(api.Value{Kind: api.Bool}), "\x02\x00"},
	} {
		if c.got != c.want {
			t.Errorf("%x, want %x", c.got, c.want)
		}
	}
	for s, e := range map[string]api.Errno{"\x80\x00": api.ErrForm, "\x80": api.ErrShort, "": api.ErrShort} {
		if n, got := wire.Open(s).Num(); got != e || n != 0 {
			t.Errorf("Num of %x: %d, %v", s, n, got)
		}
		if n, got := wire.Open(s).Int(); got != e || n != 0 {
			t.Errorf("Int of %x: %d, %v", s, n, got)
		}
	}
}

func TestP2_1Writing(t *testing.T) {
	for _, n := range numbers {
		if s, e := wire.Num("before", n); s != "before"+septets(uint64(n)) || e != api.OK {
			t.Errorf("Num(%d): %x, %v", n, s, e)
		}
	}
	for _, n := range []int{-1, math.MinInt, api.MaxNumber + 1, math.MaxInt} {
		if s, e := wire.Num("before", n); s != "before" || e != api.ErrArg {
			t.Errorf("Num(%d): %x, %v", n, s, e)
		}
	}
	for _, n := range integers {
		u := 2 * uint64(n)
		if n < 0 {
			u = -(2 * uint64(n)) - 1
		}
		if s := wire.Int("before", n); s != "before"+septets(u) {
			t.Errorf("Int(%d): %x", n, s)
		}
	}
	for _, n := range []int{0, 1, 127, 128, 5000} {
		w := strings.Repeat("q", n)
		if s := wire.Text("before", w); s != "before"+septets(uint64(n))+w {
			t.Errorf("Text of %d bytes", n)
		}
	}
	for _, v := range []api.Value{
		{N: 1}, {T: "a"}, {Kind: api.Int, T: "a"}, {Kind: api.Bool, N: 2}, {Kind: api.Bool, N: -1}, {Kind: api.Bool, T: "a"},
		{Kind: api.Text, N: 1}, {Kind: api.Text, T: strings.Repeat("z", api.MaxText+1)}, {Kind: 4}, {Kind: 255},
	} {
		if s, e := wire.Value("before", v); s != "before" || e != api.ErrForm {
			t.Errorf("Value(%v): %x, %v", v, s, e)
		}
	}
	for _, v := range values {
		if s, e := wire.Value("before", v); s != "before"+val(v) || e != api.OK {
			t.Errorf("Value(%v): %x, %v", v, s, e)
		}
	}
}

func TestP2_1ReadingNumbers(t *testing.T) {
	tooLarge := septets(api.MaxNumber + 1)
	ten := strings.Repeat("\x80", 9)
	for _, c := range []struct {
		s string
		n api.Errno
		i api.Errno
	}{
		{tooLarge, api.ErrForm, api.OK},
		{"\x80\x80", api.ErrShort, api.ErrShort},
		{"\xff\x00", api.ErrForm, api.ErrForm},
		{"\x80\x80\x00", api.ErrForm, api.ErrForm},
		// Beyond the most at once, though more bytes are said to follow.
		{"\xff\xff\xff\xff\xff\xff", api.ErrForm, api.ErrShort},
		{"\x80\x80\x80\x80\x80\xa0", api.ErrShort, api.ErrShort},
		{"\x81\x80\x80\x80\x80\xa0", api.ErrForm, api.ErrShort},
		{ten + "\x01", api.ErrForm, api.OK},
		{ten + "\x02", api.ErrForm, api.ErrForm},
		{ten + "\x82", api.ErrForm, api.ErrForm},
		{ten + "\x81", api.ErrForm, api.ErrShort},
		{ten + "\x80", api.ErrShort, api.ErrShort},
		{ten + "\x80\x01", api.ErrForm, api.ErrForm},
		{ten + "\x81\x80", api.ErrForm, api.ErrForm},
		{ten + "\x00", api.ErrForm, api.ErrForm},
	} {
		if n, e := wire.Open(c.s).Num(); e != c.n || e != api.OK && n != 0 {
			t.Errorf("Num of %x: %d, %v", c.s, n, e)
		}
		if n, e := wire.Open(c.s).Int(); e != c.i || e != api.OK && n != 0 {
			t.Errorf("Int of %x: %d, %v", c.s, n, e)
		}
	}
	if n, e := wire.Open(septets(api.MaxNumber)).Num(); n != api.MaxNumber || e != api.OK {
		t.Error(n, e)
	}
}

func TestP2_1ReadingTextsAndValues(t *testing.T) {
	for _, c := range []struct {
		s    string
		most int
		want string
		e    api.Errno
	}{
		{"\x02hi", 2, "hi", api.OK}, {"\x02hi", 1, "", api.ErrTooLarge}, {"\x02h", 2, "", api.ErrShort}, {"\x02h", 1, "", api.ErrTooLarge},
		{"\x00", 0, "", api.OK}, {"\x00", -1, "", api.ErrTooLarge}, {"\x80\x00", 9, "", api.ErrForm}, {"", 9, "", api.ErrShort},
		{septets(api.MaxNumber + 1), 9, "", api.ErrForm}, {septets(api.MaxNumber), math.MaxInt, "", api.ErrShort},
	} {
		if s, e := wire.Open(c.s).Text(c.most); s != c.want || e != c.e {
			t.Errorf("Text(%d) of %x: %q, %v", c.most, c.s, s, e)
		}
	}
	for s, e := range map[string]api.Errno{
		"": api.ErrShort, "\x04": api.ErrForm, "\x80\x00": api.ErrForm, "\x80\x02": api.ErrForm, "\x02\x02": api.ErrForm, "\x02": api.ErrShort, "\x01": api.ErrShort,
		"\x02\x80\x00": api.ErrForm, "\x03": api.ErrShort, "\x03\x29" + strings.Repeat("a", 41): api.ErrTooLarge, "\x03\x28" + strings.Repeat("a", 39): api.ErrShort,
		"\x01\x80\x00": api.ErrForm, "\x02" + septets(api.MaxNumber+1): api.ErrForm,
	} {
		if v, got := wire.Open(s).Value(); got != e || v != (api.Value{}) {
			t.Errorf("Value of %x: %v, %v", s, v, got)
		}
	}
}

func TestP2_1ErrorsPersist(t *testing.T) {
	fail := []func(*wire.Reader) api.Errno{
		func(r *wire.Reader) api.Errno { _, e := r.Num(); return e },
		func(r *wire.Reader) api.Errno { _, e := r.Int(); return e },
		func(r *wire.Reader) api.Errno { _, e := r.Text(5); return e },
		func(r *wire.Reader) api.Errno { _, e := r.Value(); return e },
		func(r *wire.Reader) api.Errno { return r.End() },
	}
	for i, f := range fail {
		r := wire.Open("\x80\x00\x01\x01\x01")
		if e := f(r); e != api.ErrForm {
			t.Errorf("call %d: %v", i, e)
		}
		if r.Left() != 0 {
			t.Errorf("call %d: %d bytes left after an error", i, r.Left())
		}
		for j, g := range fail {
			if e := g(r); e != api.ErrForm {
				t.Errorf("call %d after call %d: %v", j, i, e)
			}
		}
	}
	r := wire.Open("\x05hi")
	if _, e := r.Text(9); e != api.ErrShort {
		t.Error(e)
	}
	if n, e := r.Num(); n != 0 || e != api.ErrShort {
		t.Error(n, e)
	}
}

func TestR1Nil(t *testing.T) {
	var r *wire.Reader
	n, e1 := r.Num()
	i, e2 := r.Int()
	s, e3 := r.Text(9)
	v, e4 := r.Value()
	if n != 0 || i != 0 || s != "" || v != (api.Value{}) || r.Left() != 0 {
		t.Error("a nil reader reads something")
	}
	for _, e := range []api.Errno{e1, e2, e3, e4, r.End()} {
		if e != api.ErrNil {
			t.Error(e)
		}
	}
}

func TestP2_2Back(t *testing.T) {
	rnd := rand.New(rand.NewSource(3))
	for range 300 {
		s := ""
		var checks []func(*wire.Reader) bool
		for range rnd.Intn(20) {
			n, i, v := numbers[rnd.Intn(len(numbers))], integers[rnd.Intn(len(integers))], values[rnd.Intn(len(values))]
			switch rnd.Intn(4) {
			case 0:
				s, _ = wire.Num(s, n)
				checks = append(checks, func(r *wire.Reader) bool { got, e := r.Num(); return got == n && e == api.OK })
			case 1:
				s = wire.Int(s, i)
				checks = append(checks, func(r *wire.Reader) bool { got, e := r.Int(); return got == i && e == api.OK })
			case 2:
				s = wire.Text(s, v.T)
				checks = append(checks, func(r *wire.Reader) bool { got, e := r.Text(len(v.T)); return got == v.T && e == api.OK })
			case 3:
				s, _ = wire.Value(s, v)
				checks = append(checks, func(r *wire.Reader) bool { got, e := r.Value(); return got == v && e == api.OK })
			}
		}
		r := wire.Open(s + "tail")
		for k, f := range checks {
			if !f(r) {
				t.Fatalf("item %d of %x", k, s)
			}
		}
		if r.Left() != 4 || r.End() != api.ErrForm {
			t.Error("the tail")
		}
		r = wire.Open(s)
		for _, f := range checks {
			f(r)
		}
		if r.Left() != 0 || r.End() != api.OK {
			t.Error("the end")
		}
	}
}

func TestP2_3WhatIsReadIsWhatIsWritten(t *testing.T) {
	check := func(s string) {
		r := wire.Open(s)
		if n, e := r.Num(); e == api.OK && num(n)+s[len(s)-r.Left():] != s {
			t.Errorf("Num of %x: %d", s, n)
		}
		r = wire.Open(s)
		if n, e := r.Int(); e == api.OK && wire.Int("", n)+s[len(s)-r.Left():] != s {
			t.Errorf("Int of %x: %d", s, n)
		}
		r = wire.Open(s)
		if w, e := r.Text(50); e == api.OK && wire.Text("", w)+s[len(s)-r.Left():] != s {
			t.Errorf("Text of %x: %q", s, w)
		}
		r = wire.Open(s)
		if v, e := r.Value(); e == api.OK && val(v)+s[len(s)-r.Left():] != s {
			t.Errorf("Value of %x: %v", s, v)
		}
	}
	for a := range 256 {
		check(string([]byte{byte(a)}))
		for b := range 256 {
			check(string([]byte{byte(a), byte(b)}))
		}
	}
	rnd := rand.New(rand.NewSource(4))
	few := []byte{0, 1, 2, 3, 4, 127, 128, 129, 255}
	for range 20000 {
		b := make([]byte, rnd.Intn(13))
		for i := range b {
			b[i] = few[rnd.Intn(len(few))]
		}
		check(string(b))
	}
}

func TestP2_3NoPrefixes(t *testing.T) {
	var sorts [3][]string
	for _, n := range numbers {
		sorts[0] = append(sorts[0], num(n))
	}
	for _, n := range integers {
		sorts[1] = append(sorts[1], wire.Int("", n))
	}
	for _, v := range values {
		sorts[2] = append(sorts[2], val(v))
	}
	for _, l := range sorts {
		for i, a := range l {
			for j, b := range l {
				if i != j && strings.HasPrefix(a, b) {
					t.Errorf("%x begins with %x", a, b)
				}
			}
		}
	}
}

func TestP2_4Truncation(t *testing.T) {
	for _, n := range numbers {
		s := num(n)
		if _, e := wire.Open(s[:len(s)-1]).Num(); e != api.ErrShort {
			t.Error(n, e)
		}
	}
	for _, n := range integers {
		s := wire.Int("", n)
		if _, e := wire.Open(s[:len(s)-1]).Int(); e != api.ErrShort {
			t.Error(n, e)
		}
	}
	for _, v := range values {
		s := val(v)
		if _, e := wire.Open(s[:len(s)-1]).Value(); e != api.ErrShort {
			t.Error(v, e)
		}
		s = wire.Text("", v.T)
		if _, e := wire.Open(s[:len(s)-1]).Text(99); e != api.ErrShort {
			t.Error(v, e)
		}
	}
}

func TestP2_5SmallNumbers(t *testing.T) {
	size := func(n int64) int { return len(wire.Int("", n)) }
	abs := func(n int64) uint64 {
		if n < 0 {
			return -uint64(n)
		}
		return uint64(n)
	}
	all := append([]int64{}, integers...)
	for i := range 62 {
		all = append(all, 1<<i, -1<<i, 1<<i-1, 1<<i+1, -1<<i-1, 1-1<<i)
	}
	for _, a := range all {
		for _, b := range all {
			if abs(a) < abs(b) && size(a) > size(b) {
				t.Errorf("%d has more bytes than %d", a, b)
			}
		}
	}
}
