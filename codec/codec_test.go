package codec_test

import (
	"math"
	"math/rand"
	"slices"
	"strings"
	"testing"

	"callboard/api"
	"callboard/codec"
	"callboard/model"
	"callboard/sum"
	"callboard/wire"
)

func num(n int64) api.Value { return api.Value{Kind: api.Int, N: n} }

func text(s string) api.Value { return api.Value{Kind: api.Text, T: s} }

func sealed(body string) string {
	n := sum.Sum(body)
	return body + string([]byte{byte(n), byte(n >> 8), byte(n >> 16), byte(n >> 24)})
}

func small() api.Process {
	return api.Process{Name: "p", Nodes: []api.Node{{Name: "s", Kind: api.Start, In: -1, On: -1}}}
}

// rich returns a process with everything that a process may have.
func rich() api.Process {
	return api.Process{
		Name: "process_1", Vars: []api.Var{{Name: "a", Init: num(-300)}, {Name: "b", Init: api.Value{Kind: api.Bool, N: 1}}, {Name: "c", Init: text("some text")}},
		Nodes: []api.Node{
			{Name: "start", Kind: api.Start, In: -1, On: -1},
			{Name: "part", Kind: api.Part, In: -1, On: -1, Vars: []api.Var{{Name: "x", Init: num(math.MinInt64)}, {Name: "y", Init: text("")}}},
			{Name: "calc", Kind: api.Calc, In: 1, On: -1, Text: "a + 1", Set: "a"},
			{Name: "bound", Kind: api.Bound, In: -1, On: 1, Event: api.Error, Key: "", Breaks: true},
			{Name: "bound2", Kind: api.Bound, In: -1, On: 1, Event: api.Timer, Text: "300"},
			{Name: "call", Kind: api.Call, In: -1, On: -1, Key: "other", Back: []string{"a", "b"}},
			{Name: "adhoc", Kind: api.AdHoc, In: -1, On: -1, Text: "yes", Breaks: true, Vars: []api.Var{{Name: "z", Init: num(1)}}},
			{Name: "throw", Kind: api.Throw, In: -1, On: -1, Event: api.Signal, Key: "go"},
			{Name: "end", Kind: api.End, In: -1, On: -1, Event: api.Finish},
		},
		Flows: []api.Flow{{From: 0, To: 1}, {From: 1, To: 5, If: "a < 3"}, {From: 5, To: 8, Else: true}, {From: 300, To: api.MaxNumber}},
	}
}

// plain returns the bytes before the checksum, as the chapter lists them.
func plain(p api.Process) string {
	s := ""
	number := func(n int) { s, _ = wire.Num(s, n) }
	word := func(t string) { s = wire.Text(s, t) }
	flag := func(b bool) {
		if b {
			number(1)
		} else {
			number(0)
		}
	}
	vars := func(l []api.Var) {
		number(len(l))
		for _, v := range l {
			word(v.Name)
			s, _ = wire.Value(s, v.Init)
		}
	}
	word(p.Name)
	vars(p.Vars)
	number(len(p.Nodes))
	for _, n := range p.Nodes {
		word(n.Name)
		number(int(n.Kind))
		number(n.In + 1)
		number(n.On + 1)
		number(int(n.Event))
		word(n.Key)
		word(n.Text)
		word(n.Set)
		flag(n.Breaks)
		vars(n.Vars)
		number(len(n.Back))
		for _, b := range n.Back {
			word(b)
		}
	}
	number(len(p.Flows))
	for _, f := range p.Flows {
		number(f.From)
		number(f.To)
		word(f.If)
		flag(f.Else)
	}
	return s
}

func encode(t *testing.T, p api.Process) string {
	t.Helper()
	s, e := codec.Encode(p)
	if e != api.OK {
		t.Fatal(e)
	}
	return s
}

// sized returns a process with bytes of some length.
func sized(t *testing.T, size int) api.Process {
	p := api.Process{Name: "p"}
	for i := range 40 {
		p.Nodes = append(p.Nodes, api.Node{Name: "n" + string([]byte{byte('a' + i%26), byte('a' + i/26)}), Kind: api.Calc, In: -1, On: -1, Set: "s", Text: "1"})
	}
	for i := 0; ; i = (i + 1) % 40 {
		s, e := codec.Encode(p)
		if e == api.OK && len(s) == size || e == api.ErrTooLarge && size > api.MaxModel {
			return p
		}
		if e != api.OK {
			t.Fatal(e, len(s))
		}
		p.Nodes[i].Text += "1"
	}
}

func TestP15_1Bytes(t *testing.T) {
	if s := encode(t, small()); s != sealed("\x01p\x00\x01\x01s\x01\x00\x00\x00\x00\x00\x00\x00\x00\x00\x00") {
		t.Errorf("%x", s)
	}
	for _, p := range []api.Process{small(), rich()} {
		s := encode(t, p)
		if s != sealed(plain(p)) {
			t.Errorf("%x", s)
		}
		if q, e := codec.Decode(s); e != api.OK || !model.Same(p, q) {
			t.Error(q, e)
		}
	}
}

func TestP15_1Encode(t *testing.T) {
	for what, c := range map[string]struct {
		want   api.Errno
		change func(p *api.Process)
	}{
		"a name":                 {api.ErrForm, func(p *api.Process) { p.Name = "P" }},
		"no node":                {api.ErrForm, func(p *api.Process) { p.Nodes = nil }},
		"many nodes":             {api.ErrTooLarge, func(p *api.Process) { p.Nodes = slices.Repeat(p.Nodes, 41) }},
		"a value":                {api.ErrForm, func(p *api.Process) { p.Vars[0].Init.Kind = 9 }},
		"In":                     {api.OK, func(p *api.Process) { p.Nodes[0].In = api.MaxNumber - 1 }},
		"a large In":             {api.ErrTooLarge, func(p *api.Process) { p.Nodes[0].In = api.MaxNumber }},
		"a largest In":           {api.ErrTooLarge, func(p *api.Process) { p.Nodes[0].In = math.MaxInt }},
		"a large On":             {api.ErrTooLarge, func(p *api.Process) { p.Nodes[3].On = math.MaxInt }},
		"a large From":           {api.ErrTooLarge, func(p *api.Process) { p.Flows[0].From = api.MaxNumber + 1 }},
		"a large To":             {api.ErrTooLarge, func(p *api.Process) { p.Flows[0].To = api.MaxNumber + 1 }},
		"a large To, and a Name": {api.ErrForm, func(p *api.Process) { p.Flows[0].To = api.MaxNumber + 1; p.Nodes[8].Name = "" }},
	} {
		p := rich()
		c.change(&p)
		s, e := codec.Encode(p)
		if e != c.want || e != api.OK && s != "" {
			t.Error(what, e)
		}
		if q, e := codec.Decode(s); c.want == api.OK && (e != api.OK || !model.Same(p, q)) {
			t.Error(what, e)
		}
	}
}

func TestP15_1Limits(t *testing.T) {
	p := sized(t, api.MaxModel)
	s := encode(t, p)
	if q, e := codec.Decode(s); len(s) != api.MaxModel || e != api.OK || !model.Same(p, q) {
		t.Error(len(s), e)
	}
	if s, e := codec.Encode(sized(t, api.MaxModel+1)); s != "" || e != api.ErrTooLarge {
		t.Error(len(s), e)
	}
	for _, s := range []string{s + "x", strings.Repeat("x", 4001), sealed(strings.Repeat("x", 4000))} {
		if p, e := codec.Decode(s); e != api.ErrTooLarge || !model.Same(p, api.Process{}) {
			t.Error(len(s), e)
		}
	}
	if _, e := codec.Decode(strings.Repeat("x", 4000)); e != api.ErrSum {
		t.Error(e)
	}
}

func TestP15_1Decode(t *testing.T) {
	good := plain(small())
	for s, want := range map[string]api.Errno{
		"": api.ErrShort, "\x01\x00\x00": api.ErrShort, "\x01\x00\x00\x00": api.ErrForm, "\x00\x00\x00\x00": api.ErrSum, "\x00\x00\x00\x01": api.ErrSum,
		good: api.ErrSum, sealed(good + "\x00"): api.ErrForm, sealed(good[:len(good)-1]): api.ErrForm, sealed("\x00" + good[2:]): api.ErrForm, sealed(strings.Replace(good, "p", "P", 1)): api.ErrForm,
		sealed("\x01p\x00\x00\x00"): api.ErrForm, sealed("\x01p\xff\xff\xff\xff\x0f"): api.ErrForm,
	} {
		if p, e := codec.Decode(s); e != want || !model.Same(p, api.Process{}) {
			t.Errorf("%x: %v", s, e)
		}
	}
	// Each byte of what is said of the node, as another number.
	at := strings.Index(good, "s") + 1
	for i, c := range []struct{ fine, bad string }{{"", "\x10"}, {"\x05", "\x80\x00"}, {"", "\x01"}, {"", "\x09"}, {"", "\x01k"}, {"", "\x011"}, {"", "\x01s"}, {"", "\x01"}, {"", "\x01"}, {"", "\x01\x01a"}} {
		if p, e := codec.Decode(sealed(good[:at+i] + c.bad + good[at+i+1:])); e != api.ErrForm || !model.Same(p, api.Process{}) {
			t.Error(i, e)
		}
		if c.fine != "" {
			if _, e := codec.Decode(sealed(good[:at+i] + c.fine + good[at+i+1:])); e != api.OK {
				t.Error(i, e)
			}
		}
	}
	// A Kind of 257 is no Start; a flag of 2 is none.
	timer := small()
	timer.Nodes[0].Event, timer.Nodes[0].Text = api.Timer, "5"
	body := plain(timer)
	flag := strings.LastIndex(body, "5") + 2
	for _, s := range []string{strings.Replace(good, "s\x01", "s\x81\x02", 1), body[:flag] + "\x02" + body[flag+1:], strings.Replace(body, "s\x01\x00\x00\x02", "s\x01\x00\x00\x82\x02", 1)} {
		if _, e := codec.Decode(sealed(s)); e != api.ErrForm {
			t.Errorf("%x: %v", s, e)
		}
	}
	if _, e := codec.Decode(sealed(body[:flag] + "\x01" + body[flag+1:])); e != api.OK {
		t.Error(e)
	}
	flow := small()
	flow.Flows = []api.Flow{{From: 1, To: 2}}
	body = plain(flow)
	for n, want := range []api.Errno{api.OK, api.OK, api.ErrForm} {
		if _, e := codec.Decode(sealed(body[:len(body)-1] + string([]byte{byte(n)}))); e != want {
			t.Error(n, e)
		}
	}
}

func TestP15_2To5Random(t *testing.T) {
	r := rand.New(rand.NewSource(150))
	seen := map[string]api.Process{}
	for range 2000 {
		p := rich()
		p.Nodes = p.Nodes[:1+r.Intn(len(p.Nodes))]
		p.Flows = p.Flows[:r.Intn(len(p.Flows)+1)]
		p.Vars = p.Vars[r.Intn(len(p.Vars)+1):]
		n := &p.Nodes[r.Intn(len(p.Nodes))]
		n.In = r.Intn(400) - 1
		n.Name = []string{"one", "two", "Three", ""}[r.Intn(4)]
		s, e := codec.Encode(p)
		if want := model.Process(p); e != want {
			t.Fatal(e, want)
		}
		if e != api.OK {
			if s != "" {
				t.Fatal("bytes beside an error")
			}
			if q, e := codec.Decode(sealed(plain(p))); e != api.ErrForm || !model.Same(q, api.Process{}) {
				t.Fatal(e)
			}
			continue
		}
		if q, ok := seen[s]; ok && !model.Same(p, q) {
			t.Fatal("two processes have the same bytes")
		}
		seen[s] = p
		q, e := codec.Decode(s)
		if e != api.OK || !model.Same(p, q) || model.Process(q) != api.OK || encode(t, q) != s {
			t.Fatal(e)
		}
	}
	if len(seen) < 100 {
		t.Error("too few:", len(seen))
	}
}

func TestP15_2DecodedAgain(t *testing.T) {
	r := rand.New(rand.NewSource(151))
	base := plain(rich())
	fine := 0
	for range 60000 {
		b := []byte(base)
		for range 1 + r.Intn(2) {
			i := r.Intn(len(b))
			switch r.Intn(3) {
			case 0:
				b[i] = byte(r.Intn(256))
			case 1:
				b[i] ^= 1
			case 2:
				b[i] = byte(r.Intn(3))
			}
		}
		s := sealed(string(b))
		p, e := codec.Decode(s)
		if e != api.OK {
			if e != api.ErrForm {
				t.Fatal(e)
			}
			continue
		}
		fine++
		if model.Process(p) != api.OK || encode(t, p) != s {
			t.Fatalf("%x", s)
		}
	}
	if fine < 1000 {
		t.Error("too few:", fine)
	}
}

func TestP15_4OneByte(t *testing.T) {
	s := encode(t, rich())
	for i := range len(s) {
		for _, d := range []byte{1, 2, 64, 128, 255} {
			b := []byte(s)
			b[i] += d
			if p, e := codec.Decode(string(b)); e != api.ErrSum || !model.Same(p, api.Process{}) {
				t.Error(i, d, e)
			}
		}
	}
}
