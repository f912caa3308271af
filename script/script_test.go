package script_test

import (
	"math"
	"math/rand"
	"slices"
	"strings"
	"testing"

	"callboard/api"
	"callboard/arena"
	"callboard/codec"
	"callboard/script"
	"callboard/sketch"
	"callboard/wire"
)

func num(n int64) api.Value { return api.Value{Kind: api.Int, N: n} }

func rep(n int) string { return strings.Repeat("k", n) }

func told(c api.Command, picks ...uint32) script.Op {
	return script.Op{Kind: script.Tell, C: c, Picks: picks}
}

func same(a, b script.Op) bool {
	c, d := a.C, b.C
	return a.Kind == b.Kind && c.Kind == d.Kind && c.ID == d.ID && c.N == d.N && c.Name == d.Name && c.Key == d.Key && c.Bytes == d.Bytes && slices.Equal(c.Sets, d.Sets) &&
		slices.Equal(a.Picks, b.Picks) && a.N == b.N && slices.Equal(a.Keep, b.Keep) && a.Torn == b.Torn && a.Cut == b.Cut
}

// full are operations of each Kind with everything that they may have.
func full() []script.Op {
	return []script.Op{
		{Kind: script.Tell, C: api.Command{Kind: api.Done, ID: 300, N: api.MaxNumber, Name: rep(12), Key: rep(12), Bytes: "\x00\xff", Sets: []api.Set{{Name: rep(12), V: num(-1)}, {V: api.Value{Kind: api.Text, T: "'\x00"}}}}, Picks: []uint32{0, 300, math.MaxUint32}},
		{Kind: script.Fuse, N: api.MaxNumber},
		{Kind: script.Crash, Keep: []bool{true, false, true}, Torn: api.MaxNumber - 1, Cut: 64},
	}
}

func TestP32_1Examples(t *testing.T) {
	r, e := script.Play(40, 9, nil)
	if e != api.OK || len(r.Answers) != 0 || !arena.Same(r.State, api.State{}) || r.Commits != 0 {
		t.Error(r, e)
	}
	l := []script.Op{told(api.Command{Kind: api.Tick, N: 3})}
	r, e = script.Play(40, 9, l)
	if e != api.OK || !slices.Equal(r.Answers, []api.Answer{{}}) || r.State.Clock != 3 || r.Commits != 1 {
		t.Error(r, e)
	}
	r, e = script.Play(40, 9, append(l, script.Op{Kind: script.Crash}))
	if e != api.OK || !slices.Equal(r.Answers, []api.Answer{{}, {}}) || r.State.Clock != 3 || r.Commits != 0 {
		t.Error(r, e)
	}
	for _, l := range [][]script.Op{{{}}, {{Kind: 4}}, {{Kind: 255}}, append(l, script.Op{})} {
		if r, e := script.Play(40, 9, l); e != api.ErrForm || r.Answers != nil {
			t.Error(e)
		}
		if s, e := script.Encode(l); s != "" || e != api.ErrForm {
			t.Error(e)
		}
	}
	if script.Tell != 1 || script.Fuse != 2 || script.Crash != 3 {
		t.Error("the Kinds")
	}
}

func TestP32_1May(t *testing.T) {
	for _, o := range full() {
		if !script.May(o) || !script.May(script.Op{Kind: o.Kind}) {
			t.Error(o)
		}
	}
	only := map[string]func(o *script.Op){
		"command Kind": func(o *script.Op) { o.C.Kind = 1 }, "ID": func(o *script.Op) { o.C.ID = 1 }, "command N": func(o *script.Op) { o.C.N = 1 }, "Name": func(o *script.Op) { o.C.Name = "a" }, "Key": func(o *script.Op) { o.C.Key = "a" },
		"Bytes": func(o *script.Op) { o.C.Bytes = "a" }, "Sets": func(o *script.Op) { o.C.Sets = make([]api.Set, 1) }, "Picks": func(o *script.Op) { o.Picks = make([]uint32, 1) },
		"N": func(o *script.Op) { o.N = 1 }, "Keep": func(o *script.Op) { o.Keep = make([]bool, 1) }, "Torn": func(o *script.Op) { o.Torn = 1 }, "no Torn": func(o *script.Op) { o.Torn = -1 }, "Cut": func(o *script.Op) { o.Cut = 1 },
		"empty": func(o *script.Op) { o.C.Sets, o.Picks, o.Keep = []api.Set{}, []uint32{}, []bool{} },
	}
	for what, change := range only {
		for kind := range 5 {
			o := script.Op{Kind: uint8(kind)}
			change(&o)
			var want bool
			switch what {
			case "N":
				want = o.Kind == script.Fuse
			case "Keep", "Torn", "no Torn", "Cut":
				want = o.Kind == script.Crash
			case "empty":
				want = kind > 0 && kind < 4
			default:
				want = o.Kind == script.Tell
			}
			if script.May(o) != want {
				t.Error(what, kind)
			}
		}
	}
	limits := []struct {
		o    script.Op
		want bool
	}{
		{told(api.Command{Kind: 255}), true}, {told(api.Command{ID: api.MaxNumber}), true}, {told(api.Command{ID: api.MaxNumber + 1}), false}, {told(api.Command{ID: -1}), false}, {told(api.Command{N: api.MaxNumber}), true}, {told(api.Command{N: api.MaxNumber + 1}), false}, {told(api.Command{N: -1}), false},
		{told(api.Command{Name: rep(12)}), true}, {told(api.Command{Name: rep(13)}), false}, {told(api.Command{Key: rep(13)}), false}, {told(api.Command{Bytes: rep(4000)}), true}, {told(api.Command{Bytes: rep(4001)}), false},
		{told(api.Command{Sets: make([]api.Set, 8)}), true}, {told(api.Command{Sets: make([]api.Set, 9)}), false}, {told(api.Command{Sets: []api.Set{{Name: rep(13)}}}), false}, {told(api.Command{Sets: []api.Set{{V: api.Value{Kind: 9}}}}), false}, {told(api.Command{Sets: []api.Set{{}, {V: api.Value{Kind: api.Bool, N: 2}}}}), false}, {told(api.Command{Sets: []api.Set{{V: api.Value{Kind: api.Text, T: rep(41)}}}}), false},
		{script.Op{Kind: script.Tell, Picks: make([]uint32, 2000)}, true}, {script.Op{Kind: script.Tell, Picks: make([]uint32, 2001)}, false},
		{script.Op{Kind: script.Fuse, N: api.MaxNumber}, true}, {script.Op{Kind: script.Fuse, N: api.MaxNumber + 1}, false}, {script.Op{Kind: script.Fuse, N: -1}, false},
		{script.Op{Kind: script.Crash, Keep: make([]bool, 4096)}, true}, {script.Op{Kind: script.Crash, Keep: make([]bool, 4097)}, false}, {script.Op{Kind: script.Crash, Torn: -1}, true}, {script.Op{Kind: script.Crash, Torn: -2}, false}, {script.Op{Kind: script.Crash, Torn: api.MaxNumber - 1}, true}, {script.Op{Kind: script.Crash, Torn: api.MaxNumber}, false},
		{script.Op{Kind: script.Crash, Cut: 64}, true}, {script.Op{Kind: script.Crash, Cut: 65}, false}, {script.Op{Kind: script.Crash, Cut: -1}, false},
	}
	for i, c := range limits {
		s, e := script.Encode([]script.Op{c.o})
		if script.May(c.o) != c.want || (e == api.OK) != c.want || !c.want && (e != api.ErrForm || s != "") {
			t.Error(i, e)
		}
		if l, e := script.Decode(s); c.want && (e != api.OK || len(l) != 1 || !same(l[0], c.o)) {
			t.Error(i, e)
		}
	}
}

// plain returns the bytes of a script, as the chapter lists them, of whatever operations.
func plain(l []script.Op) string {
	s := ""
	n := func(k int) { s, _ = wire.Num(s, k) }
	n(len(l))
	for _, o := range l {
		n(int(o.Kind))
		switch o.Kind {
		case script.Tell:
			n(int(o.C.Kind))
			n(o.C.ID)
			n(o.C.N)
			s = wire.Text(wire.Text(wire.Text(s, o.C.Name), o.C.Key), o.C.Bytes)
			n(len(o.C.Sets))
			for _, x := range o.C.Sets {
				s, _ = wire.Value(wire.Text(s, x.Name), x.V)
			}
			n(len(o.Picks))
			for _, p := range o.Picks {
				n(int(p))
			}
		case script.Fuse:
			n(o.N)
		case script.Crash:
			n(len(o.Keep))
			for _, k := range o.Keep {
				n(map[bool]int{true: 1}[k])
			}
			n(o.Torn + 1)
			n(o.Cut)
		}
	}
	return s
}

func TestP32_1Bytes(t *testing.T) {
	s, e := script.Encode(full())
	if s != plain(full()) || e != api.OK {
		t.Errorf("%x, %v", s, e)
	}
	if s, e := script.Encode(nil); s != "\x00" || e != api.OK {
		t.Errorf("%x, %v", s, e)
	}
	if s, _ := script.Encode([]script.Op{{Kind: script.Fuse, N: 300}, {Kind: script.Crash, Keep: []bool{true}, Torn: -1, Cut: 3}}); s != "\x02\x02\xac\x02\x03\x01\x01\x00\x03" {
		t.Errorf("%x", s)
	}
	if s, e := script.Encode(make([]script.Op, 4097)); s != "" || e != api.ErrTooLarge {
		t.Error(e)
	}
	many := slices.Repeat([]script.Op{{Kind: script.Fuse}}, 4096)
	s, e = script.Encode(many)
	l, e2 := script.Decode(s)
	if e != api.OK || e2 != api.OK || len(l) != 4096 {
		t.Error(e, e2)
	}
	for s, want := range map[string][]api.Errno{
		"": {api.ErrShort}, "\x00": {api.OK}, "\x00\x00": {api.ErrForm}, "\x01": {api.ErrShort}, "\x01\x00": {api.ErrForm}, "\x01\x04": {api.ErrForm}, "\x01\x02": {api.ErrShort}, "\x01\x02\x80\x00": {api.ErrForm}, "\x01\x02\x00\x00": {api.ErrForm},
		plain(append(many, many[0])): {api.ErrTooLarge}, "\x01\x82\x02\x00": {api.ErrForm}, "\x01\x01\x80\x02": {api.ErrForm}, "\x01\x03\x01\x02\x00\x00": {api.ErrForm}, "\x01\x03\x00\x00\x41": {api.ErrForm, api.ErrTooLarge},
		plain([]script.Op{{Kind: script.Crash, Keep: make([]bool, 4097)}}):      {api.ErrTooLarge},
		plain([]script.Op{{Kind: script.Tell, Picks: make([]uint32, 2001)}}):    {api.ErrTooLarge},
		plain([]script.Op{told(api.Command{Name: rep(13)})}):                    {api.ErrTooLarge},
		plain([]script.Op{told(api.Command{Key: rep(13)})}):                     {api.ErrTooLarge},
		plain([]script.Op{told(api.Command{Bytes: rep(4001)})}):                 {api.ErrTooLarge},
		plain([]script.Op{told(api.Command{Sets: make([]api.Set, 9)})}):         {api.ErrTooLarge},
		plain([]script.Op{told(api.Command{Sets: []api.Set{{Name: rep(13)}}})}): {api.ErrTooLarge},
		"\x01\x01\x00\x00\x00\x00\x00\x00\x00\x01\x80\x80\x80\x80\x10":          {api.ErrForm, api.ErrTooLarge},
		"\x01\x01\x00\x00\x00\x00\x00\x00\x01\x00\x09\x00":                      {api.ErrForm},
		"\x01\x03\x00\x80\x80\x80\x80\x80\x20\x00":                              {api.OK},
		"\x01\x03\x00\x81\x80\x80\x80\x80\x20\x00":                              {api.ErrForm},
		"\x01\x01\x00\x00\x00\x00\x00\x00\x00\x01\xff\xff\xff\xff\x0f":          {api.OK},
	} {
		l, e := script.Decode(s)
		if !slices.Contains(want, e) || e != api.OK && l != nil {
			t.Errorf("%.40x: %v, %v", s, l, e)
		}
	}
}

func randomOp(r *rand.Rand) script.Op {
	number := func() int { return []int{0, 1, 127, 128, 70000, api.MaxNumber - 1, api.MaxNumber}[r.Intn(7)] }
	switch r.Intn(3) {
	case 0:
		return script.Op{Kind: script.Fuse, N: number()}
	case 1:
		o := script.Op{Kind: script.Crash, Torn: number() - 1, Cut: r.Intn(65)}
		for range r.Intn(6) {
			o.Keep = append(o.Keep, r.Intn(2) == 0)
		}
		return o
	}
	o := told(api.Command{Kind: uint8(r.Intn(256)), ID: number(), N: number(), Name: rep(r.Intn(13)), Key: rep(r.Intn(13)), Bytes: rep(r.Intn(300))})
	for range r.Intn(9) {
		o.C.Sets = append(o.C.Sets, api.Set{Name: rep(r.Intn(13)), V: []api.Value{{}, num(r.Int63()), num(-5), {Kind: api.Bool, N: 1}, {Kind: api.Text, T: rep(r.Intn(41))}}[r.Intn(5)]})
	}
	for range r.Intn(9) {
		o.Picks = append(o.Picks, r.Uint32()>>r.Intn(32))
	}
	return o
}

func TestP32_3Back(t *testing.T) {
	r := rand.New(rand.NewSource(320))
	for range 2000 {
		var l []script.Op
		for range r.Intn(6) {
			l = append(l, randomOp(r))
		}
		s, e := script.Encode(l)
		back, e2 := script.Decode(s)
		if e != api.OK || e2 != api.OK || !slices.EqualFunc(l, back, same) || s != plain(l) {
			t.Fatal(e, e2)
		}
		b := []byte(s)
		for range 20 {
			c := slices.Clone(b)
			if r.Intn(3) == 0 {
				c = c[:r.Intn(len(c)+1)]
			} else {
				c[r.Intn(len(c))] = byte(r.Intn(256))
			}
			l, e := script.Decode(string(c))
			if again, e2 := script.Encode(l); e == api.OK && (e2 != api.OK || again != string(c)) || e != api.OK && l != nil {
				t.Fatalf("%x: %v", c, e)
			}
		}
	}
}

func deploy(t *testing.T, text string) script.Op {
	t.Helper()
	s, e := codec.Encode(sketch.Process(text))
	if e != api.OK {
		t.Fatal(e)
	}
	return told(api.Command{Kind: api.Deploy, Bytes: s})
}

func play(t *testing.T, l ...script.Op) script.Report {
	t.Helper()
	r, e := script.Play(1000, 100, l)
	if e != api.OK || len(r.Answers) != len(l) {
		t.Fatal(e)
	}
	return r
}

const simple = "p; start s; task t; end e; s>t>e"

func TestP32_2Play(t *testing.T) {
	for _, c := range []struct {
		sectors, budget int
		want            api.Errno
	}{{0, 9, api.ErrArg}, {-1, 9, api.ErrArg}, {4097, 9, api.ErrArg}, {11, 9, api.ErrArg}, {12, 9, api.OK}, {4096, 9, api.OK}, {40, 0, api.ErrArg}, {40, -1, api.ErrArg}, {40, 2001, api.ErrArg}, {40, 2000, api.OK}, {40, 1, api.OK}} {
		r, e := script.Play(c.sectors, c.budget, nil)
		if e != c.want || r.Answers != nil {
			t.Error(c, e)
		}
		if _, e := script.Play(c.sectors, c.budget, []script.Op{{}}); e != api.ErrForm {
			t.Error(c, e)
		}
		if _, e := script.Play(c.sectors, c.budget, make([]script.Op, 4097)); e != api.ErrTooLarge {
			t.Error(c, e)
		}
	}
	begin, done := told(api.Command{Kind: api.Begin, Name: "p"}), told(api.Command{Kind: api.Done, ID: 3})
	dead, crash := script.Op{Kind: script.Fuse}, script.Op{Kind: script.Crash}
	r := play(t, deploy(t, simple), begin, dead, done, dead, crash, done, done)
	if !slices.Equal(r.Answers, []api.Answer{{}, {ID: 1}, {}, {E: api.ErrDead}, {E: api.ErrDead}, {}, {}, {E: api.ErrNone}}) || len(r.State.Items) != 0 || r.Commits != 1 {
		t.Error(r)
	}
	// A budget holds for each command.
	if r, e := script.Play(1000, 1, []script.Op{deploy(t, simple), begin}); e != api.OK || r.Answers[1].E != api.ErrBudget || r.Commits != 1 {
		t.Error(r, e)
	}
	// Picks are passed on.
	two := deploy(t, "p n=0; start s; calc a n=1; calc b n=2; end e; s>a>e; s>b>e; task t; s>t; t>e")
	for pick, want := range map[uint32]int64{0: 2, 1: 1} {
		r := play(t, two, told(api.Command{Kind: api.Begin, Name: "p"}, 0, pick))
		if r.State.Cells[0].V.N != want {
			t.Error(pick, r.State.Cells)
		}
	}
}

// TestP32_2CrashesAnywhere: whenever the disk crashes, it is reopened, and goes on.
func TestP32_2CrashesAnywhere(t *testing.T) {
	l := []script.Op{deploy(t, simple)}
	for fuse := range 12 {
		for cut := 0; cut <= 64; cut += 8 {
			s := append(slices.Clone(l), script.Op{Kind: script.Fuse, N: fuse}, told(api.Command{Kind: api.Begin, Name: "p"}), script.Op{Kind: script.Crash, Torn: fuse % 3, Cut: cut}, told(api.Command{Kind: api.Tick, N: 1}))
			r := play(t, s...)
			if r.Answers[3].E != api.OK || r.Answers[4].E != api.OK || r.Commits != 1 {
				t.Error(fuse, cut, r.Answers)
			}
		}
	}
}
