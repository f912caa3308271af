package save_test

import (
	"math"
	"math/rand"
	"slices"
	"strings"
	"testing"

	"callboard/api"
	"callboard/arena"
	"callboard/codec"
	"callboard/leaf"
	"callboard/save"
	"callboard/sketch"
	"callboard/wire"
)

func num(n int64) api.Value { return api.Value{Kind: api.Int, N: n} }

func rep(n int) string { return strings.Repeat("k", n) }

var p = sketch.Process("p n=1; start s; task t; bound b @t timer:n+100; catch c signal:go; adhoc h text:n<1000000&n<2000000&n<3000000; end e; s>t>c>h>e; b>e")

func full() api.State {
	return api.State{
		Clock: 300, Next: 70000, Defs: []api.Process{p, sketch.Process("q; start s; end e; s>e")},
		Items:   []api.Item{{ID: 1, Is: api.Scope, Proc: "p", Node: -1, From: -1}, {ID: 5, Up: 1, Is: api.Token, Proc: "p", Node: 300, From: 2, Wait: api.Stuck, Code: "!k"}, {ID: 256, Up: 5, Is: 255, Wait: 255, Proc: rep(13), Code: rep(13)}, {ID: 65536}},
		Cells:   []api.Cell{{Scope: 0, Name: "", V: num(0)}, {Scope: 1, Name: "a", V: num(-300)}, {Scope: 1, Name: "aa", V: api.Value{Kind: api.Bool, N: 1}}, {Scope: 1, Name: "b", V: api.Value{Kind: api.Text, T: rep(40)}}, {Scope: 300, Name: rep(13)}},
		Watches: []api.Watch{{ID: 2, Item: 1, Node: 7, Event: api.Signal, Key: "go"}, {ID: 300, Item: 5, Node: -1, Event: 255, Key: rep(13), Due: api.MaxNumber, Armed: true}},
	}
}

func keys(t *testing.T, s api.State) []leaf.Entry {
	t.Helper()
	l, e := save.Keys(s)
	if e != api.OK {
		t.Fatal(e)
	}
	return l
}

// nums returns numbers, one after another.
func nums(l ...int) string {
	s := ""
	for _, n := range l {
		s, _ = wire.Num(s, n)
	}
	return s
}

func txt(s string) string { return wire.Text("", s) }

// key returns a key, as the chapter has it.
func key(first string, n int, more string) string {
	for shift := 40; shift >= 0; shift -= 8 {
		first += string([]byte{byte(n >> shift)})
	}
	return first + more
}

// plain returns the keys of a state, as the chapter lists them.
func plain(s api.State) []leaf.Entry {
	var l []leaf.Entry
	if s.Clock != 0 || s.Next != 0 {
		l = append(l, leaf.Entry{Key: "c", Val: nums(s.Clock, s.Next)})
	}
	for i, d := range s.Defs {
		b, _ := codec.Encode(d)
		for k := 0; k*100 < len(b); k++ {
			l = append(l, leaf.Entry{Key: string([]byte{'d', byte(i), byte(k)}), Val: b[100*k : min(100*k+100, len(b))]})
		}
	}
	for _, it := range s.Items {
		l = append(l, leaf.Entry{Key: key("i", it.ID, ""), Val: nums(it.Up, int(it.Is)) + txt(it.Proc) + nums(it.Node+1, it.From+1, int(it.Wait)) + txt(it.Code)})
	}
	for _, c := range s.Cells {
		v, _ := wire.Value("", c.V)
		l = append(l, leaf.Entry{Key: key("v", c.Scope, c.Name), Val: v})
	}
	for _, w := range s.Watches {
		armed := 0
		if w.Armed {
			armed = 1
		}
		l = append(l, leaf.Entry{Key: key("w", w.ID, ""), Val: nums(w.Item, w.Node+1, int(w.Event)) + txt(w.Key) + nums(w.Due, armed)})
	}
	return l
}

func TestP30_1Examples(t *testing.T) {
	if l, e := save.Keys(api.State{}); len(l) != 0 || e != api.OK {
		t.Error(l, e)
	}
	if s, e := save.Load(nil); !arena.Same(s, api.State{}) || e != api.OK {
		t.Error(s, e)
	}
	if l := keys(t, api.State{Clock: 300}); !slices.Equal(l, []leaf.Entry{{Key: "c", Val: "\xac\x02\x00"}}) {
		t.Errorf("%x", l)
	}
	if l := keys(t, api.State{Next: 1}); !slices.Equal(l, []leaf.Entry{{Key: "c", Val: "\x00\x01"}}) {
		t.Errorf("%x", l)
	}
	if l := keys(t, api.State{Items: []api.Item{{ID: 5, Up: 2, Is: 2, Proc: "p", Node: 3, From: -1, Wait: 1}}}); !slices.Equal(l, []leaf.Entry{{Key: "i\x00\x00\x00\x00\x00\x05", Val: "\x02\x02\x01p\x04\x00\x01\x00"}}) {
		t.Errorf("%x", l)
	}
	l := keys(t, full())
	if !slices.Equal(l, plain(full())) {
		t.Errorf("%x", l)
	}
	pieces := 0
	for _, x := range l {
		if strings.HasPrefix(x.Key, "d\x00") {
			pieces++
		}
	}
	if pieces < 2 {
		t.Error("pieces", pieces)
	}
}

func TestP30_1Limits(t *testing.T) {
	for what, c := range map[string]struct {
		ok     bool
		change func(s *api.State)
	}{
		"Clock":               {true, func(s *api.State) { s.Clock = api.MaxNumber }},
		"a large Clock":       {false, func(s *api.State) { s.Clock = api.MaxNumber + 1 }},
		"a negative Clock":    {false, func(s *api.State) { s.Clock = -1 }},
		"Next":                {true, func(s *api.State) { s.Next = api.MaxNumber }},
		"a large Next":        {false, func(s *api.State) { s.Next = api.MaxNumber + 1 }},
		"a negative Next":     {false, func(s *api.State) { s.Next = -1 }},
		"only Next, negative": {false, func(s *api.State) { s.Clock, s.Next = 0, -1 }},
		"a small Next":        {true, func(s *api.State) { s.Next = 0 }},
		"12 processes":        {true, func(s *api.State) { s.Defs = slices.Repeat(s.Defs, 6) }},
		"13 processes":        {false, func(s *api.State) { s.Defs = append(slices.Repeat(s.Defs, 6), p) }},
		"a bad process":       {false, func(s *api.State) { s.Defs = append(slices.Clone(s.Defs), api.Process{Name: "p"}) }},
		"Up":                  {true, func(s *api.State) { s.Items[1].Up = api.MaxNumber }},
		"a large Up":          {false, func(s *api.State) { s.Items[1].Up = api.MaxNumber + 1 }},
		"a negative Up":       {false, func(s *api.State) { s.Items[1].Up = -1 }},
		"Node":                {true, func(s *api.State) { s.Items[1].Node = api.MaxNumber - 1 }},
		"a large Node":        {false, func(s *api.State) { s.Items[1].Node = api.MaxNumber }},
		"the largest Node":    {false, func(s *api.State) { s.Items[1].Node = math.MaxInt }},
		"a negative Node":     {false, func(s *api.State) { s.Items[1].Node = -2 }},
		"From":                {true, func(s *api.State) { s.Items[1].From = api.MaxNumber - 1 }},
		"a large From":        {false, func(s *api.State) { s.Items[1].From = api.MaxNumber }},
		"a negative From":     {false, func(s *api.State) { s.Items[1].From = -2 }},
		"a long Proc":         {false, func(s *api.State) { s.Items[1].Proc = rep(14) }},
		"a long Code":         {false, func(s *api.State) { s.Items[1].Code = rep(14) }},
		"an ID of 0":          {false, func(s *api.State) { s.Items[0].ID = 0 }},
		"a negative ID":       {false, func(s *api.State) { s.Items[0].ID = -1 }},
		"the greatest ID":     {true, func(s *api.State) { s.Items[3].ID = api.MaxNumber }},
		"a greater ID":        {false, func(s *api.State) { s.Items[3].ID = api.MaxNumber + 1 }},
		"an ID twice":         {false, func(s *api.State) { s.Items[1].ID = 1 }},
		"IDs that fall":       {false, func(s *api.State) { s.Items[1].ID = 257 }},
		"a negative scope":    {false, func(s *api.State) { s.Cells[0].Scope = -1 }},
		"the greatest scope":  {true, func(s *api.State) { s.Cells[4].Scope = api.MaxNumber }},
		"a greater scope":     {false, func(s *api.State) { s.Cells[4].Scope = api.MaxNumber + 1 }},
		"a long name":         {false, func(s *api.State) { s.Cells[4].Name = rep(14) }},
		"a cell twice":        {false, func(s *api.State) { s.Cells[2].Name = "a" }},
		"names that fall":     {false, func(s *api.State) { s.Cells[2].Name = "c" }},
		"scopes that fall":    {false, func(s *api.State) { s.Cells[3].Scope = 301 }},
		"a bad value":         {false, func(s *api.State) { s.Cells[1].V = api.Value{Kind: api.Bool, N: 2} }},
		"another bad value":   {false, func(s *api.State) { s.Cells[1].V = api.Value{Kind: 9} }},
		"any text":            {true, func(s *api.State) { s.Cells[1].V = api.Value{Kind: api.Text, T: "'\x00\xff"} }},
		"Item":                {true, func(s *api.State) { s.Watches[0].Item = api.MaxNumber }},
		"a large Item":        {false, func(s *api.State) { s.Watches[0].Item = api.MaxNumber + 1 }},
		"a negative Item":     {false, func(s *api.State) { s.Watches[0].Item = -1 }},
		"a watch's Node":      {false, func(s *api.State) { s.Watches[0].Node = api.MaxNumber }},
		"a watch's node":      {false, func(s *api.State) { s.Watches[0].Node = -2 }},
		"a long Key":          {false, func(s *api.State) { s.Watches[0].Key = rep(14) }},
		"a large Due":         {false, func(s *api.State) { s.Watches[0].Due = api.MaxNumber + 1 }},
		"a negative Due":      {false, func(s *api.State) { s.Watches[0].Due = -1 }},
		"a watch's ID":        {false, func(s *api.State) { s.Watches[0].ID = 0 }},
		"a watch twice":       {false, func(s *api.State) { s.Watches[1].ID = 2 }},
		"watches that fall":   {false, func(s *api.State) { s.Watches[1].ID = 1 }},
		"a watch's great ID":  {true, func(s *api.State) { s.Watches[1].ID = api.MaxNumber }},
		"a watch's large ID":  {false, func(s *api.State) { s.Watches[1].ID = api.MaxNumber + 1 }},
		"a watch's item's ID": {true, func(s *api.State) { s.Watches[0].ID = 1 }},
	} {
		s := full()
		c.change(&s)
		l, e := save.Keys(s)
		if c.ok && (e != api.OK || !slices.Equal(l, plain(s))) || !c.ok && (e != api.ErrForm || l != nil) {
			t.Error(what, e)
		}
		if back, e := save.Load(l); c.ok && (e != api.OK || !arena.Same(back, s)) {
			t.Error(what, e)
		}
		for _, ab := range [][2]api.State{{s, full()}, {full(), s}, {s, s}} {
			puts, dels, e := save.Changes(ab[0], ab[1])
			if c.ok != (e == api.OK) || !c.ok && (e != api.ErrForm || puts != nil || dels != nil) {
				t.Error(what, e)
			}
		}
		if !c.ok {
			// Nor are what would be its keys those of a state.
			if back, e := save.Load(plain(s)); e == api.OK && arena.Same(back, s) {
				t.Error(what, "was loaded")
			}
		}
	}
}

func TestP30_1Load(t *testing.T) {
	good := keys(t, full())
	for what, l := range map[string][]leaf.Entry{
		"no key":           {{Key: ""}},
		"an unknown key":   {{Key: "x"}},
		"a long c":         {{Key: "ca", Val: "\x01\x00"}},
		"an empty c":       {{Key: "c", Val: "\x00\x00"}},
		"a short c":        {{Key: "c", Val: "\x01"}},
		"more behind c":    {{Key: "c", Val: "\x01\x00\x00"}},
		"a bad number":     {{Key: "c", Val: "\x81\x00\x00"}},
		"a short item":     {{Key: key("i", 5, ""), Val: "\x00\x01"}},
		"a long item":      {{Key: key("i", 5, ""), Val: "\x00\x01\x00\x00\x00\x00\x00\x00"}},
		"a short item key": {{Key: "i\x00\x00\x05", Val: "\x00\x01\x00\x00\x00\x00\x00"}},
		"a long item key":  {{Key: key("i", 5, "a"), Val: "\x00\x01\x00\x00\x00\x00\x00"}},
		"an item 0":        {{Key: key("i", 0, ""), Val: "\x00\x01\x00\x00\x00\x00\x00"}},
		"a large item":     {{Key: key("i", api.MaxNumber+1, ""), Val: "\x00\x01\x00\x00\x00\x00\x00"}},
		"Is of 256":        {{Key: key("i", 5, ""), Val: "\x00\x80\x02\x00\x00\x00\x00\x00"}},
		"Wait of 257":      {{Key: key("i", 5, ""), Val: "\x00\x01\x00\x00\x00\x81\x02\x00"}},
		"a long Code":      {{Key: key("i", 5, ""), Val: "\x00\x01\x00\x00\x00\x00\x0e" + rep(14)}},
		"a short cell key": {{Key: "v\x00", Val: "\x00"}},
		"a long name":      {{Key: key("v", 5, rep(14)), Val: "\x00"}},
		"a bad value":      {{Key: key("v", 5, "a"), Val: "\x02\x02"}},
		"no value":         {{Key: key("v", 5, "a"), Val: ""}},
		"Armed of 2":       {{Key: key("w", 5, ""), Val: "\x00\x00\x00\x00\x00\x02"}},
		"a short watch":    {{Key: key("w", 5, ""), Val: "\x00\x00\x00\x00\x00"}},
		"half a process":   good[1:2],
		"no first piece":   good[2:3],
		"a second process": good[3:4],
		"a piece less":     append(slices.Clone(good[:2]), good[3:]...),
		"twice":            append(slices.Clone(good[:1]), good...),
		"another order":    append(slices.Clone(good[1:]), good[0]),
		"a d alone":        {{Key: "d", Val: "x"}},
		"a short d":        {{Key: "d\x00", Val: "x"}},
		"a long d":         {{Key: "d\x00\x00\x00", Val: good[1].Val}},
	} {
		if s, e := save.Load(l); e != api.ErrForm || !arena.Same(s, api.State{}) {
			t.Error(what, e)
		}
	}
	// Those that are near, and are right.
	for what, l := range map[string][]leaf.Entry{
		"an item":  {{Key: key("i", 5, ""), Val: "\x00\x01\x00\x00\x00\x00\x00"}},
		"Is 255":   {{Key: key("i", 5, ""), Val: "\x00\xff\x01\x00\x00\x00\x00\x00"}},
		"a Code":   {{Key: key("i", 5, ""), Val: "\x00\x01\x00\x00\x00\x00\x0d" + rep(13)}},
		"a cell":   {{Key: key("v", 0, rep(13)), Val: "\x00"}},
		"a watch":  {{Key: key("w", 5, ""), Val: "\x00\x00\x00\x00\x00\x01"}},
		"no clock": good[1:],
	} {
		s, e := save.Load(l)
		if e != api.OK || !slices.Equal(keys(t, s), l) {
			t.Error(what, e)
		}
	}
	// Pieces of other sizes.
	b := ""
	for _, x := range good[1:3] {
		b += x.Val
	}
	for _, n := range []int{99, 101, 50} {
		l := []leaf.Entry{{Key: "d\x00\x00", Val: b[:n]}, {Key: "d\x00\x01", Val: b[n:]}}
		if _, e := save.Load(l); e != api.ErrForm {
			t.Error(n, e)
		}
	}
	var many []leaf.Entry
	for i := range 200 {
		many = append(many, leaf.Entry{Key: string([]byte{'d', 0, byte(i)}), Val: rep(100)})
	}
	if _, e := save.Load(many); e != api.ErrForm {
		t.Error(e)
	}
}

// grown returns a state that was stirred for a while.
func grown(r *rand.Rand) api.State {
	s := sketch.Stirred(2, r.Intn(30), r.Intn)
	s.Clock += r.Intn(300)
	for range r.Intn(30) {
		s = sketch.Stir(s, r.Intn)
	}
	return s
}

// apply removes keys, and puts others.
func apply(l []leaf.Entry, puts []leaf.Entry, dels []string) []leaf.Entry {
	l = slices.Clone(l)
	for _, k := range dels {
		l, _ = leaf.Del(l, k)
	}
	for _, x := range puts {
		l = leaf.Put(l, x.Key, x.Val)
	}
	return l
}

func TestP30_2To4Grown(t *testing.T) {
	r := rand.New(rand.NewSource(300))
	for range 200 {
		a := grown(r)
		copied := arena.Copy(a)
		l := keys(t, a)
		back, e := save.Load(l)
		if e != api.OK || !arena.Same(back, a) || !slices.Equal(keys(t, back), l) || !slices.Equal(l, plain(a)) {
			t.Fatal("back", e)
		}
		for i, x := range l {
			if len(x.Key) < 1 || len(x.Key) > api.MaxKey || len(x.Val) > api.MaxBytes || i > 0 && l[i-1].Key >= x.Key {
				t.Fatal("limits", x)
			}
		}
		b := a
		if r.Intn(4) == 0 {
			b = grown(r)
		}
		for range r.Intn(4) {
			b = sketch.Stir(b, r.Intn)
		}
		puts, dels, e := save.Changes(a, b)
		if e != api.OK || !slices.Equal(apply(l, puts, dels), keys(t, b)) {
			t.Fatal("changes", e)
		}
		if !slices.IsSortedFunc(puts, func(x, y leaf.Entry) int { return strings.Compare(x.Key, y.Key) }) || !slices.IsSorted(dels) {
			t.Fatal("the order")
		}
		for _, x := range puts {
			if v, ok := leaf.Find(l, x.Key); ok && v == x.Val {
				t.Fatal("put without need", x)
			}
		}
		for _, k := range dels {
			if _, ok := leaf.Find(l, k); !ok {
				t.Fatal("removed without need", k)
			}
		}
		puts, dels, _ = save.Changes(b, a)
		if !slices.Equal(apply(keys(t, b), puts, dels), l) {
			t.Fatal("undone")
		}
		if puts, dels, e := save.Changes(a, back); len(puts)+len(dels) > 0 || e != api.OK {
			t.Fatal("the same", puts, dels)
		}
		if !arena.Same(a, copied) {
			t.Fatal("a state was modified")
		}
	}
}

func TestP30_5SmallChanges(t *testing.T) {
	for what, change := range map[string]func(s *api.State){
		"item": func(s *api.State) { s.Items[1].Code = "x" }, "cell": func(s *api.State) { s.Cells[1].V = num(4) }, "watch": func(s *api.State) { s.Watches[1].Armed = false }, "clock": func(s *api.State) { s.Clock++ },
	} {
		a, b := full(), full()
		change(&b)
		puts, dels, e := save.Changes(a, b)
		if e != api.OK || len(puts) != 1 || len(dels) != 0 {
			t.Error(what, puts, dels, e)
		}
	}
	a, b := full(), full()
	b.Items = b.Items[:3]
	b.Cells = append(b.Cells, api.Cell{Scope: 301, Name: "a"})
	puts, dels, _ := save.Changes(a, b)
	if len(puts) != 1 || len(dels) != 1 || dels[0] != key("i", 65536, "") || puts[0].Key != key("v", 301, "a") {
		t.Error(puts, dels)
	}
}

func TestR1AnyEntries(t *testing.T) {
	r := rand.New(rand.NewSource(301))
	good := keys(t, full())
	for range 20000 {
		l := slices.Clone(good)
		for range 1 + r.Intn(3) {
			i := r.Intn(len(l))
			x := []byte(l[i].Key)
			v := []byte(l[i].Val)
			switch r.Intn(4) {
			case 0:
				x = x[:r.Intn(len(x)+1)]
			case 1:
				v = v[:r.Intn(len(v)+1)]
			case 2:
				x[r.Intn(len(x))] = byte(r.Intn(256))
			case 3:
				if len(v) > 0 {
					v[r.Intn(len(v))] = byte(r.Intn(256))
				}
			}
			if len(x) == 0 {
				x = []byte("i")
			}
			l[i] = leaf.Entry{Key: string(x), Val: string(v)}
		}
		s, e := save.Load(l)
		if e == api.OK && !slices.Equal(keys(t, s), l) || e != api.OK && (e != api.ErrForm || !arena.Same(s, api.State{})) {
			t.Fatal(e)
		}
	}
}
