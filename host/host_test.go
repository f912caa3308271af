package host_test

import (
	"math"
	"math/rand"
	"testing"

	"callboard/api"
	"callboard/arena"
	"callboard/codec"
	"callboard/disk"
	"callboard/host"
	"callboard/leaf"
	"callboard/run"
	"callboard/save"
	"callboard/sketch"
	"callboard/store"
)

func blank(t *testing.T, sectors int) *disk.Disk {
	t.Helper()
	d, e := disk.New(sectors)
	if e != api.OK {
		t.Fatal(e)
	}
	return d
}

func formatted(t *testing.T, sectors int) *disk.Disk {
	t.Helper()
	d := blank(t, sectors)
	if e := host.Format(d); e != api.OK {
		t.Fatal(e)
	}
	return d
}

func open(t *testing.T, d *disk.Disk, budget int) *host.Host {
	t.Helper()
	h, e := host.Open(d, budget)
	if e != api.OK || h == nil {
		t.Fatal(e)
	}
	return h
}

func deploy(t *testing.T, p api.Process) api.Command {
	t.Helper()
	s, e := codec.Encode(p)
	if e != api.OK {
		t.Fatal(e)
	}
	return api.Command{Kind: api.Deploy, Bytes: s}
}

var simple = sketch.Process("p n=1; start s; task t; end e; s>t>e")

func do(t *testing.T, h *host.Host, c api.Command) int {
	t.Helper()
	a := h.Do(c, nil)
	if a.E != api.OK {
		t.Fatal(c, a)
	}
	return a.ID
}

func TestP31_1Examples(t *testing.T) {
	d := formatted(t, 400)
	h := open(t, d, 100)
	if !arena.Same(h.State(), api.State{}) || h.Commits() != 0 || h.Free() != 98 {
		t.Error(h.State(), h.Commits(), h.Free())
	}
	do(t, h, deploy(t, simple))
	if id := do(t, h, api.Command{Kind: api.Begin, Name: "p"}); id != 1 || h.Commits() != 2 || h.Free() >= 98 {
		t.Error(id, h.Commits(), h.Free())
	}
	before := h.State()
	h = open(t, d, 100)
	if !arena.Same(h.State(), before) || len(before.Items) != 2 || h.Commits() != 0 {
		t.Error(h.State())
	}
	d.Fuse(3)
	if a := h.Do(api.Command{Kind: api.Done, ID: 3}, nil); a != (api.Answer{E: api.ErrDead}) || !arena.Same(h.State(), before) || h.Commits() != 0 {
		t.Error(a)
	}
	if a := h.Do(api.Command{Kind: api.Done, ID: 3}, nil); a.E != api.ErrDead {
		t.Error(a)
	}
	d.Crash(nil, -1, 0)
	h = open(t, d, 100)
	if !arena.Same(h.State(), before) {
		t.Error(h.State())
	}
	do(t, h, api.Command{Kind: api.Done, ID: 3})
	if s := h.State(); len(s.Items) != 0 || s.Next != 4 || !arena.Same(open(t, d, 1).State(), s) {
		t.Error(s)
	}
	if _, e := host.Open(d, 0); e != api.ErrArg {
		t.Error(e)
	}
}

func TestP31_1Errors(t *testing.T) {
	d := formatted(t, 40)
	for _, budget := range []int{0, -1, math.MinInt, api.MaxSteps + 1, math.MaxInt} {
		for _, d := range []*disk.Disk{d, nil, blank(t, 4)} {
			if h, e := host.Open(d, budget); h != nil || e != api.ErrArg {
				t.Error(budget, e)
			}
		}
	}
	for _, budget := range []int{1, api.MaxSteps} {
		open(t, d, budget)
	}
	if h, e := host.Open(nil, 5); h != nil || e != api.ErrNil {
		t.Error(e)
	}
	if h, e := host.Open(blank(t, 40), 5); h != nil || e != api.ErrBad {
		t.Error(e)
	}
	for sectors, want := range map[int]api.Errno{11: api.ErrArg, 12: api.OK} {
		if e := host.Format(blank(t, sectors)); e != want {
			t.Error(sectors, e)
		}
	}
	if host.Format(nil) != api.ErrNil {
		t.Error("Format of nil")
	}
	d.Fuse(1)
	if e := host.Format(d); e != api.ErrDead {
		t.Error(e)
	}
	// Keys that are not those of a state.
	for _, x := range []leaf.Entry{{Key: "x", Val: "1"}, {Key: "c", Val: "\x00\x00"}, {Key: "i", Val: ""}} {
		d := formatted(t, 40)
		st, _ := store.Open(d)
		st.Put(x.Key, x.Val)
		if e := st.Commit(); e != api.OK {
			t.Fatal(e)
		}
		if h, e := host.Open(d, 5); h != nil || e != api.ErrBad {
			t.Error(x, e)
		}
	}
	// The budget is that of each command.
	h := open(t, formatted(t, 400), 1)
	do(t, h, deploy(t, simple))
	if a := h.Do(api.Command{Kind: api.Begin, Name: "p"}, nil); a.E != api.ErrBudget || h.Commits() != 1 {
		t.Error(a)
	}
}

func TestR1Nil(t *testing.T) {
	var h *host.Host
	if a := h.Do(api.Command{Kind: api.Tick, N: 1}, nil); a != (api.Answer{E: api.ErrNil}) || !arena.Same(h.State(), api.State{}) || h.Commits() != 0 || h.Free() != 0 {
		t.Error(a)
	}
}

func TestP31_2NewMemory(t *testing.T) {
	h := open(t, formatted(t, 400), 100)
	do(t, h, deploy(t, simple))
	do(t, h, api.Command{Kind: api.Begin, Name: "p"})
	before := h.State()
	s := h.State()
	s.Items[0].Code, s.Cells[0].Name, s.Defs[0].Nodes[0].Name, s.Defs[0].Flows[0].To, s.Defs[0].Vars[0].Name = "!", "!", "!", 9, "!"
	if !arena.Same(h.State(), before) {
		t.Error("State shares memory")
	}
}

func TestP31_7NoWrites(t *testing.T) {
	d := formatted(t, 400)
	h := open(t, d, 100)
	do(t, h, deploy(t, simple))
	do(t, h, api.Command{Kind: api.Begin, Name: "p"})
	state := h.State()
	d.Fuse(0)
	dead := d.Copy()
	for _, c := range []api.Command{{Kind: api.Cast, Key: "nobody"}, {Kind: api.Put, ID: 1}, {Kind: api.Put, ID: 1, Sets: []api.Set{{Name: "n", V: api.Value{Kind: api.Int, N: 1}}}}, {Kind: api.Done, ID: 99}, {Kind: 77}, deploy(t, simple)} {
		a := h.Do(c, nil)
		if _, want := run.Do(state, c, nil, 100); a != want || !disk.Same(d, dead) || h.Commits() != 2 || !arena.Same(h.State(), state) {
			t.Error(c, a)
		}
	}
	if a := h.Do(api.Command{Kind: api.Tick, N: 1}, nil); a.E != api.ErrDead {
		t.Error(a)
	}
}

// user gives random commands.
type user struct {
	r    *rand.Rand
	defs []api.Process
}

func newUser(r *rand.Rand) *user {
	return &user{r: r, defs: sketch.Defs(2, false, r.Intn)}
}

// command returns a command for a state.
func (u *user) command(t *testing.T, s api.State) (api.Command, []uint32) {
	r := u.r
	var picks []uint32
	for range r.Intn(5) {
		picks = append(picks, r.Uint32())
	}
	if len(s.Defs) < len(u.defs) && r.Intn(2) == 0 {
		return deploy(t, u.defs[len(s.Defs)]), picks
	}
	id := r.Intn(s.Next + 2)
	if len(s.Items) > 0 && r.Intn(4) > 0 {
		id = s.Items[r.Intn(len(s.Items))].ID
	}
	sets := []api.Set{{Name: "n", V: api.Value{Kind: api.Int, N: int64(r.Intn(5))}}}[:r.Intn(2)]
	kinds := []uint8{api.Begin, api.Begin, api.Done, api.Done, api.Done, api.Fail, api.Put, api.Cast, api.Tick, api.Stop, api.Retry, api.Enable}
	return api.Command{Kind: kinds[r.Intn(len(kinds))], ID: id, N: r.Intn(3), Name: u.defs[r.Intn(2)].Name, Key: []string{"k", "l"}[r.Intn(2)], Sets: sets}, picks
}

func TestP31_3And5Random(t *testing.T) {
	for seed := range int64(30) {
		r := rand.New(rand.NewSource(310 + seed))
		u := newUser(r)
		d := formatted(t, 2000)
		h := open(t, d, 200)
		var s api.State
		commits := 0
		for range 60 {
			c, picks := u.command(t, s)
			n, want := run.Do(s, c, picks, 200)
			before := d.Copy()
			a := h.Do(c, picks)
			if a != want || !arena.Same(h.State(), n) {
				t.Fatal(c, a, want)
			}
			if !arena.Same(n, s) {
				commits++
			} else if !disk.Same(d, before) {
				t.Fatal("a write without a change")
			}
			s = n
			if h.Commits() != commits {
				t.Fatal(h.Commits(), commits)
			}
			if r.Intn(8) == 0 {
				free := h.Free()
				if r.Intn(2) == 0 {
					d.Crash(nil, -1, 0)
				}
				h = open(t, d, 200)
				commits = 0
				if !arena.Same(h.State(), s) || h.Free() != free {
					t.Fatal("reopened", h.Free(), free)
				}
			}
		}
	}
}

func TestP31_4Atomicity(t *testing.T) {
	olds, news := 0, 0
	for seed := range int64(10) {
		r := rand.New(rand.NewSource(350 + seed))
		u := newUser(r)
		d := formatted(t, 1200)
		h := open(t, d, 200)
		for range 20 {
			c, picks := u.command(t, h.State())
			h.Do(c, picks)
		}
		before := h.State()
		var c api.Command
		var picks []uint32
		after := before
		for arena.Same(after, before) {
			c, picks = u.command(t, before)
			after, _ = run.Do(before, c, picks, 200)
		}
		for fuse := 0; ; fuse++ {
			x := d.Copy()
			y := open(t, x, 200)
			x.Fuse(fuse)
			a := y.Do(c, picks)
			if a.E != api.OK && (a != api.Answer{E: api.ErrDead} || !arena.Same(y.State(), before)) {
				t.Fatal(a)
			}
			for range 4 {
				z := x.Copy()
				keep := make([]bool, len(z.Aside()))
				for i := range keep {
					keep[i] = r.Intn(2) == 0
				}
				z.Crash(keep, r.Intn(len(keep)+2)-1, r.Intn(api.Sector+1))
				again := open(t, z, 200)
				got := again.State()
				isOld, isNew := arena.Same(got, before), arena.Same(got, after)
				if !isNew && (a.E == api.OK || !isOld) {
					t.Fatal("fuse", fuse, a)
				}
				if isNew {
					news++
				} else {
					olds++
				}
				// It continues from there.
				n, want := run.Do(got, api.Command{Kind: api.Tick, N: 3}, nil, 200)
				if b := again.Do(api.Command{Kind: api.Tick, N: 3}, nil); b != want || !arena.Same(again.State(), n) || !arena.Same(open(t, z, 200).State(), n) {
					t.Fatal("afterwards", b, want)
				}
			}
			if a.E == api.OK {
				break
			}
		}
	}
	if olds < 100 || news < 20 {
		t.Error("too few", olds, news)
	}
}

func TestP31_6Full(t *testing.T) {
	stopped := 0
	for pages := 8; pages < 40; pages++ {
		d := formatted(t, 4*pages)
		h := open(t, d, 100)
		if a := h.Do(deploy(t, simple), nil); a.E != api.OK {
			if a.E != api.ErrFull || !arena.Same(h.State(), api.State{}) || !arena.Same(open(t, d, 100).State(), api.State{}) {
				t.Error(pages, a)
			}
			continue
		}
		full := api.OK
		for full == api.OK {
			before := h.State()
			a := h.Do(api.Command{Kind: api.Begin, Name: "p"}, nil)
			if full = a.E; full != api.OK && (full != api.ErrFull && full != api.ErrTooLarge || a.ID != 0 || !arena.Same(h.State(), before) || !arena.Same(open(t, d, 100).State(), before)) {
				t.Fatal(pages, a)
			}
		}
		if full == api.ErrTooLarge {
			continue
		}
		// What changes nothing is still answered.
		before := d.Copy()
		if a := h.Do(api.Command{Kind: api.Cast, Key: "nobody"}, nil); a.E != api.OK || !disk.Same(d, before) {
			t.Error(pages, a)
		}
		// Once something could be stopped, others are begun again.
		free := h.Free()
		for range 3 {
			for _, it := range h.State().Items {
				if it.Up == 0 {
					h.Do(api.Command{Kind: api.Stop, ID: it.ID}, nil)
				}
			}
		}
		if !arena.Same(open(t, d, 100).State(), h.State()) {
			t.Error(pages, "what was not committed is there")
		}
		if s := h.State(); len(s.Items) == 0 {
			stopped++
			if h.Free() <= free {
				t.Error(pages, "no page is free again")
			}
			if a := h.Do(api.Command{Kind: api.Begin, Name: "p"}, nil); a.E != api.OK {
				t.Error(pages, a)
			}
		}
		if !arena.Same(open(t, d, 100).State(), h.State()) {
			t.Error(pages, "reopened")
		}
	}
	if stopped < 5 {
		t.Error("stopped", stopped)
	}
}

// TestP31_1Keys: what is on the disk are the keys of the state.
func TestP31_1Keys(t *testing.T) {
	d := formatted(t, 800)
	h := open(t, d, 100)
	do(t, h, deploy(t, simple))
	for range 9 {
		do(t, h, api.Command{Kind: api.Begin, Name: "p"})
	}
	do(t, h, api.Command{Kind: api.Stop, ID: 1})
	st, e := store.Open(d)
	if e != api.OK {
		t.Fatal(e)
	}
	l, _ := st.List("")
	s, e := save.Load(l)
	if e != api.OK || !arena.Same(s, h.State()) || st.Epoch() != 1+h.Commits() {
		t.Error(e, st.Epoch())
	}
}
