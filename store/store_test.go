package store_test

import (
	"maps"
	"math/rand"
	"slices"
	"strings"
	"testing"

	"callboard/api"
	"callboard/disk"
	"callboard/leaf"
	"callboard/page"
	"callboard/store"
)

func blank(t *testing.T, sectors int) *disk.Disk {
	t.Helper()
	d, e := disk.New(sectors)
	if e != api.OK {
		t.Fatal(e)
	}
	return d
}

func formatted(t *testing.T, pages int) *disk.Disk {
	t.Helper()
	d := blank(t, 4*pages)
	if e := store.Format(d); e != api.OK {
		t.Fatal(e)
	}
	return d
}

func open(t *testing.T, d *disk.Disk) *store.Store {
	t.Helper()
	s, e := store.Open(d)
	if e != api.OK || s == nil {
		t.Fatal(e)
	}
	return s
}

func put(t *testing.T, s *store.Store, k, v string) {
	t.Helper()
	if e := s.Put(k, v); e != api.OK {
		t.Fatal(e)
	}
}

func commit(t *testing.T, s *store.Store) {
	t.Helper()
	if e := s.Commit(); e != api.OK {
		t.Fatal(e)
	}
}

func rep(n int) string { return strings.Repeat("v", n) }

func list(t *testing.T, s *store.Store) []leaf.Entry {
	t.Helper()
	l, e := s.List("")
	if e != api.OK {
		t.Fatal(e)
	}
	return l
}

func entries(m map[string]string) []leaf.Entry {
	var l []leaf.Entry
	for _, k := range slices.Sorted(maps.Keys(m)) {
		l = append(l, leaf.Entry{Key: k, Val: m[k]})
	}
	return l
}

func TestP8_1Examples(t *testing.T) {
	d := formatted(t, 10)
	s := open(t, d)
	if s.Epoch() != 1 || s.Free() != 8 {
		t.Error(s.Epoch(), s.Free())
	}
	put(t, s, "a", "1")
	if s.Free() != 7 {
		t.Error(s.Free())
	}
	commit(t, s)
	if s.Epoch() != 2 || s.Free() != 7 {
		t.Error(s.Epoch(), s.Free())
	}
	s = open(t, d)
	if v, ok, e := s.Get("a"); v != "1" || !ok || e != api.OK {
		t.Error(v, ok, e)
	}
	put(t, s, "a", "2")
	if v, _, _ := s.Get("a"); v != "2" || s.Free() != 6 {
		t.Error(v, s.Free())
	}
	if e := s.Back(); e != api.OK || s.Free() != 7 || s.Epoch() != 2 {
		t.Error(e, s.Free())
	}
	if v, _, _ := s.Get("a"); v != "1" {
		t.Error(v)
	}
	if e := s.Del("a"); e != api.OK {
		t.Error(e)
	}
	if e := s.Del("a"); e != api.ErrNone {
		t.Error(e)
	}
	commit(t, s)
	if s.Epoch() != 3 || s.Free() != 8 || len(list(t, open(t, d))) != 0 {
		t.Error(s.Epoch(), s.Free())
	}
}

func root(t *testing.T, d *disk.Disk, k int) page.Mark {
	t.Helper()
	m, e := page.Root(d, k)
	if e != api.OK {
		t.Fatal(e)
	}
	return m
}

func TestP8_1Roots(t *testing.T) {
	d := blank(t, 40)
	page.SetRoot(d, 1, page.Mark{On: true, Epoch: 9, Page: 9})
	if e := store.Format(d); e != api.OK || len(d.Aside()) != 0 {
		t.Error(e, d.Aside())
	}
	if root(t, d, 0) != (page.Mark{On: true, Epoch: 1}) || root(t, d, 1) != (page.Mark{}) {
		t.Error(root(t, d, 0), root(t, d, 1))
	}
	s := open(t, d)
	put(t, s, "a", "1")
	commit(t, s)
	if root(t, d, 0) != (page.Mark{On: true, Epoch: 1}) || root(t, d, 1) != (page.Mark{On: true, Epoch: 2, Page: 2}) || len(d.Aside()) != 0 {
		t.Error(root(t, d, 0), root(t, d, 1))
	}
	put(t, s, "a", "2")
	commit(t, s)
	if root(t, d, 0) != (page.Mark{On: true, Epoch: 3, Page: 3}) || root(t, d, 1) != (page.Mark{On: true, Epoch: 2, Page: 2}) {
		t.Error(root(t, d, 0), root(t, d, 1))
	}
	// Each of both counts if it has the greater epoch; of the same one page 0 counts.
	for _, c := range []struct {
		a, b page.Mark
		want string
	}{
		{page.Mark{On: true, Epoch: 7, Page: 3}, page.Mark{On: true, Epoch: 6, Page: 2}, "2"},
		{page.Mark{On: true, Epoch: 6, Page: 3}, page.Mark{On: true, Epoch: 7, Page: 2}, "1"},
		{page.Mark{On: true, Epoch: 6, Page: 3}, page.Mark{On: true, Epoch: 6, Page: 2}, "2"},
		{page.Mark{Epoch: 9, Page: 3}, page.Mark{On: true, Epoch: 6, Page: 2}, "1"},
		{page.Mark{On: true, Epoch: 0, Page: 3}, page.Mark{Epoch: 6, Page: 2}, "2"},
		{page.Mark{Epoch: 5, Page: 3}, page.Mark{On: true, Epoch: 0, Page: 2}, "1"},
	} {
		d := d.Copy()
		page.SetRoot(d, 0, c.a)
		page.SetRoot(d, 1, c.b)
		s := open(t, d)
		if v, _, _ := s.Get("a"); v != c.want {
			t.Error(c, v)
		}
		epoch := s.Epoch()
		put(t, s, "b", "3")
		commit(t, s)
		if s = open(t, d); s.Epoch() != epoch+1 {
			t.Error(c, s.Epoch())
		}
		if v, _, _ := s.Get("a"); v != c.want {
			t.Error(c, v, "after a commit")
		}
	}
}

func TestP8_1Errors(t *testing.T) {
	for sectors, want := range map[int]api.Errno{1: api.ErrArg, 11: api.ErrArg, 12: api.OK, 13: api.OK} {
		d := blank(t, sectors)
		if e := store.Format(d); e != want {
			t.Error(sectors, e)
		}
		s, e := store.Open(d)
		if want == api.OK && e != api.OK || want != api.OK && (e != api.ErrBad || s != nil) {
			t.Error(sectors, e)
		}
	}
	if s, e := store.Open(blank(t, 40)); s != nil || e != api.ErrBad {
		t.Error("not formatted", e)
	}
	small := blank(t, 8)
	page.SetRoot(small, 0, page.Mark{On: true, Epoch: 1})
	if s, e := store.Open(small); s != nil || e != api.ErrBad {
		t.Error("two pages", e)
	}
	d := blank(t, 40)
	d.Fuse(2)
	if e := store.Format(d); e != api.ErrDead {
		t.Error(e)
	}
	d = formatted(t, 10)
	// Roots whose trees cannot be read: an empty page, page 1 itself, one that the disk does not have, a page that occurs twice.
	page.Write(d, 5, "\x02\x00\x00\x06\x01m\x00\x06")
	page.Write(d, 6, "\x01")
	for _, n := range []int{4, 1, 10, 1023, 5} {
		c := d.Copy()
		page.SetRoot(c, 1, page.Mark{On: true, Epoch: 2, Page: n})
		if s, e := store.Open(c); s != nil || e != api.ErrBad {
			t.Error(n, e)
		}
	}
	page.Write(d, 1, "\x01")
	page.SetRoot(d, 0, page.Mark{On: true, Epoch: 2, Page: 1})
	if s, e := store.Open(d); s != nil || e != api.ErrBad {
		t.Error("a tree on page 1", e)
	}
}

func TestP8_1Epochs(t *testing.T) {
	d := formatted(t, 10)
	page.SetRoot(d, 0, page.Mark{On: true, Epoch: api.MaxNumber - 1})
	s := open(t, d)
	put(t, s, "a", "1")
	commit(t, s)
	if s.Epoch() != api.MaxNumber {
		t.Error(s.Epoch())
	}
	before := d.Copy()
	if e := s.Commit(); e != api.ErrTooLarge || !disk.Same(d, before) || s.Epoch() != api.MaxNumber {
		t.Error(e)
	}
	d.Fuse(0)
	if e := s.Commit(); e != api.ErrTooLarge {
		t.Error(e)
	}
}

func TestR1Nil(t *testing.T) {
	var s *store.Store
	v, ok, e1 := s.Get("")
	l, e2 := s.List("")
	none, e3 := store.Open(nil)
	if v != "" || ok || l != nil || none != nil || s.Epoch() != 0 || s.Free() != 0 {
		t.Error("something of nil")
	}
	for _, e := range []api.Errno{e1, e2, e3, s.Put("", ""), s.Del(""), s.Commit(), s.Back(), store.Format(nil)} {
		if e != api.ErrNil {
			t.Error(e)
		}
	}
}

func TestP8_1TreeErrors(t *testing.T) {
	s := open(t, formatted(t, 10))
	long := rep(api.MaxKey + 1)
	_, _, e := s.Get(long)
	for _, e := range []api.Errno{e, s.Put(long, ""), s.Del(long), s.Put("a", rep(101))} {
		if e != api.ErrArg {
			t.Error(e)
		}
	}
	put(t, s, "a", "1")
	put(t, s, "b", "2")
	if l, e := s.List("b"); e != api.OK || !slices.Equal(l, []leaf.Entry{{Key: "b", Val: "2"}}) {
		t.Error(l, e)
	}
}

// act does a random change, to the store and to a map.
func act(t *testing.T, r *rand.Rand, s *store.Store, m map[string]string) api.Errno {
	k := string([]byte{byte('a' + r.Intn(26))}) + rep(r.Intn(20))
	if r.Intn(3) == 0 {
		e := s.Del(k)
		_, had := m[k]
		if e == api.OK && !had || e == api.ErrNone && had {
			t.Fatal("Del", e)
		}
		if e == api.OK {
			delete(m, k)
		}
		if e == api.ErrNone {
			e = api.OK
		}
		return e
	}
	v := rep(r.Intn(101))
	e := s.Put(k, v)
	if e == api.OK {
		m[k] = v
	}
	return e
}

func TestP8_4And5Random(t *testing.T) {
	for seed := range int64(10) {
		r := rand.New(rand.NewSource(50 + seed))
		d := formatted(t, 120)
		s := open(t, d)
		last, now := map[string]string{}, map[string]string{}
		for range 400 {
			switch r.Intn(12) {
			case 0, 1:
				epoch := s.Epoch()
				commit(t, s)
				last = maps.Clone(now)
				again := open(t, d)
				if s.Epoch() != epoch+1 || again.Epoch() != s.Epoch() || again.Free() != s.Free() || !slices.Equal(list(t, again), entries(now)) {
					t.Fatal("reopened", again.Epoch(), again.Free(), s.Free())
				}
				if r.Intn(2) == 0 {
					s = again
				}
			case 2:
				if e := s.Back(); e != api.OK {
					t.Fatal(e)
				}
				now = maps.Clone(last)
			case 3:
				// What was not committed is lost by a crash.
				d.Crash([]bool{true, true, false, true}, 2, 9)
				s = open(t, d)
				now = maps.Clone(last)
			default:
				if e := act(t, r, s, now); e != api.OK {
					t.Fatal(e)
				}
			}
			if !slices.Equal(list(t, s), entries(now)) {
				t.Fatal("the keys")
			}
			for _, x := range list(t, s) {
				if v, ok, e := s.Get(x.Key); v != x.Val || !ok || e != api.OK {
					t.Fatal(x.Key, e)
				}
			}
		}
	}
}

// crashed returns a disk after a crash that keeps some of what is buffered, and tears one sector.
func crashed(r *rand.Rand, d *disk.Disk) *disk.Disk {
	c := d.Copy()
	keep := make([]bool, len(c.Aside()))
	for i := range keep {
		keep[i] = r.Intn(2) == 0
	}
	c.Crash(keep, r.Intn(len(keep)+2)-1, []int{0, 1, 2, 8, 9, 10, 11, 32, 64}[r.Intn(9)])
	return c
}

func TestP8_3Atomicity(t *testing.T) {
	for seed := range int64(25) {
		r := rand.New(rand.NewSource(70 + seed))
		d := formatted(t, 60)
		s := open(t, d)
		m := map[string]string{}
		for range 1 + r.Intn(4) {
			for range r.Intn(12) {
				act(t, r, s, m)
			}
			commit(t, s)
		}
		before := entries(m)
		olds, news := 0, 0
		for fuse := 0; ; fuse++ {
			c := d.Copy()
			x := open(t, c)
			c.Fuse(fuse)
			again := rand.New(rand.NewSource(90 + seed))
			now := maps.Clone(m)
			e := api.OK
			for range 8 {
				if e = act(t, again, x, now); e != api.OK {
					break
				}
			}
			if e == api.OK {
				e = x.Commit()
			}
			if e != api.OK && e != api.ErrDead {
				t.Fatal(e)
			}
			if e == api.ErrDead && x.Epoch() != s.Epoch() {
				t.Fatal("the epoch after an error", x.Epoch())
			}
			after := entries(now)
			for range 12 {
				y := open(t, crashed(r, c))
				got := list(t, y)
				if e == api.OK && !slices.Equal(got, after) || !slices.Equal(got, after) && !slices.Equal(got, before) {
					t.Fatal("fuse", fuse, e, got)
				}
				if slices.Equal(got, after) {
					news++
				} else {
					olds++
				}
				put(t, y, "more", "1")
				commit(t, y)
			}
			if e == api.OK {
				break
			}
		}
		if olds == 0 || news == 0 {
			t.Error("one of both never came", olds, news)
		}
	}
}

func TestP8_3Reverted(t *testing.T) {
	d := formatted(t, 20)
	s := open(t, d)
	put(t, s, "a", "1")
	commit(t, s)
	for fuse := range 5 {
		c := d.Copy()
		x := open(t, c)
		put(t, x, "a", "2")
		c.Fuse(fuse)
		if e := x.Commit(); e != api.ErrDead || x.Epoch() != 2 || x.Free() != 17 {
			t.Error(fuse, e, x.Epoch(), x.Free())
		}
		if v, ok, e := x.Get("a"); v != "1" || !ok || e != api.OK {
			t.Error(fuse, v, e)
		}
	}
	c := d.Copy()
	x := open(t, c)
	c.Fuse(5)
	if e := x.Commit(); e != api.OK || !c.Dead() {
		t.Error("a commit is five operations", e)
	}
}

func TestP8_6Full(t *testing.T) {
	for pages := 3; pages < 12; pages++ {
		d := formatted(t, pages)
		s := open(t, d)
		m := map[string]string{}
		r := rand.New(rand.NewSource(int64(pages)))
		full := 0
		for range 300 {
			before := entries(m)
			switch e := act(t, r, s, m); e {
			case api.OK:
			case api.ErrFull:
				full++
				if !slices.Equal(list(t, s), before) {
					t.Fatal("something changed")
				}
				if r.Intn(2) == 0 {
					commit(t, s)
				} else {
					if e := s.Back(); e != api.OK {
						t.Fatal(e)
					}
					m = map[string]string{}
					for _, x := range list(t, s) {
						m[x.Key] = x.Val
					}
				}
				if s = open(t, d); !slices.Equal(list(t, s), entries(m)) {
					t.Fatal("reopened")
				}
			default:
				t.Fatal(e)
			}
		}
		if full == 0 {
			t.Error(pages, "never full")
		}
	}
}
