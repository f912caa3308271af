package page_test

import (
	"math"
	"math/rand"
	"strings"
	"testing"

	"callboard/api"
	"callboard/disk"
	"callboard/page"
)

func made(t *testing.T, sectors int) *disk.Disk {
	t.Helper()
	d, e := disk.New(sectors)
	if e != api.OK {
		t.Fatal(e)
	}
	return d
}

func raw(t *testing.T, d *disk.Disk, n int) string {
	t.Helper()
	s := ""
	for i := range 4 {
		part, e := d.Read(4*n + i)
		if e != api.OK {
			t.Fatal(e)
		}
		s += part
	}
	return s
}

func pad(s string, size int) string { return s + strings.Repeat("\x00", size-len(s)) }

func TestP4_1Pages(t *testing.T) {
	for sectors, pages := range map[int]int{1: 0, 3: 0, 4: 1, 7: 1, 8: 2, 40: 10, 4096: 1024} {
		if got := page.Pages(made(t, sectors)); got != pages {
			t.Error(sectors, got)
		}
	}
	if page.Pages(nil) != 0 {
		t.Error("pages of nil")
	}
}

func TestP4_1Bytes(t *testing.T) {
	d := made(t, 8)
	if e := page.Write(d, 1, "ab"); e != api.OK {
		t.Fatal(e)
	}
	if got := raw(t, d, 1); got != pad("\x00\x02ab", api.PageSize) {
		t.Errorf("%x", got)
	}
	long := strings.Repeat("q", page.MaxBody)
	if e := page.Write(d, 1, long); e != api.OK || raw(t, d, 1) != "\x00\xfe"+long {
		t.Error(e)
	}
	// What follows a shorter body is 0 again.
	if e := page.Write(d, 1, "z"); e != api.OK || raw(t, d, 1) != pad("\x00\x01z", api.PageSize) {
		t.Error(e)
	}
}

func TestP4_1Errors(t *testing.T) {
	d := made(t, 11)
	for _, n := range []int{-1, 2, 3, math.MaxInt, math.MinInt, math.MaxInt / 4, math.MinInt / 4} {
		if s, e := page.Read(d, n); s != "" || e != api.ErrNone {
			t.Error("Read", n, e)
		}
		if e := page.Write(d, n, strings.Repeat("x", 300)); e != api.ErrNone {
			t.Error("Write", n, e)
		}
	}
	if e := page.Write(d, 1, strings.Repeat("x", page.MaxBody+1)); e != api.ErrTooLarge {
		t.Error(e)
	}
	for size, e := range map[string]api.Errno{"\x00\xfe": api.OK, "\x00\xff": api.ErrForm, "\x01\x00": api.ErrForm, "\xff\xff": api.ErrForm} {
		d.Write(4, pad(size, api.Sector))
		if s, got := page.Read(d, 1); got != e || (e == api.OK) != (len(s) == page.MaxBody) {
			t.Errorf("a length of %x: %v", size, got)
		}
	}
	d.Fuse(0)
	if page.Write(d, 9, "") != api.ErrNone || page.Write(d, 0, strings.Repeat("x", 255)) != api.ErrTooLarge || page.Write(d, 0, "x") != api.ErrDead {
		t.Error("the errors of a dead disk")
	}
	if s, e := page.Read(nil, -1); s != "" || e != api.ErrNil {
		t.Error(e)
	}
	if page.Write(nil, -1, "") != api.ErrNil {
		t.Error("Write to nil")
	}
}

func TestP4_1SectorsIncrease(t *testing.T) {
	for fuse := range 6 {
		d := made(t, 8)
		d.Fuse(fuse)
		e := page.Write(d, 1, strings.Repeat("w", page.MaxBody))
		if (e == api.OK) != (fuse >= 4) || e != api.OK && e != api.ErrDead {
			t.Error(fuse, e)
		}
		l := d.Aside()
		for i, n := range l {
			if n != 4+i {
				t.Error(fuse, l)
			}
		}
		if len(l) != min(fuse, 4) {
			t.Error(fuse, l)
		}
	}
}

func TestP4_2Bytes(t *testing.T) {
	d := made(t, 8)
	d.Write(1, strings.Repeat("k", api.Sector))
	if e := page.SetRoot(d, 0, page.Mark{On: true, Epoch: 5, Page: 3}); e != api.OK {
		t.Fatal(e)
	}
	if s, _ := d.Read(0); s != pad("\x01\x00\x00\x00\x00\x00\x00\x00\x05\x00\x03", api.Sector) {
		t.Errorf("%x", s)
	}
	if s, _ := d.Read(1); s != strings.Repeat("k", api.Sector) {
		t.Error("the second sector was written")
	}
	if e := page.SetRoot(d, 1, page.Mark{Epoch: api.MaxNumber, Page: api.MaxPages - 1}); e != api.OK {
		t.Fatal(e)
	}
	if s, _ := d.Read(4); s != pad("\x00\x00\x00\x01\x00\x00\x00\x00\x00\x03\xff", api.Sector) {
		t.Errorf("%x", s)
	}
	for k, want := range []page.Mark{{On: true, Epoch: 5, Page: 3}, {Epoch: api.MaxNumber, Page: api.MaxPages - 1}} {
		if m, e := page.Root(d, k); m != want || e != api.OK {
			t.Error(k, m, e)
		}
	}
}

func TestP4_2Errors(t *testing.T) {
	d := made(t, 12)
	for _, k := range []int{-1, 2, math.MaxInt, math.MinInt} {
		if m, e := page.Root(d, k); m != (page.Mark{}) || e != api.ErrNone {
			t.Error("Root", k, e)
		}
		if e := page.SetRoot(d, k, page.Mark{Epoch: -1}); e != api.ErrNone {
			t.Error("SetRoot", k, e)
		}
	}
	if _, e := page.Root(made(t, 7), 1); e != api.ErrNone {
		t.Error(e)
	}
	if _, e := page.Root(made(t, 3), 0); e != api.ErrNone {
		t.Error(e)
	}
	d.Fuse(0)
	for _, m := range []page.Mark{{Epoch: -1}, {Epoch: api.MaxNumber + 1}, {Page: -1}, {Page: api.MaxPages}} {
		if e := page.SetRoot(d, 1, m); e != api.ErrArg {
			t.Error(m, e)
		}
	}
	if e := page.SetRoot(d, 1, page.Mark{}); e != api.ErrDead {
		t.Error(e)
	}
	if m, e := page.Root(nil, -1); m != (page.Mark{}) || e != api.ErrNil {
		t.Error(e)
	}
	if page.SetRoot(nil, 5, page.Mark{}) != api.ErrNil {
		t.Error("SetRoot of nil")
	}
}

func TestP4_2OutOfRange(t *testing.T) {
	for _, c := range []struct {
		s    string
		want page.Mark
	}{
		{"\x01\x00\x00\x01\x00\x00\x00\x00\x01\x00\x07", page.Mark{On: true, Page: 7}},
		{"\x01\xff\xff\xff\xff\xff\xff\xff\xff\x00\x07", page.Mark{On: true, Page: 7}},
		{"\x01\x80\x00\x00\x00\x00\x00\x00\x00\x00\x07", page.Mark{On: true, Page: 7}},
		{"\x01\x00\x00\x00\x00\x00\x00\x00\x09\x04\x00", page.Mark{On: true, Epoch: 9}},
		{"\x02\x00\x00\x00\x00\x00\x00\x00\x09\x03\xff", page.Mark{Epoch: 9, Page: 1023}},
		{"\xff\x00\x00\x00\x00\x00\x00\x00\x00\xff\xff", page.Mark{}},
	} {
		d := made(t, 8)
		d.Write(4, pad(c.s, api.Sector))
		if m, e := page.Root(d, 1); m != c.want || e != api.OK {
			t.Errorf("%x: %v, %v", c.s, m, e)
		}
	}
}

func TestP4_3Back(t *testing.T) {
	r := rand.New(rand.NewSource(6))
	d := made(t, 4*9)
	var want [9]string
	for range 2000 {
		n := r.Intn(9)
		b := make([]byte, r.Intn(page.MaxBody+1))
		for i := range b {
			b[i] = byte(r.Intn(256))
		}
		if e := page.Write(d, n, string(b)); e != api.OK {
			t.Fatal(e)
		}
		want[n] = string(b)
		if r.Intn(9) == 0 {
			d.Flush()
		}
		for k := range 9 {
			if s, e := page.Read(d, k); s != want[k] || e != api.OK {
				t.Fatal(k, e)
			}
		}
	}
}

var marks = []page.Mark{{}, {Epoch: 1, Page: 2}, {On: true, Epoch: 1}, {On: true, Epoch: 255, Page: 255}, {On: true, Epoch: 256, Page: 256}, {On: true, Epoch: api.MaxNumber, Page: 1023}, {Epoch: 1 << 33, Page: 511}}

// crashes calls f with a disk on which page k recorded old, was set to m, and crashed, in every way.
func crashes(t *testing.T, k int, old, m page.Mark, f func(got page.Mark)) {
	for cut := range api.Sector + 1 {
		for torn := range 2 {
			for _, keep := range []bool{false, true} {
				d := made(t, 8)
				page.SetRoot(d, k, old)
				d.Flush()
				if e := page.SetRoot(d, k, m); e != api.OK || len(d.Aside()) != 1 {
					t.Fatal(e, d.Aside())
				}
				d.Crash([]bool{keep}, torn, cut)
				got, e := page.Root(d, k)
				if e != api.OK {
					t.Fatal(e)
				}
				f(got)
			}
		}
	}
}

func TestP4_4TornFirst(t *testing.T) {
	for _, old := range marks {
		for _, m := range marks {
			m.On = false
			crashes(t, 1, old, m, func(got page.Mark) {
				if got != old && got.On {
					t.Errorf("%v, set to %v, became %v", old, m, got)
				}
			})
		}
	}
}

func TestP4_5TornSecond(t *testing.T) {
	for _, old := range marks {
		old.On = false
		m := old
		m.On = true
		seen := map[page.Mark]int{}
		crashes(t, 0, old, m, func(got page.Mark) {
			seen[got]++
			if got != old && got != m {
				t.Errorf("%v became %v", old, got)
			}
		})
		if seen[old] == 0 || seen[m] == 0 {
			t.Error("one of both never came", seen)
		}
	}
}
