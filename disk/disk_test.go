package disk_test

import (
	"math"
	"math/rand"
	"slices"
	"strings"
	"testing"

	"callboard/api"
	"callboard/disk"
)

func full(b byte) string { return strings.Repeat(string([]byte{b}), api.Sector) }

func made(t *testing.T, sectors int) *disk.Disk {
	t.Helper()
	d, e := disk.New(sectors)
	if e != api.OK || d == nil {
		t.Fatal(e)
	}
	return d
}

func read(t *testing.T, d *disk.Disk, n int) string {
	t.Helper()
	s, e := d.Read(n)
	if e != api.OK {
		t.Fatal(n, e)
	}
	return s
}

func write(t *testing.T, d *disk.Disk, n int, s string) {
	t.Helper()
	if e := d.Write(n, s); e != api.OK {
		t.Fatal(n, e)
	}
}

func TestP3_1New(t *testing.T) {
	for _, n := range []int{1, 2, 4*api.MaxPages - 1, 4 * api.MaxPages} {
		d := made(t, n)
		if d.Sectors() != n || read(t, d, 0) != full(0) || read(t, d, n-1) != full(0) || d.Dead() || len(d.Aside()) != 0 {
			t.Error(n)
		}
	}
	for _, n := range []int{0, -1, math.MinInt, 4*api.MaxPages + 1, math.MaxInt} {
		if d, e := disk.New(n); d != nil || e != api.ErrArg {
			t.Error(n, e)
		}
	}
}

func TestP3_1Errors(t *testing.T) {
	d := made(t, 3)
	for _, n := range []int{-1, 3, math.MinInt, math.MaxInt} {
		if s, e := d.Read(n); s != "" || e != api.ErrNone {
			t.Error("Read", n, e)
		}
		if e := d.Write(n, "short"); e != api.ErrNone {
			t.Error("Write", n, e)
		}
	}
	for _, s := range []string{"", full(1)[1:], full(1) + "x"} {
		if e := d.Write(2, s); e != api.ErrArg {
			t.Error(len(s), e)
		}
	}
	if e := d.Fuse(-1); e != api.ErrArg {
		t.Error(e)
	}
	for _, cut := range []int{-1, api.Sector + 1, math.MaxInt, math.MinInt} {
		if e := d.Crash(nil, 0, cut); e != api.ErrArg {
			t.Error(cut, e)
		}
	}
	if e := d.Fuse(0); e != api.OK || !d.Dead() {
		t.Error(e)
	}
	if d.Write(3, "") != api.ErrNone || d.Write(0, "") != api.ErrArg || d.Write(0, full(1)) != api.ErrDead || d.Flush() != api.ErrDead {
		t.Error("the order of a dead disk's errors")
	}
	if d.Fuse(-1) != api.ErrArg || d.Fuse(3) != api.ErrDead || d.Crash(nil, 0, 65) != api.ErrArg {
		t.Error("the order of a dead disk's errors")
	}
	if s, e := d.Read(0); s != full(0) || e != api.OK {
		t.Error("a dead disk is read", e)
	}
}

func TestR1Nil(t *testing.T) {
	var d *disk.Disk
	if s, e := d.Read(-1); s != "" || e != api.ErrNil {
		t.Error(e)
	}
	for _, e := range []api.Errno{d.Write(-1, ""), d.Flush(), d.Fuse(-1), d.Crash(nil, 0, -1)} {
		if e != api.ErrNil {
			t.Error(e)
		}
	}
	if d.Sectors() != 0 || d.Dead() || d.Aside() != nil || d.Copy() != nil {
		t.Error("a nil disk has something")
	}
	one := made(t, 1)
	if !disk.Same(nil, nil) || disk.Same(one, nil) || disk.Same(nil, one) {
		t.Error("Same of nil")
	}
}

func TestP3_1Examples(t *testing.T) {
	d := made(t, 2)
	write(t, d, 1, full(1))
	if !slices.Equal(d.Aside(), []int{1}) {
		t.Error(d.Aside())
	}
	if e := d.Crash(nil, -1, 0); e != api.OK || read(t, d, 1) != full(0) || len(d.Aside()) != 0 {
		t.Error(e)
	}
	if d.Fuse(1) != api.OK || d.Dead() || d.Write(0, full(2)) != api.OK || !d.Dead() || d.Write(0, full(3)) != api.ErrDead || read(t, d, 0) != full(2) {
		t.Error("a fuse of 1")
	}
	d = made(t, 2)
	write(t, d, 0, full(7))
	write(t, d, 1, full(8))
	if e := d.Crash([]bool{true, false}, 1, 3); e != api.OK {
		t.Error(e)
	}
	if read(t, d, 0) != full(7) || read(t, d, 1) != full(8)[:3]+full(0)[3:] {
		t.Error("torn")
	}
}

func TestP3_2Same(t *testing.T) {
	changes := map[string]func(d *disk.Disk){
		"a buffered write":   func(d *disk.Disk) { d.Write(1, full(9)) },
		"buffered zeros":     func(d *disk.Disk) { d.Write(3, full(0)) },
		"the same, buffered": func(d *disk.Disk) { d.Write(2, full(5)) },
		"a flush":            func(d *disk.Disk) { d.Flush() },
		"a fuse":             func(d *disk.Disk) { d.Fuse(9) },
		"a crash":            func(d *disk.Disk) { d.Crash(nil, -1, 0) },
		"a last byte":        func(d *disk.Disk) { d.Write(0, full(4)[1:]+"x") },
		"a stored write":     func(d *disk.Disk) { d.Write(1, full(9)); d.Flush(); d.Write(0, full(4)) },
	}
	base := func() *disk.Disk {
		d := made(t, 4)
		write(t, d, 2, full(5))
		d.Flush()
		write(t, d, 0, full(4))
		return d
	}
	if !disk.Same(base(), base()) || !disk.Same(base(), base().Copy()) {
		t.Error("the same are not the same")
	}
	for name, f := range changes {
		d := base()
		f(d)
		if disk.Same(d, base()) || disk.Same(base(), d) || !disk.Same(d, d.Copy()) {
			t.Error(name)
		}
	}
	if disk.Same(made(t, 4), made(t, 5)) {
		t.Error("other numbers of sectors")
	}
	a, b := made(t, 1), made(t, 1)
	a.Fuse(3)
	b.Fuse(4)
	if disk.Same(a, b) {
		t.Error("other fuses")
	}
	b.Write(0, full(0))
	b.Crash(nil, -1, 0)
	b.Fuse(3)
	if !disk.Same(a, b) {
		t.Error("the same fuses")
	}
	a.Fuse(0)
	if disk.Same(a, made(t, 1)) {
		t.Error("a dead disk is like a live one")
	}
	a.Crash(nil, -1, 0)
	if !disk.Same(a, made(t, 1)) {
		t.Error("a fuse after a crash")
	}
}

func TestP3_2Copy(t *testing.T) {
	d := made(t, 3)
	write(t, d, 1, full(1))
	d.Fuse(9)
	c := d.Copy()
	write(t, c, 1, full(2))
	write(t, c, 2, full(2))
	if read(t, d, 1) != full(1) || read(t, d, 2) != full(0) || !slices.Equal(d.Aside(), []int{1}) {
		t.Error("the copy's writes")
	}
	c.Flush()
	write(t, d, 0, full(3))
	if read(t, c, 0) != full(0) || len(c.Aside()) != 0 {
		t.Error("the disk's writes")
	}
	c.Fuse(0)
	if d.Dead() {
		t.Error("the copy's fuse")
	}
	a := d.Aside()
	a[0] = 77
	if slices.Contains(d.Aside(), 77) {
		t.Error("Aside shares memory")
	}
}

// plain is a disk as the chapter describes it, over texts.
type plain struct {
	stored []string
	buf    map[int]string
	fuse   int // -1: none
}

func (p *plain) read(n int) string {
	if s, ok := p.buf[n]; ok {
		return s
	}
	return p.stored[n]
}

func (p *plain) aside() []int {
	var l []int
	for n := range len(p.stored) {
		if _, ok := p.buf[n]; ok {
			l = append(l, n)
		}
	}
	return l
}

func (p *plain) act(f func()) api.Errno {
	if p.fuse == 0 {
		return api.ErrDead
	}
	f()
	if p.fuse > 0 {
		p.fuse--
	}
	return api.OK
}

func (p *plain) crash(keep []bool, torn, cut int) {
	for i, n := range p.aside() {
		if i == torn {
			p.stored[n] = p.buf[n][:cut] + p.stored[n][cut:]
		} else if i < len(keep) && keep[i] {
			p.stored[n] = p.buf[n]
		}
	}
	p.buf, p.fuse = map[int]string{}, -1
}

// TestP3_3To7 compares a disk with a plain one, over random operations: what is read (P3.3), flushed (P3.4), kept by a crash (P3.5, P3.7), and when it is dead (P3.6).
func TestP3_3To7Random(t *testing.T) {
	r := rand.New(rand.NewSource(5))
	for range 300 {
		n := 1 + r.Intn(7)
		d := made(t, n)
		p := &plain{make([]string, n), map[int]string{}, -1}
		for i := range p.stored {
			p.stored[i] = full(0)
		}
		for range 60 {
			switch r.Intn(7) {
			case 0, 1, 2:
				k, s := r.Intn(n), full(byte(r.Intn(256)))
				if got, want := d.Write(k, s), p.act(func() { p.buf[k] = s }); got != want {
					t.Fatal("Write", got, want)
				}
			case 3:
				want := p.act(func() {
					for k, s := range p.buf {
						p.stored[k] = s
					}
					p.buf = map[int]string{}
				})
				if got := d.Flush(); got != want {
					t.Fatal("Flush", got, want)
				}
			case 4:
				if r.Intn(3) == 0 {
					f := r.Intn(6)
					want := api.ErrDead
					if p.fuse != 0 {
						p.fuse, want = f, api.OK
					}
					if got := d.Fuse(f); got != want {
						t.Fatal("Fuse", got, want)
					}
				}
			case 5, 6:
				keep := make([]bool, r.Intn(n+2))
				for i := range keep {
					keep[i] = r.Intn(2) == 0
				}
				before := slices.Clone(keep)
				torn, cut := r.Intn(n+3)-1, []int{0, 1, 31, 63, 64}[r.Intn(5)]
				p.crash(keep, torn, cut)
				if e := d.Crash(keep, torn, cut); e != api.OK || !slices.Equal(keep, before) {
					t.Fatal("Crash", e)
				}
			}
			if d.Dead() != (p.fuse == 0) || !slices.Equal(d.Aside(), p.aside()) {
				t.Fatal("dead", d.Dead(), "aside", d.Aside())
			}
			for k := range n {
				if read(t, d, k) != p.read(k) {
					t.Fatal("sector", k)
				}
			}
		}
	}
}

func TestP3_4Flushed(t *testing.T) {
	d := made(t, 3)
	write(t, d, 1, full(1))
	d.Flush()
	write(t, d, 0, full(2))
	d.Crash(nil, 5, 64)
	if read(t, d, 1) != full(1) || read(t, d, 0) != full(0) {
		t.Error("what was flushed")
	}
}

func TestP3_5Torn(t *testing.T) {
	for cut := range api.Sector + 1 {
		for _, keep := range [][]bool{nil, {true, true, true}} {
			d := made(t, 4)
			write(t, d, 2, full(1))
			d.Flush()
			for _, k := range []int{3, 2, 0} {
				write(t, d, k, full(byte(10+k)))
			}
			d.Crash(keep, 1, cut)
			if got, want := read(t, d, 2), full(12)[:cut]+full(1)[cut:]; got != want {
				t.Error("torn at", cut)
			}
			kept := keep != nil
			if (read(t, d, 0) == full(10)) != kept || (read(t, d, 3) == full(13)) != kept {
				t.Error("kept", kept)
			}
		}
	}
}

func TestP3_6Fuses(t *testing.T) {
	for n := range 8 {
		d := made(t, 2)
		d.Fuse(n)
		for i := range n {
			if d.Dead() {
				t.Error(n, i)
			}
			if i%2 == 0 {
				write(t, d, 0, full(byte(i+1)))
			} else if e := d.Flush(); e != api.OK {
				t.Error(e)
			}
		}
		c := d.Copy()
		if !d.Dead() || d.Write(1, full(9)) != api.ErrDead || d.Flush() != api.ErrDead || d.Fuse(1) != api.ErrDead || !disk.Same(c, d) {
			t.Error("after", n)
		}
		d.Crash(nil, -1, 0)
		if d.Dead() || d.Write(1, full(9)) != api.OK {
			t.Error("after a crash")
		}
	}
}
