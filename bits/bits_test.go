package bits_test

import (
	"math"
	"math/rand"
	"slices"
	"testing"

	"callboard/api"
	"callboard/bits"
)

var outside = []int{-1, -64, math.MinInt, api.MaxPages, api.MaxPages + 1, 4096, math.MaxInt}

var edges = []int{0, 1, 62, 63, 64, 65, 127, 128, 511, 512, 1000, api.MaxPages - 2, api.MaxPages - 1}

// plain is a set as a table of what it has.
type plain [api.MaxPages]bool

func (p plain) set() bits.Set {
	var s bits.Set
	for n, has := range p {
		if has {
			s[n/64] |= 1 << (n % 64)
		}
	}
	return s
}

func random(r *rand.Rand) plain {
	var p plain
	part := []int{2, 10, 500}[r.Intn(3)]
	for n := range p {
		p[n] = r.Intn(part) == 0
	}
	return p
}

func TestP5_1Examples(t *testing.T) {
	s := bits.Of([]int{3, 64, 3})
	if s.Len() != 2 || !s.Has(3) || !s.Has(64) || s.Has(4) {
		t.Error(s)
	}
	if n, ok := s.Next(4); n != 64 || !ok {
		t.Error(n, ok)
	}
	if s.Without(3) != bits.Of([]int{64}) || !slices.Equal(s.All(), []int{3, 64}) {
		t.Error(s.Without(3))
	}
	b := bits.Below(65)
	if b.Len() != 65 || !b.Has(64) || b.Has(65) {
		t.Error(b)
	}
	if bits.Of([]int{-1, 1024}) != (bits.Set{}) || bits.Of(nil) != (bits.Set{}) {
		t.Error("Of numbers outside")
	}
	if s[0] != 8 || s[1] != 1 {
		t.Error("words", s[0], s[1])
	}
}

func TestP5_1Outside(t *testing.T) {
	for _, s := range []bits.Set{{}, bits.Below(api.MaxPages), bits.Of(edges)} {
		for _, n := range outside {
			if s.Has(n) || s.With(n) != s || s.Without(n) != s {
				t.Error(n)
			}
		}
	}
	if bits.Below(-5) != (bits.Set{}) || bits.Below(0) != (bits.Set{}) || bits.Below(math.MaxInt) != bits.Below(api.MaxPages) {
		t.Error("Below numbers outside")
	}
	full := bits.Below(api.MaxPages)
	for n, want := range map[int]int{-1: 0, math.MinInt: 0, 0: 0, 1023: 1023} {
		if got, ok := full.Next(n); got != want || !ok {
			t.Error(n, got, ok)
		}
	}
	for _, n := range []int{1024, 1025, math.MaxInt} {
		if got, ok := full.Next(n); got != 0 || ok {
			t.Error(n, got, ok)
		}
	}
	if got, ok := (bits.Set{}).Next(0); got != 0 || ok || len((bits.Set{}).All()) != 0 {
		t.Error("the empty set", got, ok)
	}
}

func TestP5_3Membership(t *testing.T) {
	r := rand.New(rand.NewSource(7))
	for range 30 {
		p, q := random(r), random(r)
		s, u := p.set(), q.set()
		or, and, less := s.Or(u), s.And(u), s.Less(u)
		for n := range p {
			if s.Has(n) != p[n] || or.Has(n) != (p[n] || q[n]) || and.Has(n) != (p[n] && q[n]) || less.Has(n) != (p[n] && !q[n]) {
				t.Fatal(n)
			}
		}
		for _, k := range edges {
			with, without, below := s.With(k), s.Without(k), bits.Below(k)
			for n := range p {
				if with.Has(n) != (p[n] || n == k) || without.Has(n) != (p[n] && n != k) || below.Has(n) != (n < k) {
					t.Fatal(k, n)
				}
			}
		}
	}
}

func TestP5_4Laws(t *testing.T) {
	r := rand.New(rand.NewSource(8))
	for range 50 {
		a, b, c := random(r).set(), random(r).set(), random(r).set()
		if a.Or(b) != b.Or(a) || a.And(b) != b.And(a) || a.Or(b).Or(c) != a.Or(b.Or(c)) || a.And(b).And(c) != a.And(b.And(c)) {
			t.Fatal("commutative, associative")
		}
		if a.And(b.Or(c)) != a.And(b).Or(a.And(c)) || a.Less(b).Or(a.And(b)) != a {
			t.Fatal("distributive, less")
		}
	}
}

func TestP5_5Counting(t *testing.T) {
	for n := range api.MaxPages + 1 {
		if got := bits.Below(n).Len(); got != n {
			t.Error(n, got)
		}
	}
	r := rand.New(rand.NewSource(9))
	for range 50 {
		a, b := random(r).set(), random(r).set()
		if a.Or(b).Len()+a.And(b).Len() != a.Len()+b.Len() {
			t.Fatal("the Lens")
		}
	}
}

func TestP5_6Iteration(t *testing.T) {
	r := rand.New(rand.NewSource(10))
	for range 30 {
		p := random(r)
		var want []int
		for n, has := range p {
			if has {
				want = append(want, n)
			}
		}
		s := p.set()
		var got []int
		for n, ok := s.Next(0); ok; n, ok = s.Next(n + 1) {
			got = append(got, n)
		}
		if !slices.Equal(got, want) || !slices.Equal(s.All(), want) || bits.Of(want) != s {
			t.Fatal(got, want)
		}
		for n := range api.MaxPages {
			at, found := slices.BinarySearch(want, n)
			if k, ok := s.Next(n); ok != (at < len(want)) || ok && k != want[at] || found && k != n {
				t.Fatal(n, k, ok)
			}
		}
	}
}

func TestP5_7Values(t *testing.T) {
	s := bits.Of(edges)
	c := s
	s.With(2)
	s.Without(1)
	s.Or(bits.Below(900))
	s.And(bits.Set{})
	s.Less(s)
	if s != c {
		t.Error("an operation changed the set")
	}
	l := []int{5, 6}
	d := bits.Of(l)
	l[0] = 9
	if !d.Has(5) || d.Has(9) || !slices.Equal(l, []int{9, 6}) {
		t.Error("the list")
	}
	if bits.Of([]int{1, 700, 2}) != bits.Of([]int{700, 2, 1, 1}) || bits.Of([]int{1}) == bits.Of([]int{2}) {
		t.Error("equality")
	}
}
