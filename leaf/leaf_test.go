package leaf_test

import (
	"math"
	"math/rand"
	"slices"
	"strings"
	"testing"

	"callboard/api"
	"callboard/leaf"
	"callboard/page"
)

func rep(n int) string { return strings.Repeat("k", n) }

func leafOf(l ...leaf.Entry) leaf.Node { return leaf.Node{Leaf: true, Entries: l} }

func inner(l ...leaf.Branch) leaf.Node { return leaf.Node{Branches: l} }

// body is the definition of a node's body, whatever its contents.
func body(n leaf.Node) string {
	s := "\x02"
	if n.Leaf {
		s = "\x01"
	}
	for _, e := range n.Entries {
		s += string([]byte{byte(len(e.Key))}) + e.Key + string([]byte{byte(len(e.Val))}) + e.Val
	}
	for _, b := range n.Branches {
		s += string([]byte{byte(len(b.Key))}) + b.Key + string([]byte{byte(b.Page >> 8), byte(b.Page)})
	}
	return s
}

func randomKeys(r *rand.Rand, n int) []string {
	var l []string
	for range n {
		b := make([]byte, 1+r.Intn(api.MaxKey))
		for i := range b {
			b[i] = byte(r.Intn(256))
		}
		l = append(l, string(b))
	}
	slices.Sort(l)
	return slices.Compact(l)
}

// random returns a valid node, which may be too large to fit.
func random(r *rand.Rand) leaf.Node {
	keys := randomKeys(r, r.Intn(14))
	if r.Intn(2) == 0 {
		n := leaf.Node{Leaf: true}
		for _, k := range keys {
			n.Entries = append(n.Entries, leaf.Entry{Key: k, Val: rep(r.Intn(1 + []int{3, 30, 100}[r.Intn(3)]))})
		}
		return n
	}
	var n leaf.Node
	for i, k := range keys {
		if i == 0 && r.Intn(2) == 0 {
			k = ""
		}
		n.Branches = append(n.Branches, leaf.Branch{Key: k, Page: 2 + r.Intn(api.MaxPages-2)})
	}
	return n
}

var valid = []leaf.Node{
	{Leaf: true}, {}, leafOf(leaf.Entry{Key: "a"}), leafOf(leaf.Entry{Key: rep(24), Val: rep(100)}), leafOf(leaf.Entry{Key: "a"}, leaf.Entry{Key: "aa"}, leaf.Entry{Key: "b"}),
	leafOf(leaf.Entry{Key: "\x7f"}, leaf.Entry{Key: "\x80"}), {Leaf: true, Branches: []leaf.Branch{}},
	inner(leaf.Branch{Key: "", Page: 2}), inner(leaf.Branch{Key: "a", Page: 1023}), inner(leaf.Branch{Key: "", Page: 2}, leaf.Branch{Key: "a", Page: 2}),
	inner(leaf.Branch{Key: "a", Page: 9}, leaf.Branch{Key: rep(24), Page: 8}),
}

var invalid = []leaf.Node{
	leafOf(leaf.Entry{Key: ""}), leafOf(leaf.Entry{Key: rep(25)}), leafOf(leaf.Entry{Key: "a", Val: rep(101)}), leafOf(leaf.Entry{Key: "a"}, leaf.Entry{Key: "a"}),
	leafOf(leaf.Entry{Key: "b"}, leaf.Entry{Key: "a"}), leafOf(leaf.Entry{Key: "aa"}, leaf.Entry{Key: "a"}), leafOf(leaf.Entry{Key: "\x80"}, leaf.Entry{Key: "\x7f"}),
	leafOf(leaf.Entry{Key: ""}, leaf.Entry{Key: "a"}), {Entries: []leaf.Entry{{Key: "a"}}}, {Leaf: true, Branches: []leaf.Branch{{Key: "a", Page: 2}}},
	{Leaf: true, Entries: []leaf.Entry{{Key: "a"}}, Branches: []leaf.Branch{{Key: "a", Page: 2}}},
	inner(leaf.Branch{Key: "", Page: 1}), inner(leaf.Branch{Key: "", Page: 0}), inner(leaf.Branch{Key: "", Page: -5}), inner(leaf.Branch{Key: "", Page: 1024}), inner(leaf.Branch{Key: "", Page: math.MaxInt}),
	inner(leaf.Branch{Key: rep(25), Page: 2}), inner(leaf.Branch{Key: "", Page: 2}, leaf.Branch{Key: "", Page: 3}), inner(leaf.Branch{Key: "b", Page: 2}, leaf.Branch{Key: "a", Page: 3}),
	inner(leaf.Branch{Key: "b", Page: 2}, leaf.Branch{Key: "", Page: 3}), inner(leaf.Branch{Key: "", Page: 2}, leaf.Branch{Key: rep(25), Page: 3}),
	inner(leaf.Branch{Key: "", Page: 2}, leaf.Branch{Key: "a", Page: 1}),
}

func TestP6_1Examples(t *testing.T) {
	n := leafOf(leaf.Entry{Key: "a", Val: "1"}, leaf.Entry{Key: "b", Val: "22"})
	s, e := leaf.Encode(n)
	if s != "\x01\x01a\x011\x01b\x0222" || e != api.OK || leaf.Size(n) != 10 {
		t.Errorf("%x, %v, size %d", s, e, leaf.Size(n))
	}
	b := []leaf.Branch{{Key: "", Page: 2}, {Key: "b", Page: 3}, {Key: "c", Page: 4}}
	if leaf.Place(b, "b") != 1 || leaf.Place(b, "aa") != 0 {
		t.Error("Place")
	}
	if s, e := leaf.Encode(inner(b...)); s != "\x02\x00\x00\x02\x01b\x00\x03\x01c\x00\x04" || e != api.OK {
		t.Errorf("%x, %v", s, e)
	}
	if s, e := leaf.Encode(inner(leaf.Branch{Page: 1023})); s != "\x02\x00\x03\xff" || e != api.OK {
		t.Errorf("%x, %v", s, e)
	}
}

func TestP6_1Valid(t *testing.T) {
	for _, n := range valid {
		if s, e := leaf.Encode(n); !leaf.May(n) || e != api.OK || s != body(n) {
			t.Errorf("%v: %v", n, e)
		}
	}
	for _, n := range invalid {
		if s, e := leaf.Encode(n); leaf.May(n) || e != api.ErrForm || s != "" {
			t.Errorf("%v: %v", n, e)
		}
		if leaf.Size(n) != len(body(n)) {
			t.Errorf("the size of %v: %d", n, leaf.Size(n))
		}
		if a, b, e := leaf.Split(n); e != api.ErrForm || !leaf.Same(a, leaf.Node{}) || !leaf.Same(b, leaf.Node{}) {
			t.Errorf("Split of %v: %v", n, e)
		}
		if s := body(n); len(s) <= page.MaxBody && len(n.Entries)*len(n.Branches) == 0 {
			want := n
			want.Leaf = s[0] == 1
			if got, e := leaf.Decode(s); e == api.OK && leaf.Same(got, n) || e != api.OK && !leaf.Same(got, leaf.Node{}) {
				t.Errorf("%v was decoded", n)
			}
		}
	}
}

func TestP6_1Fits(t *testing.T) {
	at := func(size int) leaf.Node {
		return leafOf(leaf.Entry{Key: "a", Val: rep(100)}, leaf.Entry{Key: "b", Val: rep(100)}, leaf.Entry{Key: "c", Val: rep(size - 1 - 103 - 103 - 3)})
	}
	for size, fits := range map[int]bool{253: true, 254: true, 255: false, 256: false, 280: false} {
		n := at(size)
		s, e := leaf.Encode(n)
		if leaf.Size(n) != size || leaf.Fits(n) != fits || (e == api.OK) != fits || !fits && (e != api.ErrTooLarge || s != "") {
			t.Errorf("size %d (%d): %v, %v", size, leaf.Size(n), leaf.Fits(n), e)
		}
	}
	bad := at(260)
	bad.Entries[1].Key = "a"
	if _, e := leaf.Encode(bad); e != api.ErrForm {
		t.Error("both invalid and too large:", e)
	}
}

func TestP6_1Decode(t *testing.T) {
	for s, want := range map[string]api.Errno{
		"": api.ErrShort, "\x00": api.ErrForm, "\x03": api.ErrForm, "\x03\x01": api.ErrForm, "\xff\xff\xff": api.ErrForm, "\x01": api.OK, "\x02": api.OK,
		"\x01\x01a": api.ErrShort, "\x01\x01": api.ErrShort, "\x01\x01a\x02b": api.ErrShort, "\x01\x01a\x00": api.OK, "\x01\x00\x00": api.ErrForm,
		"\x02\x00\x00": api.ErrShort, "\x02\x00": api.ErrShort, "\x02\x00\x00\x02": api.OK, "\x02\x00\x00\x01": api.ErrForm, "\x02\x00\x04\x00": api.ErrForm, "\x02\x02a\x00\x02": api.ErrShort,
		"\x01\x01a\x00\x01a\x00": api.ErrForm, "\x01\x01b\x00\x01a\x00": api.ErrForm,
		// What is missing comes before what is invalid.
		"\x01\x00\x00\x01": api.ErrShort, "\x01\x01b\x00\x01a": api.ErrShort, "\x02\x00\x00\x01\x05": api.ErrShort, "\x01\x19" + rep(24): api.ErrShort, "\x01\x19" + rep(25) + "\x00": api.ErrForm,
		"\x01\x01a\x65" + rep(101): api.ErrForm, "\x01\x01a\x65" + rep(100): api.ErrShort, "\x01\x01a\x64" + rep(100): api.OK,
		"\x01" + rep(254): api.ErrTooLarge, "\x03" + rep(254): api.ErrTooLarge, "\x03" + rep(253): api.ErrForm,
	} {
		n, e := leaf.Decode(s)
		if e != want || e != api.OK && !leaf.Same(n, leaf.Node{}) {
			t.Errorf("%q: %v, %v", s, n, e)
		}
	}
}

func TestP6_3Back(t *testing.T) {
	r := rand.New(rand.NewSource(11))
	fit := 0
	for range 3000 {
		n := random(r)
		if leaf.Size(n) != len(body(n)) || leaf.Fits(n) != (len(body(n)) <= page.MaxBody) || !leaf.May(n) {
			t.Fatal(n)
		}
		s, e := leaf.Encode(n)
		if !leaf.Fits(n) {
			if e != api.ErrTooLarge {
				t.Fatal(e)
			}
			continue
		}
		fit++
		back, e2 := leaf.Decode(s)
		if e != api.OK || e2 != api.OK || s != body(n) || !leaf.Same(back, n) {
			t.Fatal(n, e, e2)
		}
	}
	if fit < 500 {
		t.Error("too few nodes fit:", fit)
	}
	few := []byte{0, 1, 2, 3, 'a', 'b', 254}
	for range 50000 {
		b := make([]byte, r.Intn(16))
		for i := range b {
			b[i] = few[r.Intn(len(few))]
		}
		if n, e := leaf.Decode(string(b)); e == api.OK {
			if s, e := leaf.Encode(n); s != string(b) || e != api.OK {
				t.Fatalf("%q became %q", b, s)
			}
		}
	}
}

func TestP6_4Entries(t *testing.T) {
	r := rand.New(rand.NewSource(12))
	keys := randomKeys(r, 30)
	want := map[string]string{}
	var l []leaf.Entry
	for i := range 4000 {
		k, v := keys[r.Intn(len(keys))], rep(r.Intn(5))
		old := slices.Clone(l)
		_, had := want[k]
		if i%3 == 0 {
			next, was := leaf.Del(l, k)
			if was != had || !was && !slices.Equal(next, l) {
				t.Fatal("Del", was)
			}
			delete(want, k)
			if !slices.Equal(l, old) {
				t.Fatal("Del changed the list")
			}
			if len(next) > 0 && len(l) > 0 {
				next[0].Val += "!"
				if !slices.Equal(l, old) {
					t.Fatal("Del shares memory")
				}
				next[0].Val = strings.TrimSuffix(next[0].Val, "!")
			}
			l = next
		} else {
			next := leaf.Put(l, k, v)
			want[k] = v
			if !slices.Equal(l, old) {
				t.Fatal("Put changed the list")
			}
			l = next
		}
		if len(l) != len(want) || !slices.IsSortedFunc(l, func(a, b leaf.Entry) int { return strings.Compare(a.Key, b.Key) }) {
			t.Fatal("the order", l)
		}
		for _, k := range keys {
			v, ok := leaf.Find(l, k)
			if w, there := want[k]; ok != there || v != w {
				t.Fatal(k, v, ok)
			}
		}
	}
	if v, ok := leaf.Find(nil, "a"); v != "" || ok {
		t.Error("Find in nothing")
	}
	if l, ok := leaf.Del(nil, "a"); len(l) != 0 || ok {
		t.Error("Del from nothing")
	}
}

func TestR1ListsInNoOrder(t *testing.T) {
	r := rand.New(rand.NewSource(13))
	for range 2000 {
		var l []leaf.Entry
		var b []leaf.Branch
		for range r.Intn(9) {
			k := rep(r.Intn(4))
			l, b = append(l, leaf.Entry{Key: k}), append(b, leaf.Branch{Key: k})
		}
		k := rep(r.Intn(4))
		leaf.Find(l, k)
		leaf.Del(l, k)
		leaf.Put(l, k, "v")
		if i := leaf.Place(b, k); i < 0 || i > 0 && i >= len(b) {
			t.Fatal(i)
		}
	}
}

func TestP6_5Splitting(t *testing.T) {
	r := rand.New(rand.NewSource(14))
	part := func(n leaf.Node, from, to int) leaf.Node {
		if n.Leaf {
			return leaf.Node{Leaf: true, Entries: n.Entries[from:to]}
		}
		return leaf.Node{Branches: n.Branches[from:to]}
	}
	for range 3000 {
		n := random(r)
		count := len(n.Entries) + len(n.Branches)
		a, b, e := leaf.Split(n)
		if count < 2 {
			if e != api.ErrForm || !leaf.Same(a, leaf.Node{}) || !leaf.Same(b, leaf.Node{}) {
				t.Fatal(e)
			}
			continue
		}
		best, at := math.MaxInt, 0
		for i := 1; i < count; i++ {
			if g := max(leaf.Size(part(n, 0, i)), leaf.Size(part(n, i, count))); g < best {
				best, at = g, i
			}
		}
		if e != api.OK || !leaf.Same(a, part(n, 0, at)) || !leaf.Same(b, part(n, at, count)) {
			t.Fatalf("%v at %d: %v, %v, %v", n, at, a, b, e)
		}
		if leaf.Size(a) >= leaf.Size(n) || leaf.Size(b) >= leaf.Size(n) {
			t.Fatal("a part is no smaller")
		}
	}
	// Of several such indices the first.
	n := leafOf(leaf.Entry{Key: "a", Val: rep(9)}, leaf.Entry{Key: "b"}, leaf.Entry{Key: "c", Val: rep(9)})
	if a, _, _ := leaf.Split(n); len(a.Entries) != 1 {
		t.Error(a)
	}
	a, b, _ := leaf.Split(n)
	a.Entries[0].Val, b.Entries[0].Val = "!", "!"
	if n.Entries[0].Val == "!" || n.Entries[1].Val == "!" {
		t.Error("Split shares memory")
	}
}

func TestP6_5OneMoreEntry(t *testing.T) {
	r := rand.New(rand.NewSource(15))
	tried := 0
	for range 30000 {
		n := random(r)
		if !n.Leaf || !leaf.Fits(n) {
			continue
		}
		k := randomKeys(r, 1)[0] + rep(24)
		n.Entries = leaf.Put(n.Entries, k[:24], rep([]int{0, 50, 99, 100}[r.Intn(4)]))
		if leaf.Fits(n) {
			continue
		}
		tried++
		if a, b, e := leaf.Split(n); e != api.OK || !leaf.Fits(a) || !leaf.Fits(b) {
			t.Fatal(n, e)
		}
	}
	if tried < 100 {
		t.Error("too few were split:", tried)
	}
}

func TestP6_6Branches(t *testing.T) {
	r := rand.New(rand.NewSource(16))
	for range 2000 {
		var b []leaf.Branch
		for i, k := range randomKeys(r, r.Intn(9)) {
			if i == 0 && r.Intn(2) == 0 {
				k = ""
			}
			b = append(b, leaf.Branch{Key: k, Page: 2})
		}
		key := randomKeys(r, 1)[0]
		if len(b) > 0 && r.Intn(2) == 0 {
			key = b[r.Intn(len(b))].Key
		}
		want := 0
		for i, x := range b {
			if x.Key <= key {
				want = i
			}
		}
		if got := leaf.Place(b, key); got != want {
			t.Fatal(b, key, got)
		}
	}
	if leaf.Place(nil, "a") != 0 {
		t.Error("Place in nothing")
	}
}

func TestP6_1Same(t *testing.T) {
	all := append(slices.Clone(valid[:6]), valid[7:]...)
	for i, a := range all {
		for j, b := range all {
			if leaf.Same(a, b) != (i == j) {
				t.Error(a, b)
			}
		}
	}
	if !leaf.Same(leaf.Node{Leaf: true, Entries: []leaf.Entry{}}, leaf.Node{Leaf: true, Branches: []leaf.Branch{}}) {
		t.Error("none and empty")
	}
	if leaf.Same(leafOf(leaf.Entry{Key: "a", Val: "1"}), leafOf(leaf.Entry{Key: "a", Val: "2"})) || leaf.Same(inner(leaf.Branch{Page: 2}), inner(leaf.Branch{Page: 3})) {
		t.Error("other contents")
	}
}
