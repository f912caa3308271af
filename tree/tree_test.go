package tree_test

import (
	"maps"
	"math"
	"math/rand"
	"slices"
	"strings"
	"testing"

	"callboard/api"
	"callboard/bits"
	"callboard/disk"
	"callboard/leaf"
	"callboard/page"
	"callboard/tree"
)

func made(t *testing.T, pages int) *disk.Disk {
	t.Helper()
	d, e := disk.New(4 * pages)
	if e != api.OK {
		t.Fatal(e)
	}
	return d
}

func all() bits.Set { return bits.Below(api.MaxPages) }

func rep(n int) string { return strings.Repeat("v", n) }

// set writes a node to a page by hand.
func set(t *testing.T, d *disk.Disk, n int, node leaf.Node) {
	t.Helper()
	s, e := leaf.Encode(node)
	if e != api.OK {
		t.Fatal(e)
	}
	if e := page.Write(d, n, s); e != api.OK {
		t.Fatal(e)
	}
}

func entries(m map[string]string, from string) []leaf.Entry {
	var l []leaf.Entry
	for _, k := range slices.Sorted(maps.Keys(m)) {
		if k >= from {
			l = append(l, leaf.Entry{Key: k, Val: m[k]})
		}
	}
	return l
}

func list(t *testing.T, x *tree.Tree, from string) []leaf.Entry {
	t.Helper()
	l, e := x.List(from)
	if e != api.OK {
		t.Fatal(e)
	}
	return l
}

func pages(t *testing.T, x *tree.Tree) bits.Set {
	t.Helper()
	s, e := x.Pages()
	if e != api.OK {
		t.Fatal(e)
	}
	return s
}

// sound checks the nodes below a page: no node has nothing, keys are where they belong, first keys are empty, leaves are equally deep.
func sound(t *testing.T, d *disk.Disk, root int) {
	t.Helper()
	if root == 0 {
		return
	}
	var visit func(n int, low, high string, top bool) int
	visit = func(n int, low, high string, top bool) int {
		s, e := page.Read(d, n)
		if e != api.OK {
			t.Fatal(n, e)
		}
		node, e := leaf.Decode(s)
		if e != api.OK || len(node.Entries)+len(node.Branches) == 0 || top && len(node.Branches) == 1 {
			t.Fatal(n, e, node)
		}
		for _, x := range node.Entries {
			if x.Key < low || high != "" && x.Key >= high {
				t.Fatalf("key %q not from %q to %q", x.Key, low, high)
			}
		}
		depth := 0
		for i, b := range node.Branches {
			if (b.Key == "") != (i == 0) || i > 0 && b.Key <= low {
				t.Fatalf("branch %d has the key %q", i, b.Key)
			}
			from, to := max(b.Key, low), high
			if i+1 < len(node.Branches) {
				to = node.Branches[i+1].Key
			}
			below := visit(b.Page, from, to, false)
			if i > 0 && below != depth {
				t.Fatal("leaves of different depths")
			}
			depth = below
		}
		return depth + 1
	}
	visit(root, "", "", true)
}

func TestP7_1Examples(t *testing.T) {
	d := made(t, 10)
	x := tree.Open(d, 0, all())
	if !slices.Equal(x.Free().All(), []int{2, 3, 4, 5, 6, 7, 8, 9}) || x.Root() != 0 || x.Fresh().Len() != 0 {
		t.Error(x.Free().All())
	}
	if v, ok, e := x.Get("a"); v != "" || ok || e != api.OK {
		t.Error("a key of an empty tree", v, ok, e)
	}
	if e := x.Put("a", "1"); e != api.OK || x.Root() != 2 || x.Free().Has(2) {
		t.Error(e, x.Root())
	}
	if v, ok, e := x.Get("a"); v != "1" || !ok || e != api.OK {
		t.Error(v, ok, e)
	}
	if e := x.Put("a", "2"); e != api.OK || x.Root() != 3 || !x.Free().Has(2) || x.Free().Has(3) {
		t.Error(e, x.Root())
	}
	if v, ok, e := x.Get("b"); v != "" || ok || e != api.OK {
		t.Error(v, ok, e)
	}
	if e := x.Del("b"); e != api.ErrNone || x.Root() != 3 {
		t.Error(e)
	}
	if e := x.Del("a"); e != api.OK || x.Root() != 0 || x.Free().Len() != 8 || x.Fresh().Len() != 0 {
		t.Error(e, x.Root())
	}
	if e := x.Del("a"); e != api.ErrNone {
		t.Error(e)
	}
	if e := x.Put("", "1"); e != api.ErrArg {
		t.Error(e)
	}
	if tree.Open(d, 7, bits.Of([]int{0, 1, 2, 9, 10, 11})).Free() != bits.Of([]int{2, 9}) {
		t.Error("pages that are not free")
	}
}

func TestP7_1Order(t *testing.T) {
	d := made(t, 30)
	x := tree.Open(d, 0, all())
	step := func(e api.Errno, root int, free []int) {
		t.Helper()
		used := bits.Below(30).Less(bits.Below(2)).Less(x.Free())
		if e != api.OK || x.Root() != root || !slices.Equal(used.All(), free) {
			t.Errorf("%v: root %d, not free %v", e, x.Root(), used.All())
		}
	}
	step(x.Put("b", rep(100)), 2, []int{2})
	step(x.Put("c", rep(100)), 3, []int{3})
	// Split: the lesser part on 2, the other one on 4, then the new root.
	step(x.Put("a", rep(100)), 5, []int{2, 4, 5})
	if v, ok, _ := x.Get("c"); v != rep(100) || !ok {
		t.Error("c")
	}
	sound(t, d, x.Root())
	// The leaf of b and c is on 4: it, and the root, are written anew.
	step(x.Put("bb", "1"), 6, []int{2, 3, 6})
	step(x.Put("bb", ""), 5, []int{2, 4, 5})
	// The leaf of a goes; a root with a single branch is replaced by that.
	step(x.Del("a"), 4, []int{4})
	sound(t, d, x.Root())
	step(x.Del("c"), 2, []int{2})
	step(x.Del("bb"), 3, []int{3})
	step(x.Del("b"), 0, nil)
}

func TestP7_1Errors(t *testing.T) {
	d := made(t, 10)
	x := tree.Open(d, 0, bits.Set{})
	for _, k := range []string{"", rep(api.MaxKey + 1), rep(300)} {
		if _, _, e := x.Get(k); e != api.ErrArg {
			t.Error("Get", len(k), e)
		}
		if e := x.Put(k, ""); e != api.ErrArg {
			t.Error("Put", len(k), e)
		}
		if e := x.Del(k); e != api.ErrArg {
			t.Error("Del", len(k), e)
		}
	}
	if e := x.Put("a", rep(api.MaxBytes+1)); e != api.ErrArg {
		t.Error(e)
	}
	if e := x.Put("a", ""); e != api.ErrFull {
		t.Error(e)
	}
	if e := x.Del("a"); e != api.ErrNone {
		t.Error(e)
	}
	x = tree.Open(d, 0, all())
	if e := x.Put(rep(api.MaxKey), rep(api.MaxBytes)); e != api.OK {
		t.Error(e)
	}
	if v, ok, e := x.Get(rep(api.MaxKey)); v != rep(api.MaxBytes) || !ok || e != api.OK {
		t.Error(ok, e)
	}
	d.Fuse(0)
	if e := x.Put("a", ""); e != api.ErrDead {
		t.Error(e)
	}
	if e := tree.Open(d, 0, bits.Set{}).Put("a", ""); e != api.ErrFull {
		t.Error("both full and dead", e)
	}
}

func TestR1Nil(t *testing.T) {
	var none *tree.Tree
	for _, x := range []*tree.Tree{none, tree.Open(nil, 0, all()), tree.Open(nil, 5, all())} {
		v, ok, e1 := x.Get("")
		l, e2 := x.List("")
		s, e3 := x.Pages()
		if v != "" || ok || l != nil || s != (bits.Set{}) || x.Root() != 0 || x.Fresh() != s || x.Free() != s {
			t.Error("something of nil")
		}
		for _, e := range []api.Errno{e1, e2, e3, x.Put("", ""), x.Del("")} {
			if e != api.ErrNil {
				t.Error(e)
			}
		}
	}
}

// unreadable returns trees (disks and roots) that cannot be read on the way to the key m, each with its error.
func unreadable(t *testing.T) map[string]struct {
	d    *disk.Disk
	root int
	e    api.Errno
} {
	type bad = struct {
		d    *disk.Disk
		root int
		e    api.Errno
	}
	inner := func(n int) leaf.Node { return leaf.Node{Branches: []leaf.Branch{{Page: n}}} }
	short := made(t, 20)
	page.Write(short, 5, "\x01\x01")
	form := made(t, 20)
	page.Write(form, 5, "\x07")
	size := made(t, 20)
	size.Write(20, "\xff\xff"+strings.Repeat("\x00", 62))
	outside := made(t, 20)
	set(t, outside, 5, inner(900))
	loop := made(t, 20)
	set(t, loop, 5, inner(6))
	set(t, loop, 6, inner(5))
	self := made(t, 20)
	set(t, self, 5, inner(5))
	deep := made(t, 40)
	for n := 5; n < 5+16; n++ {
		set(t, deep, n, inner(n+1))
	}
	set(t, deep, 5+16, leaf.Node{Leaf: true, Entries: []leaf.Entry{{Key: "a"}}})
	// What is too deep is not looked at.
	deeper := deep.Copy()
	page.Write(deeper, 5+16, "")
	return map[string]bad{
		"short": {short, 5, api.ErrShort}, "empty": {made(t, 20), 5, api.ErrShort}, "form": {form, 5, api.ErrForm}, "size": {size, 5, api.ErrForm},
		"outside": {outside, 5, api.ErrNone}, "no page": {made(t, 20), 20, api.ErrNone}, "far": {made(t, 20), math.MaxInt, api.ErrNone}, "negative": {made(t, 20), -1, api.ErrNone},
		"loop": {loop, 5, api.ErrForm}, "self": {self, 5, api.ErrForm}, "deep": {deep, 5, api.ErrForm}, "deeper": {deeper, 5, api.ErrForm},
	}
}

func TestP7_1Unreadable(t *testing.T) {
	for name, c := range unreadable(t) {
		x := tree.Open(c.d, c.root, bits.Of([]int{2, 3, 4}))
		before := c.d.Copy()
		v, ok, e1 := x.Get("m")
		l, e2 := x.List("zzz")
		s, e3 := x.Pages()
		for i, e := range []api.Errno{e1, e2, e3, x.Put("m", "1"), x.Del("m")} {
			if e != c.e {
				t.Errorf("%s, call %d: %v, want %v", name, i, e, c.e)
			}
		}
		if v != "" || ok || l != nil || s != (bits.Set{}) || x.Root() != c.root || x.Free().Len() != 3 || x.Fresh().Len() != 0 || !disk.Same(c.d, before) {
			t.Error(name, "something changed")
		}
	}
}

func TestP7_1Depth16(t *testing.T) {
	d := made(t, 60)
	for n := 5; n < 5+15; n++ {
		set(t, d, n, leaf.Node{Branches: []leaf.Branch{{Page: n + 1}, {Key: "zzz", Page: 4}}})
	}
	set(t, d, 5+15, leaf.Node{Leaf: true, Entries: []leaf.Entry{{Key: "a", Val: "1"}}})
	x := tree.Open(d, 5, bits.Below(60).Less(bits.Below(25)))
	if v, ok, e := x.Get("a"); v != "1" || !ok || e != api.OK {
		t.Error(v, ok, e)
	}
	if e := x.Put("b", "2"); e != api.OK {
		t.Error(e)
	}
	if v, ok, e := x.Get("b"); v != "2" || !ok || e != api.OK {
		t.Error(v, ok, e)
	}
	// The deepest leaf is written first, the root last.
	if x.Root() != 25+15 {
		t.Error(x.Root())
	}
}

func TestP7_1List16(t *testing.T) {
	d := made(t, 60)
	for n := 5; n < 5+15; n++ {
		set(t, d, n, leaf.Node{Branches: []leaf.Branch{{Page: n + 1}}})
	}
	set(t, d, 5+15, leaf.Node{Leaf: true, Entries: []leaf.Entry{{Key: "a", Val: "1"}}})
	x := tree.Open(d, 5, bits.Set{})
	if l, e := x.List(""); e != api.OK || !slices.Equal(l, []leaf.Entry{{Key: "a", Val: "1"}}) {
		t.Error(l, e)
	}
	if s, e := x.Pages(); e != api.OK || s != bits.Below(21).Less(bits.Below(5)) {
		t.Error(s.All(), e)
	}
}

func TestP7_2Twice(t *testing.T) {
	d := made(t, 20)
	set(t, d, 5, leaf.Node{Branches: []leaf.Branch{{Page: 6}, {Key: "m", Page: 6}}})
	set(t, d, 6, leaf.Node{Leaf: true, Entries: []leaf.Entry{{Key: "a", Val: "1"}}})
	x := tree.Open(d, 5, all())
	if l, e := x.List(""); l != nil || e != api.ErrForm {
		t.Error(l, e)
	}
	if s, e := x.Pages(); s != (bits.Set{}) || e != api.ErrForm {
		t.Error(e)
	}
	if v, ok, e := x.Get("a"); v != "1" || !ok || e != api.OK {
		t.Error(v, ok, e)
	}
}

func TestR1EmptyNodes(t *testing.T) {
	for _, node := range []leaf.Node{{}, {Leaf: true}} {
		d := made(t, 20)
		set(t, d, 5, node)
		x := tree.Open(d, 5, bits.Of([]int{2, 3}))
		if _, ok, e := x.Get("a"); ok || e != api.OK {
			t.Error(ok, e)
		}
		if e := x.Del("a"); e != api.ErrNone {
			t.Error(e)
		}
		if e := x.Put("a", "1"); e != api.OK {
			t.Error(e)
		}
		if v, ok, e := x.Get("a"); v != "1" || !ok || e != api.OK {
			t.Error(v, ok, e)
		}
	}
}

func TestP7_1SingleBranches(t *testing.T) {
	// When the leaf of z goes, the root and the node on 6 have a single branch: 7 is the root.
	d := made(t, 20)
	set(t, d, 5, leaf.Node{Branches: []leaf.Branch{{Page: 6}, {Key: "m", Page: 8}}})
	set(t, d, 6, leaf.Node{Branches: []leaf.Branch{{Page: 7}}})
	set(t, d, 7, leaf.Node{Leaf: true, Entries: []leaf.Entry{{Key: "a", Val: "1"}}})
	set(t, d, 8, leaf.Node{Branches: []leaf.Branch{{Page: 9}}})
	set(t, d, 9, leaf.Node{Leaf: true, Entries: []leaf.Entry{{Key: "z"}}})
	x := tree.Open(d, 5, bits.Of([]int{10}))
	if e := x.Del("z"); e != api.OK || x.Root() != 7 || x.Free() != bits.Of([]int{10}) || x.Fresh() != (bits.Set{}) {
		t.Error(e, x.Root(), x.Free().All(), x.Fresh().All())
	}
	// What was written is the root with its single branch, and nothing else.
	body, e := page.Read(d, 10)
	if node, e2 := leaf.Decode(body); e != api.OK || e2 != api.OK || !leaf.Same(node, leaf.Node{Branches: []leaf.Branch{{Page: 6}}}) {
		t.Error(node, e, e2)
	}
	// A root that has a single branch before the call is replaced by the call.
	set(t, d, 5, leaf.Node{Branches: []leaf.Branch{{Page: 6}}})
	x = tree.Open(d, 5, bits.Of([]int{10, 11, 12, 13}))
	if e := x.Put("b", "2"); e != api.OK || x.Root() != 10 || x.Fresh() != bits.Of([]int{10}) || x.Free() != bits.Of([]int{11, 12, 13}) {
		t.Error(e, x.Root(), x.Free().All(), x.Fresh().All())
	}
	// Single branches that go round end all the same.
	set(t, d, 5, leaf.Node{Branches: []leaf.Branch{{Page: 6}, {Key: "m", Page: 8}}})
	set(t, d, 6, leaf.Node{Branches: []leaf.Branch{{Page: 6}}})
	x = tree.Open(d, 5, bits.Of([]int{10}))
	if e := x.Del("z"); e != api.ErrForm || x.Root() != 5 || x.Free() != bits.Of([]int{10}) {
		t.Error(e, x.Root())
	}
}

// TestP7_1RootWritten: a root with a single branch is written before it is replaced, so that this needs a page, and the disk.
func TestP7_1RootWritten(t *testing.T) {
	build := func(free bits.Set) (*disk.Disk, *tree.Tree) {
		d := made(t, 30)
		x := tree.Open(d, 0, all())
		for _, k := range []string{"a", "b", "c"} {
			if e := x.Put(k, rep(100)); e != api.OK {
				t.Fatal(e)
			}
		}
		return d, tree.Open(d, x.Root(), free)
	}
	// The last key of a leaf goes: of the two leaves one stays, which is the new root.
	for _, keys := range [][]string{{"a"}, {"b", "c"}, {"c", "b"}} {
		d, x := build(bits.Below(30).Less(bits.Below(20)))
		free := x.Free()
		for _, k := range keys {
			if e := x.Del(k); e != api.OK {
				t.Error(k, e)
			}
		}
		if x.Free() != free || x.Fresh() != (bits.Set{}) {
			t.Error(keys, x.Free().All(), x.Fresh().All())
		}
		if got, e := page.Read(d, x.Root()); e != api.OK || got[0] != 1 {
			t.Error(keys, "the root is no leaf", e)
		}
	}
	_, x := build(bits.Set{})
	before := look(t, x)
	if e := x.Del("a"); e != api.ErrFull || !same(look(t, x), before) {
		t.Error(e)
	}
	for fuse := range 5 {
		d, x := build(bits.Of([]int{25}))
		before := look(t, x)
		d.Fuse(fuse)
		e := x.Del("a")
		if fuse < 4 && (e != api.ErrDead || !same(look(t, x), before)) {
			t.Error(fuse, e)
		}
		if fuse == 4 && (e != api.OK || !d.Dead() || x.Free() != bits.Of([]int{25})) {
			t.Error(fuse, e, x.Free().All())
		}
	}
}

// plainTree is the chapter's Terms, word by word, in memory.
type plainTree struct {
	pages       map[int]leaf.Node
	root        int
	free, fresh bits.Set
}

// change does what a call does, and returns the pages that it writes, in order.
func (m *plainTree) change(key string, edit func([]leaf.Entry) []leaf.Entry) []int {
	var path, at, wrote []int
	gone := bits.Set{}
	n := m.root
	for ; n != 0; n = m.pages[n].Branches[at[len(at)-1]].Page {
		path = append(path, n)
		if m.pages[n].Leaf {
			break
		}
		i := 0
		for j, b := range m.pages[n].Branches {
			if j > 0 && b.Key <= key {
				i = j
			}
		}
		at = append(at, i)
	}
	write := func(node leaf.Node) leaf.Branch {
		var least string
		if node.Leaf {
			least = node.Entries[0].Key
		} else {
			least = node.Branches[0].Key
			node.Branches = append([]leaf.Branch{{Page: node.Branches[0].Page}}, node.Branches[1:]...)
		}
		p, _ := m.free.Next(0)
		m.free, m.fresh = m.free.Without(p), m.fresh.With(p)
		m.pages[p] = node
		wrote = append(wrote, p)
		return leaf.Branch{Key: least, Page: p}
	}
	// A node becomes nothing, itself, or two parts.
	became := func(node leaf.Node) []leaf.Branch {
		if len(node.Entries)+len(node.Branches) == 0 {
			return nil
		}
		if leaf.Fits(node) {
			return []leaf.Branch{write(node)}
		}
		a, b, _ := leaf.Split(node)
		return []leaf.Branch{write(a), write(b)}
	}
	leave := func(p int) {
		if m.fresh.Has(p) {
			gone = gone.With(p)
		}
	}
	for _, p := range path {
		leave(p)
	}
	node := leaf.Node{Leaf: true}
	if len(path) > 0 {
		node.Entries = m.pages[path[len(path)-1]].Entries
	}
	node.Entries = edit(node.Entries)
	l := became(node)
	for i := len(at) - 1; i >= 0; i-- {
		old := m.pages[path[i]].Branches
		if len(l) > 0 {
			l[0].Key = old[at[i]].Key
		}
		l = became(leaf.Node{Branches: slices.Concat(old[:at[i]], l, old[at[i]+1:])})
	}
	m.root = 0
	if len(l) > 1 {
		l[0].Key = ""
		l = became(leaf.Node{Branches: l})
	}
	if len(l) > 0 {
		m.root = l[0].Page
	}
	for m.root != 0 && len(m.pages[m.root].Branches) == 1 {
		leave(m.root)
		m.root = m.pages[m.root].Branches[0].Page
	}
	m.free, m.fresh = m.free.Or(gone), m.fresh.Less(gone)
	return wrote
}

// TestP7_1WordByWord: every page that is written, in order, and what the tree has then.
func TestP7_1WordByWord(t *testing.T) {
	replaced := 0
	for seed := range int64(6) {
		r := rand.New(rand.NewSource(900 + seed))
		d := made(t, 100)
		x := tree.Open(d, 0, all())
		m := &plainTree{pages: map[int]leaf.Node{}, free: bits.Below(100).Less(bits.Below(2))}
		puts, keys := 6, []string{}
		for step := range 500 {
			if step%80 == 0 {
				puts = 9 - puts + r.Intn(2)
			}
			key, val := keyOf(r, 120), rep(r.Intn(101))
			put := r.Intn(9) < puts
			if !put && len(keys) > 0 {
				key = keys[r.Intn(len(keys))]
			}
			there := slices.Contains(keys, key)
			if !put && !there {
				continue
			}
			tall := len(m.pages[m.root].Branches) > 0
			var wrote []int
			if put {
				wrote = m.change(key, func(l []leaf.Entry) []leaf.Entry { return leaf.Put(l, key, val) })
				if !there {
					keys = append(keys, key)
				}
			} else {
				wrote = m.change(key, func(l []leaf.Entry) []leaf.Entry { l, _ = leaf.Del(l, key); return l })
				keys = slices.DeleteFunc(keys, func(k string) bool { return k == key })
			}
			if tall && m.root != 0 && !m.fresh.Has(m.root) || len(wrote) > 0 && m.root != wrote[len(wrote)-1] {
				replaced++
			}
			if len(wrote) > 0 {
				less := d.Copy()
				less.Fuse(4*len(wrote) - 1)
				if e := apply(tree.Open(less, x.Root(), x.Free()), put, key, val); e != api.ErrDead {
					t.Fatal(key, e, "writes less than", wrote)
				}
				full := tree.Open(d.Copy(), x.Root(), bits.Of(x.Free().All()[:len(wrote)-1]))
				if e := apply(full, put, key, val); e != api.ErrFull {
					t.Fatal(key, e, "needs less pages than", wrote)
				}
			}
			d.Fuse(4 * len(wrote))
			if e := apply(x, put, key, val); e != api.OK || !d.Dead() {
				t.Fatal(key, e, "writes more, or less, than", wrote)
			}
			d.Crash(keepAll, -1, 0)
			if x.Root() != m.root || x.Free() != m.free || x.Fresh() != m.fresh {
				t.Fatal(key, x.Root(), m.root, x.Free().All(), m.free.All())
			}
			for _, p := range wrote {
				want, _ := leaf.Encode(m.pages[p])
				if body, e := page.Read(d, p); body != want || e != api.OK {
					t.Fatal(p, body, want, e)
				}
			}
			if step%100 == 99 {
				x = tree.Open(d, x.Root(), x.Free())
				m.fresh = bits.Set{}
			}
		}
	}
	if replaced < 10 {
		t.Error("too few roots were replaced:", replaced)
	}
}

// keepAll keeps everything that was not flushed.
var keepAll = slices.Repeat([]bool{true}, 4*api.MaxPages)

func apply(x *tree.Tree, put bool, key, val string) api.Errno {
	if put {
		return x.Put(key, val)
	}
	return x.Del(key)
}

// keyOf returns one of some keys of many lengths.
func keyOf(r *rand.Rand, some int) string {
	n := r.Intn(some)
	k := string([]byte{byte('a' + n%7), byte('a' + n/7%26), byte('a' + n/182)})
	return k + rep(n%22)
}

// TestP7_3To8Random holds a tree against a map: entries (P7.3), pages (P7.5), what the old root reads (P7.4), and nothing left at the end (P7.8).
func TestP7_3To8Random(t *testing.T) {
	for seed := range int64(12) {
		r := rand.New(rand.NewSource(20 + seed))
		d := made(t, 300)
		want := map[string]string{}
		x := tree.Open(d, 0, all())
		for range 4 {
			oldRoot, oldPages, oldList, free := x.Root(), pages(t, x), entries(want, ""), bits.Below(300).Less(bits.Below(2)).Less(pages(t, x))
			old := tree.Open(d, oldRoot, bits.Set{})
			x = tree.Open(d, oldRoot, free)
			puts := 1 + r.Intn(9)
			for range 250 {
				k := keyOf(r, 200)
				_, had := want[k]
				if r.Intn(10) < puts {
					v := rep(r.Intn(101))
					if e := x.Put(k, v); e != api.OK {
						t.Fatal(e)
					}
					want[k] = v
				} else {
					if e := x.Del(k); (e == api.OK) != had || !had && e != api.ErrNone {
						t.Fatal(e)
					}
					delete(want, k)
				}
			}
			check(t, x, want, r)
			sound(t, d, x.Root())
			used := pages(t, x)
			if x.Free() != free.Less(x.Fresh()) || used.Less(oldPages.Or(x.Fresh())) != (bits.Set{}) || x.Fresh().Less(used) != (bits.Set{}) || x.Fresh().Less(free) != (bits.Set{}) {
				t.Fatal("pages", used.All(), x.Fresh().All(), x.Free().All())
			}
			if !slices.Equal(list(t, old, ""), oldList) {
				t.Fatal("the old root reads something else")
			}
			if r.Intn(2) == 0 {
				d.Flush()
			}
		}
		for k := range maps.Clone(want) {
			if e := x.Del(k); e != api.OK {
				t.Fatal(e)
			}
		}
		if x.Root() != 0 || pages(t, x) != (bits.Set{}) || x.Fresh() != (bits.Set{}) || len(list(t, x, "")) != 0 {
			t.Fatal("something is left")
		}
	}
}

func check(t *testing.T, x *tree.Tree, want map[string]string, r *rand.Rand) {
	t.Helper()
	if !slices.Equal(list(t, x, ""), entries(want, "")) {
		t.Fatal("List")
	}
	for range 50 {
		k := keyOf(r, 300)
		v, ok, e := x.Get(k)
		if w, there := want[k]; v != w || ok != there || e != api.OK {
			t.Fatal("Get", k, v, ok, e)
		}
		if !slices.Equal(list(t, x, k), entries(want, k)) {
			t.Fatal("List from", k)
		}
	}
}

// snapshot is all that can be seen of a tree.
type snapshot struct {
	root               int
	fresh, free, pages bits.Set
	list               []leaf.Entry
}

func look(t *testing.T, x *tree.Tree) snapshot {
	return snapshot{x.Root(), x.Fresh(), x.Free(), pages(t, x), list(t, x, "")}
}

func same(a, b snapshot) bool {
	return a.root == b.root && a.fresh == b.fresh && a.free == b.free && a.pages == b.pages && slices.Equal(a.list, b.list)
}

// grown returns a disk with a tree of some depth, and its root.
func grown(t *testing.T, r *rand.Rand, keys int) (*disk.Disk, int, bits.Set) {
	d := made(t, 400)
	x := tree.Open(d, 0, all())
	for range keys {
		if e := x.Put(keyOf(r, 1500), rep(60+r.Intn(41))); e != api.OK {
			t.Fatal(e)
		}
	}
	d.Flush()
	return d, x.Root(), pages(t, x)
}

func TestP7_6Full(t *testing.T) {
	r := rand.New(rand.NewSource(40))
	d, root, used := grown(t, r, 300)
	rest := bits.Below(400).Less(bits.Below(2)).Less(used)
	full, fine := 0, 0
	for range 400 {
		free := bits.Set{}
		for range r.Intn(8) {
			n, _ := rest.Next(2 + r.Intn(300))
			free = free.With(n)
		}
		x := tree.Open(d, root, free)
		before := look(t, x)
		var e api.Errno
		if r.Intn(3) == 0 {
			e = x.Del(before.list[r.Intn(len(before.list))].Key)
		} else {
			e = x.Put(keyOf(r, 1500), rep(100))
		}
		switch e {
		case api.ErrFull:
			full++
			if !same(look(t, x), before) {
				t.Fatal("something changed")
			}
		case api.OK:
			fine++
		default:
			t.Fatal(e)
		}
	}
	if full < 20 || fine < 20 {
		t.Error("full", full, "fine", fine)
	}
}

func TestP7_6With34(t *testing.T) {
	// Every node on the way to the key is full, so that all are split: two pages for each, and one for a new root.
	const depth = 15
	long := func(s string) string { return s + strings.Repeat("k", api.MaxKey-len(s)) }
	build := func() *disk.Disk {
		d := made(t, 100)
		for i := range depth {
			var node leaf.Node
			if i == depth-1 {
				node = leaf.Node{Leaf: true, Entries: []leaf.Entry{{Key: long("xa"), Val: rep(100)}, {Key: long("xz"), Val: rep(100)}}}
			} else {
				node.Branches = []leaf.Branch{{Page: 90}}
				for j := range 9 {
					node.Branches = append(node.Branches, leaf.Branch{Key: long(string([]byte{byte('a' + i), byte('a' + j)})), Page: 90})
				}
				node.Branches[9].Page = 10 + i + 1
			}
			set(t, d, 10+i, node)
		}
		return d
	}
	for n := range 36 {
		d := build()
		x := tree.Open(d, 10, bits.Below(40+n).Less(bits.Below(40)))
		e := x.Put(long("xm"), rep(100))
		if need := 2*depth + 1; (e == api.OK) != (n >= need) || n < need && e != api.ErrFull {
			t.Error(n, e)
		}
		if e == api.OK {
			if v, ok, e := x.Get(long("xm")); v != rep(100) || !ok || e != api.OK {
				t.Error(v, ok, e)
			}
			if x.Root() != 40+2*depth {
				t.Error(x.Root())
			}
		}
	}
}

func TestP7_7Dead(t *testing.T) {
	r := rand.New(rand.NewSource(41))
	d, root, used := grown(t, r, 120)
	free := bits.Below(400).Less(bits.Below(2)).Less(used)
	for range 40 {
		k, v, del := keyOf(r, 1500), rep(100), r.Intn(3) == 0
		died := 0
		for fuse := 0; ; fuse++ {
			c := d.Copy()
			x := tree.Open(c, root, free)
			if e := x.Put("first", "1"); e != api.OK {
				t.Fatal(e)
			}
			before := look(t, x)
			if del {
				k = before.list[len(before.list)/2].Key
			}
			c.Fuse(fuse)
			var e api.Errno
			if del {
				e = x.Del(k)
			} else {
				e = x.Put(k, v)
			}
			if e == api.OK {
				if got, ok, _ := x.Get(k); ok == del || !del && got != v {
					t.Fatal("not done")
				}
				break
			}
			died++
			if e != api.ErrDead || !same(look(t, x), before) {
				t.Fatal(e, "something changed")
			}
			if !slices.Equal(list(t, tree.Open(c, root, bits.Set{}), ""), list(t, tree.Open(d, root, bits.Set{}), "")) {
				t.Fatal("the old root reads something else")
			}
		}
		if died < 8 {
			t.Error("died only", died)
		}
	}
}

func TestP7_6And7TwoLeaves(t *testing.T) {
	d := made(t, 20)
	x := tree.Open(d, 0, all())
	for _, k := range []string{"a", "b", "c"} {
		x.Put(k, rep(100))
	}
	root := x.Root()
	for _, k := range []string{"a", "c"} {
		x := tree.Open(d, root, bits.Set{})
		before := look(t, x)
		if e := x.Put(k, "1"); e != api.ErrFull || !same(look(t, x), before) {
			t.Error(e)
		}
		c := d.Copy()
		c.Fuse(0)
		x = tree.Open(c, root, bits.Of([]int{15, 16, 17}))
		before = look(t, x)
		if e := x.Put(k, "1"); e != api.ErrDead || !same(look(t, x), before) {
			t.Error(e)
		}
	}
}
