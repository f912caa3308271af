package script

import (
	"math"

	"callboard/api"
	"callboard/wire"
)

// encodable reports whether a value has bytes.
func encodable(v api.Value) bool {
	_, e := wire.Value("", v)
	return e == api.OK
}

// Encode returns the bytes of a script.
func Encode(l []Op) (string, api.Errno) {
	if e := check(l); e != api.OK {
		return "", e
	}
	w := &writer{}
	w.numbers(len(l))
	for _, o := range l {
		if a, ok := actionOf(o); ok {
			w.numbers(int(o.Kind))
			a.write(w)
		}
	}
	return string(w.bytes), api.OK
}

// writer collects bytes; what is written is valid.
type writer struct{ bytes []byte }

// numbers writes numbers.
func (w *writer) numbers(l ...int) {
	for _, n := range l {
		s, _ := wire.Num("", n)
		w.bytes = append(w.bytes, s...)
	}
}

// texts writes texts.
func (w *writer) texts(l ...string) {
	for _, s := range l {
		w.bytes = append(w.bytes, wire.Text("", s)...)
	}
}

func (t tell) write(w *writer) {
	c := t.C
	w.numbers(int(c.Kind), c.ID, c.N)
	w.texts(c.Name, c.Key, c.Bytes)
	w.numbers(len(c.Sets))
	for _, s := range c.Sets {
		w.texts(s.Name)
		v, _ := wire.Value("", s.V)
		w.bytes = append(w.bytes, v...)
	}
	w.numbers(len(t.Picks))
	for _, p := range t.Picks {
		w.numbers(int(p))
	}
}

func (f fuse) write(w *writer) { w.numbers(f.N) }

func (c crash) write(w *writer) {
	w.numbers(len(c.Keep))
	for _, k := range c.Keep {
		bit := 0
		if k {
			bit = 1
		}
		w.numbers(bit)
	}
	w.numbers(c.Torn+1, c.Cut)
}

// Decode returns the script of some bytes.
func Decode(s string) ([]Op, api.Errno) {
	r := &reader{in: wire.Open(s)}
	l := list(r, api.MaxScript, r.op)
	if r.e != api.OK {
		return nil, r.e
	}
	if e := r.in.End(); e != api.OK {
		return nil, e
	}
	return l, api.OK
}

// reader reads operations, up to the first error.
type reader struct {
	in *wire.Reader
	e  api.Errno
}

// item reads one item as it is told, if there was no error.
func item[T any](r *reader, read func() (T, api.Errno)) T {
	var none T
	if r.e != api.OK {
		return none
	}
	x, e := read()
	if e != api.OK {
		r.e = e
		return none
	}
	return x
}

// list reads how many there are, at most so many, and each as it is told.
func list[T any](r *reader, most int, read func() T) []T {
	var l []T
	for n := r.upTo(most, api.ErrTooLarge); n > 0 && r.e == api.OK; n-- {
		l = append(l, read())
	}
	return l
}

// upTo reads a number of at most so much; another one is an error.
func (r *reader) upTo(most int, otherwise api.Errno) int {
	return item(r, func() (int, api.Errno) {
		n, e := r.in.Num()
		if e == api.OK && n > most {
			return 0, otherwise
		}
		return n, e
	})
}

// number reads a number.
func (r *reader) number() int { return r.upTo(api.MaxNumber, api.ErrForm) }

// text reads a text of at most so many bytes.
func (r *reader) text(most int) string {
	return item(r, func() (string, api.Errno) { return r.in.Text(most) })
}

// readers returns how an operation is read, by its Kind.
func readers() [Crash + 1]func(r *reader) Op {
	return [Crash + 1]func(r *reader) Op{
		Tell:  (*reader).tell,
		Fuse:  (*reader).fuse,
		Crash: (*reader).crash,
	}
}

// op reads an operation.
func (r *reader) op() Op {
	kind := item(r, func() (uint8, api.Errno) {
		n, e := r.in.Num()
		if e == api.OK && (n < int(Tell) || n > int(Crash)) {
			return 0, api.ErrForm
		}
		return uint8(n), e
	})
	if r.e != api.OK {
		return Op{}
	}
	o := readers()[kind](r)
	o.Kind = kind
	return o
}

// tell reads what a Tell has.
func (r *reader) tell() Op {
	var o Op
	o.C.Kind = uint8(r.upTo(math.MaxUint8, api.ErrForm))
	o.C.ID, o.C.N = r.number(), r.number()
	o.C.Name, o.C.Key, o.C.Bytes = r.text(api.MaxName), r.text(api.MaxName), r.text(api.MaxModel)
	o.C.Sets = list(r, api.MaxVars, func() api.Set {
		return api.Set{Name: r.text(api.MaxName), V: item(r, r.in.Value)}
	})
	o.Picks = list(r, api.MaxSteps, func() uint32 { return uint32(r.upTo(math.MaxUint32, api.ErrForm)) })
	return o
}

// fuse reads what a Fuse has.
func (r *reader) fuse() Op { return Op{N: r.number()} }

// crash reads what a Crash has.
func (r *reader) crash() Op {
	var o Op
	o.Keep = list(r, mostKeep, func() bool { return r.upTo(1, api.ErrForm) == 1 })
	o.Torn = r.number() - 1
	o.Cut = r.upTo(api.Sector, api.ErrForm)
	return o
}
