package sum_test

import (
	"math/rand"
	"strings"
	"testing"

	"callboard/sum"
)

// plain is the definition, word by word, over numbers that never wrap round.
func plain(first, second uint64, s string) uint32 {
	for _, b := range []byte(s) {
		first = (first + uint64(b)) % 65521
		second = (second + first) % 65521
	}
	return uint32(65536*second + first)
}

func texts() []string {
	r := rand.New(rand.NewSource(1))
	l := []string{"", "\x00", "\x01", "a", "ab", "ba", "\xff\xff", strings.Repeat("\xff", 1000), strings.Repeat("\x00", 70000), strings.Repeat("z", 70000)}
	for range 60 {
		b := make([]byte, r.Intn(400))
		for i := range b {
			b[i] = byte(r.Intn(256))
		}
		l = append(l, string(b))
	}
	return l
}

func TestP1_1Examples(t *testing.T) {
	for _, c := range []struct {
		s             string
		first, second int
		sum           uint32
	}{
		{"", 1, 0, 1},
		{"\x01", 2, 2, 131074},
		{"ab", 196, 294, 294<<16 | 196},
		{"\x00", 1, 1, 65537},
	} {
		if got := sum.Sum(c.s); got != c.sum {
			t.Errorf("Sum(%q) = %d, want %d", c.s, got, c.sum)
		}
		if a, b := sum.Both(sum.Sum(c.s)); a != c.first || b != c.second {
			t.Errorf("Both of %q = %d, %d", c.s, a, b)
		}
	}
}

func TestP1_1Definition(t *testing.T) {
	for _, s := range texts() {
		if got, want := sum.Sum(s), plain(1, 0, s); got != want {
			t.Errorf("Sum of %d bytes = %d, want %d", len(s), got, want)
		}
	}
	for _, n := range []uint32{0, 1, 0xffff, 0x10000, 65520, 65521, 65520 << 16, 0xffffffff, 0xfff0fff0, 0x12345678} {
		first, second := sum.Both(n)
		if first != int(n%65536) || second != int(n/65536) {
			t.Errorf("Both(%d) = %d, %d", n, first, second)
		}
		for _, s := range []string{"\x00", "a", "\xff", "abc"} {
			if got, want := sum.Add(n, s), plain(uint64(first), uint64(second), s); got != want {
				t.Errorf("Add(%d, %q) = %d, want %d", n, s, got, want)
			}
		}
		if got := sum.Add(n, ""); got != n {
			t.Errorf("Add(%d, no bytes) = %d", n, got)
		}
	}
}

func TestP1_2InPieces(t *testing.T) {
	for _, s := range texts() {
		for _, at := range []int{0, 1, len(s) / 3, len(s)} {
			if at > len(s) {
				continue
			}
			if sum.Add(sum.Sum(s[:at]), s[at:]) != sum.Sum(s) {
				t.Errorf("%d bytes cut at %d", len(s), at)
			}
		}
	}
}

func TestP1_3OneByte(t *testing.T) {
	s := "one byte of these\x00\xff"
	for i := range len(s) {
		for b := range 256 {
			c := []byte(s)
			c[i] = byte(b)
			if (sum.Sum(string(c)) == sum.Sum(s)) != (c[i] == s[i]) {
				t.Errorf("byte %d as %d", i, b)
			}
		}
	}
}

func TestP1_4Swapping(t *testing.T) {
	for _, s := range texts() {
		for i := 1; i < len(s) && i < 300; i++ {
			if s[i-1] == s[i] {
				continue
			}
			c := []byte(s)
			c[i-1], c[i] = c[i], c[i-1]
			if sum.Sum(string(c)) == sum.Sum(s) {
				t.Errorf("%d bytes, exchanged at %d", len(s), i)
			}
		}
	}
}

func TestP1_5Bounds(t *testing.T) {
	r := rand.New(rand.NewSource(2))
	for _, s := range texts() {
		first, second := sum.Both(sum.Sum(s))
		if first < 0 || first > 65520 || second < 0 || second > 65520 {
			t.Errorf("%d, %d", first, second)
		}
		c := []byte(s)
		r.Shuffle(len(c), func(i, j int) { c[i], c[j] = c[j], c[i] })
		if again, _ := sum.Both(sum.Sum(string(c))); again != first {
			t.Errorf("the first number depends on the order: %d, %d", first, again)
		}
	}
}

func TestP1_6Zeros(t *testing.T) {
	for _, s := range texts() {
		first, second := sum.Both(sum.Sum(s))
		a, b := sum.Both(sum.Sum(s + "\x00"))
		if a != first || b != (second+first)%65521 {
			t.Errorf("%d, %d became %d, %d", first, second, a, b)
		}
	}
}
