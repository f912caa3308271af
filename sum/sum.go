// Package sum is layer 1: checksums of bytes.
package sum

// modulus is what both numbers of a checksum are reduced by.
const modulus = 65521

// Sum returns the checksum of a text.
func Sum(s string) uint32 { return over(1, s) }

// Add returns what a checksum becomes with further bytes.
func Add(sum uint32, s string) uint32 { return over(sum, s) }

// Both returns the two numbers of a checksum.
func Both(sum uint32) (first, second int) {
	return int(sum & 0xffff), int(sum >> 16)
}

// over carries a checksum over any number of texts, one after another.
func over(sum uint32, texts ...string) uint32 {
	first, second := sum&0xffff, sum>>16
	for _, t := range texts {
		for i := range len(t) {
			first = (first + uint32(t[i])) % modulus
			second = (second + first) % modulus
		}
	}
	return second<<16 | first
}
