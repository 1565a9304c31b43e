package crc

import (
	"hash/crc32"
	"math/bits"
	"math/rand"
	"strings"
	"testing"
)

// wantSum is the checksum by the library's, which takes the bits of a byte the other way round and turns all bits in the end.
func wantSum(s string) uint32 {
	mirrored := make([]byte, len(s))
	for i := range mirrored {
		mirrored[i] = bits.Reverse8(s[i])
	}
	return bits.Reverse32(^crc32.ChecksumIEEE(mirrored))
}

// wantBytes are the bytes of a checksum.
func wantBytes(sum uint32) string {
	return string([]byte{byte(sum >> 24), byte(sum >> 16), byte(sum >> 8), byte(sum)})
}

// someString is a string of so many bytes.
func someString(source *rand.Rand, many int) string {
	b := make([]byte, many)
	source.Read(b)
	return string(b)
}

// inverted is s with the bits inverted that a pattern has, its most significant one at a place.
func inverted(s string, at int, pattern uint32) string {
	b := []byte(s)
	for i := range 32 {
		if pattern<<i>>31 == 1 {
			b[(at+i)/8] ^= 0x80 >> ((at + i) % 8)
		}
	}
	return string(b)
}

// Promise 7.1: checksums that were worked out apart from this program.
func TestKnown(t *testing.T) {
	all := make([]byte, 256)
	for i := range all {
		all[i] = byte(i)
	}
	for _, c := range []struct {
		s   string
		sum uint32
	}{
		{"123456789", 0x0376e6e7},
		{"", 0xffffffff},
		{"\x00", 0x4e08bfb4},
		{"\x01", 0x4ac9a203},
		{"\x80", 0x27045f5a},
		{"\xff", 0xffffff00},
		{"a", 0xe66c6494},
		{"abc", 0x9b73448c},
		{"\x02ab", 0xa20e4241},
		{"\x00\x00\x00\x00", 0xc704dd7b},
		{"\xff\xff\xff\xff", 0},
		{"\xe2\x82\xac", 0xf3e05d53}, // bytes of one rune
		{string(all), 0x494a116a},
	} {
		if got := Sum(c.s); got != c.sum {
			t.Errorf("Sum(%q) = %08x; want %08x", c.s, got, c.sum)
		}
		if got := Bytes(c.s); got != wantBytes(c.sum) {
			t.Errorf("Bytes(%q) = %x; want %08x", c.s, got, c.sum)
		}
	}
}

// Promise 7.1.
func TestSum(t *testing.T) {
	source := rand.New(rand.NewSource(1))
	for many := range 600 {
		s := someString(source, many)
		want := wantSum(s)
		if got := Sum(s); got != want {
			t.Errorf("Sum(%x) = %08x; want %08x", s, got, want)
		}
		if got := Bytes(s); got != wantBytes(want) {
			t.Errorf("Bytes(%x) = %x; want %08x", s, got, want)
		}
	}
	for _, b := range []string{"\x00", "\xff", "\x80", "x"} {
		s := strings.Repeat(b, 1<<20)
		if got := Sum(s); got != wantSum(s) {
			t.Errorf("Sum of 2^20 bytes %x = %08x; want %08x", b, got, wantSum(s))
		}
	}
}

// Promise 7.1.
func TestGood(t *testing.T) {
	for _, c := range []struct {
		s    string
		want bool
	}{
		{"123456789\x03\x76\xe6\xe7", true},
		{"\xff\xff\xff\xff", true}, // nothing, and its checksum
		{"\x00\x4e\x08\xbf\xb4", true},
		{"123456789\x03\x76\xe6\xe7\x00", true}, // zeros behind leave the register at 0
		{"", false},
		{"\xff", false},
		{"abc", false},
		{"\xff\xff\xff", false},
		{"\x00\x00\x00\x00", false},
		{"\xff\xff\xff\xfe", false},
		{"\x7f\xff\xff\xff", false},
		{"123456789", false},
		{"123456789\xe7\xe6\x76\x03", false},
		{"123456789\x03\x76\xe6", false},
		{"123456789\x03\x76\xe6\xe7\x01", false},
		{"123456788\x03\x76\xe6\xe7", false},
		{"\x03\x76\xe6\xe7123456789", false},
		{"\x003456789\x03\x76\xe6\xe7", false},
	} {
		if got := Good(c.s); got != c.want {
			t.Errorf("Good(%x) = %t", c.s, got)
		}
	}
}

// Promises 7.1 and 7.2.
func TestNought(t *testing.T) {
	source := rand.New(rand.NewSource(2))
	for many := range 300 {
		s := someString(source, many)
		good := s + wantBytes(wantSum(s))
		if !Good(good) || Sum(good) != 0 {
			t.Errorf("%x with its checksum: Good is %t, Sum is %08x", s, Good(good), Sum(good))
		}
		for range 50 {
			other := good[:many] + someString(source, 4)
			if other == good {
				continue
			}
			if Good(other) || Sum(other) == 0 {
				t.Errorf("%x with other bytes: Good is %t, Sum is %08x", s, Good(other), Sum(other))
			}
		}
		for i := range good {
			b := []byte(good)
			b[i] ^= byte(1 + source.Intn(255))
			if Good(string(b)) || Sum(string(b)) == 0 {
				t.Errorf("%x: Good is %t, Sum is %08x", b, Good(string(b)), Sum(string(b)))
			}
		}
	}
}

// Promise 7.2: of the strings that differ in two bytes, one alone is nought.
func TestNoughtOnce(t *testing.T) {
	b := []byte("ab" + wantBytes(wantSum("ab")))
	many := 0
	for i := range 1 << 16 {
		b[3], b[4] = byte(i>>8), byte(i)
		if Good(string(b)) != (Sum(string(b)) == 0) {
			t.Fatalf("%x: Good is %t, Sum is %08x", b, Good(string(b)), Sum(string(b)))
		}
		if Good(string(b)) {
			many++
		}
	}
	if many != 1 {
		t.Errorf("%d strings are good", many)
	}
}

// Promise 7.3: all patterns of up to eight bits, and some of up to 32, at every place.
func TestFound(t *testing.T) {
	source := rand.New(rand.NewSource(3))
	for _, many := range []int{1, 2, 4, 5, 9, 40} {
		s := someString(source, many)
		was := Sum(s)
		for at := range 8 * many {
			for _, pattern := range somePatterns(source, min(32, 8*many-at)) {
				if other := inverted(s, at, pattern); other == s || Sum(other) == was {
					t.Errorf("%x has the checksum %08x, and so has %x", s, was, other)
				}
			}
		}
	}
}

// somePatterns are patterns within so many bits, the most significant ones, of which the first is 1.
func somePatterns(source *rand.Rand, width int) []uint32 {
	within := ^uint32(0) << (32 - width)
	l := []uint32{within, 1<<31 | 1<<(32-width), 0x04c11db7<<1&within | 1<<31, 0xedb88320 & within}
	for low := range uint32(1 << 7) {
		l = append(l, (1<<31|low<<24)&within)
	}
	for range 50 {
		l = append(l, (source.Uint32()|1<<31)&within)
	}
	return l
}

// Promise 7.4.
func TestTogether(t *testing.T) {
	source := rand.New(rand.NewSource(4))
	for many := range 500 {
		a, b := someString(source, many), someString(source, many)
		both := make([]byte, many)
		for i := range both {
			both[i] = a[i] ^ b[i]
		}
		zeros := strings.Repeat("\x00", many)
		if left, right := Sum(a)^Sum(b), Sum(string(both))^Sum(zeros); left != right {
			t.Errorf("of %x and %x: %08x and %08x", a, b, left, right)
		}
	}
}
