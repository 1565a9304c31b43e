package sha

import (
	"crypto/sha256"
	"encoding/hex"
	"math/rand"
	"strings"
	"testing"

	"palaver/api"
)

// Promise 2.1.
func TestSumKnown(t *testing.T) {
	for _, c := range []struct{ s, want string }{
		{"", "e3b0c44298fc1c149afbf4c8996fb92427ae41e4649b934ca495991b7852b855"},
		{"abc", "ba7816bf8f01cfea414140de5dae2223b00361a396177a9cb410ff61f20015ad"},
		{"abcdbcdecdefdefgefghfghighijhijkijkljklmklmnlmnomnopnopq", "248d6a61d20638b8e5c026930c3e6039a33ce45964ff2167f6ecedd419db06c1"},
		{strings.Repeat("a", 1000000), "cdc76e5c9914fb9281a1c7e284d73e67f1809a48a497200e046d39ccc7112cd0"},
	} {
		if got := Hex(Sum(c.s)); got != c.want {
			t.Errorf("Sum of %d bytes = %s; want %s", len(c.s), got, c.want)
		}
	}
}

// Promise 2.1: every length around the ends of blocks, and inputs whose length in bits needs several bytes.
func TestSumLengths(t *testing.T) {
	source := rand.New(rand.NewSource(1))
	b := make([]byte, 1<<21+1)
	source.Read(b)
	sizes := []int{8191, 8192, 8193, 1<<21 - 1, 1 << 21, 1<<21 + 1}
	for size := range 600 {
		sizes = append(sizes, size)
	}
	for _, size := range sizes {
		if got, want := Sum(string(b[:size])), sha256.Sum256(b[:size]); got != want {
			t.Errorf("Sum of %d bytes = %x; want %x", size, got, want)
		}
	}
}

// Promise 2.1.
func TestMid(t *testing.T) {
	for _, s := range []string{"", "abc", strings.Repeat("x", 200)} {
		h := Sum(s)
		if got := Mid(s); got != string(h[:16]) {
			t.Errorf("Mid(%q) = %x; want the first 16 bytes of %x", s, got, h)
		}
	}
}

// Promise 2.1.
func TestHex(t *testing.T) {
	var h api.Hash
	for first := 0; first < 256; first += len(h) {
		for i := range h {
			h[i] = byte(first + i)
		}
		text := Hex(h)
		if want := hex.EncodeToString(h[:]); text != want {
			t.Errorf("Hex(%v) = %s; want %s", h, text, want)
		}
		if back, errno := Unhex(text); back != h || errno != api.OK {
			t.Errorf("Unhex(%s) = %v, %d", text, back, errno)
		}
	}
}

// Promise 2.1.
func TestUnhexWrong(t *testing.T) {
	right := Hex(Sum("abc"))
	for _, text := range []string{
		"",
		"BA",
		"ba",
		right[:63],
		right[:62],
		right + "0",
		right + "00",
		" " + right[1:],
		right[:63] + "\x00",
		strings.ToUpper(right),
		"0x" + right[2:],
	} {
		if h, errno := Unhex(text); h != (api.Hash{}) || errno != api.ErrCode {
			t.Errorf("Unhex(%q) = %v, %d; want ErrCode", text, h, errno)
		}
	}
}

// Promise 2.1: every byte that is no digit of Hex's, at either place of a pair.
func TestUnhexOtherBytes(t *testing.T) {
	zeros := strings.Repeat("0", 64)
	for c := range 256 {
		other := string([]byte{byte(c)})
		is := strings.Contains("0123456789abcdef", other)
		for _, at := range []int{0, 31, 63} {
			h, errno := Unhex(zeros[:at] + other + zeros[at+1:])
			if is && errno != api.OK || !is && (errno != api.ErrCode || h != (api.Hash{})) {
				t.Errorf("Unhex with the byte %x at %d = %v, %d", c, at, h, errno)
			}
		}
	}
}

func BenchmarkSum(b *testing.B) {
	s := strings.Repeat("x", 17)
	for range b.N {
		Sum(s)
	}
}
