package onetime

import (
	"crypto/sha256"
	"math/rand"
	"slices"
	"strings"
	"testing"
	"unsafe"

	"palaver/api"
	"palaver/sha"
)

// seeds and texts are ordinary ones and odd ones.
var (
	seeds = []string{"", "seed", "Seed", "\x00", "seed\x00", strings.Repeat("\xff", 64), strings.Repeat("s", 9000)}
	texts = []string{"", "abc", "abd", "\x00", "abc\x00", "\x02\x03\x04", strings.Repeat("x", 200), strings.Repeat("y", 9000)}
)

// wantMid is Mid by the library's checksum.
func wantMid(b []byte) []byte {
	h := sha256.Sum256(b)
	return h[:16]
}

// wantDigits are the digits, each on its own.
func wantDigits(text string) []int {
	mid := wantMid([]byte(text))
	digits := make([]int, 68)
	sum := 0
	for i := range 64 {
		digits[i] = int(mid[i/4]) / []int{1, 4, 16, 64}[i%4] % 4
		sum += 3 - digits[i]
	}
	for i := range 4 {
		digits[64+i] = sum / []int{1, 4, 16, 64}[i] % 4
	}
	return digits
}

// wantSteps is what is so many steps after x.
func wantSteps(x []byte, steps int) []byte {
	if steps == 0 {
		return x
	}
	return wantSteps(wantMid(append([]byte{2}, x...)), steps-1)
}

// wantStart is the start of a chain.
func wantStart(seed string, j int) []byte {
	return wantMid(append([]byte{3, byte(j)}, seed...))
}

// wantSign is the signature of a text.
func wantSign(seed, text string) string {
	var b []byte
	for j, digit := range wantDigits(text) {
		b = append(b, wantSteps(wantStart(seed, j), digit)...)
	}
	return string(b)
}

// wantPublic is the public key of a seed.
func wantPublic(seed string) api.Hash {
	b := []byte{4}
	for j := range 68 {
		b = append(b, wantSteps(wantStart(seed, j), 3)...)
	}
	return sha256.Sum256(b)
}

// wantRecover is what a signature of 1088 bytes leads to.
func wantRecover(text, sig string) api.Hash {
	b := []byte{4}
	for j, digit := range wantDigits(text) {
		b = append(b, wantSteps([]byte(sig[16*j:16*j+16]), 3-digit)...)
	}
	return sha256.Sum256(b)
}

// someText makes a text of up to so many bytes.
func someText(source *rand.Rand, most int) string {
	b := make([]byte, source.Intn(most+1))
	source.Read(b)
	return string(b)
}

// Promise 4.1: digits that were worked out apart from this program.
func TestDigitsKnown(t *testing.T) {
	for text, want := range map[string]string{
		"":                       "30230032010320010212033303100110221232330133020312123321123201200021",
		"abc":                    "22320231211033323302100033032223100110010001231313112322202030201021",
		strings.Repeat("x", 200): "22220020200323302030100030020001001131212312131002020112321022122031",
	} {
		got := ""
		for _, d := range Digits(text) {
			got += string(rune('0' + d))
		}
		if got != want {
			t.Errorf("Digits(%q) = %s; want %s", text, got, want)
		}
	}
}

// Promise 4.1.
func TestDigits(t *testing.T) {
	source := rand.New(rand.NewSource(1))
	many := slices.Clone(texts)
	for range 5000 {
		many = append(many, someText(source, 80))
	}
	for _, text := range many {
		if got, want := Digits(text), wantDigits(text); !slices.Equal(got, want) {
			t.Fatalf("Digits(%q) = %v; want %v", text, got, want)
		}
	}
}

// Promise 4.1: keys and signatures that were worked out apart from this program.
func TestKnown(t *testing.T) {
	for _, c := range []struct{ seed, public, sign string }{
		{"", "6994db88fc517943df46d605b321e4ff665f3370e76ba39a500b07b654d3645d", "26be73e076138980b7e963fcd54700abe6c6da29f7858a91b90b6fda8921c08e"},
		{"seed", "1f54e50dce70b61ae4d4d4aa92fd5ac81fed8547714464fa3b58975adfd311d2", "4a758e897b23a1dadc71b46834c07c297250a446b058aa5d10c3e4abfc0baa72"},
		{strings.Repeat("\xff", 64), "4cb5e6b411e04dcd771c5bdd5d7b2893a5b8bf0187aee1487319b9f7297179e6", "caeafd91773b53ebc767a2423bcaabc84f4477778c6ffa9c8869c471ad1a49f0"},
	} {
		if got := sha.Hex(Public(c.seed)); got != c.public {
			t.Errorf("Public(%q) = %s; want %s", c.seed, got, c.public)
		}
		if got := sha.Hex(sha.Sum(Sign(c.seed, "abc"))); got != c.sign {
			t.Errorf("the checksum of Sign(%q, abc) = %s; want %s", c.seed, got, c.sign)
		}
	}
}

// Promise 4.1.
func TestPublic(t *testing.T) {
	for _, seed := range seeds {
		if got, want := Public(seed), wantPublic(seed); got != want {
			t.Errorf("Public(%q) = %x; want %x", seed, got, want)
		}
	}
}

// Promise 4.1.
func TestSign(t *testing.T) {
	for _, seed := range seeds {
		for _, text := range texts {
			got := Sign(seed, text)
			if len(got) != 1088 || got != wantSign(seed, text) {
				t.Errorf("Sign(%q, %q) = %x; want %x", seed, text, got, wantSign(seed, text))
			}
		}
	}
}

// Promise 4.2: whatever the bytes of a signature, they lead somewhere.
func TestRecover(t *testing.T) {
	source := rand.New(rand.NewSource(1))
	for _, text := range texts {
		b := make([]byte, api.OnceSize)
		for range 20 {
			if got, errno := Recover(text, string(b)); got != wantRecover(text, string(b)) || errno != api.OK {
				t.Errorf("Recover(%q, %x) = %x, %d; want %x", text, b, got, errno, wantRecover(text, string(b)))
			}
			source.Read(b)
		}
	}
}

// Promise 4.2.
func TestRecoverWrong(t *testing.T) {
	sig := Sign("seed", "abc")
	for _, wrong := range []string{
		"",
		"\x00",
		sig[:16],
		sig[1:],
		sig[:1087],
		sig[:1072],
		sig + "!",
		sig + sig[:16],
		sig + sig,
	} {
		if got, errno := Recover("abc", wrong); got != (api.Hash{}) || errno != api.ErrForm {
			t.Errorf("Recover of %d bytes = %x, %d; want ErrForm", len(wrong), got, errno)
		}
	}
}

// Promise 4.3.
func TestNewMemory(t *testing.T) {
	first, second := Digits("abc"), Digits("abc")
	for _, digits := range [][]int{first, first[:cap(first)]} {
		for i := range digits {
			digits[i] = 9
		}
	}
	if !slices.Equal(second, wantDigits("abc")) || !slices.Equal(Digits("abc"), second) {
		t.Error("the digits of two calls share their memory")
	}
	seed, text := strings.Repeat("s", 2000), strings.Repeat("t", 2000)
	sig, again := Sign(seed, text), Sign(seed, text)
	for _, other := range []string{seed, text, again} {
		if shared(sig, other) {
			t.Error("a signature shares its memory")
		}
	}
}

// shared tells whether two strings share bytes.
func shared(a, b string) bool {
	from, at := uintptr(unsafe.Pointer(unsafe.StringData(a))), uintptr(unsafe.Pointer(unsafe.StringData(b)))
	return from < at+uintptr(len(b)) && at < from+uintptr(len(a))
}

// Promise 4.4.
func TestThereAndBack(t *testing.T) {
	source := rand.New(rand.NewSource(1))
	for range 300 {
		seed, text := someText(source, 64), someText(source, 300)
		if got, errno := Recover(text, Sign(seed, text)); got != Public(seed) || errno != api.OK {
			t.Errorf("Recover of the signature of %q by %q = %x, %d; want %x", text, seed, got, errno, Public(seed))
		}
	}
}

// Promise 4.4: a signature leads to its own seed's key for its own text alone.
func TestNotBack(t *testing.T) {
	public, sig := Public("seed"), Sign("seed", "abc")
	for _, text := range texts {
		if got, _ := Recover(text, sig); (got == public) != (text == "abc") {
			t.Errorf("Recover(%q) of the signature of abc = %x; the key is %x", text, got, public)
		}
	}
	for i := range len(sig) {
		b := []byte(sig)
		b[i] ^= 1
		if got, errno := Recover("abc", string(b)); got == public || errno != api.OK {
			t.Errorf("Recover with another byte %d = %x, %d", i, got, errno)
		}
	}
}

// Promise 4.5: of any two texts.
func TestNobodyAbove(t *testing.T) {
	source := rand.New(rand.NewSource(1))
	var all [][]int
	for range 500 {
		all = append(all, Digits(someText(source, 40)))
	}
	for _, a := range all {
		for _, b := range all {
			if isAbove(a, b) && !slices.Equal(a, b) {
				t.Fatalf("%v are all above %v", a, b)
			}
		}
	}
}

// Promise 4.5: texts whose digits are nearly above one another's can't be found, so their digits are made here.
func TestNobodyAboveNearly(t *testing.T) {
	source := rand.New(rand.NewSource(1))
	whole := func(digits []int) []int { return addDigits(slices.Clone(digits), lacking(digits)) }
	for round := range 20000 {
		low := make([]int, 64)
		for i := range low {
			low[i] = source.Intn(1 + round%4)
		}
		high := slices.Clone(low)
		for range 1 + source.Intn(64) {
			i := source.Intn(len(high))
			high[i] += source.Intn(4 - high[i])
		}
		if a, b := whole(high), whole(low); isAbove(a, b) && !slices.Equal(a, b) {
			t.Fatalf("%v are all above %v", a, b)
		}
	}
	least, most := make([]int, 64), slices.Repeat([]int{3}, 64)
	if a, b := whole(most), whole(least); isAbove(a, b) {
		t.Errorf("%v are all above %v", a, b)
	}
}

// isAbove tells whether each number of a is at least that of b.
func isAbove(a, b []int) bool {
	for i := range a {
		if a[i] < b[i] {
			return false
		}
	}
	return true
}

func BenchmarkPublic(b *testing.B) {
	for range b.N {
		Public("seed")
	}
}
