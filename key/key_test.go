package key

import (
	"crypto/sha256"
	"math"
	"math/rand"
	"strings"
	"testing"
	"unsafe"

	"palaver/api"
	"palaver/onetime"
	"palaver/sha"
)

// wantSeed is the seed of an index by the library's checksum.
func wantSeed(seed string, i int) string {
	h := sha256.Sum256(append([]byte{5, byte(i)}, seed...))
	return string(h[:16])
}

// wantAbove is the parent by the library's checksum.
func wantAbove(left, right string) string {
	h := sha256.Sum256([]byte("\x01" + left + right))
	return string(h[:])
}

// wantNode is the root of the part of a key's tree that is high levels high and begins with an index.
func wantNode(seed string, high, from int) string {
	if high == 0 {
		h := onetime.Public(wantSeed(seed, from))
		return string(h[:])
	}
	return wantAbove(wantNode(seed, high-1, from), wantNode(seed, high-1, from+1<<(high-1)))
}

// wantSign is a signature: level by level, what stands beside the index's part of the tree.
func wantSign(seed string, high, i int, text string) string {
	sig := string([]byte{byte(i)}) + onetime.Sign(wantSeed(seed, i), text)
	for level := range high {
		sig += wantNode(seed, level, (i>>level^1)<<level)
	}
	return sig
}

// mustSign is the key after a signature, and the signature.
func mustSign(t *testing.T, k api.Key, text string) (api.Key, string) {
	t.Helper()
	next, sig, errno := Sign(k, text)
	if errno != api.OK {
		t.Fatalf("Sign(%+v, %q): %d", k, text, errno)
	}
	return next, sig
}

// mustRoot is a key's root.
func mustRoot(t *testing.T, k api.Key) api.Hash {
	t.Helper()
	root, errno := Root(k)
	if errno != api.OK {
		t.Fatalf("Root(%+v): %d", k, errno)
	}
	return root
}

// right are keys that are valid.
func right() []api.Key {
	keys := []api.Key{
		{Seed: "s", High: 0, Next: 0},
		{Seed: "s", High: 0, Next: 1},
		{Seed: "\x00", High: 1, Next: 1},
		{Seed: strings.Repeat("s", 63), High: 2, Next: 3},
		{Seed: strings.Repeat("\xff", 64), High: 2, Next: 4},
	}
	for high := range 8 {
		keys = append(keys, api.Key{Seed: "s", High: high}, api.Key{Seed: "s", High: high, Next: 1 << high})
	}
	return keys
}

// wrong are keys that are not valid.
func wrong() []api.Key {
	keys := []api.Key{
		{},
		{Seed: "", High: 1, Next: 1},
		{Seed: strings.Repeat("s", 65), High: 1, Next: 1},
		{Seed: strings.Repeat("s", 9000), High: 1, Next: 1},
	}
	for _, high := range []int{-1, -2, 8, 9, 63, 64, 1 << 32, math.MinInt, math.MaxInt} {
		keys = append(keys, api.Key{Seed: "s", High: high}, api.Key{Seed: "s", High: high, Next: 1})
	}
	for high := range 8 {
		for _, next := range []int{-1, -1 << 32, math.MinInt, 1<<high + 1, 1<<high + 1<<32, math.MaxInt} {
			keys = append(keys, api.Key{Seed: "s", High: high, Next: next})
		}
	}
	return keys
}

// Promise 5.1.
func TestCheck(t *testing.T) {
	for _, k := range right() {
		if errno := Check(k); errno != api.OK {
			t.Errorf("Check(%+v) = %d; want OK", k, errno)
		}
	}
	for _, k := range wrong() {
		if errno := Check(k); errno != api.ErrForm {
			t.Errorf("Check(%+v) = %d; want ErrForm", k, errno)
		}
	}
}

// Promise 5.1: roots and signatures that were worked out apart from this program.
func TestKnown(t *testing.T) {
	for _, c := range []struct {
		seed       string
		high, next int
		text       string
		root, sig  string
	}{
		{"s", 0, 0, "abc",
			"8584e20943657c07708c71547640d16d50389f2bc736fb34836cad6c865d57c6",
			"b9eed99966c249cf1d4c5ffa3220c3aa3d1b738aeafd911fe899d69a6f6d98fb"},
		{"s", 1, 1, "abc",
			"01b606d387933505f5f1cdfcc5dfe7208275b62ead10bf65d19f0766f58cc0fb",
			"255bff5a99acfb43009c147a09cf091debb2813a53fd696c0c252129845630cc"},
		{"s", 1, 0, "",
			"01b606d387933505f5f1cdfcc5dfe7208275b62ead10bf65d19f0766f58cc0fb",
			"2395afce116ede890218ef2fda5743536123ae8be36dd27f3c715557702e6060"},
		{"server 0", 3, 5, "abc",
			"a6cd061eaaff360a864612e301d9664421a6aa58cb1a155c7ba76758e62ea4bc",
			"bc9826551bbfc3c0972d1749bd069d97e93b727ecbbb6fafed540dede799641c"},
		{strings.Repeat("\xff", 64), 7, 127, strings.Repeat("x", 200),
			"8a3a7a80a4d844f6e23d3a7657ced2c1f5f2a2b1dc23ece59c35ca4b6f5e11b7",
			"a3b4fd4dae912a8b575c0835fcffb5adf630dc15c2df69c34018135055d5ade9"},
	} {
		k := api.Key{Seed: c.seed, High: c.high, Next: c.next}
		if got := sha.Hex(mustRoot(t, k)); got != c.root {
			t.Errorf("Root(%+v) = %s; want %s", k, got, c.root)
		}
		next, sig := mustSign(t, k, c.text)
		if got := sha.Hex(sha.Sum(sig)); got != c.sig {
			t.Errorf("the checksum of Sign(%+v, %q) = %s; want %s", k, c.text, got, c.sig)
		}
		if want := (api.Key{Seed: c.seed, High: c.high, Next: c.next + 1}); next != want {
			t.Errorf("the key after Sign(%+v) = %+v; want %+v", k, next, want)
		}
	}
}

// Promise 5.1: the root hangs on the seed and the height, not on what was signed.
func TestRoot(t *testing.T) {
	for _, k := range right() {
		got, errno := Root(k)
		if string(got[:]) != wantNode(k.Seed, k.High, 0) || errno != api.OK {
			t.Errorf("Root(%+v) = %x, %d; want %x", k, got, errno, wantNode(k.Seed, k.High, 0))
		}
	}
}

// Promise 5.1.
func TestRootWrong(t *testing.T) {
	for _, k := range wrong() {
		if got, errno := Root(k); got != (api.Hash{}) || errno != api.ErrForm {
			t.Errorf("Root(%+v) = %x, %d; want ErrForm", k, got, errno)
		}
	}
}

// Promise 5.1.
func TestSign(t *testing.T) {
	for high := range 8 {
		for _, i := range []int{0, (1 << high) / 3, 1<<high - 1} {
			k := api.Key{Seed: "seed", High: high, Next: i}
			for _, text := range []string{"", "abc", strings.Repeat("y", 9000)} {
				next, sig, errno := Sign(k, text)
				if next != (api.Key{Seed: "seed", High: high, Next: i + 1}) || errno != api.OK {
					t.Errorf("Sign(%+v, %.9q) = %+v, %d", k, text, next, errno)
				}
				if len(sig) != 1089+32*high || sig != wantSign("seed", high, i, text) {
					t.Errorf("Sign(%+v, %.9q) has %d bytes: %x; want %x", k, text, len(sig), sig, wantSign("seed", high, i, text))
				}
			}
		}
	}
}

// Promise 5.1.
func TestSignWrong(t *testing.T) {
	for _, k := range wrong() {
		if next, sig, errno := Sign(k, "abc"); next != (api.Key{}) || sig != "" || errno != api.ErrForm {
			t.Errorf("Sign(%+v) = %+v, %d bytes, %d; want ErrForm", k, next, len(sig), errno)
		}
	}
}

// Promise 5.1: a key that is used up is left as it is.
func TestSignOver(t *testing.T) {
	for high := range 8 {
		k := api.Key{Seed: "s", High: high, Next: 1 << high}
		if next, sig, errno := Sign(k, "abc"); next != k || sig != "" || errno != api.ErrOver {
			t.Errorf("Sign(%+v) = %+v, %d bytes, %d; want ErrOver", k, next, len(sig), errno)
		}
	}
}

// Promise 5.2: the first byte alone tells the index.
func TestPlace(t *testing.T) {
	for high := range 8 {
		for first := range 256 {
			sig := string([]byte{byte(first)}) + strings.Repeat("\xff", 1088+32*high)
			want, wantErrno := first, api.OK
			if first >= 1<<high {
				want, wantErrno = 0, api.ErrForm
			}
			if got, errno := Place(high, sig); got != want || errno != wantErrno {
				t.Errorf("Place(%d, ..) of the first byte %d = %d, %d; want %d, %d", high, first, got, errno, want, wantErrno)
			}
		}
	}
}

// Promises 5.1 and 5.2: the sizes of signatures are told ahead of signing.
func TestSize(t *testing.T) {
	for high := range 8 {
		_, sig := mustSign(t, api.Key{Seed: "s", High: high}, "abc")
		if got := Size(high); got != len(sig) || got != 1089+32*high {
			t.Errorf("Size(%d) = %d, and a signature has %d bytes", high, got, len(sig))
		}
	}
}

// Promise 5.2: a signature's form, which Verify asks of it before all else.
func TestPlaceWrong(t *testing.T) {
	for high := range 8 {
		size := 1089 + 32*high
		for _, wrong := range []int{0, 1, 1087, 1088, size - 32, size - 1, size + 1, size + 32, 2 * size} {
			wantForm(t, high, strings.Repeat("\x00", wrong))
		}
		for _, wrong := range []int{-1, -high - 1, 8, 9, 64, 1 << 58, math.MinInt, math.MaxInt} {
			wantForm(t, wrong, strings.Repeat("\x00", size))
		}
	}
	// Heights at which a signature would have these sizes, if there were any.
	wantForm(t, -1, strings.Repeat("\x00", 1057))
	wantForm(t, -34, "\x00")
	wantForm(t, 8, strings.Repeat("\x00", 1345))
	wantForm(t, 1<<59, strings.Repeat("\x00", 1089))
}

// wantForm fails unless a signature has no form that a key of this height gives it.
func wantForm(t *testing.T, high int, sig string) {
	t.Helper()
	if got, errno := Place(high, sig); got != 0 || errno != api.ErrForm {
		t.Errorf("Place(%d, %d bytes) = %d, %d; want ErrForm", high, len(sig), got, errno)
	}
	if errno := Verify(api.Hash{}, high, "abc", sig); errno != api.ErrForm {
		t.Errorf("Verify(.., %d, .., %d bytes) = %d; want ErrForm", high, len(sig), errno)
	}
}

// Promise 5.2: signatures that were made apart from this package's Sign.
func TestVerify(t *testing.T) {
	for high := range 5 {
		var root api.Hash
		copy(root[:], wantNode("seed", high, 0))
		for i := range 1 << high {
			sig := wantSign("seed", high, i, "abc")
			if errno := Verify(root, high, "abc", sig); errno != api.OK {
				t.Errorf("Verify at %d of the height %d = %d; want OK", i, high, errno)
			}
			if got, errno := Place(high, sig); got != i || errno != api.OK {
				t.Errorf("Place(%d, ..) = %d, %d; want %d", high, got, errno, i)
			}
		}
	}
}

// Promise 5.2: each byte of the root and of the signature counts, and each of the text.
func TestVerifyWrong(t *testing.T) {
	k := api.Key{Seed: "s", High: 2, Next: 2}
	root := mustRoot(t, k)
	_, sig := mustSign(t, k, "abc")
	for i := range root {
		other := root
		other[i] ^= 1
		if errno := Verify(other, 2, "abc", sig); errno != api.ErrSign {
			t.Errorf("Verify with another byte %d of the root = %d; want ErrSign", i, errno)
		}
	}
	for i := range len(sig) {
		other := []byte(sig)
		other[i] ^= 1
		if errno := Verify(root, 2, "abc", string(other)); errno != api.ErrSign {
			t.Errorf("Verify with another byte %d of the signature = %d; want ErrSign", i, errno)
		}
	}
	for _, text := range []string{"", "ab", "abd", "abc\x00", "Abc"} {
		if errno := Verify(root, 2, text, sig); errno != api.ErrSign {
			t.Errorf("Verify of %q = %d; want ErrSign", text, errno)
		}
	}
	if errno := Verify(api.Hash{}, 2, "abc", sig); errno != api.ErrSign {
		t.Errorf("Verify with a zero root = %d; want ErrSign", errno)
	}
	if errno := Verify(mustRoot(t, api.Key{Seed: "t", High: 2}), 2, "abc", sig); errno != api.ErrSign {
		t.Errorf("Verify with the root of another seed = %d; want ErrSign", errno)
	}
}

// Promise 5.2: the index is part of what is verified.
func TestVerifyOtherPlace(t *testing.T) {
	k := api.Key{Seed: "s", High: 3, Next: 5}
	root := mustRoot(t, k)
	_, sig := mustSign(t, k, "abc")
	for first := range 256 {
		want := api.ErrForm
		switch {
		case first == 5:
			want = api.OK
		case first < 8:
			want = api.ErrSign
		}
		if errno := Verify(root, 3, "abc", string([]byte{byte(first)})+sig[1:]); errno != want {
			t.Errorf("Verify at %d = %d; want %d", first, errno, want)
		}
	}
}

// Promise 5.3.
func TestMake(t *testing.T) {
	for _, k := range right() {
		r, errno := Make(k)
		if r == nil || errno != api.OK {
			t.Errorf("Make(%+v) = %v, %d", k, r, errno)
			continue
		}
		if got := r.Key(); got != k {
			t.Errorf("the key of the ring of %+v = %+v", k, got)
		}
		if got := r.Root(); got != mustRoot(t, k) {
			t.Errorf("the root of the ring of %+v = %x; want %x", k, got, mustRoot(t, k))
		}
	}
	for _, k := range wrong() {
		if r, errno := Make(k); r != nil || errno != api.ErrForm {
			t.Errorf("Make(%+v) = %v, %d; want nil, ErrForm", k, r, errno)
		}
	}
}

// Promise 5.3: a ring signs as its keys do, one after the other, till they are used up.
func TestRing(t *testing.T) {
	k := api.Key{Seed: "s", High: 2, Next: 1}
	root := mustRoot(t, k)
	r, _ := Make(k)
	for i := range 3 {
		if got := r.Left(); got != 3-i {
			t.Errorf("a ring's Left at %d = %d; want %d", k.Next, got, 3-i)
		}
		next, want := mustSign(t, k, "abc")
		if got, errno := r.Sign("abc"); got != want || errno != api.OK {
			t.Errorf("a ring's Sign at %d = %x, %d; want %x", k.Next, got, errno, want)
		}
		if got := r.Key(); got != next {
			t.Errorf("the ring's key = %+v; want %+v", got, next)
		}
		if got := r.Root(); got != root {
			t.Errorf("the ring's root = %x; want %x", got, root)
		}
		k = next
	}
	for range 3 {
		if got, errno := r.Sign("abc"); got != "" || errno != api.ErrOver {
			t.Errorf("Sign of a ring that is used up = %d bytes, %d; want ErrOver", len(got), errno)
		}
		if got := r.Key(); got != k {
			t.Errorf("the key of a ring that is used up = %+v; want %+v", got, k)
		}
		if got := r.Left(); got != 0 {
			t.Errorf("Left of a ring that is used up = %d", got)
		}
	}
}

// Promise 5.3: rings of one key count each on its own.
func TestRingsApart(t *testing.T) {
	k := api.Key{Seed: "s", High: 1}
	a, _ := Make(k)
	b, _ := Make(k)
	a.Sign("abc")
	if a.Key().Next != 1 || b.Key() != k {
		t.Errorf("after a signature of one ring, the keys are %+v and %+v", a.Key(), b.Key())
	}
}

// Promise 5.3: a ring that Make did not make has no key, and signs nothing.
func TestRingWithoutMake(t *testing.T) {
	for _, r := range []*Ring{nil, {}, new(Ring)} {
		if got := r.Root(); got != (api.Hash{}) {
			t.Errorf("the root of %v = %x", r, got)
		}
		if sig, errno := r.Sign("abc"); sig != "" || errno != api.ErrForm {
			t.Errorf("Sign of %v = %d bytes, %d; want ErrForm", r, len(sig), errno)
		}
		if got := r.Key(); got != (api.Key{}) {
			t.Errorf("the key of %v = %+v", r, got)
		}
		if got := r.Left(); got != 0 {
			t.Errorf("Left of %v = %d", r, got)
		}
	}
}

// Promises 5.1 and 5.3: neither a ring nor an answer holds on to the string of which the seed is a piece.
func TestOwnSeed(t *testing.T) {
	long := strings.Repeat("seed", 1000)
	k := api.Key{Seed: long[8:12], High: 0}
	r, _ := Make(k)
	next, _ := mustSign(t, k, "abc")
	over, _, _ := Sign(api.Key{Seed: long[8:12], High: 0, Next: 1}, "abc")
	for _, seed := range []string{r.Key().Seed, next.Seed, over.Seed} {
		if seed != "seed" || shared(seed, long) {
			t.Errorf("the seed %q is a piece of what was handed in", seed)
		}
	}
}

// shared tells whether two strings share bytes.
func shared(a, b string) bool {
	from, at := uintptr(unsafe.Pointer(unsafe.StringData(a))), uintptr(unsafe.Pointer(unsafe.StringData(b)))
	return from < at+uintptr(len(b)) && at < from+uintptr(len(a))
}

// Promise 5.4: all that a key signs is verified, each at an index of its own, and for its own text alone.
func TestThereAndBack(t *testing.T) {
	source := rand.New(rand.NewSource(1))
	for high := range 6 {
		b := make([]byte, 1+source.Intn(64))
		source.Read(b)
		k := api.Key{Seed: string(b), High: high}
		root := mustRoot(t, k)
		for i := range 1 << high {
			text := strings.Repeat("t", i)
			next, sig := mustSign(t, k, text)
			if errno := Verify(root, high, text, sig); errno != api.OK {
				t.Errorf("Verify of what %+v signed = %d; want OK", k, errno)
			}
			if errno := Verify(root, high, text+"!", sig); errno != api.ErrSign {
				t.Errorf("Verify of what %+v did not sign = %d; want ErrSign", k, errno)
			}
			if got, errno := Place(high, sig); got != i || errno != api.OK {
				t.Errorf("the place of signature %d = %d, %d", i, got, errno)
			}
			k = next
		}
		if _, _, errno := Sign(k, "abc"); errno != api.ErrOver {
			t.Errorf("Sign with %+v, which is used up: %d; want ErrOver", k, errno)
		}
	}
}

// Promise 5.4: a ring of the greatest height signs as often as it has indices, and uses each once.
func TestNoIndexTwice(t *testing.T) {
	r, _ := Make(api.Key{Seed: "s", High: api.MaxHigh})
	root := r.Root()
	used := map[int]int{}
	for range 1 << api.MaxHigh {
		sig, errno := r.Sign("abc")
		if errno != api.OK || Verify(root, api.MaxHigh, "abc", sig) != api.OK {
			t.Fatalf("after %d signatures: %d, %d", len(used), errno, Verify(root, api.MaxHigh, "abc", sig))
		}
		i, _ := Place(api.MaxHigh, sig)
		used[i]++
	}
	if len(used) != 1<<api.MaxHigh {
		t.Errorf("%d indices were used", len(used))
	}
	if sig, errno := r.Sign("abc"); sig != "" || errno != api.ErrOver {
		t.Errorf("one more signature has %d bytes, %d; want ErrOver", len(sig), errno)
	}
}

func BenchmarkSign(b *testing.B) {
	for range b.N {
		Sign(api.Key{Seed: "s", High: api.MaxHigh}, "abc")
	}
}
