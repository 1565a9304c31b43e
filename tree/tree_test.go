package tree

import (
	"crypto/sha256"
	"math"
	"math/rand"
	"slices"
	"testing"

	"palaver/api"
	"palaver/sha"
)

// sizes are the numbers of leaves that a tree may have.
var sizes = []int{1, 2, 4, 8, 16, 32, 64, 128}

// someLeaves makes leaves that differ.
func someLeaves(many int) []api.Hash {
	leaves := make([]api.Hash, many)
	for i := range leaves {
		leaves[i] = sha256.Sum256([]byte{'l', byte(i), byte(i >> 8)})
	}
	return leaves
}

// wantAbove is the parent by the library's checksum.
func wantAbove(left, right api.Hash) api.Hash {
	return sha256.Sum256(slices.Concat([]byte{1}, left[:], right[:]))
}

// wantRoot is the root, halved from above.
func wantRoot(leaves []api.Hash) api.Hash {
	if len(leaves) == 1 {
		return leaves[0]
	}
	half := len(leaves) / 2
	return wantAbove(wantRoot(leaves[:half]), wantRoot(leaves[half:]))
}

// wantPath is the path, halved from above: the other half's root is its last hash.
func wantPath(leaves []api.Hash, i int) []api.Hash {
	if len(leaves) == 1 {
		return nil
	}
	half := len(leaves) / 2
	if i < half {
		return append(wantPath(leaves[:half], i), wantRoot(leaves[half:]))
	}
	return append(wantPath(leaves[half:], i-half), wantRoot(leaves[:half]))
}

// Promise 3.1.
func TestAbove(t *testing.T) {
	a, b := sha.Sum("a"), sha.Sum("b")
	for _, c := range [][2]api.Hash{{a, b}, {b, a}, {a, a}, {a, {}}, {{}, {}}} {
		if got, want := Above(c[0], c[1]), wantAbove(c[0], c[1]); got != want {
			t.Errorf("Above(%x, %x) = %x; want %x", c[0], c[1], got, want)
		}
	}
	if got := sha.Hex(Above(a, b)); got != "1fdf7b651907a893865fdf1866cf251d60d527dfafa10a663514f4f9ee34ab22" {
		t.Errorf("Above of the sums of a and b = %s", got)
	}
}

// Promise 3.1.
func TestRoot(t *testing.T) {
	for _, many := range sizes {
		leaves := someLeaves(many)
		if got, errno := Root(leaves...); got != wantRoot(leaves) || errno != api.OK {
			t.Errorf("Root of %d leaves = %x, %d; want %x", many, got, errno, wantRoot(leaves))
		}
	}
	a, b := sha.Sum("a"), sha.Sum("b")
	if got, errno := Root(a, b, sha.Sum("c"), sha.Sum("d")); errno != api.OK ||
		sha.Hex(got) != "588f9a0d1f24d2c5e883ea6497b9f7be7e9e1e0354a2385585e16e780e64ac50" {
		t.Errorf("Root of the sums of a, b, c and d = %x, %d", got, errno)
	}
	if got, errno := Root(b, b); got != wantAbove(b, b) || errno != api.OK {
		t.Errorf("Root of two leaves that are the same = %x, %d", got, errno)
	}
}

// Promise 3.1: every number of leaves that is no tree's.
func TestLeavesWrong(t *testing.T) {
	for many := range 600 {
		leaves := someLeaves(many)
		root, errno := Root(leaves...)
		path, pathErrno := Path(leaves, 0)
		if slices.Contains(sizes, many) {
			if errno != api.OK || pathErrno != api.OK {
				t.Errorf("%d leaves: Root's error is %d, Path's %d", many, errno, pathErrno)
			}
			continue
		}
		if root != (api.Hash{}) || errno != api.ErrRange {
			t.Errorf("Root of %d leaves = %x, %d; want ErrRange", many, root, errno)
		}
		if path != nil || pathErrno != api.ErrRange {
			t.Errorf("Path in %d leaves = %x, %d; want ErrRange", many, path, pathErrno)
		}
	}
	if _, errno := Root(someLeaves(1 << 12)...); errno != api.ErrRange {
		t.Errorf("Root of 4096 leaves: %d; want ErrRange", errno)
	}
}

// Promise 3.1.
func TestPath(t *testing.T) {
	for _, many := range sizes {
		leaves := someLeaves(many)
		for i := range many {
			if got, errno := Path(leaves, i); !slices.Equal(got, wantPath(leaves, i)) || errno != api.OK {
				t.Errorf("Path of leaf %d of %d = %x, %d; want %x", i, many, got, errno, wantPath(leaves, i))
			}
		}
	}
}

// Promise 3.1.
func TestPathNoLeaf(t *testing.T) {
	for _, many := range sizes {
		for _, i := range []int{-1, -2, many, many + 1, 2 * many, 1 << 32, math.MinInt, math.MaxInt} {
			if i >= 0 && i < many {
				continue
			}
			if got, errno := Path(someLeaves(many), i); got != nil || errno != api.ErrRange {
				t.Errorf("Path of leaf %d of %d = %x, %d; want ErrRange", i, many, got, errno)
			}
		}
	}
}

// Promise 3.2.
func TestClimb(t *testing.T) {
	a, b, c := sha.Sum("a"), sha.Sum("b"), sha.Sum("c")
	for _, w := range []struct {
		i    int
		path []api.Hash
		want api.Hash
	}{
		{0, nil, a},
		{0, []api.Hash{}, a},
		{0, []api.Hash{b}, wantAbove(a, b)},
		{1, []api.Hash{b}, wantAbove(b, a)},
		{0, []api.Hash{b, c}, wantAbove(wantAbove(a, b), c)},
		{1, []api.Hash{b, c}, wantAbove(wantAbove(b, a), c)},
		{2, []api.Hash{b, c}, wantAbove(c, wantAbove(a, b))},
		{3, []api.Hash{b, c}, wantAbove(c, wantAbove(b, a))},
	} {
		if got, errno := Climb(a, w.i, w.path); got != w.want || errno != api.OK {
			t.Errorf("Climb(a, %d, %d hashes) = %x, %d; want %x", w.i, len(w.path), got, errno, w.want)
		}
	}
}

// Promise 3.2.
func TestClimbWrong(t *testing.T) {
	leaf := sha.Sum("leaf")
	for length := range 80 {
		path := someLeaves(length)
		indexes := []int{-1, math.MinInt, math.MaxInt, 1 << 32}
		if length <= api.MaxHigh {
			if _, errno := Climb(leaf, 1<<length-1, path); errno != api.OK {
				t.Errorf("Climb with the last index and a path of %d: %d", length, errno)
			}
			indexes = append(indexes, 1<<length, 1<<length+1, 1<<8)
		} else {
			indexes = append(indexes, 0, 1, 127, 128, 255)
		}
		for _, i := range indexes {
			if got, errno := Climb(leaf, i, path); got != (api.Hash{}) || errno != api.ErrRange {
				t.Errorf("Climb with the index %d and a path of %d = %x, %d; want ErrRange", i, length, got, errno)
			}
		}
	}
}

// Promise 3.3: what was given is as it was, and what is changed in an answer changes nothing else.
func TestNewMemory(t *testing.T) {
	for _, many := range sizes {
		// A longer slice would show what is written behind the leaves.
		all := someLeaves(many + 8)
		leaves := all[:many]
		Root(leaves...)
		first, _ := Path(leaves, many-1)
		second, _ := Path(leaves, many-1)
		Climb(leaves[many-1], many-1, first)
		if !slices.Equal(all, someLeaves(many+8)) || !slices.Equal(first, second) {
			t.Errorf("%d leaves: what was given is changed", many)
		}
		for _, path := range [][]api.Hash{first, first[:cap(first)]} {
			for i := range path {
				path[i] = api.Hash{1}
			}
		}
		if !slices.Equal(all, someLeaves(many+8)) {
			t.Errorf("%d leaves: a path shares their memory", many)
		}
		if !slices.Equal(second, wantPath(leaves, many-1)) {
			t.Errorf("%d leaves: two paths share their memory", many)
		}
	}
}

// Promise 3.4.
func TestThere(t *testing.T) {
	source := rand.New(rand.NewSource(1))
	for _, many := range sizes {
		leaves := make([]api.Hash, many)
		for i := range leaves {
			source.Read(leaves[i][:])
		}
		root, _ := Root(leaves...)
		for i, leaf := range leaves {
			path, errno := Path(leaves, i)
			if errno != api.OK {
				t.Fatalf("Path of leaf %d of %d: %d", i, many, errno)
			}
			if got, errno := Climb(leaf, i, path); got != root || errno != api.OK {
				t.Errorf("Climb from leaf %d of %d = %x, %d; want %x", i, many, got, errno, root)
			}
		}
	}
}

// Promise 3.5: each bit of the leaf and of its path counts, and so does the order of the path.
func TestNoOther(t *testing.T) {
	for _, many := range []int{1, 2, 8, 128} {
		leaves := someLeaves(many)
		root, _ := Root(leaves...)
		for _, i := range []int{0, many / 2, many - 1} {
			path, _ := Path(leaves, i)
			for at := range 256 {
				if got, errno := Climb(flipped(leaves[i], at), i, path); got == root || errno != api.OK {
					t.Errorf("leaf %d of %d with another bit %d: %x, %d", i, many, at, got, errno)
				}
				for j := range path {
					other := slices.Clone(path)
					other[j] = flipped(other[j], at)
					if got, errno := Climb(leaves[i], i, other); got == root || errno != api.OK {
						t.Errorf("leaf %d of %d with another bit %d in its path at %d: %x, %d", i, many, at, j, got, errno)
					}
				}
			}
			for j := 1; j < len(path); j++ {
				other := slices.Clone(path)
				other[j-1], other[j] = other[j], other[j-1]
				if got, _ := Climb(leaves[i], i, other); got == root {
					t.Errorf("leaf %d of %d with its path in another order at %d: the same root", i, many, j)
				}
			}
		}
	}
}

// Promise 3.5: no other leaf of the tree gets to the root by this leaf's index and path.
func TestNoOtherLeaf(t *testing.T) {
	leaves := someLeaves(128)
	root, _ := Root(leaves...)
	for i := range leaves {
		path, _ := Path(leaves, i)
		for j, leaf := range leaves {
			if got, _ := Climb(leaf, i, path); (got == root) != (i == j) {
				t.Errorf("Climb from leaf %d by the path of leaf %d = %x; the root is %x", j, i, got, root)
			}
		}
	}
}

// flipped is a hash with another bit.
func flipped(h api.Hash, bit int) api.Hash {
	h[bit/8] ^= 1 << (bit % 8)
	return h
}
