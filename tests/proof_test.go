package tests

import (
	"math"
	"math/big"
	"slices"
	"strconv"
	"strings"
	"testing"

	"loop.example/s02095/impl"
)

// A claim is all that a proof speaks of: that every ds[i] is the same multiple of cs[i] as b is of a.
type claim struct {
	mode   int
	a, b   impl.Point
	cs, ds []impl.Point
}

func (c claim) composites() (impl.Point, impl.Point, bool) {
	return impl.Composites(c.mode, c.b, c.cs, c.ds)
}

func (c claim) prove(k uint64, r uint64) (impl.Proof, bool) {
	return impl.Prove(c.mode, k, c.a, c.b, c.cs, c.ds, r)
}

func (c claim) check(proof impl.Proof) bool {
	return impl.Check(c.mode, c.a, c.b, c.cs, c.ds, proof)
}

// with is a copy, changed by the function alone.
func (c claim) with(change func(c *claim)) claim {
	c.cs, c.ds = slices.Clone(c.cs), slices.Clone(c.ds)
	change(&c)
	return c
}

func plainSized(s string) string {
	return string([]byte{byte(len(s) >> 8), byte(len(s))}) + s
}

func plainTag(word string, mode int) string {
	return word + "TOYPRF-" + strconv.Itoa(mode) + "-M61"
}

func plainScalar(msg string, mode int) uint64 {
	return plainNumbers(msg, plainTag("HashToScalar-", mode), impl.N, 1)[0]
}

// plainComposites has the document's m and z.
func plainComposites(c claim) (impl.Point, impl.Point) {
	seed := libraryHash(plainSized(impl.PutPoint(c.b)) + plainSized(plainTag("Seed-", c.mode)))
	m, z := zero, zero
	for i := range c.cs {
		msg := plainSized(seed) + string([]byte{byte(i >> 8), byte(i)}) + plainSized(impl.PutPoint(c.cs[i])) + plainSized(impl.PutPoint(c.ds[i])) + "Composite"
		w := plainScalar(msg, c.mode)
		m = plainSum(m, plainTimes(w, c.cs[i]))
		z = plainSum(z, plainTimes(w, c.ds[i]))
	}
	return m, z
}

func plainChallenge(mode int, points ...impl.Point) uint64 {
	msg := ""
	for _, p := range points {
		msg += plainSized(impl.PutPoint(p))
	}
	return plainScalar(msg+"Challenge", mode)
}

func plainProof(c claim, k uint64, r uint64) impl.Proof {
	m, _ := plainComposites(c)
	challenge := plainChallenge(c.mode, c.b, m, plainTimes(k, m), plainTimes(r, c.a), plainTimes(r, m))
	s := new(big.Int).Mul(bigWord(challenge), bigWord(k))
	s.Sub(bigWord(r), s)
	return impl.Proof{C: challenge, S: s.Mod(s, bigWord(impl.N)).Uint64()}
}

func plainCheck(c claim, proof impl.Proof) bool {
	if proof.C >= impl.N || proof.S >= impl.N {
		return false
	}
	m, z := plainComposites(c)
	x := plainSum(plainTimes(proof.S, c.a), plainTimes(proof.C, c.b))
	y := plainSum(plainTimes(proof.S, m), plainTimes(proof.C, z))
	return proof.C == plainChallenge(c.mode, c.b, m, z, x, y)
}

// trueClaim has points that are all different, and b and ds that are k times a and cs.
func trueClaim(mode int, k uint64, size int) claim {
	return claimOf(mode, k, impl.Times(5, impl.Base()), pointsFrom(7, size))
}

func claimOf(mode int, k uint64, a impl.Point, cs []impl.Point) claim {
	c := claim{mode: mode, a: a, b: impl.Times(k, a), cs: cs}
	for _, p := range cs {
		c.ds = append(c.ds, impl.Times(k, p))
	}
	return c
}

// pointsFrom has so many neighbours, beginning with that multiple of the base.
func pointsFrom(first uint64, size int) []impl.Point {
	var out []impl.Point
	for i := range size {
		out = append(out, impl.Times(first+uint64(i), impl.Base()))
	}
	return out
}

func zeros(size int) []impl.Point {
	return slices.Repeat([]impl.Point{zero}, size)
}

func modes() []int {
	return []int{0, 1, 2}
}

// scalars has the edges that the document names, and some between them.
func scalars() []uint64 {
	return []uint64{0, 1, 2, 1 << 32, impl.P, impl.N - 2, impl.N - 1, 987654321987654321}
}

// bigScalars would be in order, some of them, if they were reduced.
func bigScalars() []uint64 {
	return []uint64{impl.N, impl.N + 1, impl.N + 2, 2*impl.N - 1, 2 * impl.N, 7 * impl.N, 7*impl.N + 1, 1 << 62, 1 << 63, top - 1, top}
}

// wrongModes would be in order, some of them, if they were cut down to fewer bits.
func wrongModes() []int {
	return []int{-1, -2, -3, -10, -256, -1 << 32, 3, 4, 9, 10, 11, 48, 49, 255, 256, 257, 258, 1 << 16, 1<<16 + 1, 1 << 32, 1<<32 + 1, 1<<32 + 2,
		math.MaxInt32, math.MinInt32, math.MaxInt - 1, math.MaxInt, math.MinInt, math.MinInt + 1, math.MinInt + 2}
}

// zeroClaims has zero in every place and together, most of them true for the key k.
func zeroClaims(mode int, k uint64) []claim {
	base := trueClaim(mode, k, 3)
	return []claim{
		claimOf(mode, k, zero, base.cs),
		claimOf(mode, k, base.a, zeros(1)),
		claimOf(mode, k, base.a, zeros(3)),
		claimOf(mode, k, zero, zeros(2)),
		claimOf(mode, k, base.a, []impl.Point{zero, base.cs[1], base.cs[2]}),
		claimOf(mode, k, base.a, []impl.Point{base.cs[0], zero, zero}),
		base.with(func(c *claim) { c.a = zero }),
		base.with(func(c *claim) { c.b = zero }),
		base.with(func(c *claim) { c.cs[1] = zero }),
		base.with(func(c *claim) { c.ds[2] = zero }),
		base.with(func(c *claim) { c.ds = zeros(3) }),
		base.with(func(c *claim) { c.cs = zeros(3) }),
	}
}

// sampleClaims has true claims of several sizes, with points that come twice and opposite ones, with zeros, and claims that are not true.
func sampleClaims(mode int, k uint64) []claim {
	base := trueClaim(mode, k, 4)
	p, q := base.cs[0], plainNegative(base.cs[0])
	out := []claim{
		trueClaim(mode, k, 1), trueClaim(mode, k, 2), base,
		claimOf(mode, k, impl.Base(), []impl.Point{p, p, p}),
		claimOf(mode, k, p, []impl.Point{p, q, p, q}),
		base.with(func(c *claim) { c.b = p }),
		base.with(func(c *claim) { c.ds[3] = p }),
		base.with(func(c *claim) { c.cs, c.ds = c.ds, c.cs }),
	}
	return append(out, zeroClaims(mode, k)...)
}

// wrongClaims are not in order, each by one thing that is not a.
func wrongClaims() []claim {
	base := trueClaim(1, 2, 3)
	var out []claim
	for _, mode := range wrongModes() {
		out = append(out, base.with(func(c *claim) { c.mode = mode }))
	}
	for _, sizes := range wrongBatches() {
		out = append(out, base.with(func(c *claim) { c.cs, c.ds = sizes[0], sizes[1] }))
	}
	for _, none := range noPoints() {
		out = append(out, base.with(func(c *claim) { c.b = none }))
		for i := range base.cs {
			out = append(out, base.with(func(c *claim) { c.cs[i] = none }), base.with(func(c *claim) { c.ds[i] = none }))
		}
	}
	return out
}

// wrongBatches are empty, of unequal sizes, or greater than MaxBatch.
func wrongBatches() [][2][]impl.Point {
	out := [][2][]impl.Point{{nil, nil}, {{}, {}}, {nil, {}}, {{}, nil}}
	for _, sizes := range [][2]int{{0, 1}, {1, 0}, {1, 2}, {2, 1}, {0, 200}, {200, 0}, {199, 200}, {200, 199}, {200, 201}, {201, 200},
		{201, 201}, {202, 202}, {256, 256}, {257, 257}, {400, 400}, {1, 257}, {257, 1}} {
		out = append(out, [2][]impl.Point{pointsFrom(1, sizes[0]), pointsFrom(2, sizes[1])}, [2][]impl.Point{zeros(sizes[0]), zeros(sizes[1])})
	}
	return append(out, [2][]impl.Point{zeros(65536), zeros(65536)}, [2][]impl.Point{zeros(65537), zeros(65537)})
}

func TestMaxBatch(t *testing.T) {
	if impl.MaxBatch != 200 {
		t.Errorf("MaxBatch is %d", impl.MaxBatch)
	}
}

func knownClaim(mode int) claim {
	return claim{mode, impl.Base(), pointsFrom(2, 1)[0], pointsFrom(2, 2), []impl.Point{impl.Times(4, impl.Base()), impl.Times(6, impl.Base())}}
}

func TestCompositesKnown(t *testing.T) {
	m, z, ok := impl.Composites(1, impl.Base(), knownClaim(1).cs, knownClaim(1).ds)
	wantPoint(t, m, impl.Point{X: 405119553633082647, Y: 1480486349846891811}, "the first")
	wantPoint(t, z, impl.Point{X: 557252756005846941, Y: 710898790098828827}, "the second")
	if !ok {
		t.Error("false")
	}
}

func checkComposites(t *testing.T, c claim) {
	t.Helper()
	m, z, ok := c.composites()
	wantM, wantZ := plainComposites(c)
	wantPoint(t, m, wantM, "the first of %v", c)
	wantPoint(t, z, wantZ, "the second of %v", c)
	if !ok {
		t.Errorf("%v: false", c)
	}
}

func TestComposites(t *testing.T) {
	for _, mode := range modes() {
		for _, k := range []uint64{0, 1, 3, impl.N - 1} {
			for _, c := range sampleClaims(mode, k) {
				checkComposites(t, c)
			}
		}
	}
	for _, p := range curvePoints()[:30] {
		checkComposites(t, claim{0, zero, p, []impl.Point{p}, []impl.Point{impl.Base()}})
		checkComposites(t, claim{2, zero, impl.Base(), []impl.Point{impl.Base()}, []impl.Point{p}})
	}
}

func TestCompositesSizes(t *testing.T) {
	for _, size := range []int{1, 2, 3, 10, 127, 128, 199, impl.MaxBatch} {
		checkComposites(t, trueClaim(1, 3, size))
	}
	checkComposites(t, claimOf(2, 3, impl.Base(), zeros(impl.MaxBatch)))
}

// Every place has its own weight, and it hangs on both points there, on b and on the mode.
func TestCompositesHangOnAll(t *testing.T) {
	base := trueClaim(1, 3, 4)
	p := impl.Times(99, impl.Base())
	cases := []claim{base,
		base.with(func(c *claim) { c.mode = 0 }),
		base.with(func(c *claim) { c.mode = 2 }),
		base.with(func(c *claim) { c.b = p }),
		base.with(func(c *claim) { c.b = plainNegative(c.b) }),
		base.with(func(c *claim) { c.b = zero }),
		base.with(func(c *claim) { c.cs[0], c.cs[1], c.ds[0], c.ds[1] = c.cs[1], c.cs[0], c.ds[1], c.ds[0] }),
		base.with(func(c *claim) { c.cs, c.ds = c.ds, c.cs }),
	}
	for i := range base.cs {
		cases = append(cases, base.with(func(c *claim) { c.cs[i] = p }), base.with(func(c *claim) { c.ds[i] = p }))
	}
	seen := map[impl.Point]int{}
	for i, c := range cases {
		m, z, _ := c.composites()
		for _, got := range []impl.Point{m, z} {
			if before, ok := seen[got]; ok {
				t.Errorf("cases %d and %d have a composite in common", before, i)
			}
			seen[got] = i
		}
	}
}

func TestCompositesOfOthers(t *testing.T) {
	for _, c := range wrongClaims() {
		if m, z, ok := c.composites(); m != (impl.Point{}) || z != (impl.Point{}) || ok {
			t.Errorf("mode %d, b %v, %d and %d points: %v, %v, %v", c.mode, c.b, len(c.cs), len(c.ds), m, z, ok)
		}
	}
}

func TestProveKnown(t *testing.T) {
	proof, ok := knownClaim(0).prove(2, 9)
	if !ok || proof != (impl.Proof{C: 1155003884665533370, S: 2301678252305097375}) {
		t.Errorf("%v, %v", proof, ok)
	}
}

func checkProve(t *testing.T, c claim, k uint64, r uint64) {
	t.Helper()
	if proof, ok := c.prove(k, r); proof != plainProof(c, k, r) || !ok {
		t.Errorf("the key %d, the nonce %d, %v: %v, %v", k, r, c, proof, ok)
	}
}

func TestProve(t *testing.T) {
	for _, mode := range modes() {
		for _, k := range scalars() {
			for _, r := range scalars() {
				checkProve(t, trueClaim(mode, k, 2), k, r)
			}
		}
	}
}

// Prove does not ask whether what it proves is so.
func TestProveOfClaims(t *testing.T) {
	for _, mode := range modes() {
		for _, k := range []uint64{0, 3, impl.N - 1} {
			for _, c := range sampleClaims(mode, k) {
				checkProve(t, c, k, 77)
				checkProve(t, c, 4, impl.N-1)
			}
		}
	}
}

func checkAccepted(t *testing.T, c claim, k uint64, r uint64) {
	t.Helper()
	proof, ok := c.prove(k, r)
	if !ok || proof.C >= impl.N || proof.S >= impl.N || !c.check(proof) {
		t.Errorf("mode %d, the key %d, the nonce %d, %d points: %v, %v, or it is not accepted", c.mode, k, r, len(c.cs), proof, ok)
	}
}

// Promise 6.
func TestProveIsAccepted(t *testing.T) {
	numbers := scalars()
	for _, word := range spread(10) {
		numbers = append(numbers, word%impl.N)
	}
	for _, mode := range modes() {
		for _, k := range numbers {
			for _, r := range numbers {
				checkAccepted(t, trueClaim(mode, k, 2), k, r)
			}
		}
	}
}

// Promise 6: batches of all sizes.
func TestProveIsAcceptedForBatches(t *testing.T) {
	whole := trueClaim(2, 12345, impl.MaxBatch)
	for size := 1; size <= impl.MaxBatch; size++ {
		checkAccepted(t, whole.with(func(c *claim) { c.mode, c.cs, c.ds = size%3, c.cs[:size], c.ds[:size] }), 12345, uint64(size))
	}
	for _, mode := range modes() {
		for _, k := range []uint64{0, 1, impl.N - 1} {
			checkAccepted(t, trueClaim(mode, k, impl.MaxBatch), k, impl.N-1)
			checkAccepted(t, claimOf(mode, k, impl.Base(), zeros(impl.MaxBatch)), k, 1)
		}
	}
}

// Promise 6: zero as a, as b and in the batch.
func TestProveIsAcceptedForZeros(t *testing.T) {
	for _, mode := range modes() {
		for _, k := range scalars() {
			for _, c := range zeroClaims(mode, k)[:6] {
				checkAccepted(t, c, k, 0)
				checkAccepted(t, c, k, 31)
				checkAccepted(t, c, k, impl.N-1)
			}
		}
	}
}

func TestProveForAllPoints(t *testing.T) {
	for _, p := range curvePoints() {
		for _, k := range []uint64{2, impl.N - 1} {
			checkAccepted(t, claimOf(0, k, p, []impl.Point{impl.Base()}), k, 5)
			checkAccepted(t, claimOf(1, k, impl.Base(), []impl.Point{p, p}), k, 5)
			checkAccepted(t, claimOf(2, k, p, []impl.Point{p, impl.Base(), plainNegative(p)}), k, 5)
		}
	}
}

// With cs of zeros alone the challenge does not hang on the key, so that a key can be had for each S.
func TestProveGivesEveryS(t *testing.T) {
	for _, a := range []impl.Point{zero, impl.Base()} {
		for _, s := range scalars() {
			for _, r := range []uint64{1, 2, 500, impl.N - 1} {
				c := claim{1, a, impl.Times(3, impl.Base()), zeros(2), zeros(2)}
				challenge := plainProof(c, 0, r).C
				k := bigProduct((r+impl.N-s)%impl.N, impl.InvMod(challenge, impl.N), impl.N)
				if proof, ok := c.prove(k, r); proof != (impl.Proof{C: challenge, S: s}) || !ok {
					t.Errorf("the nonce %d, S %d: %v, %v", r, s, proof, ok)
				}
			}
		}
	}
}

func checkNoProof(t *testing.T, c claim, k uint64, r uint64) {
	t.Helper()
	if proof, ok := c.prove(k, r); proof != (impl.Proof{}) || ok {
		t.Errorf("mode %d, the key %d, the nonce %d, a %v, b %v, %d and %d points: %v, %v", c.mode, k, r, c.a, c.b, len(c.cs), len(c.ds), proof, ok)
	}
}

// Promise 6: empty and unequal batches among the others.
func TestProveOfOthers(t *testing.T) {
	base := trueClaim(1, 2, 3)
	for _, c := range wrongClaims() {
		checkNoProof(t, c, 2, 9)
	}
	for _, none := range noPoints() {
		checkNoProof(t, base.with(func(c *claim) { c.a = none }), 2, 9)
	}
	for _, wrong := range bigScalars() {
		checkNoProof(t, base, wrong, 9)
		checkNoProof(t, base, 2, wrong)
		checkNoProof(t, base, wrong, wrong)
		checkNoProof(t, claimOf(0, 0, zero, zeros(1)), wrong, 0)
		checkNoProof(t, claimOf(0, 0, zero, zeros(1)), 0, wrong)
	}
}

func checkSays(t *testing.T, c claim, proof impl.Proof) {
	t.Helper()
	if got, want := c.check(proof), plainCheck(c, proof); got != want {
		t.Errorf("%v of %v: got %v, want %v", proof, c, got, want)
	}
}

// changedProofs has proofs with one number changed, or both.
func changedProofs(proof impl.Proof) []impl.Proof {
	out := []impl.Proof{{}, {C: proof.S, S: proof.C}, {C: impl.N - 1, S: impl.N - 1}, {C: impl.N - 1 - proof.C, S: proof.S}, {C: proof.C, S: impl.N - 1 - proof.S}}
	for _, n := range append(scalars(), bigScalars()...) {
		out = append(out, impl.Proof{C: n, S: proof.S}, impl.Proof{C: proof.C, S: n})
	}
	for _, bit := range []int{0, 1, 31, 32, 60, 61, 62, 63} {
		out = append(out, impl.Proof{C: proof.C ^ 1<<bit, S: proof.S}, impl.Proof{C: proof.C, S: proof.S ^ 1<<bit})
	}
	return append(out, impl.Proof{C: proof.C + 1, S: proof.S}, impl.Proof{C: proof.C - 1, S: proof.S}, impl.Proof{C: proof.C, S: proof.S + 1}, impl.Proof{C: proof.C, S: proof.S - 1})
}

// Promise 6: what Check says of proofs that Prove did not make.
func TestCheckOfChangedProofs(t *testing.T) {
	for _, mode := range modes() {
		c := trueClaim(mode, 3, 2)
		proof, _ := c.prove(3, 8)
		for _, changed := range changedProofs(proof) {
			checkSays(t, c, changed)
			if changed != proof && c.check(changed) {
				t.Errorf("%v is taken for %v", changed, proof)
			}
		}
	}
}

// Promise 6: also where all is zero, and S makes no difference.
func TestCheckOfZeros(t *testing.T) {
	for _, mode := range modes() {
		c := claimOf(mode, 0, zero, zeros(3))
		challenge := plainChallenge(mode, zero, zero, zero, zero, zero)
		for _, s := range scalars() {
			if !c.check(impl.Proof{C: challenge, S: s}) {
				t.Errorf("mode %d, all zero, S %d: not accepted", mode, s)
			}
			if c.check(impl.Proof{C: challenge + 1, S: s}) || c.check(impl.Proof{C: s, S: s}) {
				t.Errorf("mode %d, all zero, S %d: another challenge is accepted", mode, s)
			}
		}
		for _, s := range bigScalars() {
			if c.check(impl.Proof{C: challenge, S: s}) {
				t.Errorf("mode %d, all zero, S %d: accepted", mode, s)
			}
		}
	}
}

// An S of 0 and one of N - 1 are accepted where they belong, with the key 0.
func TestCheckOfEdges(t *testing.T) {
	for _, mode := range modes() {
		for _, s := range scalars() {
			c := trueClaim(mode, 0, 3)
			proof, _ := c.prove(0, s)
			if proof.S != s || !c.check(proof) {
				t.Errorf("mode %d, the key 0, the nonce %d: %v, or it is not accepted", mode, s, proof)
			}
			checkSays(t, c, impl.Proof{C: 0, S: s})
			checkSays(t, c, impl.Proof{C: impl.N - 1, S: s})
		}
	}
}

// The number above N that stands for the same is refused in both places.
func TestCheckOfNAndMore(t *testing.T) {
	for _, mode := range modes() {
		c := trueClaim(mode, 3, 2)
		proof, _ := c.prove(3, 8)
		for times := uint64(1); times <= 6; times++ {
			more := times * impl.N
			for _, wrong := range []impl.Proof{{C: proof.C + more, S: proof.S}, {C: proof.C, S: proof.S + more}, {C: proof.C + more, S: proof.S + more}} {
				if c.check(wrong) {
					t.Errorf("%v is taken for %v", wrong, proof)
				}
			}
		}
	}
}

// Promise 6: proofs of all kinds against claims of all kinds.
func TestCheckOfOtherClaims(t *testing.T) {
	for _, mode := range modes() {
		claims := sampleClaims(mode, 3)
		for i, c := range claims {
			own, _ := c.prove(3, 8)
			checkSays(t, c, own)
			other, _ := claims[(i+1)%len(claims)].prove(3, 8)
			checkSays(t, c, other)
			otherKey, _ := c.prove(4, 8)
			checkSays(t, c, otherKey)
		}
	}
}

func TestCheckOfOtherModes(t *testing.T) {
	for _, mode := range modes() {
		c := trueClaim(mode, 3, 2)
		proof, _ := c.prove(3, 8)
		for _, other := range append(modes(), wrongModes()...) {
			if got := c.with(func(c *claim) { c.mode = other }).check(proof); got != (other == mode) {
				t.Errorf("a proof of mode %d against mode %d: %v", mode, other, got)
			}
		}
	}
}

// changedClaims has one point each changed, both lists changed alike, or entries left out or added.
func changedClaims(base claim) []claim {
	p := impl.Times(99, impl.Base())
	out := []claim{
		base.with(func(c *claim) { c.a = p }), base.with(func(c *claim) { c.a = plainNegative(c.a) }), base.with(func(c *claim) { c.a = zero }),
		base.with(func(c *claim) { c.b = p }), base.with(func(c *claim) { c.b = plainNegative(c.b) }), base.with(func(c *claim) { c.b = zero }),
		base.with(func(c *claim) { c.a, c.b = c.b, c.a }), base.with(func(c *claim) { c.cs, c.ds = c.ds, c.cs }),
		base.with(func(c *claim) { slices.Reverse(c.cs); slices.Reverse(c.ds) }), base.with(func(c *claim) { slices.Reverse(c.ds) }),
		base.with(func(c *claim) { c.cs, c.ds = c.cs[1:], c.ds[1:] }), base.with(func(c *claim) { c.cs, c.ds = c.cs[:1], c.ds[:1] }),
		base.with(func(c *claim) { c.cs, c.ds = slices.Insert(c.cs, 0, zero), slices.Insert(c.ds, 0, zero) }),
		base.with(func(c *claim) { c.cs, c.ds = append(c.cs, c.cs[0]), append(c.ds, c.ds[0]) }),
	}
	for i := range base.cs {
		out = append(out, base.with(func(c *claim) { c.cs[i] = p }), base.with(func(c *claim) { c.ds[i] = p }),
			base.with(func(c *claim) { c.cs[i] = zero }), base.with(func(c *claim) { c.ds[i] = zero }),
			base.with(func(c *claim) { c.cs[i], c.ds[i] = zero, zero }),
			base.with(func(c *claim) { c.cs[i], c.ds[i] = plainNegative(c.cs[i]), plainNegative(c.ds[i]) }))
	}
	return out
}

// Promise 6: what holds for one claim is not taken for another.
func TestCheckOfChangedClaims(t *testing.T) {
	for _, mode := range modes() {
		base := trueClaim(mode, 3, 3)
		proof, _ := base.prove(3, 8)
		for i, c := range changedClaims(base) {
			checkSays(t, c, proof)
			if c.check(proof) {
				t.Errorf("mode %d, change %d is accepted", mode, i)
			}
		}
	}
}

// Zeros at the end shift no other entry and add nothing: so the proof holds for them as well.
func TestCheckOfZerosAdded(t *testing.T) {
	for _, mode := range modes() {
		c := trueClaim(mode, 3, 3)
		proof, _ := c.prove(3, 8)
		for len(c.cs) <= impl.MaxBatch {
			if !c.check(proof) {
				t.Errorf("mode %d: not accepted with zeros up to %d entries", mode, len(c.cs))
			}
			c.cs, c.ds = append(c.cs, zero), append(c.ds, zero)
		}
		if c.check(proof) {
			t.Errorf("mode %d: accepted with zeros up to %d entries", mode, len(c.cs))
		}
	}
}

// A proof with another key than that of b, and one of which an entry has another key.
func TestCheckOfWrongKeys(t *testing.T) {
	for _, mode := range modes() {
		for _, k := range scalars() {
			wrong := (k + 1) % impl.N
			c := trueClaim(mode, k, 3)
			if proof, _ := c.prove(wrong, 8); c.check(proof) {
				t.Errorf("mode %d: the key %d for %d is accepted", mode, wrong, k)
			}
			c.ds[1] = impl.Times(wrong, c.cs[1])
			if proof, _ := c.prove(k, 8); c.check(proof) {
				t.Errorf("mode %d, the key %d: an entry with %d is accepted", mode, k, wrong)
			}
		}
	}
}

// Promise 6: arguments that are not in order, with the proof of what they come from.
func TestCheckOfOthers(t *testing.T) {
	base := trueClaim(1, 2, 3)
	proof, _ := base.prove(2, 9)
	allZero := impl.Proof{C: plainChallenge(1, zero, zero, zero, zero, zero), S: 1}
	for _, c := range wrongClaims() {
		if c.check(proof) || c.check(impl.Proof{}) || c.check(allZero) {
			t.Errorf("mode %d, b %v, %d and %d points: accepted", c.mode, c.b, len(c.cs), len(c.ds))
		}
	}
	for _, none := range noPoints() {
		if base.with(func(c *claim) { c.a = none }).check(proof) {
			t.Errorf("a %v: accepted", none)
		}
		c := claimOf(1, 0, zero, zeros(2))
		for _, wrong := range []claim{c.with(func(c *claim) { c.a = none }), c.with(func(c *claim) { c.b = none }),
			c.with(func(c *claim) { c.cs[1] = none }), c.with(func(c *claim) { c.ds[0] = none })} {
			if wrong.check(allZero) {
				t.Errorf("%v in place of zero: accepted", none)
			}
		}
	}
	if c := claimOf(1, 0, zero, zeros(201)); c.check(allZero) {
		t.Error("201 zeros: accepted")
	}
}

// What lies behind the lists is neither read nor written, and the lists stay as they are.
func TestProofsLeaveTheirArguments(t *testing.T) {
	whole := trueClaim(1, 3, 6)
	c := whole.with(func(c *claim) { c.cs, c.ds = c.cs[:3], c.ds[:3] })
	kept := c.with(func(c *claim) {})
	proof, _ := c.prove(3, 8)
	if !c.check(proof) || !kept.check(proof) {
		t.Error("not accepted")
	}
	c.composites()
	if !slices.Equal(c.cs[:6], whole.cs) || !slices.Equal(c.ds[:6], whole.ds) {
		t.Error("a list was written into")
	}
	if again, _ := c.prove(3, 8); again != proof {
		t.Errorf("the same call answers %v and %v", proof, again)
	}
	shared := claimOf(0, 1, impl.Base(), whole.cs)
	shared.ds = shared.cs
	checkAccepted(t, shared, 1, 8)
}

func proofNumbers() []impl.Proof {
	numbers := []uint64{0, 1, 255, 256, 258, 1 << 32, 1 << 60, impl.P, impl.N - 2, impl.N - 1}
	for _, word := range spread(10) {
		numbers = append(numbers, word%impl.N)
	}
	var out []impl.Proof
	for _, c := range numbers {
		for _, s := range numbers {
			out = append(out, impl.Proof{C: c, S: s})
		}
	}
	return out
}

func TestPutProof(t *testing.T) {
	wantHex(t, "1 and 258", impl.PutProof(impl.Proof{C: 1, S: 258}), "00000000000000010000000000000102")
	wantHex(t, "the zero Proof", impl.PutProof(impl.Proof{}), strings.Repeat("00", 16))
	for _, proof := range proofNumbers() {
		if got := impl.PutProof(proof); got != impl.PutWord(proof.C)+impl.PutWord(proof.S) {
			t.Errorf("PutProof of %v: %x", proof, got)
		}
	}
}

// Promise 4, of proofs.
func TestGetProofOfPutProof(t *testing.T) {
	for _, proof := range proofNumbers() {
		s := impl.PutProof(proof)
		got, ok := impl.GetProof(s)
		if got != proof || !ok || impl.PutProof(got) != s {
			t.Errorf("GetProof of PutProof of %v: %v, %v", proof, got, ok)
		}
	}
}

func checkNotProof(t *testing.T, s string) {
	t.Helper()
	if proof, ok := impl.GetProof(s); proof != (impl.Proof{}) || ok {
		t.Errorf("GetProof of %x: %v, %v", s, proof, ok)
	}
}

// Promise 4, of proofs: numbers of N or more in either place.
func TestGetProofOfNAndMore(t *testing.T) {
	for _, wrong := range bigScalars() {
		for _, right := range append(scalars(), wrong) {
			checkNotProof(t, impl.PutWord(wrong)+impl.PutWord(right))
			checkNotProof(t, impl.PutWord(right)+impl.PutWord(wrong))
			checkNotProof(t, impl.PutProof(impl.Proof{C: wrong, S: right}))
			checkNotProof(t, impl.PutProof(impl.Proof{C: right, S: wrong}))
		}
	}
}

func TestGetProofOfOtherSizes(t *testing.T) {
	for size := range 50 {
		for _, s := range []string{strings.Repeat("\x00", size), strings.Repeat("\x01", size), sample(1, size)} {
			if size != 16 {
				checkNotProof(t, s)
			}
		}
	}
	s := impl.PutProof(impl.Proof{C: 1, S: 258})
	for _, wrong := range []string{"\x00" + s, s + "\x00", s[1:], s[:15], s + s, s[:8], s + s[:8], strings.Repeat("\x00", 1<<16+16)} {
		checkNotProof(t, wrong)
	}
}
