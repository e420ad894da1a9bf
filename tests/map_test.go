package tests

import (
	"math"
	"math/big"
	"slices"
	"strings"
	"testing"

	"loop.example/s02095/impl"
)

// plainBlocks is the document's b1 b2 b3 .., as many as n bytes ask for.
func plainBlocks(msg string, tag string, n int) string {
	ending := tag + string([]byte{byte(len(tag))})
	start := libraryHash(strings.Repeat("\x00", 64) + msg + string([]byte{byte(n >> 8), byte(n), 0}) + ending)
	last := libraryHash(start + "\x01" + ending)
	out := last
	for i := 2; len(out) < n; i++ {
		mixed := []byte(last)
		for j := range mixed {
			mixed[j] ^= start[j]
		}
		last = libraryHash(string(mixed) + string([]byte{byte(i)}) + ending)
		out += last
	}
	return out
}

func plainNumbers(msg string, tag string, m uint64, count int) []uint64 {
	blocks := plainBlocks(msg, tag, 24*count)
	var out []uint64
	for i := range count {
		out = append(out, bigReduced(blocks[24*i:24*i+24], m))
	}
	return out
}

// field is a number modulo P, for what is written down in the document's own words.
type field struct{ n *big.Int }

func fieldOf(w uint64) field {
	return field{new(big.Int).Mod(bigWord(w), bigWord(impl.P))}
}

func (a field) times(b field) field {
	product := new(big.Int).Mul(a.n, b.n)
	return field{product.Mod(product, bigWord(impl.P))}
}

func (a field) plus(b field) field {
	sum := new(big.Int).Add(a.n, b.n)
	return field{sum.Mod(sum, bigWord(impl.P))}
}

func (a field) over(b field) field {
	return a.times(field{new(big.Int).ModInverse(b.n, bigWord(impl.P))})
}

// plainShift is MapZ * u^2.
func plainShift(u uint64) field {
	return fieldOf(impl.MapZ).times(fieldOf(u)).times(fieldOf(u))
}

// plainT is the document's t.
func plainT(u uint64) field {
	shift := plainShift(u)
	return shift.times(shift).plus(shift)
}

// plainFirst is the document's x1.
func plainFirst(u uint64) field {
	a, b, t := fieldOf(impl.P-3), fieldOf(111), plainT(u)
	if t.n.Sign() == 0 {
		return b.over(fieldOf(impl.MapZ).times(a))
	}
	return fieldOf(impl.P - 111).over(a).times(fieldOf(1).plus(fieldOf(1).over(t)))
}

func firstIsOfPoint(u uint64) bool {
	return pointsAt(plainFirst(u).n.Uint64()) != nil
}

func plainMap(u uint64) impl.Point {
	x := plainFirst(u)
	if !firstIsOfPoint(u) {
		x = plainShift(u).times(x)
	}
	return pointsAt(x.n.Uint64())[u%impl.P%2]
}

// withoutT are the numbers below P for which t is 0: 2 * u^2 is 0 or 1.
func withoutT() []uint64 {
	return []uint64{0, 1 << 30, impl.P - 1<<30}
}

// mapNumbers has small and great numbers, those for which t is 0 and their neighbours, and each of these with P added.
func mapNumbers() []uint64 {
	out := append(words(), spread(400)...)
	for i := range uint64(200) {
		out = append(out, i, impl.P-1-i)
	}
	for _, u := range withoutT() {
		for times := range uint64(8) {
			out = append(out, u+times*impl.P-1, u+times*impl.P, u+times*impl.P+1)
		}
	}
	return out
}

type messageCase struct{ msg, tag string }

// messageCases has the sizes at which a message, a tag or both end a block of the hash, and the least and the greatest.
func messageCases() []messageCase {
	var out []messageCase
	for _, m := range []int{0, 1, 31, 32, 33, 50, 55, 56, 63, 64, 65, 119, 1000, impl.MaxInput - 1, impl.MaxInput} {
		for _, k := range []int{1, 2, 20, 21, 22, 23, 31, 32, 33, 64, 127, 128, 129, 253, 254, 255} {
			out = append(out, messageCase{sample(m+k, m), sample(k, k)})
		}
	}
	return append(out, messageCase{"", "\x00"}, messageCase{"\x00", "\x00"}, messageCase{"", strings.Repeat("\xff", 255)})
}

// wrongCases has a tag or a message of a size that is not in order, or both.
func wrongCases() []messageCase {
	long := impl.MaxInput + 1
	return []messageCase{{"", ""}, {"abc", ""}, {"abc", sample(1, 256)}, {"", sample(1, 256)}, {"abc", sample(1, 257)}, {"abc", sample(1, 512)},
		{"abc", sample(1, 65536)}, {"abc", sample(1, 65537)}, {sample(1, long), "tag"}, {sample(1, long+1), "tag"}, {sample(1, 2*long), "tag"},
		{sample(1, long), ""}, {sample(1, long), sample(1, 256)}, {sample(1, impl.MaxInput), ""}}
}

// wrongSizes would be in order, some of them, if they were cut down to fewer bits.
func wrongSizes() []int {
	return []int{0, -1, -2, -32, -maxExpand, -65535, -65536 + 32, maxExpand + 1, maxExpand + 2, maxExpand + 32, 8192, 65535, 65536, 65536 + 32,
		1 << 32, 1<<32 + 32, -1 << 32, -1<<32 + 32, math.MaxInt32, math.MinInt32, math.MaxInt, math.MinInt, math.MinInt + 32}
}

// wrongCounts would be in order, some of them, if their product with 24 wrapped round.
func wrongCounts() []int {
	out := []int{0, -1, -2, -340, 341, 342, 1000, 65536, 1 << 32, -1 << 32, math.MaxInt32, math.MinInt32, math.MaxInt, math.MinInt}
	for _, shift := range []int{29, 30, 31, 60, 61, 62} {
		out = append(out, 1<<shift+1, 1<<shift+5, -1<<shift+1, -1<<shift+5)
	}
	return append(out, math.MinInt+1, math.MinInt+5)
}

func TestMapZ(t *testing.T) {
	if uint64(impl.MapZ) != impl.P-2 {
		t.Errorf("MapZ is %d", uint64(impl.MapZ))
	}
}

// The examples of RFC 9380.
func TestExpandMessageKnown(t *testing.T) {
	tag := "QUUX-V01-CS02-with-expander-SHA256-128"
	for _, c := range []struct{ msg, want string }{
		{"", "68a985b87eb6b46952128911f2a4412bbc302a9d759667f87f7a21d803f07235"},
		{"abc", "d8ccab23b5985ccea865c6c97b6e5b8350e794e603b4b97902f53a8a0d605615"},
		{"abcdef0123456789", "eff31487c770a893cfb36f912fbfcbff40d5661771ca4b2cb4eafe524333f5c1"},
	} {
		out, ok := impl.ExpandMessage(c.msg, tag, 32)
		wantHex(t, "ExpandMessage of "+c.msg, out, c.want)
		if !ok {
			t.Errorf("ExpandMessage of %q: false", c.msg)
		}
	}
}

func checkExpandMessage(t *testing.T, c messageCase, n int) {
	t.Helper()
	out, ok := impl.ExpandMessage(c.msg, c.tag, n)
	if !ok || len(out) != n || out != plainBlocks(c.msg, c.tag, n)[:n] {
		t.Errorf("%d bytes of a message of %d with a tag of %d: %d bytes, %v, or others", n, len(c.msg), len(c.tag), len(out), ok)
	}
}

// Promise 1.
func TestExpandMessageHasItsSize(t *testing.T) {
	for _, c := range []messageCase{{"", "t"}, {"abc", "tag"}, {sample(1, 200), sample(2, 255)}} {
		for _, n := range expandSizes() {
			if n > 0 {
				checkExpandMessage(t, c, n)
			}
		}
	}
}

func TestExpandMessage(t *testing.T) {
	for _, c := range messageCases() {
		for _, n := range []int{1, 2, 24, 31, 32, 33, 48, 64, 65, 255, 256, 257} {
			checkExpandMessage(t, c, n)
		}
	}
	for _, c := range []messageCase{{"", "t"}, {"", sample(1, 255)}, {sample(1, impl.MaxInput), "t"}, {sample(1, impl.MaxInput), sample(1, 255)}} {
		checkExpandMessage(t, c, maxExpand-1)
		checkExpandMessage(t, c, maxExpand)
	}
}

// The size asked for is hashed as well, so that a longer answer is another one from its first byte on.
func TestExpandMessageHangsOnItsSize(t *testing.T) {
	seen := map[string]int{}
	for n := 32; n <= maxExpand; n += 32 {
		out, _ := impl.ExpandMessage("abc", "tag", n)
		if len(out) != n {
			t.Fatalf("%d bytes asked for: %d", n, len(out))
		}
		if before := seen[out[:32]]; before != 0 {
			t.Errorf("%d and %d bytes begin alike", before, n)
		}
		seen[out[:32]] = n
	}
}

func checkNoMessage(t *testing.T, c messageCase, n int) {
	t.Helper()
	if out, ok := impl.ExpandMessage(c.msg, c.tag, n); out != "" || ok {
		t.Errorf("%d bytes of a message of %d with a tag of %d: %d bytes, %v", n, len(c.msg), len(c.tag), len(out), ok)
	}
}

// Promise 1.
func TestExpandMessageOfOthers(t *testing.T) {
	for _, n := range wrongSizes() {
		for _, c := range append(wrongCases(), messageCase{"", "t"}, messageCase{"abc", "tag"}, messageCase{sample(1, impl.MaxInput), sample(1, 255)}) {
			checkNoMessage(t, c, n)
		}
	}
	for _, c := range wrongCases() {
		for _, n := range []int{1, 31, 32, 33, 8159, maxExpand} {
			checkNoMessage(t, c, n)
		}
	}
}

func checkNumbers(t *testing.T, c messageCase, m uint64, count int) {
	t.Helper()
	out, ok := impl.HashToField(c.msg, c.tag, m, count)
	if !ok || !slices.Equal(out, plainNumbers(c.msg, c.tag, m, count)) {
		t.Errorf("%d numbers modulo %d of a message of %d with a tag of %d: %v, %v", count, m, len(c.msg), len(c.tag), out, ok)
	}
}

func TestHashToFieldKnown(t *testing.T) {
	out, ok := impl.HashToField("abc", "tag", impl.P, 2)
	if !ok || !slices.Equal(out, []uint64{228392534199071554, 175215218064640332}) {
		t.Errorf("two numbers of abc: %v, %v", out, ok)
	}
}

func TestHashToFieldCounts(t *testing.T) {
	for _, m := range []uint64{1, 2, impl.P, impl.N, top} {
		for _, count := range []int{1, 2, 3, 4, 5, 10, 11, 100, 338, 339, 340} {
			checkNumbers(t, messageCase{"abc", "tag"}, m, count)
		}
	}
}

func TestHashToFieldModuli(t *testing.T) {
	for _, m := range moduli() {
		if m != 0 {
			checkNumbers(t, messageCase{"abc", "tag"}, m, 20)
			checkNumbers(t, messageCase{"", sample(1, 255)}, m, 1)
		}
	}
	if out, ok := impl.HashToField("abc", "tag", 1, 3); !ok || !slices.Equal(out, []uint64{0, 0, 0}) {
		t.Errorf("three numbers modulo 1: %v, %v", out, ok)
	}
}

func TestHashToFieldMessages(t *testing.T) {
	for _, c := range messageCases() {
		checkNumbers(t, c, impl.P, 2)
	}
}

func checkNoNumbers(t *testing.T, c messageCase, m uint64, count int) {
	t.Helper()
	if out, ok := impl.HashToField(c.msg, c.tag, m, count); len(out) != 0 || ok {
		t.Errorf("%d numbers modulo %d of a message of %d with a tag of %d: %v, %v", count, m, len(c.msg), len(c.tag), out, ok)
	}
}

func TestHashToFieldOfOthers(t *testing.T) {
	for _, count := range wrongCounts() {
		for _, m := range []uint64{0, 1, 7, impl.P, top} {
			checkNoNumbers(t, messageCase{"abc", "tag"}, m, count)
			checkNoNumbers(t, messageCase{"abc", ""}, m, count)
		}
	}
	for _, count := range []int{1, 2, 340} {
		checkNoNumbers(t, messageCase{"abc", "tag"}, 0, count)
		for _, c := range wrongCases() {
			checkNoNumbers(t, c, 0, count)
			checkNoNumbers(t, c, 7, count)
			checkNoNumbers(t, c, impl.P, count)
		}
	}
}

// What is written into one answer is not met by another.
func TestHashToFieldIsNew(t *testing.T) {
	want := plainNumbers("abc", "tag", impl.P, 9)
	first, _ := impl.HashToField("abc", "tag", impl.P, 9)
	second, _ := impl.HashToField("abc", "tag", impl.P, 9)
	clear(first)
	third, _ := impl.HashToField("abc", "tag", impl.P, 9)
	if !slices.Equal(second, want) || !slices.Equal(third, want) {
		t.Errorf("after an answer was written into: %v and %v", second, third)
	}
}

func TestMapToCurveKnown(t *testing.T) {
	for _, c := range []struct{ u, x, y uint64 }{
		{0, 1152921504606846994, 2004356649157181310},
		{1, 1152921504606847031, 1329034594528495573},
		{2, 658812288346769399, 1937575828983712696},
	} {
		wantPoint(t, impl.MapToCurve(c.u), impl.Point{X: c.x, Y: c.y}, "the point of %d", c.u)
	}
}

func TestMapToCurve(t *testing.T) {
	for _, u := range mapNumbers() {
		wantPoint(t, impl.MapToCurve(u), plainMap(u), "the point of %d", u)
	}
}

// Promise 5.
func TestMapToCurveIsOnCurve(t *testing.T) {
	for _, u := range append(mapNumbers(), spread(3000)...) {
		if p := impl.MapToCurve(u); !impl.OnCurve(p) || p == zero {
			t.Errorf("the point of %d: %v", u, p)
		}
	}
}

func TestMapToCurveWithoutT(t *testing.T) {
	x := plainFirst(0).n.Uint64()
	for _, u := range withoutT() {
		if plainT(u).n.Sign() != 0 {
			t.Errorf("t is not 0 for %d", u)
		}
		for times := range uint64(8) {
			wantPoint(t, impl.MapToCurve(u+times*impl.P), pointsAt(x)[u%2], "the point of %d + %d * P", u, times)
		}
	}
}

func TestMapToCurveOfPOrMore(t *testing.T) {
	for _, u := range append(mapNumbers(), impl.P-1, impl.P, top) {
		rest := u % impl.P
		want := impl.MapToCurve(rest)
		for times := range uint64(8) {
			wantPoint(t, impl.MapToCurve(rest+times*impl.P), want, "the point of %d + %d * P", rest, times)
		}
	}
}

// y is as even as u, and the number opposite has the opposite point.
func TestMapToCurveSigns(t *testing.T) {
	for _, u := range mapNumbers() {
		rest := u % impl.P
		p := impl.MapToCurve(rest)
		if p.Y%2 != rest%2 {
			t.Errorf("the point of %d has the y %d", rest, p.Y)
		}
		if rest != 0 {
			wantPoint(t, impl.MapToCurve(impl.P-rest), plainNegative(p), "the point of P - %d", rest)
		}
	}
}

// All four cases have to be among the numbers that the tests above take.
func TestMapNumbersHaveAllCases(t *testing.T) {
	type kind struct{ odd, first bool }
	seen := map[kind]int{}
	for _, u := range mapNumbers() {
		seen[kind{u%impl.P%2 == 1, firstIsOfPoint(u)}]++
	}
	for _, odd := range []bool{false, true} {
		for _, first := range []bool{false, true} {
			if n := seen[kind{odd, first}]; n < 50 {
				t.Errorf("odd: %v, first x: %v: %d numbers", odd, first, n)
			}
		}
	}
}

func TestHashToGroupKnown(t *testing.T) {
	p, ok := impl.HashToGroup("abc", "tag")
	wantPoint(t, p, impl.Point{X: 1247672314002016270, Y: 1775883169221196678}, "abc")
	if !ok {
		t.Error("abc: false")
	}
}

// Promise 5.
func TestHashToGroup(t *testing.T) {
	cases := messageCases()
	for i := range 300 {
		cases = append(cases, messageCase{sample(i, i%40), "HashToGroup-TOYPRF-0-M61"})
	}
	for _, c := range cases {
		numbers := plainNumbers(c.msg, c.tag, impl.P, 2)
		p, ok := impl.HashToGroup(c.msg, c.tag)
		wantPoint(t, p, plainSum(plainMap(numbers[0]), plainMap(numbers[1])), "a message of %d with a tag of %d", len(c.msg), len(c.tag))
		if !ok || !impl.OnCurve(p) {
			t.Errorf("a message of %d with a tag of %d: %v, %v", len(c.msg), len(c.tag), p, ok)
		}
	}
}

func TestHashToScalar(t *testing.T) {
	if k, ok := impl.HashToScalar("abc", "tag"); k != 1914860748356403888 || !ok {
		t.Errorf("the scalar of abc: %d, %v", k, ok)
	}
	for _, c := range messageCases() {
		if k, ok := impl.HashToScalar(c.msg, c.tag); k != plainNumbers(c.msg, c.tag, impl.N, 1)[0] || !ok {
			t.Errorf("the scalar of a message of %d with a tag of %d: %d, %v", len(c.msg), len(c.tag), k, ok)
		}
	}
}

func TestHashToGroupAndScalarOfOthers(t *testing.T) {
	for _, c := range wrongCases() {
		if p, ok := impl.HashToGroup(c.msg, c.tag); p != zero || ok {
			t.Errorf("a message of %d with a tag of %d: %v, %v", len(c.msg), len(c.tag), p, ok)
		}
		if k, ok := impl.HashToScalar(c.msg, c.tag); k != 0 || ok {
			t.Errorf("the scalar of a message of %d with a tag of %d: %d, %v", len(c.msg), len(c.tag), k, ok)
		}
	}
}
