package tests

import (
	"math/big"
	"strings"
	"testing"

	"loop.example/s02095/impl"
)

var zero = impl.Point{Inf: true}

const nothing = "\x00\x00\x00\x00\x00\x00\x00\x00"

// curveSide is x^3 - 3x + B modulo P.
func curveSide(x uint64) uint64 {
	side := new(big.Int).Exp(bigWord(x), big.NewInt(3), nil)
	side.Sub(side, new(big.Int).Mul(big.NewInt(3), bigWord(x)))
	side.Add(side, big.NewInt(111))
	return side.Mod(side, bigWord(impl.P)).Uint64()
}

// pointsAt has both points with this x, the one with the even y first, or none.
func pointsAt(x uint64) []impl.Point {
	root := new(big.Int).ModSqrt(bigWord(curveSide(x)), bigWord(impl.P))
	if x >= impl.P || root == nil {
		return nil
	}
	y := root.Uint64()
	if y%2 == 1 {
		y = impl.P - y
	}
	return []impl.Point{{X: x, Y: y}, {X: x, Y: impl.P - y}}
}

// edgePoints has points whose x is next to 0 and just below P.
func edgePoints() []impl.Point {
	var out []impl.Point
	for i := range uint64(12) {
		out = append(out, pointsAt(i)...)
		out = append(out, pointsAt(impl.P-1-i)...)
	}
	return out
}

// curvePoints has zero, the base, some of its neighbours, edges, and points spread over the curve.
func curvePoints() []impl.Point {
	out := []impl.Point{zero}
	last := zero
	for range 6 {
		last = plainSum(last, impl.Point{X: impl.BaseX, Y: impl.BaseY})
		out = append(out, last, plainNegative(last))
	}
	for _, word := range spread(12) {
		out = append(out, pointsAt(word%impl.P)...)
	}
	return append(out, edgePoints()...)
}

func plainNegative(p impl.Point) impl.Point {
	if p == zero {
		return zero
	}
	return impl.Point{X: p.X, Y: (impl.P - p.Y) % impl.P}
}

// plainSum adds points by the document's own words.
func plainSum(p impl.Point, q impl.Point) impl.Point {
	if p == zero {
		return q
	}
	if q == zero {
		return p
	}
	if q == plainNegative(p) {
		return zero
	}
	prime := bigWord(impl.P)
	x1, y1, x2, y2 := bigWord(p.X), bigWord(p.Y), bigWord(q.X), bigWord(q.Y)
	above, below := new(big.Int).Sub(y2, y1), new(big.Int).Sub(x2, x1)
	if p == q {
		above.Mul(x1, x1).Mul(above, big.NewInt(3)).Sub(above, big.NewInt(3))
		below.Mul(y1, big.NewInt(2))
	}
	below.Mod(below, prime)
	s := new(big.Int).Mul(above, new(big.Int).ModInverse(below, prime))
	x3 := new(big.Int).Mul(s, s)
	x3.Sub(x3, x1).Sub(x3, x2).Mod(x3, prime)
	y3 := new(big.Int).Sub(x1, x3)
	y3.Mul(y3, s).Sub(y3, y1).Mod(y3, prime)
	return impl.Point{X: x3.Uint64(), Y: y3.Uint64()}
}

func plainTimes(k uint64, p impl.Point) impl.Point {
	out := zero
	for i := 63; i >= 0; i-- {
		out = plainSum(out, out)
		if k>>i&1 == 1 {
			out = plainSum(out, p)
		}
	}
	return out
}

// noPoints has the empty Point, zeros with coordinates, coordinates of P or more, and what lies beside the curve.
func noPoints() []impl.Point {
	out := []impl.Point{{}, {X: 1, Inf: true}, {Y: 1, Inf: true}, {X: impl.P, Inf: true}, {Y: impl.P, Inf: true}, {X: 3}, {Y: 3}, {X: 5, Y: 5},
		{X: impl.P}, {Y: impl.P}, {X: impl.P, Y: impl.P}, {X: top, Y: top}, {X: top, Y: top, Inf: true}, {X: 1 << 63, Y: 1 << 63}}
	base := impl.Point{X: impl.BaseX, Y: impl.BaseY}
	for _, p := range append(edgePoints(), base, plainNegative(base)) {
		out = append(out, impl.Point{X: p.X, Y: p.Y, Inf: true}, impl.Point{X: p.X, Y: p.Y + 1}, impl.Point{X: p.X, Y: p.Y - 1},
			impl.Point{X: p.X}, impl.Point{X: p.X + 1, Y: p.Y}, impl.Point{X: p.Y, Y: p.X})
		for times := uint64(1); times <= 7; times++ {
			more := times * impl.P
			out = append(out, impl.Point{X: p.X + more, Y: p.Y}, impl.Point{X: p.X, Y: p.Y + more}, impl.Point{X: p.X + more, Y: p.Y + more})
		}
	}
	return out
}

// factors has the edges that the document names, and numbers of all sizes.
func factors() []uint64 {
	return append([]uint64{0, 1, 2, 3, 4, 5, 6, 7, 8, 1 << 32, impl.P - 1, impl.P, impl.P + 1, impl.N - 2, impl.N - 1, impl.N, impl.N + 1, impl.N + 2,
		2*impl.N - 1, 2 * impl.N, 2*impl.N + 1, 7*impl.N - 1, 7 * impl.N, 7*impl.N + 1, 1 << 63, top - 1, top}, spread(8)...)
}

func wantPoint(t *testing.T, got impl.Point, want impl.Point, what string, of ...any) {
	t.Helper()
	if got != want {
		t.Errorf(what+": got %v, want %v", append(of, got, want)...)
	}
}

func TestCurveNumbers(t *testing.T) {
	if impl.B != 111 || impl.BaseX != 1 || uint64(impl.BaseY) != 509478702933351334 {
		t.Errorf("B is %d, the base is %d and %d", impl.B, impl.BaseX, uint64(impl.BaseY))
	}
}

func TestBase(t *testing.T) {
	wantPoint(t, impl.Base(), impl.Point{X: 1, Y: 509478702933351334}, "the base")
	if !impl.OnCurve(impl.Base()) {
		t.Error("the base is beside the curve")
	}
}

func TestOnCurve(t *testing.T) {
	for _, p := range curvePoints() {
		if !impl.OnCurve(p) {
			t.Errorf("%v is on the curve", p)
		}
	}
}

func TestOnCurveOfOthers(t *testing.T) {
	for _, p := range noPoints() {
		if impl.OnCurve(p) {
			t.Errorf("%v is no point of the curve", p)
		}
	}
}

func TestOnCurveIsTheEquation(t *testing.T) {
	var numbers []uint64
	for i := range uint64(25) {
		numbers = append(numbers, i, impl.P-1-i)
	}
	for _, p := range curvePoints() {
		numbers = append(numbers, p.X, p.Y)
	}
	for _, x := range numbers {
		for _, y := range numbers {
			p := impl.Point{X: x, Y: y}
			if want := bigProduct(y, y, impl.P) == curveSide(x); impl.OnCurve(p) != want {
				t.Errorf("%v on the curve: %v", p, !want)
			}
		}
	}
}

func TestAddKnown(t *testing.T) {
	base := impl.Base()
	two := impl.Point{X: 2305843009213693949, Y: 1796364306280342617}
	three := impl.Point{X: 1281023894007607800, Y: 372769516048037881}
	wantPoint(t, impl.Add(base, base), two, "twice the base")
	wantPoint(t, impl.Add(two, base), three, "three times the base")
}

func TestAdd(t *testing.T) {
	for _, p := range curvePoints() {
		for _, q := range curvePoints() {
			wantPoint(t, impl.Add(p, q), plainSum(p, q), "%v and %v", p, q)
		}
	}
}

// Promise 3.
func TestAddIsCommutative(t *testing.T) {
	for _, p := range curvePoints() {
		for _, q := range curvePoints() {
			sum := impl.Add(p, q)
			wantPoint(t, sum, impl.Add(q, p), "%v and %v, turned round", p, q)
			if !impl.OnCurve(sum) {
				t.Errorf("%v and %v: %v is beside the curve", p, q, sum)
			}
		}
	}
}

// Promise 3.
func TestAddIsAssociative(t *testing.T) {
	points := curvePoints()[:24]
	for _, p := range points {
		for _, q := range points {
			for _, r := range points {
				wantPoint(t, impl.Add(impl.Add(p, q), r), impl.Add(p, impl.Add(q, r)), "%v, %v and %v", p, q, r)
			}
		}
	}
}

func TestAddZero(t *testing.T) {
	for _, p := range curvePoints() {
		wantPoint(t, impl.Add(p, zero), p, "%v and zero", p)
		wantPoint(t, impl.Add(zero, p), p, "zero and %v", p)
	}
}

func TestAddEqualAndOpposite(t *testing.T) {
	for _, p := range curvePoints() {
		wantPoint(t, impl.Add(p, p), plainSum(p, p), "twice %v", p)
		wantPoint(t, impl.Add(p, plainNegative(p)), zero, "%v and its negative", p)
		wantPoint(t, impl.Add(plainNegative(p), p), zero, "the negative of %v and it", p)
	}
}

func TestAddOfOthers(t *testing.T) {
	for _, none := range noPoints() {
		for _, p := range append(curvePoints()[:5], none, impl.Point{}) {
			wantPoint(t, impl.Add(p, none), zero, "%v and %v", p, none)
			wantPoint(t, impl.Add(none, p), zero, "%v and %v", none, p)
		}
	}
}

func TestNegative(t *testing.T) {
	for _, p := range curvePoints() {
		wantPoint(t, impl.Negative(p), plainNegative(p), "the negative of %v", p)
		wantPoint(t, impl.Negative(impl.Negative(p)), p, "the negative of the negative of %v", p)
		if !impl.OnCurve(impl.Negative(p)) {
			t.Errorf("the negative of %v is beside the curve", p)
		}
	}
	for _, none := range noPoints() {
		wantPoint(t, impl.Negative(none), zero, "the negative of %v", none)
	}
}

func TestTimesKnown(t *testing.T) {
	wantPoint(t, impl.Times(123456789, impl.Base()), impl.Point{X: 21447490703984672, Y: 516939210706334564}, "123456789 times the base")
}

func TestTimesIsRepeatedAdding(t *testing.T) {
	for _, p := range curvePoints() {
		sum := zero
		for k := range uint64(20) {
			wantPoint(t, impl.Times(k, p), sum, "%d times %v", k, p)
			sum = plainSum(sum, p)
		}
	}
}

func TestTimes(t *testing.T) {
	for _, p := range curvePoints()[:20] {
		for _, k := range factors() {
			wantPoint(t, impl.Times(k, p), plainTimes(k, p), "%d times %v", k, p)
		}
	}
}

// Promise 3: each point but zero has the order N, so that all of them are N.
func TestTimesN(t *testing.T) {
	for _, p := range curvePoints() {
		for times := uint64(0); times <= 7; times++ {
			wantPoint(t, impl.Times(times*impl.N, p), zero, "%d * N times %v", times, p)
			wantPoint(t, impl.Times(times*impl.N+1, p), p, "%d * N + 1 times %v", times, p)
			if times > 0 {
				wantPoint(t, impl.Times(times*impl.N-1, p), plainNegative(p), "%d * N - 1 times %v", times, p)
			}
		}
		for _, k := range factors() {
			if got := impl.Times(k, p); !impl.OnCurve(got) || (got == zero) != (p == zero || k%impl.N == 0) {
				t.Errorf("%d times %v: %v", k, p, got)
			}
		}
	}
}

// Promise 3.
func TestTimesOfTimes(t *testing.T) {
	for _, p := range curvePoints()[:12] {
		for _, j := range factors() {
			inner := impl.Times(j, p)
			for _, k := range factors() {
				wantPoint(t, impl.Times(k, inner), impl.Times(bigProduct(j, k, impl.N), p), "%d times %d times %v", k, j, p)
			}
		}
	}
}

func TestTimesOfSums(t *testing.T) {
	points := curvePoints()[:16]
	for _, k := range factors() {
		for i, p := range points {
			q := points[(5*i+3)%len(points)]
			wantPoint(t, impl.Times(k, impl.Add(p, q)), impl.Add(impl.Times(k, p), impl.Times(k, q)), "%d times %v and %v", k, p, q)
			rest := k % impl.N
			wantPoint(t, impl.Add(impl.Times(rest, p), impl.Times(impl.N-rest, p)), zero, "%d and N - %d times %v", rest, rest, p)
		}
	}
}

func TestTimesOfOthers(t *testing.T) {
	for _, none := range noPoints() {
		for _, k := range []uint64{0, 1, 2, 7, impl.N - 1, impl.N, impl.N + 1, top} {
			wantPoint(t, impl.Times(k, none), zero, "%d times %v", k, none)
		}
	}
}

func TestPutPointKnown(t *testing.T) {
	base := impl.Base()
	wantHex(t, "the base", impl.PutPoint(base), "4000000000000001")
	wantHex(t, "its negative", impl.PutPoint(impl.Negative(base)), "6000000000000001")
	wantHex(t, "twice the base", impl.PutPoint(impl.Add(base, base)), "7ffffffffffffffd")
}

func TestPutPoint(t *testing.T) {
	for _, p := range curvePoints() {
		want := impl.PutWord(p.X + 1<<62 + 1<<61*(p.Y%2))
		if p == zero {
			want = nothing
		}
		if got := impl.PutPoint(p); got != want {
			t.Errorf("PutPoint of %v: got %x, want %x", p, got, want)
		}
	}
	for _, none := range noPoints() {
		if got := impl.PutPoint(none); got != nothing {
			t.Errorf("PutPoint of %v: %x", none, got)
		}
	}
}

func checkNoPoint(t *testing.T, s string) {
	t.Helper()
	if p, ok := impl.GetPoint(s); p != zero || ok {
		t.Errorf("GetPoint of %x: %v, %v", s, p, ok)
	}
}

// Promise 4, of points.
func TestGetPointOfPutPoint(t *testing.T) {
	for _, p := range curvePoints() {
		if p == zero {
			checkNoPoint(t, impl.PutPoint(p))
			continue
		}
		if got, ok := impl.GetPoint(impl.PutPoint(p)); got != p || !ok {
			t.Errorf("GetPoint of PutPoint of %v: %v, %v", p, got, ok)
		}
	}
	for _, none := range noPoints() {
		checkNoPoint(t, impl.PutPoint(none))
	}
}

// pointWords has for each of these x all that may be written in the three bits above it.
func pointWords() []uint64 {
	numbers := append(spread(60), 1<<60-1, 1<<60, 1<<61-1)
	for i := range uint64(60) {
		numbers = append(numbers, i, impl.P-1-i)
	}
	var out []uint64
	for _, number := range numbers {
		for high := range uint64(8) {
			out = append(out, number%(1<<61)+high<<61)
		}
	}
	return out
}

// Promise 4, of points: which words are points, and which.
func TestGetPoint(t *testing.T) {
	taken := 0
	for _, word := range pointWords() {
		s := impl.PutWord(word)
		points := pointsAt(word % (1 << 61))
		if high := word >> 61; points == nil || high != 2 && high != 3 {
			checkNoPoint(t, s)
			continue
		}
		taken++
		p, ok := impl.GetPoint(s)
		if p != points[word>>61&1] || !ok {
			t.Errorf("GetPoint of %x: got %v, %v, want %v", s, p, ok, points[word>>61&1])
		}
		if !impl.OnCurve(p) || impl.PutPoint(p) != s {
			t.Errorf("PutPoint of GetPoint of %x: %x", s, impl.PutPoint(p))
		}
	}
	if taken < 100 {
		t.Errorf("only %d words are points", taken)
	}
}

func TestGetPointOfP(t *testing.T) {
	for high := range uint64(8) {
		checkNoPoint(t, impl.PutWord(impl.P+high<<61))
	}
}

// Texts that begin or end with a point, or are cut off from one.
func TestGetPointOfOtherSizes(t *testing.T) {
	for _, p := range curvePoints() {
		s := impl.PutPoint(p)
		for size := range 8 {
			checkNoPoint(t, s[:size])
			checkNoPoint(t, s[8-size:])
		}
		for _, more := range []string{"\x00", "\x40", s, nothing, strings.Repeat("\x00", 1<<16)} {
			checkNoPoint(t, s+more)
			checkNoPoint(t, more+s)
		}
	}
	for size := range 40 {
		if size != 8 {
			checkNoPoint(t, strings.Repeat("\x40", size))
			checkNoPoint(t, sample(0x40, size))
		}
	}
}
