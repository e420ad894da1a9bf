package tests

import (
	"encoding/binary"
	"math"
	"math/big"
	"strings"
	"testing"

	"loop.example/s02095/impl"
)

const top = math.MaxUint64

// words are the edges of both primes and of a word, and some spread over all of them.
func words() []uint64 {
	out := []uint64{0, 1, 2, 3, 4, 5, 7, 8, 255, 256, 1<<32 - 1, 1 << 32, 1<<32 + 1, 1 << 60, 1<<63 - 1, 1 << 63, 1<<63 + 1}
	for _, middle := range []uint64{impl.P, impl.N, 2 * impl.P, 2 * impl.N, 7 * impl.N} {
		out = append(out, middle-2, middle-1, middle, middle+1, middle+2)
	}
	out = append(out, top-2, top-1, top)
	return append(out, spread(20)...)
}

// spread has words of all sizes, always the same ones.
func spread(count int) []uint64 {
	var out []uint64
	word := uint64(88172645463325252)
	for range count {
		word ^= word << 13
		word ^= word >> 7
		word ^= word << 17
		out = append(out, word)
	}
	return out
}

// moduli has besides the primes those that are none, of 0, of 1 and near 2^64; the greatest prime below that is top - 58.
func moduli() []uint64 {
	return append([]uint64{0, 1, 2, 3, 4, 6, 9, 255, 256, 257, 1 << 32, 1<<32 + 1, impl.P - 1, impl.P, impl.P + 1, impl.N - 1, impl.N, impl.N + 1,
		1<<63 - 1, 1 << 63, 1<<63 + 1, top - 58, top - 2, top - 1, top}, spread(5)...)
}

func bigWord(w uint64) *big.Int {
	return new(big.Int).SetUint64(w)
}

func bigProduct(a uint64, b uint64, m uint64) uint64 {
	if m == 0 {
		return 0
	}
	product := new(big.Int).Mul(bigWord(a), bigWord(b))
	return product.Mod(product, bigWord(m)).Uint64()
}

func bigPower(a uint64, e uint64, m uint64) uint64 {
	if m == 0 {
		return 0
	}
	power := new(big.Int).Exp(bigWord(a), bigWord(e), bigWord(m))
	return power.Mod(power, bigWord(m)).Uint64()
}

func TestPrimes(t *testing.T) {
	if uint64(impl.P) != 1<<61-1 || uint64(impl.N) != 2305843010818082053 {
		t.Errorf("P is %d, N is %d", uint64(impl.P), uint64(impl.N))
	}
}

func TestMulMod(t *testing.T) {
	for _, m := range moduli() {
		for _, a := range words() {
			for _, b := range words() {
				if got, want := impl.MulMod(a, b, m), bigProduct(a, b, m); got != want {
					t.Fatalf("%d * %d modulo %d: got %d, want %d", a, b, m, got, want)
				}
			}
		}
	}
}

func TestPowMod(t *testing.T) {
	for _, m := range moduli() {
		for _, a := range words() {
			for _, e := range words() {
				if got, want := impl.PowMod(a, e, m), bigPower(a, e, m); got != want {
					t.Fatalf("%d to the %d modulo %d: got %d, want %d", a, e, m, got, want)
				}
			}
		}
	}
}

func TestPowModOfSmallExponents(t *testing.T) {
	for _, m := range moduli() {
		for _, a := range words() {
			want := bigProduct(1, 1, m)
			for e := range uint64(20) {
				if got := impl.PowMod(a, e, m); got != want {
					t.Fatalf("%d to the %d modulo %d: got %d, want %d", a, e, m, got, want)
				}
				want = bigProduct(want, a, m)
			}
		}
	}
}

func TestPowModToTheZero(t *testing.T) {
	for _, a := range words() {
		for _, m := range moduli() {
			want := uint64(1)
			if m < 2 {
				want = 0
			}
			if got := impl.PowMod(a, 0, m); got != want {
				t.Errorf("%d to the 0 modulo %d: got %d, want %d", a, m, got, want)
			}
		}
	}
}

func TestModuloZeroAndOne(t *testing.T) {
	for m := range uint64(2) {
		for _, a := range words() {
			for _, b := range words() {
				if impl.MulMod(a, b, m) != 0 || impl.PowMod(a, b, m) != 0 {
					t.Errorf("%d and %d modulo %d are not 0", a, b, m)
				}
			}
			if impl.InvMod(a, m) != 0 {
				t.Errorf("InvMod of %d modulo %d is not 0", a, m)
			}
		}
	}
}

// Promise 2: all but the multiples of a prime have an inverse.
func TestInvModIsTheInverse(t *testing.T) {
	for _, m := range []uint64{impl.P, impl.N, top - 58} {
		for _, a := range append(words(), spread(300)...) {
			inverse := impl.InvMod(a, m)
			want := uint64(1)
			if a%m == 0 {
				want = 0
			}
			if inverse >= m || bigProduct(a, inverse, m) != want {
				t.Errorf("InvMod of %d modulo %d: %d", a, m, inverse)
			}
		}
	}
}

// Also where it is no inverse, InvMod is the power of m - 2.
func TestInvModIsAPower(t *testing.T) {
	for _, m := range append(moduli(), 8, 10, 12, 15, 21, 100) {
		for _, a := range words() {
			want := uint64(0)
			if m > 1 {
				want = bigPower(a, m-2, m)
			}
			if got := impl.InvMod(a, m); got != want {
				t.Errorf("InvMod of %d modulo %d: got %d, want %d", a, m, got, want)
			}
		}
	}
}

func TestInvModOfTwo(t *testing.T) {
	for _, a := range words() {
		if got := impl.InvMod(a, 2); got != 1 {
			t.Errorf("InvMod of %d modulo 2: %d", a, got)
		}
	}
}

func checkRoot(t *testing.T, square uint64) {
	t.Helper()
	root, ok := impl.Sqrt(square)
	if !ok || root%2 != 0 || root >= impl.P || bigProduct(root, root, impl.P) != square {
		t.Errorf("the root of %d: %d, %v", square, root, ok)
	}
}

func checkNoRoot(t *testing.T, a uint64) {
	t.Helper()
	if root, ok := impl.Sqrt(a); root != 0 || ok {
		t.Errorf("the root of %d, which has none: %d, %v", a, root, ok)
	}
}

// Promise 2.
func TestSqrtOfSquares(t *testing.T) {
	for _, a := range append(words(), spread(300)...) {
		checkRoot(t, bigProduct(a, a, impl.P))
	}
}

// Promise 2: the negative of a square but 0 is none, since -1 is none modulo P.
func TestSqrtOfOthers(t *testing.T) {
	for _, a := range append(words(), spread(300)...) {
		if a%impl.P != 0 {
			checkNoRoot(t, impl.P-bigProduct(a, a, impl.P))
		}
	}
}

// Promise 2, by Euler's test for squares.
func TestSqrtOfAll(t *testing.T) {
	numbers := append(words(), spread(300)...)
	for a := range uint64(300) {
		numbers = append(numbers, a, impl.P-1-a)
	}
	for _, a := range numbers {
		if a < impl.P && bigPower(a, (impl.P-1)/2, impl.P) < 2 {
			checkRoot(t, a)
		} else {
			checkNoRoot(t, a)
		}
	}
}

func TestSqrtOfZeroAndOne(t *testing.T) {
	if root, ok := impl.Sqrt(0); root != 0 || !ok {
		t.Errorf("the root of 0: %d, %v", root, ok)
	}
	if root, ok := impl.Sqrt(1); root != impl.P-1 || !ok {
		t.Errorf("the root of 1: %d, %v", root, ok)
	}
}

// What would be a square if it were reduced has no root either.
func TestSqrtOfPOrMore(t *testing.T) {
	for _, square := range []uint64{0, 1, 2, 4, 9, 16} {
		for times := uint64(1); times <= 7; times++ {
			checkNoRoot(t, square+times*impl.P)
		}
	}
	for _, a := range []uint64{impl.N, 1 << 61, 1 << 62, 1 << 63, top} {
		checkNoRoot(t, a)
	}
}

func TestPutWord(t *testing.T) {
	for _, w := range append(words(), 0x0102030405060708, 0xff00000000000000) {
		want := string(binary.BigEndian.AppendUint64(nil, w))
		if got := impl.PutWord(w); got != want {
			t.Errorf("PutWord of %d: got %x, want %x", w, got, want)
		}
	}
}

func TestGetScalar(t *testing.T) {
	for _, w := range append(words(), spread(100)...) {
		got, ok := impl.GetScalar(string(binary.BigEndian.AppendUint64(nil, w)))
		if w < impl.N && (got != w || !ok) || w >= impl.N && (got != 0 || ok) {
			t.Errorf("GetScalar of the word %d: %d, %v", w, got, ok)
		}
	}
}

// Numbers that are in order by themselves, in texts that have not eight bytes.
func TestGetScalarOfOtherSizes(t *testing.T) {
	for size := range 40 {
		for _, s := range []string{strings.Repeat("\x00", size), strings.Repeat("\x01", size), sample(1, size)} {
			if size == 8 {
				continue
			}
			if got, ok := impl.GetScalar(s); got != 0 || ok {
				t.Errorf("GetScalar of %d bytes: %d, %v", size, got, ok)
			}
		}
	}
	for _, s := range []string{"\x00" + impl.PutWord(5), impl.PutWord(5) + "\x00", impl.PutWord(5)[1:], impl.PutWord(1 << 40)[:7], strings.Repeat("\x00", 1<<16+8)} {
		if got, ok := impl.GetScalar(s); got != 0 || ok {
			t.Errorf("GetScalar of %d bytes: %d, %v", len(s), got, ok)
		}
	}
}

func bigReduced(s string, m uint64) uint64 {
	if m == 0 {
		return 0
	}
	number := new(big.Int).SetBytes([]byte(s))
	return number.Mod(number, bigWord(m)).Uint64()
}

func checkReduce(t *testing.T, s string, m uint64) {
	t.Helper()
	if got, want := impl.Reduce(s, m), bigReduced(s, m); got != want {
		t.Errorf("Reduce of %d bytes by %d: got %d, want %d", len(s), m, got, want)
	}
}

func TestReduceOfAllSizes(t *testing.T) {
	for _, m := range moduli() {
		for size := range 70 {
			checkReduce(t, sample(size, size), m)
			checkReduce(t, strings.Repeat("\xff", size), m)
			checkReduce(t, "\x01"+strings.Repeat("\x00", size), m)
		}
	}
}

func TestReduceOfWords(t *testing.T) {
	for _, m := range moduli() {
		for _, w := range words() {
			checkReduce(t, impl.PutWord(w), m)
			checkReduce(t, "\x00"+impl.PutWord(w), m)
			checkReduce(t, impl.PutWord(w)+impl.PutWord(top-w), m)
		}
	}
}

func TestReduceOfMost(t *testing.T) {
	for _, m := range []uint64{0, 1, 2, 7, impl.P, impl.N, 1 << 63, top} {
		for _, size := range []int{65527, 65528, 65529, 65534, impl.MaxInput} {
			checkReduce(t, sample(size, size), m)
			checkReduce(t, strings.Repeat("\xff", size), m)
		}
	}
}

func TestReduceOfTooMany(t *testing.T) {
	for _, size := range []int{impl.MaxInput + 1, impl.MaxInput + 2, impl.MaxInput + 9, 1<<17 + 3} {
		for _, s := range []string{strings.Repeat("\x01", size), strings.Repeat("\x00", size-1) + "\x05"} {
			for _, m := range []uint64{0, 1, 7, impl.P, impl.N, top} {
				if got := impl.Reduce(s, m); got != 0 {
					t.Errorf("Reduce of %d bytes by %d: %d", size, m, got)
				}
			}
		}
	}
}
