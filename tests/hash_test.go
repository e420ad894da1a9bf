package tests

import (
	"crypto/hmac"
	"crypto/sha256"
	"encoding/hex"
	"math"
	"strings"
	"testing"

	"loop.example/s02095/impl"
)

const maxExpand = 8160

// sample has bytes of all values, among them those that are no text, and differs from seed to seed.
func sample(seed int, size int) string {
	out := make([]byte, size)
	for i := range out {
		out[i] = byte(seed + 167*i + i/256)
	}
	return string(out)
}

func unhex(t *testing.T, s string) string {
	t.Helper()
	b, err := hex.DecodeString(s)
	if err != nil {
		t.Fatal(err)
	}
	return string(b)
}

func wantHex(t *testing.T, what string, got string, want string) {
	t.Helper()
	if g := hex.EncodeToString([]byte(got)); g != want {
		t.Errorf("%s: got %s, want %s", what, g, want)
	}
}

func libraryHash(s string) string {
	sum := sha256.Sum256([]byte(s))
	return string(sum[:])
}

func libraryHmac(key string, s string) string {
	h := hmac.New(sha256.New, []byte(key))
	h.Write([]byte(s))
	return string(h.Sum(nil))
}

func libraryExpand(key string, info string, n int) string {
	out, last := "", ""
	for i := 1; len(out) < n; i++ {
		last = libraryHmac(key, last+info+string([]byte{byte(i)}))
		out += last
	}
	return out[:n]
}

func TestMaxInput(t *testing.T) {
	if impl.MaxInput != 65535 {
		t.Errorf("MaxInput is %d", impl.MaxInput)
	}
}

func TestSha256Known(t *testing.T) {
	for _, c := range []struct{ text, want string }{
		{"", "e3b0c44298fc1c149afbf4c8996fb92427ae41e4649b934ca495991b7852b855"},
		{"abc", "ba7816bf8f01cfea414140de5dae2223b00361a396177a9cb410ff61f20015ad"},
		{"abcdbcdecdefdefgefghfghighijhijkijkljklmklmnlmnomnopnopq", "248d6a61d20638b8e5c026930c3e6039a33ce45964ff2167f6ecedd419db06c1"},
		{strings.Repeat("a", 1000000), "cdc76e5c9914fb9281a1c7e284d73e67f1809a48a497200e046d39ccc7112cd0"},
	} {
		wantHex(t, "Sha256", impl.Sha256(c.text), c.want)
	}
}

// All sizes up to some blocks, so that every place of the end within a block is there.
func TestSha256Sizes(t *testing.T) {
	sizes := []int{1023, 1024, 65535, 65536, 100000}
	for size := range 330 {
		sizes = append(sizes, size)
	}
	for _, size := range sizes {
		for seed := range 3 {
			s := sample(seed, size)
			if impl.Sha256(s) != libraryHash(s) {
				t.Errorf("Sha256 of %d bytes, sample %d", size, seed)
			}
		}
	}
}

func TestSha256SameByte(t *testing.T) {
	for _, b := range []string{"\x00", "\x7f", "\x80", "\xff"} {
		for size := range 130 {
			s := strings.Repeat(b, size)
			if impl.Sha256(s) != libraryHash(s) {
				t.Errorf("Sha256 of %d bytes %x", size, b)
			}
		}
	}
}

func TestHmacKnown(t *testing.T) {
	long := strings.Repeat("\xaa", 131)
	for _, c := range []struct{ key, text, want string }{
		{strings.Repeat("\x0b", 20), "Hi There", "b0344c61d8db38535ca8afceaf0bf12b881dc200c9833da726e9376c2e32cff7"},
		{"Jefe", "what do ya want for nothing?", "5bdcc146bf60754e6a042426089575c75a003f089d2739839dec58b964ec3843"},
		{strings.Repeat("\xaa", 20), strings.Repeat("\xdd", 50), "773ea91e36800e46854db8ebd09181a72959098b3ef8c122d9635514ced565fe"},
		{long, "Test Using Larger Than Block-Size Key - Hash Key First", "60e431591ee0b67f0d8a26aacbf5b77f8e0bc6213728c5140546040f0ee37f54"},
		{"", "", "b613679a0814d9ec772f95d778c35fc5ff1697c493715653c6c712144292c5ad"},
	} {
		wantHex(t, "Hmac", impl.Hmac(c.key, c.text), c.want)
	}
}

func TestHmacSizes(t *testing.T) {
	for _, k := range []int{0, 1, 31, 32, 33, 55, 56, 62, 63, 64, 65, 66, 119, 120, 127, 128, 129, 1000, 65535, 70000} {
		for _, n := range []int{0, 1, 54, 55, 56, 57, 63, 64, 65, 119, 120, 121, 127, 128, 129, 5000, 65535} {
			key, s := sample(k, k), sample(n+1, n)
			if impl.Hmac(key, s) != libraryHmac(key, s) {
				t.Errorf("Hmac with a key of %d bytes, of %d bytes", k, n)
			}
		}
	}
}

func TestHmacReplacesOnlyLongKeys(t *testing.T) {
	for _, k := range []int{1, 32, 33, 63, 64, 65, 66, 128, 300} {
		key := sample(7, k)
		same := impl.Hmac(key, "text") == impl.Hmac(impl.Sha256(key), "text")
		if same != (k > 64) {
			t.Errorf("a key of %d bytes: replaced by its hash: %v", k, same)
		}
	}
}

func TestHmacFillsKeysWithZeros(t *testing.T) {
	for _, k := range []int{0, 1, 32, 63} {
		key := sample(9, k)
		if impl.Hmac(key, "text") != impl.Hmac(key+strings.Repeat("\x00", 64-k), "text") {
			t.Errorf("a key of %d bytes is not the one with zeros up to 64", k)
		}
		if impl.Hmac(key, "text") == impl.Hmac(key+strings.Repeat("\x00", 65-k), "text") {
			t.Errorf("a key of %d bytes is the one with zeros up to 65", k)
		}
	}
}

func TestExtract(t *testing.T) {
	secret := strings.Repeat("\x0b", 22)
	wantHex(t, "Extract", impl.Extract(unhex(t, "000102030405060708090a0b0c"), secret),
		"077709362c2e32df0ddc3f0dc47bba6390b6c73bb50f9c3122ec844ad7c2b3e5")
	wantHex(t, "Extract, empty salt", impl.Extract("", secret),
		"19ef24a32c717b167f33a91d6f648bdf96596776afdb6377ac434c1c293ccb04")
	for _, k := range []int{0, 1, 32, 64, 65, 200} {
		for _, n := range []int{0, 1, 32, 64, 65, 200} {
			salt, key := sample(3, k), sample(4, n)
			if impl.Extract(salt, key) != libraryHmac(salt, key) {
				t.Errorf("Extract of a salt of %d bytes and a key of %d", k, n)
			}
		}
	}
}

func TestExtractEmptySaltIsZeros(t *testing.T) {
	for _, n := range []int{0, 1, 32, 64, 65, 1000} {
		key := sample(5, n)
		if impl.Extract("", key) != impl.Hmac(strings.Repeat("\x00", 32), key) {
			t.Errorf("a key of %d bytes: the empty salt is not 32 zeros", n)
		}
	}
}

func TestExpandKnown(t *testing.T) {
	first := unhex(t, "077709362c2e32df0ddc3f0dc47bba6390b6c73bb50f9c3122ec844ad7c2b3e5")
	third := unhex(t, "19ef24a32c717b167f33a91d6f648bdf96596776afdb6377ac434c1c293ccb04")
	for _, c := range []struct{ key, info, want string }{
		{first, unhex(t, "f0f1f2f3f4f5f6f7f8f9"), "3cb25f25faacd57a90434f64d0362f2a2d2d0a90cf1a5a4c5db02d56ecc4c5bf34007208d5b887185865"},
		{third, "", "8da4e775a563c18f715f802a063c5a31b8a11f5c5ee1879ec3454e5f3c738d2d9d201395faa4b61a96c8"},
	} {
		out, ok := impl.Expand(c.key, c.info, 42)
		wantHex(t, "Expand", out, c.want)
		if !ok {
			t.Error("Expand of 42 bytes: false")
		}
	}
}

// The sizes around every multiple of 32, up to the greatest of all.
func expandSizes() []int {
	sizes := []int{0, 1, 2, 15, 16, 17, 42, 48, 100}
	for n := 32; n <= maxExpand; n += 32 {
		sizes = append(sizes, n-1, n)
		if n < maxExpand {
			sizes = append(sizes, n+1)
		}
	}
	return sizes
}

// Promise 1.
func TestExpandBeginsWithFewer(t *testing.T) {
	for _, c := range []struct{ key, info string }{
		{"", ""},
		{sample(1, 32), "info"},
		{sample(2, 65), sample(3, 100)},
	} {
		most, ok := impl.Expand(c.key, c.info, maxExpand)
		if !ok || len(most) != maxExpand {
			t.Fatalf("Expand of %d bytes: %d bytes, %v", maxExpand, len(most), ok)
		}
		for _, n := range expandSizes() {
			out, ok := impl.Expand(c.key, c.info, n)
			if !ok || len(out) != n || out != most[:n] {
				t.Errorf("Expand of %d bytes: %d bytes, %v, or not how the longest begins", n, len(out), ok)
			}
		}
	}
}

func TestExpandMost(t *testing.T) {
	for _, k := range []int{0, 32, 64, 65, 200} {
		for _, i := range []int{0, 1, 22, 23, 24, 30, 31, 32, 55, 63, 64, 65, 1000} {
			key, info := sample(k, k), sample(i+1, i)
			out, ok := impl.Expand(key, info, maxExpand)
			if !ok || out != libraryExpand(key, info, maxExpand) {
				t.Errorf("Expand with a key of %d bytes and an info of %d", k, i)
			}
		}
	}
}

func TestExpandOfNothing(t *testing.T) {
	for _, k := range []int{0, 32, 65} {
		out, ok := impl.Expand(sample(k, k), "info", 0)
		if out != "" || !ok {
			t.Errorf("Expand of 0 bytes with a key of %d: %d bytes, %v", k, len(out), ok)
		}
	}
}

// Some of these would be sizes in order if they were cut down to fewer bits.
func TestExpandWrongSizes(t *testing.T) {
	for _, n := range []int{-1, -2, -32, -maxExpand, -maxExpand - 1, maxExpand + 1, maxExpand + 32, 8192, 65535, 65536,
		65536 + 32, 1 << 32, 1<<32 + 32, -1 << 32, -1<<32 + 32, math.MaxInt32, math.MinInt32, math.MaxInt, math.MinInt, math.MinInt + 32} {
		out, ok := impl.Expand(sample(1, 32), "info", n)
		if out != "" || ok {
			t.Errorf("Expand of %d bytes: %d bytes, %v", n, len(out), ok)
		}
	}
}

// No call leaves anything behind that another one meets.
func TestHashesKeepNothing(t *testing.T) {
	s, key := sample(1, 100), sample(2, 70)
	hash, mac := impl.Sha256(s), impl.Hmac(key, s)
	out, _ := impl.Expand(key, s, 100)
	for range 3 {
		again, ok := impl.Expand(key, s, 100)
		if impl.Sha256(s) != hash || impl.Hmac(key, s) != mac || again != out || !ok {
			t.Error("the same call answers something else")
		}
	}
}
