package tests

import (
	"strings"
	"testing"

	"loop.example/s02095/impl"
)

// A lock is all that Seal is given.
type lock struct {
	secret string
	nonce  string
	server impl.Point
	user   string
}

func lockOf(user string) lock {
	return lock{secret: sample(1, 32), nonce: sample(2, 16), server: impl.Times(5, impl.Base()), user: user}
}

func (l lock) with(change func(l *lock)) lock {
	change(&l)
	return l
}

func (l lock) seal() (impl.Record, string, bool) {
	return impl.Seal(l.secret, l.nonce, l.server, l.user)
}

func (l lock) unseal(box string) (uint64, string, bool) {
	return impl.Unseal(l.secret, box, l.server, l.user)
}

func plainLockFits(l lock) bool {
	return len(l.secret) == 32 && len(l.nonce) == 16 && len(l.user) >= 1 && len(l.user) <= 32 && plainPointFits(l.server)
}

// plainSeal has the private key as well.
func plainSeal(l lock) (impl.Record, uint64, string, bool) {
	if !plainLockFits(l) {
		return impl.Record{}, 0, "", false
	}
	x := libraryHmac(strings.Repeat("\x00", 32), l.secret)
	auth := libraryExpand(x, l.nonce+"Auth", 32)
	export := libraryExpand(x, l.nonce+"Export", 32)
	private, code := plainDerive(0, libraryExpand(x, l.nonce+"Private", 32), "Client")
	if code != impl.OprfOk {
		return impl.Record{}, 0, "", false
	}
	mac := libraryHmac(auth, l.nonce+impl.PutPoint(l.server)+plainSized(l.user))
	return impl.Record{User: l.user, Public: keptTimes(private, impl.Base()), Box: l.nonce + mac}, private, export, true
}

func plainUnseal(l lock, box string) (uint64, string, bool) {
	if len(box) != 48 {
		return 0, "", false
	}
	l.nonce = box[:16]
	record, private, export, ok := plainSeal(l)
	if !ok || record.Box != box {
		return 0, "", false
	}
	return private, export, true
}

func plainAgree(a impl.Point, b impl.Point, c impl.Point, seen string) impl.Keys {
	x := libraryHmac(strings.Repeat("\x00", 32), impl.PutPoint(a)+impl.PutPoint(b)+impl.PutPoint(c))
	part := func(word string) string { return libraryExpand(x, word+libraryHash(seen), 32) }
	return impl.Keys{Session: part("Session"), Server: part("Server"), Client: part("Client")}
}

// names has names of 1 and of MaxUser bytes, and such as hold any bytes.
func names() []string {
	return []string{"a", "\x00", "\xff", "ann", "\x00\x03ann", sample(3, 31), strings.Repeat("u", 32), sample(4, 32), strings.Repeat("\x00", 32)}
}

func wrongNames() []string {
	return []string{"", strings.Repeat("u", 33), sample(1, 34), sample(1, 256), sample(1, 257), sample(1, 288), sample(1, 65535), sample(1, 65536), sample(1, 65539)}
}

// wrongTexts has sizes beside the right one, and those that are the same in one byte.
func wrongTexts(size int) []string {
	var out []string
	for _, other := range []int{0, 1, size / 2, size - 1, size + 1, 2 * size, 3 * size, size + 256, size + 65536} {
		out = append(out, sample(7, other))
	}
	return out
}

// elements has points of the curve but zero.
func elements() []impl.Point {
	return curvePoints()[1:]
}

func noElements() []impl.Point {
	return append(noPoints(), zero)
}

func locks() []lock {
	var out []lock
	for i, user := range names() {
		out = append(out, lockOf(user))
		for _, secret := range []string{strings.Repeat("\x00", 32), strings.Repeat("\xff", 32), sample(i, 32)} {
			for _, nonce := range []string{strings.Repeat("\x00", 16), strings.Repeat("\xff", 16), sample(20+i, 16)} {
				out = append(out, lock{secret, nonce, elements()[i], user})
			}
		}
	}
	for _, server := range elements() {
		out = append(out, lockOf("ann").with(func(l *lock) { l.server = server }))
	}
	return out
}

func wrongLocks() []lock {
	var out []lock
	for _, secret := range wrongTexts(32) {
		out = append(out, lockOf("ann").with(func(l *lock) { l.secret = secret }))
	}
	for _, nonce := range wrongTexts(16) {
		out = append(out, lockOf("ann").with(func(l *lock) { l.nonce = nonce }))
	}
	for _, server := range noElements() {
		out = append(out, lockOf("ann").with(func(l *lock) { l.server = server }))
	}
	for _, user := range wrongNames() {
		out = append(out, lockOf(user))
	}
	// A size that is made up for by another one.
	return append(out, lockOf("ann").with(func(l *lock) { l.secret, l.nonce = sample(1, 31), sample(2, 17) }),
		lockOf("ann").with(func(l *lock) { l.secret, l.nonce = sample(1, 33), sample(2, 15) }))
}

func checkUnseal(t *testing.T, l lock, box string) bool {
	t.Helper()
	key, export, ok := l.unseal(box)
	wantKey, wantExport, wantOk := plainUnseal(l, box)
	if key != wantKey || export != wantExport || ok != wantOk {
		t.Errorf("Unseal, %#v, box %x: got %d, %x, %v, want %d, %x, %v", l, box, key, export, ok, wantKey, wantExport, wantOk)
	}
	return ok
}

func TestSealKnown(t *testing.T) {
	l := lock{secret: strings.Repeat("\x01", 32), nonce: "0123456789abcdef", server: impl.Times(5, impl.Base()), user: "ann"}
	record, export, ok := l.seal()
	if !ok || record.User != "ann" || record.Public != (impl.Point{X: 308378351743161559, Y: 2170029197354224477}) {
		t.Errorf("%v, %v", record, ok)
	}
	wantHex(t, "box", record.Box, "30313233343536373839616263646566dceb0f0143fc57981035ea7fcd97962c07f28f8bea401092c462273a109345f9")
	wantHex(t, "export key", export, "0a4a01a6362d6621ad97d745f9f940595704533b17b969b4efdb52fd4598dca5")
}

func TestSeal(t *testing.T) {
	for _, l := range locks() {
		record, export, ok := l.seal()
		wantRecord, _, wantExport, _ := plainSeal(l)
		if record != wantRecord || export != wantExport || !ok {
			t.Errorf("Seal, %#v: got %#v, %x, %v, want %#v, %x", l, record, export, ok, wantRecord, wantExport)
		}
	}
}

func TestSealOfOthers(t *testing.T) {
	for _, l := range wrongLocks() {
		if record, export, ok := l.seal(); record != (impl.Record{}) || export != "" || ok {
			t.Errorf("Seal, %#v: %#v, %x, %v", l, record, export, ok)
		}
	}
}

// Promise 9.
func TestUnsealOfSeal(t *testing.T) {
	for _, l := range locks() {
		record, export, _ := l.seal()
		key, again, ok := l.unseal(record.Box)
		if !ok || again != export || impl.Times(key, impl.Base()) != record.Public || !plainFactorFits(key) {
			t.Errorf("%#v: %d, %x, %v, sealed with %#v, %x", l, key, again, ok, record, export)
		}
		checkUnseal(t, l, record.Box)
	}
}

func TestUnsealOfChangedBoxes(t *testing.T) {
	l := lockOf("ann")
	record, _, _ := l.seal()
	for i := range len(record.Box) {
		for _, change := range []byte{1, 0x80, 0xff} {
			box := []byte(record.Box)
			box[i] ^= change
			if checkUnseal(t, l, string(box)) {
				t.Errorf("byte %d was changed by %d", i, change)
			}
		}
	}
	for _, box := range append(wrongTexts(48), "", record.Box[:16], record.Box[:47], record.Box[1:], record.Box+"\x00", "\x00"+record.Box, record.Box+record.Box, sample(1, 48), strings.Repeat("\x00", 48)) {
		if checkUnseal(t, l, box) {
			t.Errorf("a box of %d bytes", len(box))
		}
	}
}

// The box is bound to the secret, the server and the user.
func TestUnsealOfOtherLocks(t *testing.T) {
	l := lockOf("ann")
	record, _, _ := l.seal()
	others := wrongLocks()
	for i := range 32 {
		secret := []byte(l.secret)
		secret[i] ^= 1
		others = append(others, l.with(func(l *lock) { l.secret = string(secret) }))
	}
	for _, server := range elements() {
		others = append(others, l.with(func(l *lock) { l.server = server }))
	}
	for _, user := range append(names(), "Ann", "an", "anna", "ann\x00", "\x00ann") {
		others = append(others, l.with(func(l *lock) { l.user = user }))
	}
	for _, other := range others {
		// The nonce is in the box, so that it makes no difference here.
		other.nonce = l.nonce
		if checkUnseal(t, other, record.Box) != (other == l) {
			t.Errorf("%#v", other)
		}
	}
}

func checkAgree(t *testing.T, a impl.Point, b impl.Point, c impl.Point, seen string) {
	t.Helper()
	if got, want := impl.Agree(a, b, c, seen), plainAgree(a, b, c, seen); got != want {
		t.Errorf("Agree, %v, %v, %v, seen of %d: got %x, want %x", a, b, c, len(seen), got, want)
	}
}

func TestAgreeKnown(t *testing.T) {
	keys := impl.Agree(impl.Base(), impl.Times(2, impl.Base()), zero, "seen")
	wantHex(t, "Session", keys.Session, "af3b464e89031fe4fed44cbaad5da6fc8b9942146a7d6ff9dbd24f4e86611914")
	wantHex(t, "Server", keys.Server, "16e7b374c1256880b57805824f8dc8f934152dbd2e5257198bf63b95d63dbe41")
	wantHex(t, "Client", keys.Client, "0d2c7551254c5908c38f1390c23726a4d43a6835b5341887ae58525c4f4f3afb")
}

// Points that are none are written as zero is.
func TestAgree(t *testing.T) {
	points := append(elements()[:8], zero, impl.Point{}, impl.Point{X: 1, Y: 1}, impl.Point{X: impl.BaseX, Y: impl.BaseY, Inf: true})
	for _, a := range points {
		for _, b := range points {
			checkAgree(t, a, b, impl.Base(), "seen")
			checkAgree(t, a, impl.Base(), b, "")
			checkAgree(t, impl.Base(), a, b, "\x00")
		}
	}
	for _, none := range noPoints() {
		checkAgree(t, none, impl.Base(), impl.Base(), "seen")
		checkAgree(t, impl.Base(), none, impl.Base(), "seen")
		checkAgree(t, impl.Base(), impl.Base(), none, "seen")
		checkAgree(t, none, none, none, "seen")
	}
	for _, size := range []int{0, 1, 31, 32, 33, 55, 56, 64, 65, 178, 255, 256, 65535, 65536, 100000} {
		checkAgree(t, impl.Base(), zero, impl.Times(3, impl.Base()), sample(1, size))
	}
}
