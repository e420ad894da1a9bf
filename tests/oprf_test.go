package tests

import (
	"math/big"
	"slices"
	"strconv"
	"strings"
	"testing"

	"loop.example/s02095/impl"
)

const maxInfo = 60000

// A run is all that Blind, Evaluate, Finalize and Direct are given for one input.
type run struct {
	mode   int
	key    uint64
	input  string
	info   string
	public impl.Point
	blind  uint64
	r      uint64
}

// runOf has the public key that belongs to the key.
func runOf(mode int, key uint64, input string, info string) run {
	return run{mode: mode, key: key, input: input, info: info, public: impl.Times(key, impl.Base()), blind: 987654321, r: 55}
}

func (c run) with(change func(c *run)) run {
	change(&c)
	return c
}

func (c run) name() string {
	return "mode " + strconv.Itoa(c.mode) + ", key " + strconv.FormatUint(c.key, 10) + ", blind " + strconv.FormatUint(c.blind, 10) +
		", r " + strconv.FormatUint(c.r, 10) + ", input of " + strconv.Itoa(len(c.input)) + ", info of " + strconv.Itoa(len(c.info))
}

func (c run) hide() (impl.Blinded, int) {
	return impl.Blind(c.mode, c.input, c.info, c.public, c.blind)
}

func (c run) evaluate(elements ...impl.Point) (impl.Evaluated, int) {
	return impl.Evaluate(c.mode, c.key, c.info, elements, c.r)
}

func (c run) finalize(e impl.Evaluated, b impl.Blinded) (string, int) {
	return impl.Finalize(c.mode, c.input, c.info, c.blind, e, b, c.public)
}

func (c run) direct() (string, int) {
	return impl.Direct(c.mode, c.key, c.input, c.info)
}

// What follows is the chapter in its own words.

func plainModeFits(mode int) bool {
	return mode == 0 || mode == 1 || mode == 2
}

func plainInfoFits(mode int, info string) bool {
	return len(info) <= maxInfo && (mode == 2 || info == "")
}

func plainFactorFits(k uint64) bool {
	return k >= 1 && k <= impl.N-1
}

func plainPointFits(p impl.Point) bool {
	return !p.Inf && p.X < impl.P && p.Y < impl.P && bigProduct(p.Y, p.Y, impl.P) == curveSide(p.X)
}

func plainPointsFit(points []impl.Point) bool {
	for _, p := range points {
		if !plainPointFits(p) {
			return false
		}
	}
	return len(points) >= 1 && len(points) <= 200
}

func plainTweak(mode int, info string) uint64 {
	return plainScalar("Info"+plainSized(info), mode)
}

// plainT2 is the document's t of mode 2.
func plainT2(key uint64, info string) uint64 {
	sum := new(big.Int).Add(bigWord(key), bigWord(plainTweak(2, info)))
	return sum.Mod(sum, bigWord(impl.N)).Uint64()
}

func plainInverse(k uint64) uint64 {
	return new(big.Int).ModInverse(bigWord(k), bigWord(impl.N)).Uint64()
}

func plainHash(mode int, input string) impl.Point {
	numbers := plainNumbers(input, plainTag("HashToGroup-", mode), impl.P, 2)
	return plainSum(plainMap(numbers[0]), plainMap(numbers[1]))
}

func plainOutput(mode int, input string, info string, u impl.Point) string {
	msg := plainSized(input)
	if mode == 2 {
		msg += plainSized(info)
	}
	return libraryHash(msg + plainSized(impl.PutPoint(u)) + "Finalize")
}

func plainDerive(mode int, seed string, info string) (uint64, int) {
	if !plainModeFits(mode) || len(seed) != 32 || len(info) > maxInfo {
		return 0, impl.OprfArgs
	}
	for i := range 256 {
		key := plainNumbers(seed+plainSized(info)+string([]byte{byte(i)}), plainTag("DeriveKeyPair", mode), impl.N, 1)[0]
		if key != 0 {
			return key, impl.OprfOk
		}
	}
	return 0, impl.OprfInverse
}

func plainBlind(c run) (impl.Blinded, int) {
	if !plainModeFits(c.mode) || len(c.input) > impl.MaxInput || !plainInfoFits(c.mode, c.info) || !plainPointFits(c.public) || !plainFactorFits(c.blind) {
		return impl.Blinded{}, impl.OprfArgs
	}
	h := plainHash(c.mode, c.input)
	if h == zero {
		return impl.Blinded{}, impl.OprfGroup
	}
	out := impl.Blinded{Element: plainTimes(c.blind, h), Tweaked: zero}
	if c.mode != 2 {
		return out, impl.OprfOk
	}
	out.Tweaked = plainSum(plainTimes(plainTweak(2, c.info), impl.Base()), c.public)
	if out.Tweaked == zero {
		return impl.Blinded{}, impl.OprfInverse
	}
	return out, impl.OprfOk
}

func plainEvaluate(c run, elements []impl.Point) (impl.Evaluated, int) {
	if !plainModeFits(c.mode) || !plainFactorFits(c.key) || !plainInfoFits(c.mode, c.info) || !plainPointsFit(elements) || c.r >= impl.N {
		return impl.Evaluated{}, impl.OprfArgs
	}
	secret, factor := c.key, c.key
	if c.mode == 2 {
		secret = plainT2(c.key, c.info)
		if secret == 0 {
			return impl.Evaluated{}, impl.OprfInverse
		}
		factor = plainInverse(secret)
	}
	var out impl.Evaluated
	for _, p := range elements {
		out.Elements = append(out.Elements, plainTimes(factor, p))
	}
	b := plainTimes(secret, impl.Base())
	switch c.mode {
	case 1:
		out.Proof = plainProof(claim{1, impl.Base(), b, elements, out.Elements}, secret, c.r)
	case 2:
		out.Proof = plainProof(claim{2, impl.Base(), b, out.Elements, elements}, secret, c.r)
	}
	return out, impl.OprfOk
}

func plainFinalizeFits(c run, e impl.Evaluated, b impl.Blinded) bool {
	tweakedFits := b.Tweaked == zero
	if c.mode == 2 {
		tweakedFits = plainPointFits(b.Tweaked)
	}
	return plainModeFits(c.mode) && len(c.input) <= impl.MaxInput && plainInfoFits(c.mode, c.info) && plainFactorFits(c.blind) &&
		len(e.Elements) == 1 && plainPointFits(e.Elements[0]) && e.Proof.C < impl.N && e.Proof.S < impl.N &&
		plainPointFits(b.Element) && tweakedFits && plainPointFits(c.public)
}

func plainFinalize(c run, e impl.Evaluated, b impl.Blinded) (string, int) {
	if !plainFinalizeFits(c, e, b) {
		return "", impl.OprfArgs
	}
	blinded := []impl.Point{b.Element}
	if c.mode == 1 && !plainCheck(claim{1, impl.Base(), c.public, blinded, e.Elements}, e.Proof) {
		return "", impl.OprfVerify
	}
	if c.mode == 2 && !plainCheck(claim{2, impl.Base(), b.Tweaked, e.Elements, blinded}, e.Proof) {
		return "", impl.OprfVerify
	}
	return plainOutput(c.mode, c.input, c.info, plainTimes(plainInverse(c.blind), e.Elements[0])), impl.OprfOk
}

func plainDirect(c run) (string, int) {
	if !plainModeFits(c.mode) || !plainFactorFits(c.key) || len(c.input) > impl.MaxInput || !plainInfoFits(c.mode, c.info) {
		return "", impl.OprfArgs
	}
	h := plainHash(c.mode, c.input)
	if h == zero {
		return "", impl.OprfGroup
	}
	factor := c.key
	if c.mode == 2 {
		t := plainT2(c.key, c.info)
		if t == 0 {
			return "", impl.OprfInverse
		}
		factor = plainInverse(t)
	}
	return plainOutput(c.mode, c.input, c.info, plainTimes(factor, h)), impl.OprfOk
}

// keyWithout is the key for which t is 0.
func keyWithout(info string) uint64 {
	return impl.N - plainTweak(2, info)
}

// oprfFactors has the edges of keys and blinds, and some between them.
func oprfFactors() []uint64 {
	return []uint64{1, 2, 3, 1 << 32, impl.P, impl.N - 2, impl.N - 1, 123456789, 987654321987654321}
}

func wrongFactors() []uint64 {
	return append(bigScalars(), 0)
}

func oprfInputs() []string {
	return []string{"", "\x00", "input", "Info", "Finalize", sample(3, 255), sample(4, 256), sample(5, impl.MaxInput-1), sample(6, impl.MaxInput)}
}

func wrongInputs() []string {
	return []string{sample(1, impl.MaxInput+1), sample(1, impl.MaxInput+2), sample(1, 2*impl.MaxInput+7)}
}

func oprfInfos(mode int) []string {
	if mode != 2 {
		return []string{""}
	}
	return []string{"", "\x00", "info", sample(7, 255), sample(8, 256), sample(9, maxInfo-1), sample(10, maxInfo)}
}

func wrongInfos(mode int) []string {
	out := []string{sample(1, maxInfo+1), sample(1, impl.MaxInput), sample(1, impl.MaxInput+1), sample(1, impl.MaxInput+5), sample(1, 1<<17)}
	if mode != 2 {
		out = append(out, "\x00", "x", "info", sample(1, 256), sample(1, maxInfo))
	}
	return out
}

// shortRuns has all modes with the edges of key, blind and r, and a small input.
func shortRuns() []run {
	var out []run
	for _, mode := range modes() {
		for i, key := range oprfFactors() {
			for j, blind := range oprfFactors() {
				nonces := scalars()
				info := ""
				if mode == 2 {
					info = sample(i, 3*j)
				}
				out = append(out, runOf(mode, key, sample(j, 5*i), info).with(func(c *run) { c.blind, c.r = blind, nonces[(i+j)%len(nonces)] }))
			}
		}
	}
	return out
}

// longRuns has all modes with the edges of input and info.
func longRuns() []run {
	var out []run
	for _, mode := range modes() {
		for _, input := range oprfInputs() {
			for _, info := range oprfInfos(mode) {
				out = append(out, runOf(mode, 123456789, input, info))
			}
		}
	}
	return out
}

func allRuns() []run {
	return append(shortRuns(), longRuns()...)
}

func sameEvaluated(a impl.Evaluated, b impl.Evaluated) bool {
	return slices.Equal(a.Elements, b.Elements) && a.Proof == b.Proof
}

func checkBlind(t *testing.T, c run) {
	t.Helper()
	got, code := c.hide()
	if want, wantCode := plainBlind(c); got != want || code != wantCode {
		t.Errorf("Blind, %s, public %v: got %v, %d, want %v, %d", c.name(), c.public, got, code, want, wantCode)
	}
}

func checkEvaluate(t *testing.T, c run, elements []impl.Point) {
	t.Helper()
	got, code := c.evaluate(elements...)
	if want, wantCode := plainEvaluate(c, elements); !sameEvaluated(got, want) || code != wantCode {
		t.Errorf("Evaluate, %s, %d elements: got %v, %d, want %v, %d", c.name(), len(elements), got, code, want, wantCode)
	}
}

func checkFinalize(t *testing.T, c run, e impl.Evaluated, b impl.Blinded) int {
	t.Helper()
	got, code := c.finalize(e, b)
	if want, wantCode := plainFinalize(c, e, b); got != want || code != wantCode {
		t.Errorf("Finalize, %s, %v, %v, public %v: got %x, %d, want %x, %d", c.name(), e, b, c.public, got, code, want, wantCode)
	}
	return code
}

func checkDirect(t *testing.T, c run) {
	t.Helper()
	got, code := c.direct()
	if want, wantCode := plainDirect(c); got != want || code != wantCode {
		t.Errorf("Direct, %s: got %x, %d, want %x, %d", c.name(), got, code, want, wantCode)
	}
}

func checkDerive(t *testing.T, mode int, seed string, info string) {
	t.Helper()
	got, code := impl.DeriveKey(mode, seed, info)
	if want, wantCode := plainDerive(mode, seed, info); got != want || code != wantCode {
		t.Errorf("DeriveKey, mode %d, seed of %d, info of %d: got %d, %d, want %d, %d", mode, len(seed), len(info), got, code, want, wantCode)
	}
}

func TestOprfCodes(t *testing.T) {
	if impl.OprfOk != 0 || impl.OprfArgs != 1 || impl.OprfGroup != 2 || impl.OprfInverse != 3 || impl.OprfVerify != 4 {
		t.Error("the codes are others")
	}
}

func TestDeriveKeyKnown(t *testing.T) {
	for mode, want := range []uint64{942697846315953348, 166952183476470902} {
		if key, code := impl.DeriveKey(mode, strings.Repeat("\x07", 32), "info"); key != want || code != impl.OprfOk {
			t.Errorf("mode %d: %d, %d", mode, key, code)
		}
	}
}

// An info is allowed in all modes here.
func TestDeriveKey(t *testing.T) {
	for _, mode := range modes() {
		for i := range 40 {
			checkDerive(t, mode, sample(i, 32), sample(i, i))
		}
		for _, info := range oprfInfos(2) {
			checkDerive(t, mode, sample(1, 32), info)
			checkDerive(t, mode, strings.Repeat("\x00", 32), info)
		}
	}
}

func TestDeriveKeyIsInOrder(t *testing.T) {
	seen := map[uint64]bool{}
	for _, mode := range modes() {
		for i := range 100 {
			for _, info := range []string{"", "info"} {
				key, code := impl.DeriveKey(mode, sample(i, 32), info)
				if !plainFactorFits(key) || code != impl.OprfOk || seen[key] {
					t.Errorf("mode %d, seed %d: %d, %d, or a key of another", mode, i, key, code)
				}
				seen[key] = true
			}
		}
	}
}

func TestDeriveKeyOfOthers(t *testing.T) {
	for _, mode := range wrongModes() {
		checkDerive(t, mode, sample(1, 32), "info")
	}
	for _, mode := range modes() {
		for _, size := range []int{0, 1, 8, 16, 31, 33, 34, 64, 256, 288, 65535, 65536, 65568} {
			checkDerive(t, mode, sample(1, size), "info")
			checkDerive(t, mode, sample(1, size), sample(1, maxInfo+1))
		}
		for _, info := range wrongInfos(2) {
			checkDerive(t, mode, sample(1, 32), info)
		}
	}
}

// The values of one run in each mode.
func TestOprfKnown(t *testing.T) {
	for mode, want := range []string{
		"b0f73c8e9005c001a104b59c2f1b0592077626ebb27bcd679af58829e0401763",
		"ba3c90c7f796fc9b08e0952b7ecc0dbbe907dea22245a3a02b2bf10b828061d9",
		"83101a57ed0f292294e46c45a85c5c803d96ffe2aa20d2403447df751243d7f1",
	} {
		c := runOf(mode, 123456789, "input", []string{"", "", "info"}[mode])
		b, _ := c.hide()
		e, _ := c.evaluate(b.Element)
		out, _ := c.finalize(e, b)
		wantHex(t, "Finalize, "+c.name(), out, want)
		direct, _ := c.direct()
		wantHex(t, "Direct, "+c.name(), direct, want)
		if proof := []impl.Proof{{}, {C: 424998899424327617, S: 1702787879056926748}, {C: 1111181054022129058, S: 1686256247211557703}}[mode]; e.Proof != proof {
			t.Errorf("%s: %v", c.name(), e.Proof)
		}
	}
}

func TestBlind(t *testing.T) {
	for _, c := range allRuns() {
		checkBlind(t, c)
	}
	for _, mode := range modes() {
		for _, public := range curvePoints() {
			checkBlind(t, runOf(mode, 1, "input", "").with(func(c *run) { c.public = public }))
		}
	}
}

// A public key for which Tweaked would be zero is a fault in mode 2 alone, and comes after arguments that are not in order.
func TestBlindWithoutTweaked(t *testing.T) {
	for _, info := range oprfInfos(2) {
		public := plainNegative(impl.Times(plainTweak(2, info), impl.Base()))
		c := runOf(2, 1, "input", info).with(func(c *run) { c.public = public })
		if b, code := c.hide(); b != (impl.Blinded{}) || code != impl.OprfInverse {
			t.Errorf("%s: %v, %d", c.name(), b, code)
		}
		for _, wrong := range []run{c.with(func(c *run) { c.blind = 0 }), c.with(func(c *run) { c.blind = impl.N }), c.with(func(c *run) { c.input = sample(1, 65536) })} {
			if b, code := wrong.hide(); b != (impl.Blinded{}) || code != impl.OprfArgs {
				t.Errorf("%s: %v, %d", wrong.name(), b, code)
			}
		}
		for _, near := range []impl.Point{impl.Add(public, impl.Base()), plainNegative(public)} {
			checkBlind(t, c.with(func(c *run) { c.public = near }))
		}
		for _, mode := range []int{0, 1} {
			checkBlind(t, c.with(func(c *run) { c.mode, c.info = mode, "" }))
		}
	}
}

// wrongRuns are not in order by one thing that all four functions are given.
func wrongRuns(mode int) []run {
	base := runOf(mode, 123456789, "input", "")
	var out []run
	for _, wrong := range wrongModes() {
		out = append(out, base.with(func(c *run) { c.mode = wrong }))
	}
	for _, info := range wrongInfos(mode) {
		out = append(out, base.with(func(c *run) { c.info = info }))
	}
	return out
}

// wrongClientRuns are not in order by one thing that Blind and Finalize are given.
func wrongClientRuns(mode int) []run {
	base := runOf(mode, 123456789, "input", "")
	out := wrongRuns(mode)
	for _, input := range wrongInputs() {
		out = append(out, base.with(func(c *run) { c.input = input }))
	}
	for _, blind := range wrongFactors() {
		out = append(out, base.with(func(c *run) { c.blind = blind }))
	}
	for _, none := range append(noPoints(), zero) {
		out = append(out, base.with(func(c *run) { c.public = none }))
	}
	return out
}

func TestBlindOfOthers(t *testing.T) {
	for _, mode := range modes() {
		for _, c := range wrongClientRuns(mode) {
			if b, code := c.hide(); b != (impl.Blinded{}) || code != impl.OprfArgs {
				t.Errorf("%s, public %v: %v, %d", c.name(), c.public, b, code)
			}
		}
	}
}

func TestEvaluate(t *testing.T) {
	for i, c := range allRuns() {
		checkEvaluate(t, c, pointsFrom(uint64(i+1), 1+i%3))
	}
	for _, mode := range modes() {
		for _, p := range curvePoints()[1:] {
			checkEvaluate(t, runOf(mode, 77, "", ""), []impl.Point{p, impl.Base(), p, plainNegative(p)})
		}
	}
}

func TestEvaluateSizes(t *testing.T) {
	for _, mode := range modes() {
		for _, size := range []int{1, 2, 17, impl.MaxBatch - 1, impl.MaxBatch} {
			checkEvaluate(t, runOf(mode, 77, "", ""), pointsFrom(3, size))
		}
	}
}

func checkProved(t *testing.T, c run, elements []impl.Point) {
	t.Helper()
	e, code := c.evaluate(elements...)
	accepted := e.Proof == impl.Proof{}
	switch c.mode {
	case 1:
		accepted = impl.Check(1, impl.Base(), c.public, elements, e.Elements, e.Proof)
	case 2:
		b := impl.Times(plainT2(c.key, c.info), impl.Base())
		accepted = impl.Check(2, impl.Base(), b, e.Elements, elements, e.Proof) && !impl.Check(2, impl.Base(), b, elements, e.Elements, e.Proof)
	}
	if code != impl.OprfOk || !accepted {
		t.Errorf("%s, %d elements: code %d, or the proof is not accepted", c.name(), len(elements), code)
	}
}

// Promise 6, of the proofs that Evaluate makes: in mode 2 the points are proved the other way round.
func TestEvaluateIsProved(t *testing.T) {
	for i, c := range allRuns() {
		checkProved(t, c, pointsFrom(uint64(2*i+1), 1+i%4))
	}
	for _, mode := range modes() {
		for _, size := range []int{1, 2, 17, impl.MaxBatch - 1, impl.MaxBatch} {
			checkProved(t, runOf(mode, 77, "", ""), pointsFrom(3, size))
		}
	}
}

// A key for which t is 0 is a fault in mode 2 alone, and comes after arguments that are not in order.
func TestEvaluateWithoutInverse(t *testing.T) {
	for _, info := range oprfInfos(2) {
		c := runOf(2, keyWithout(info), "input", info)
		if e, code := c.evaluate(impl.Base()); !sameEvaluated(e, impl.Evaluated{}) || code != impl.OprfInverse {
			t.Errorf("%s: %v, %d", c.name(), e, code)
		}
		if e, code := c.evaluate(zero); !sameEvaluated(e, impl.Evaluated{}) || code != impl.OprfArgs {
			t.Errorf("%s, zero: %v, %d", c.name(), e, code)
		}
		if e, code := c.with(func(c *run) { c.r = impl.N }).evaluate(impl.Base()); !sameEvaluated(e, impl.Evaluated{}) || code != impl.OprfArgs {
			t.Errorf("%s, r of N: %v, %d", c.name(), e, code)
		}
		for _, key := range []uint64{c.key - 1, c.key + 1, impl.N - c.key} {
			checkEvaluate(t, c.with(func(c *run) { c.key = key }), pointsFrom(5, 2))
		}
		for _, mode := range []int{0, 1} {
			checkEvaluate(t, c.with(func(c *run) { c.mode, c.info = mode, "" }), pointsFrom(5, 2))
		}
	}
}

func checkNoEvaluate(t *testing.T, c run, elements []impl.Point) {
	t.Helper()
	if e, code := c.evaluate(elements...); !sameEvaluated(e, impl.Evaluated{}) || code != impl.OprfArgs {
		t.Errorf("%s, %d elements: %v, %d", c.name(), len(elements), e, code)
	}
}

func TestEvaluateOfOthers(t *testing.T) {
	for _, mode := range modes() {
		base := runOf(mode, 77, "", "")
		for _, c := range wrongRuns(mode) {
			checkNoEvaluate(t, c, pointsFrom(5, 2))
		}
		for _, key := range wrongFactors() {
			checkNoEvaluate(t, base.with(func(c *run) { c.key = key }), pointsFrom(5, 2))
		}
		for _, r := range bigScalars() {
			checkNoEvaluate(t, base.with(func(c *run) { c.r = r }), pointsFrom(5, 2))
		}
		for _, size := range []int{0, 201, 202, 256, 257, 456, 65536, 65537} {
			checkNoEvaluate(t, base, slices.Repeat([]impl.Point{impl.Base()}, size))
		}
		for _, none := range append(noPoints(), zero) {
			for i := range 3 {
				elements := pointsFrom(5, 3)
				elements[i] = none
				checkNoEvaluate(t, base, elements)
			}
			checkNoEvaluate(t, base, []impl.Point{none})
		}
	}
}

func TestDirect(t *testing.T) {
	for _, c := range allRuns() {
		checkDirect(t, c)
	}
	for _, info := range oprfInfos(2) {
		key := keyWithout(info)
		for _, near := range []uint64{key - 1, key, key + 1, impl.N - key} {
			checkDirect(t, runOf(2, near, "input", info))
		}
		if out, code := runOf(2, key, "input", info).direct(); out != "" || code != impl.OprfInverse {
			t.Errorf("a key without an inverse: %x, %d", out, code)
		}
		checkDirect(t, runOf(2, key, sample(1, 65536), info))
		checkDirect(t, runOf(0, key, "input", ""))
		checkDirect(t, runOf(1, key, "input", ""))
	}
}

func TestDirectOfOthers(t *testing.T) {
	for _, mode := range modes() {
		wrong := wrongRuns(mode)
		for _, input := range wrongInputs() {
			wrong = append(wrong, runOf(mode, 77, input, ""))
		}
		for _, key := range wrongFactors() {
			wrong = append(wrong, runOf(mode, key, "input", ""))
		}
		for _, c := range wrong {
			if out, code := c.direct(); out != "" || code != impl.OprfArgs {
				t.Errorf("%s: %x, %d", c.name(), out, code)
			}
		}
	}
}

// Promise 7.
func TestOprfIsDirect(t *testing.T) {
	for _, c := range allRuns() {
		b, code := c.hide()
		e, code2 := c.evaluate(b.Element)
		out, code3 := c.finalize(e, b)
		direct, code4 := c.direct()
		if out != direct || len(out) != 32 || code != impl.OprfOk || code2 != impl.OprfOk || code3 != impl.OprfOk || code4 != impl.OprfOk {
			t.Errorf("%s: %x and %x, codes %d, %d, %d, %d", c.name(), out, direct, code, code2, code3, code4)
		}
	}
}

// Promise 7: whatever the blinds and nonces.
func TestOprfForgetsBlinds(t *testing.T) {
	blinds := oprfFactors()
	for _, word := range spread(40) {
		blinds = append(blinds, word%(impl.N-1)+1)
	}
	for _, mode := range modes() {
		c := runOf(mode, 4242, "a password", "")
		direct, _ := c.direct()
		for i, blind := range blinds {
			c.blind, c.r = blind, blinds[len(blinds)-1-i]
			b, _ := c.hide()
			e, _ := c.evaluate(b.Element)
			if out, code := c.finalize(e, b); out != direct || code != impl.OprfOk {
				t.Errorf("%s: %x, %d, want %x", c.name(), out, code, direct)
			}
		}
	}
}

// Promise 7: a batch has what its elements have one by one, and one proof for all.
func TestOprfInBatches(t *testing.T) {
	for _, mode := range modes() {
		for _, size := range []int{1, 2, 5, impl.MaxBatch} {
			var runs []run
			var blinded []impl.Blinded
			var elements []impl.Point
			for i := range size {
				c := runOf(mode, 777, sample(i, 1+i%50), "").with(func(c *run) { c.blind = uint64(3*i + 1) })
				b, _ := c.hide()
				runs, blinded, elements = append(runs, c), append(blinded, b), append(elements, b.Element)
			}
			whole, code := runs[0].evaluate(elements...)
			if len(whole.Elements) != size || code != impl.OprfOk {
				t.Fatalf("mode %d, %d elements: %d, %d", mode, size, len(whole.Elements), code)
			}
			for i, c := range runs {
				checkOfBatch(t, c, whole, i, blinded[i])
			}
		}
	}
}

func checkOfBatch(t *testing.T, c run, whole impl.Evaluated, i int, b impl.Blinded) {
	t.Helper()
	single, _ := c.evaluate(b.Element)
	if single.Elements[0] != whole.Elements[i] {
		t.Errorf("%s: %v in the batch at %d, %v alone", c.name(), whole.Elements[i], i, single.Elements[0])
	}
	e := impl.Evaluated{Elements: whole.Elements[i : i+1], Proof: single.Proof}
	direct, _ := c.direct()
	if out, code := c.finalize(e, b); out != direct || code != impl.OprfOk {
		t.Errorf("%s, at %d: %x, %d, want %x", c.name(), i, out, code, direct)
	}
	e.Proof = whole.Proof
	want := impl.OprfVerify
	if c.mode == 0 || len(whole.Elements) == 1 {
		want = impl.OprfOk
	}
	if _, code := c.finalize(e, b); code != want {
		t.Errorf("%s, at %d, with the proof of the batch: %d", c.name(), i, code)
	}
}

// Promise 7: where Direct has a code, one of the others has it.
func TestOprfHasTheCodesOfDirect(t *testing.T) {
	var runs []run
	for _, mode := range modes() {
		runs = append(runs, wrongRuns(mode)...)
		for _, key := range wrongFactors() {
			runs = append(runs, runOf(mode, key, "input", ""))
		}
		for _, input := range wrongInputs() {
			runs = append(runs, runOf(mode, 77, input, ""))
		}
	}
	for _, info := range oprfInfos(2) {
		runs = append(runs, runOf(2, keyWithout(info), "input", info), runOf(2, keyWithout(info), sample(1, 65536), info))
	}
	for _, c := range runs {
		_, direct := c.direct()
		b, code := c.hide()
		e, code2 := c.evaluate(b.Element)
		if code != impl.OprfOk {
			// Without a blinded element, Evaluate is asked of another one.
			e, code2 = c.evaluate(impl.Base())
		}
		_, code3 := c.finalize(e, b)
		if direct == impl.OprfOk || code != direct && code2 != direct && code3 != direct {
			t.Errorf("%s: Direct has %d, the others %d, %d, %d", c.name(), direct, code, code2, code3)
		}
	}
}

// Mode and info lead to other outputs, and so do key and input.
func TestOprfHangsOnAll(t *testing.T) {
	seen := map[string]string{}
	runs := []run{runOf(0, 5, "input", ""), runOf(1, 5, "input", ""), runOf(2, 5, "input", ""), runOf(2, 5, "input", "\x00"), runOf(2, 5, "input", "info"),
		runOf(0, 6, "input", ""), runOf(1, 6, "input", ""), runOf(2, 6, "input", ""), runOf(0, 5, "", ""), runOf(1, 5, "", ""), runOf(2, 5, "", ""),
		runOf(2, 5, "inputinfo", ""), runOf(2, 5, "", "inputinfo"), runOf(2, impl.N-5, "input", ""), runOf(0, impl.N-5, "input", "")}
	for _, c := range runs {
		out, _ := c.direct()
		if before := seen[out]; before != "" {
			t.Errorf("%s has the output of %s", c.name(), before)
		}
		seen[out] = c.name()
	}
}

// An exchange is a run up to Finalize.
type exchange struct {
	run
	e impl.Evaluated
	b impl.Blinded
}

func exchangeOf(c run) exchange {
	b, _ := c.hide()
	e, _ := c.evaluate(b.Element)
	return exchange{c, e, b}
}

func (x exchange) with(change func(x *exchange)) exchange {
	x.e.Elements = slices.Clone(x.e.Elements)
	change(&x)
	return x
}

// Promise 8: one number of the proof changed, or both.
func TestFinalizeOfChangedProofs(t *testing.T) {
	for _, mode := range modes() {
		x := exchangeOf(runOf(mode, 123456789, "input", ""))
		direct, _ := x.direct()
		for _, proof := range changedProofs(x.e.Proof) {
			want := impl.OprfVerify
			if proof.C >= impl.N || proof.S >= impl.N {
				want = impl.OprfArgs
			} else if mode == 0 || proof == x.e.Proof {
				want = impl.OprfOk
			}
			out, code := x.finalize(impl.Evaluated{Elements: x.e.Elements, Proof: proof}, x.b)
			if code != want || code != impl.OprfOk && out != "" || code == impl.OprfOk && out != direct {
				t.Errorf("mode %d, %v for %v: %x, %d, want %d", mode, proof, x.e.Proof, out, code, want)
			}
		}
	}
}

// changedExchanges has one thing each that the proof does not speak of, all of it in order.
func changedExchanges(x exchange) []exchange {
	p := impl.Times(99, impl.Base())
	out := []exchange{
		x.with(func(x *exchange) { x.e.Elements[0] = p }),
		x.with(func(x *exchange) { x.e.Elements[0] = plainNegative(x.e.Elements[0]) }),
		x.with(func(x *exchange) { x.e.Elements[0] = x.b.Element }),
		x.with(func(x *exchange) { x.b.Element = p }),
		x.with(func(x *exchange) { x.b.Element = plainNegative(x.b.Element) }),
		x.with(func(x *exchange) { x.b.Element = x.e.Elements[0] }),
		x.with(func(x *exchange) { x.b.Element, x.e.Elements[0] = x.e.Elements[0], x.b.Element }),
		x.with(func(x *exchange) {
			x.b.Element, x.e.Elements[0] = plainNegative(x.b.Element), plainNegative(x.e.Elements[0])
		}),
	}
	if x.mode == 1 {
		out = append(out, x.with(func(x *exchange) { x.public = p }), x.with(func(x *exchange) { x.public = plainNegative(x.public) }))
	}
	if x.mode == 2 {
		out = append(out, x.with(func(x *exchange) { x.b.Tweaked = p }), x.with(func(x *exchange) { x.b.Tweaked = plainNegative(x.b.Tweaked) }),
			x.with(func(x *exchange) { x.b.Tweaked = x.public }))
	}
	return out
}

// Promise 8: other points than those that the proof speaks of.
func TestFinalizeOfChangedPoints(t *testing.T) {
	for _, mode := range modes() {
		for i, x := range changedExchanges(exchangeOf(runOf(mode, 123456789, "input", ""))) {
			code := checkFinalize(t, x.run, x.e, x.b)
			if mode > 0 && code != impl.OprfVerify || mode == 0 && code != impl.OprfOk {
				t.Errorf("mode %d, change %d: %d", mode, i, code)
			}
		}
	}
}

// Promise 8: evaluations with another key or another info, proved by the one who made them.
func TestFinalizeOfOtherKeys(t *testing.T) {
	for _, mode := range []int{1, 2} {
		x := exchangeOf(runOf(mode, 123456789, "input", ""))
		for _, key := range oprfFactors() {
			e, _ := x.run.with(func(c *run) { c.key = key }).evaluate(x.b.Element)
			want := impl.OprfVerify
			if key == x.key {
				want = impl.OprfOk
			}
			if code := checkFinalize(t, x.run, e, x.b); code != want {
				t.Errorf("%s, evaluated with %d: %d", x.name(), key, code)
			}
		}
	}
	x := exchangeOf(runOf(2, 123456789, "input", "info"))
	for _, info := range []string{"", "inf", "infos", "Info"} {
		e, _ := x.run.with(func(c *run) { c.info = info }).evaluate(x.b.Element)
		if code := checkFinalize(t, x.run, e, x.b); code != impl.OprfVerify {
			t.Errorf("evaluated with the info %q: %d", info, code)
		}
	}
}

// Promise 8: a proof of one mode held against another, where all but the mode is as it must be.
func TestFinalizeOfOtherModes(t *testing.T) {
	c, d := impl.Times(31, impl.Base()), impl.Times(5*31, impl.Base())
	public := impl.Times(5, impl.Base())
	for _, made := range modes() {
		proof, _ := impl.Prove(made, 5, impl.Base(), public, []impl.Point{c}, []impl.Point{d}, 8)
		forward := exchange{runOf(1, 5, "input", ""), impl.Evaluated{Elements: []impl.Point{d}, Proof: proof}, impl.Blinded{Element: c, Tweaked: zero}}
		backward := exchange{runOf(2, 5, "input", ""), impl.Evaluated{Elements: []impl.Point{c}, Proof: proof}, impl.Blinded{Element: d, Tweaked: public}}
		for _, x := range []exchange{forward, backward} {
			want := impl.OprfVerify
			if x.mode == made {
				want = impl.OprfOk
			}
			if code := checkFinalize(t, x.run, x.e, x.b); code != want {
				t.Errorf("a proof of mode %d in mode %d: %d", made, x.mode, code)
			}
		}
	}
}

// Promise 8: true proofs, but of points in other places than the mode asks for.
func TestFinalizeOfOtherPlaces(t *testing.T) {
	base, public, other := impl.Base(), impl.Times(5, impl.Base()), impl.Times(7, impl.Base())
	c, d := impl.Times(31, base), impl.Times(5*31, base)
	ofMode := func(mode int, evaluated impl.Point, element impl.Point, tweaked impl.Point) exchange {
		proof, _ := impl.Prove(mode, 5, base, public, []impl.Point{c}, []impl.Point{d}, 8)
		return exchange{runOf(mode, 5, "input", ""), impl.Evaluated{Elements: []impl.Point{evaluated}, Proof: proof}, impl.Blinded{Element: element, Tweaked: tweaked}}
	}
	backward, forward := ofMode(1, c, d, zero), ofMode(2, d, c, public)
	// The public key of a run of mode 2 is the one that the proof speaks of, and Tweaked is not.
	untweaked := ofMode(2, c, d, other)
	moved := ofMode(1, d, c, zero)
	moved.public = impl.Times(5, other)
	moved.e.Proof, _ = impl.Prove(1, 5, other, moved.public, []impl.Point{c}, []impl.Point{d}, 8)
	for i, x := range []exchange{backward, forward, untweaked, moved} {
		if code := checkFinalize(t, x.run, x.e, x.b); code != impl.OprfVerify {
			t.Errorf("case %d: %d", i, code)
		}
	}
}

// Finalize does not ask whether the points come from this input and blind, nor in mode 2 for the public key.
func TestFinalizeOfOtherBlinds(t *testing.T) {
	for _, mode := range modes() {
		x := exchangeOf(runOf(mode, 123456789, "input", ""))
		for _, blind := range oprfFactors() {
			for _, input := range oprfInputs() {
				other := x.run.with(func(c *run) { c.blind, c.input = blind, input })
				if code := checkFinalize(t, other, x.e, x.b); code != impl.OprfOk {
					t.Errorf("%s: %d", other.name(), code)
				}
			}
		}
		for _, public := range curvePoints()[1:10] {
			checkFinalize(t, x.run.with(func(c *run) { c.public = public }), x.e, x.b)
		}
	}
	x := exchangeOf(runOf(2, 123456789, "input", "info"))
	for _, info := range oprfInfos(2) {
		checkFinalize(t, x.run.with(func(c *run) { c.info = info }), x.e, x.b)
	}
	if code := checkFinalize(t, x.run.with(func(c *run) { c.public = impl.Base() }), x.e, x.b); code != impl.OprfOk {
		t.Errorf("another public key in mode 2: %d", code)
	}
}

func checkNoFinalize(t *testing.T, x exchange) {
	t.Helper()
	if out, code := x.finalize(x.e, x.b); out != "" || code != impl.OprfArgs {
		t.Errorf("%s, public %v, %d elements, proof %v, %v: %x, %d", x.name(), x.public, len(x.e.Elements), x.e.Proof, x.b, out, code)
	}
}

// wrongTweaked has in the modes 0 and 1 all but the point zero, and in mode 2 that as well.
func wrongTweaked(mode int) []impl.Point {
	if mode == 2 {
		return append(noPoints(), zero)
	}
	return append(noPoints(), curvePoints()[1:]...)
}

func wrongExchanges(x exchange) []exchange {
	var out []exchange
	for _, c := range wrongClientRuns(x.mode) {
		out = append(out, x.with(func(x *exchange) { x.run = c }))
	}
	for _, elements := range [][]impl.Point{nil, {}, {x.e.Elements[0], x.e.Elements[0]}, {x.e.Elements[0], zero}, {x.e.Elements[0], {}}, pointsFrom(1, 3), pointsFrom(1, 200), pointsFrom(1, 257)} {
		out = append(out, x.with(func(x *exchange) { x.e.Elements = elements }))
	}
	for _, none := range append(noPoints(), zero) {
		out = append(out, x.with(func(x *exchange) { x.e.Elements[0] = none }), x.with(func(x *exchange) { x.b.Element = none }))
	}
	for _, tweaked := range wrongTweaked(x.mode) {
		out = append(out, x.with(func(x *exchange) { x.b.Tweaked = tweaked }))
	}
	for _, n := range bigScalars() {
		out = append(out, x.with(func(x *exchange) { x.e.Proof.C = n }), x.with(func(x *exchange) { x.e.Proof.S = n }))
	}
	return append(out, x.with(func(x *exchange) { x.e.Proof.C += impl.N }), x.with(func(x *exchange) { x.e.Proof.S += impl.N }))
}

// What is not in order comes ahead of a proof that is not accepted.
func TestFinalizeOfOthers(t *testing.T) {
	for _, mode := range modes() {
		x := exchangeOf(runOf(mode, 123456789, "input", ""))
		for _, wrong := range wrongExchanges(x) {
			checkNoFinalize(t, wrong)
		}
		x.e.Proof = impl.Proof{C: 1, S: 2}
		for _, wrong := range wrongExchanges(x) {
			checkNoFinalize(t, wrong)
		}
	}
}

func TestFinalizeOfLongTexts(t *testing.T) {
	x := exchangeOf(runOf(2, 5, sample(1, impl.MaxInput), sample(2, maxInfo)))
	if code := checkFinalize(t, x.run, x.e, x.b); code != impl.OprfOk {
		t.Errorf("%s: %d", x.name(), code)
	}
	checkNoFinalize(t, x.with(func(x *exchange) { x.input += "x" }))
	checkNoFinalize(t, x.with(func(x *exchange) { x.info += "x" }))
}

// What lies behind the elements is neither read nor written, the new ones are new memory, and the same call answers the same.
func TestEvaluateLeavesItsArguments(t *testing.T) {
	for _, mode := range modes() {
		whole := pointsFrom(7, 6)
		elements := slices.Clone(whole)
		c := runOf(mode, 1, "", "")
		e, _ := c.evaluate(elements[:3]...)
		kept := slices.Clone(e.Elements)
		again, _ := c.evaluate(elements[:3]...)
		if !slices.Equal(elements, whole) || !sameEvaluated(e, again) || len(e.Elements) != 3 {
			t.Errorf("mode %d: the elements were written into, or the second answer differs", mode)
		}
		for i := range elements {
			elements[i] = impl.Point{}
		}
		again.Elements[0] = impl.Point{}
		if !slices.Equal(e.Elements, kept) {
			t.Errorf("mode %d: the answer shares memory", mode)
		}
	}
}

func TestFinalizeLeavesItsArguments(t *testing.T) {
	for _, mode := range modes() {
		x := exchangeOf(runOf(mode, 12, "input", ""))
		behind := append(slices.Clone(x.e.Elements), impl.Base(), zero)
		kept := slices.Clone(behind)
		direct, _ := x.direct()
		e := impl.Evaluated{Elements: behind[:1], Proof: x.e.Proof}
		for range 2 {
			if out, code := x.finalize(e, x.b); out != direct || code != impl.OprfOk {
				t.Errorf("mode %d: %x, %d", mode, out, code)
			}
		}
		if !slices.Equal(behind, kept) || len(e.Elements) != 1 {
			t.Errorf("mode %d: the elements were written into", mode)
		}
	}
}
