package tests

import (
	"math"
	"slices"
	"strings"
	"testing"

	"loop.example/s02095/impl"
)

func fieldNames() map[int]string {
	return map[int]string{1: "User Element", 2: "Element", 3: "User Other Box", 4: "User Element Other Nonce", 5: "Element Other Nonce Box Mac", 6: "Mac", 7: "", 8: "Code"}
}

func hasField(kind int, field string) bool {
	return slices.Contains(strings.Fields(fieldNames()[kind]), field)
}

// plainPut empties the fields that the kind has, so that nothing may be left.
func plainPut(m impl.Message) string {
	out, rest, fits := string([]byte{byte(m.Kind)}), m, true
	names, known := fieldNames()[m.Kind]
	for _, field := range strings.Fields(names) {
		switch field {
		case "User":
			out += plainSized(m.User)
			fits = fits && len(m.User) >= 1 && len(m.User) <= 32
			rest.User = ""
		case "Element":
			out += impl.PutPoint(m.Element)
			fits = fits && plainPointFits(m.Element)
			rest.Element = impl.Point{}
		case "Other":
			out += impl.PutPoint(m.Other)
			fits = fits && plainPointFits(m.Other)
			rest.Other = impl.Point{}
		case "Nonce":
			out += m.Nonce
			fits = fits && len(m.Nonce) == 16
			rest.Nonce = ""
		case "Box":
			out += m.Box
			fits = fits && len(m.Box) == 48
			rest.Box = ""
		case "Mac":
			out += m.Mac
			fits = fits && len(m.Mac) == 32
			rest.Mac = ""
		case "Code":
			out += string([]byte{byte(m.Code)})
			fits = fits && m.Code >= 1 && m.Code <= 7
			rest.Code = 0
		}
	}
	if !fits || !known || rest != (impl.Message{Kind: m.Kind}) {
		return ""
	}
	return out
}

// plainGuess cuts a text at the places that its size tells, whatever is there.
func plainGuess(s string) impl.Message {
	point := func(at int) impl.Point {
		p, _ := impl.GetPoint(s[at : at+8])
		return p
	}
	kind, size := 0, len(s)
	if size > 0 {
		kind = int(s[0])
	}
	switch {
	case kind == 1 && size >= 11:
		return impl.Message{Kind: 1, User: s[3 : size-8], Element: point(size - 8)}
	case kind == 2 && size >= 9:
		return impl.Message{Kind: 2, Element: point(1)}
	case kind == 3 && size >= 59:
		return impl.Message{Kind: 3, User: s[3 : size-56], Other: point(size - 56), Box: s[size-48:]}
	case kind == 4 && size >= 35:
		return impl.Message{Kind: 4, User: s[3 : size-32], Element: point(size - 32), Other: point(size - 24), Nonce: s[size-16:]}
	case kind == 5 && size >= 113:
		return impl.Message{Kind: 5, Element: point(1), Other: point(9), Nonce: s[17:33], Box: s[33:81], Mac: s[81:]}
	case kind == 6:
		return impl.Message{Kind: 6, Mac: s[1:]}
	case kind == 7:
		return impl.Message{Kind: 7}
	case kind == 8 && size >= 2:
		return impl.Message{Kind: 8, Code: int(s[1])}
	}
	return impl.Message{}
}

// plainGet takes what is written in just this way.
func plainGet(s string) (impl.Message, bool) {
	m := plainGuess(s)
	if s == "" || plainPut(m) != s {
		return impl.Message{}, false
	}
	return m, true
}

// messagesOf has every kind with this user and these points.
func messagesOf(user string, first impl.Point, second impl.Point, seed int) []impl.Message {
	nonce, box, mac := sample(seed, 16), sample(seed+1, 48), sample(seed+2, 32)
	return []impl.Message{
		{Kind: impl.MRegister, User: user, Element: first},
		{Kind: impl.MEvaluated, Element: first},
		{Kind: impl.MRecord, User: user, Other: second, Box: box},
		{Kind: impl.MLogin, User: user, Element: first, Other: second, Nonce: nonce},
		{Kind: impl.MReply, Element: first, Other: second, Nonce: nonce, Box: box, Mac: mac},
		{Kind: impl.MFinish, Mac: mac},
		{Kind: impl.MDone},
		{Kind: impl.MError, Code: 1 + seed%7},
	}
}

func kindMessages() []impl.Message {
	return messagesOf("ann", impl.Base(), impl.Times(impl.N-2, impl.Base()), 3)
}

func messages() []impl.Message {
	points := elements()
	var out []impl.Message
	for i, user := range names() {
		out = append(out, messagesOf(user, points[i], points[len(points)-1-i], i)...)
	}
	for size := 1; size <= 32; size++ {
		out = append(out, messagesOf(sample(size, size), points[size], points[0], size)...)
	}
	for i, p := range points {
		out = append(out, messagesOf("ann", p, points[i/2], i)...)
		out = append(out, messagesOf("bob", points[i/2], p, i)...)
	}
	for code := 1; code <= 7; code++ {
		out = append(out, impl.Message{Kind: impl.MError, Code: code})
	}
	for _, fill := range []string{"\x00", "\xff"} {
		out = append(out, impl.Message{Kind: impl.MFinish, Mac: strings.Repeat(fill, 32)},
			impl.Message{Kind: impl.MRecord, User: fill, Other: impl.Base(), Box: strings.Repeat(fill, 48)},
			impl.Message{Kind: impl.MLogin, User: fill, Element: impl.Base(), Other: impl.Base(), Nonce: strings.Repeat(fill, 16)})
	}
	return out
}

// A change makes one field of a message another.
type change struct {
	field string
	make  func(m *impl.Message)
}

func (c change) of(m impl.Message) impl.Message {
	c.make(&m)
	return m
}

func pointChanges(p impl.Point) []change {
	return []change{{"Element", func(m *impl.Message) { m.Element = p }}, {"Other", func(m *impl.Message) { m.Other = p }}}
}

// wrongChanges has what a field must not be in any kind.
func wrongChanges() []change {
	var out []change
	for _, user := range wrongNames()[1:] {
		out = append(out, change{"User", func(m *impl.Message) { m.User = user }})
	}
	for _, p := range noElements() {
		if p != (impl.Point{}) {
			out = append(out, pointChanges(p)...)
		}
	}
	for _, nonce := range wrongTexts(16)[1:] {
		out = append(out, change{"Nonce", func(m *impl.Message) { m.Nonce = nonce }})
	}
	for _, box := range wrongTexts(48)[1:] {
		out = append(out, change{"Box", func(m *impl.Message) { m.Box = box }})
	}
	for _, mac := range wrongTexts(32)[1:] {
		out = append(out, change{"Mac", func(m *impl.Message) { m.Mac = mac }})
	}
	for _, code := range []int{-1, 8, 9, 255, 256, 257, 263, -255, -249, 1<<32 + 1, math.MaxInt, math.MinInt, math.MinInt + 1} {
		out = append(out, change{"Code", func(m *impl.Message) { m.Code = code }})
	}
	return out
}

// emptyChanges take a field away that a kind may have, and otherChanges give it one that it may not have.
func emptyChanges() []change {
	return []change{
		{"User", func(m *impl.Message) { m.User = "" }},
		{"Element", func(m *impl.Message) { m.Element = impl.Point{} }},
		{"Other", func(m *impl.Message) { m.Other = impl.Point{} }},
		{"Nonce", func(m *impl.Message) { m.Nonce = "" }},
		{"Box", func(m *impl.Message) { m.Box = "" }},
		{"Mac", func(m *impl.Message) { m.Mac = "" }},
		{"Code", func(m *impl.Message) { m.Code = 0 }},
	}
}

func otherChanges() []change {
	return append([]change{
		{"User", func(m *impl.Message) { m.User = "bob" }},
		{"Nonce", func(m *impl.Message) { m.Nonce = sample(9, 16) }},
		{"Box", func(m *impl.Message) { m.Box = sample(9, 48) }},
		{"Mac", func(m *impl.Message) { m.Mac = sample(9, 32) }},
		{"Code", func(m *impl.Message) { m.Code = 1 }},
	}, pointChanges(impl.Times(7, impl.Base()))...)
}

func wrongKinds() []int {
	return []int{0, -1, 9, 10, 255, 256, 257, 258, 262, 263, 264, -249, -248, -255, 1<<32 + 7, 65543, math.MaxInt, math.MinInt, math.MinInt + 7}
}

// checkText says what GetMessage must make of a text. Promise 4: what it takes is written by PutMessage in just this way.
func checkText(t *testing.T, s string) {
	t.Helper()
	got, ok := impl.GetMessage(s)
	if want, wantOk := plainGet(s); got != want || ok != wantOk {
		t.Errorf("GetMessage, %x: got %#v, %v, want %#v, %v", s, got, ok, want, wantOk)
	}
	if ok && impl.PutMessage(got) != s {
		t.Errorf("GetMessage, %x: %#v is written as %x", s, got, impl.PutMessage(got))
	}
	if !ok && got != (impl.Message{}) {
		t.Errorf("GetMessage, %x: %#v", s, got)
	}
}

func TestMessageKnown(t *testing.T) {
	for _, c := range []struct {
		m    impl.Message
		want string
	}{
		{impl.Message{Kind: impl.MRegister, User: "ann", Element: impl.Base()}, "010003616e6e4000000000000001"},
		{impl.Message{Kind: impl.MEvaluated, Element: impl.Negative(impl.Base())}, "026000000000000001"},
		{impl.Message{Kind: impl.MRecord, User: "b", Other: impl.Base(), Box: strings.Repeat("\x05", 48)}, "03000162" + "4000000000000001" + strings.Repeat("05", 48)},
		{impl.Message{Kind: impl.MLogin, User: "b", Element: impl.Base(), Other: impl.Negative(impl.Base()), Nonce: strings.Repeat("\x06", 16)}, "04000162" + "4000000000000001" + "6000000000000001" + strings.Repeat("06", 16)},
		{impl.Message{Kind: impl.MReply, Element: impl.Base(), Other: impl.Negative(impl.Base()), Nonce: strings.Repeat("\x06", 16), Box: strings.Repeat("\x05", 48), Mac: strings.Repeat("\x04", 32)}, "05" + "4000000000000001" + "6000000000000001" + strings.Repeat("06", 16) + strings.Repeat("05", 48) + strings.Repeat("04", 32)},
		{impl.Message{Kind: impl.MFinish, Mac: strings.Repeat("\x04", 32)}, "06" + strings.Repeat("04", 32)},
		{impl.Message{Kind: impl.MDone}, "07"},
		{impl.Message{Kind: impl.MError, Code: 1}, "0801"},
		{impl.Message{Kind: impl.MError, Code: 7}, "0807"},
	} {
		wantHex(t, "PutMessage", impl.PutMessage(c.m), c.want)
		if back, ok := impl.GetMessage(unhex(t, c.want)); back != c.m || !ok {
			t.Errorf("GetMessage, %s: %#v, %v", c.want, back, ok)
		}
	}
}

// Promise 4.
func TestMessageComesBack(t *testing.T) {
	for _, m := range messages() {
		text := impl.PutMessage(m)
		if want := plainPut(m); text != want || want == "" {
			t.Errorf("PutMessage, %#v: got %x, want %x", m, text, want)
		}
		if back, ok := impl.GetMessage(text); back != m || !ok {
			t.Errorf("%#v comes back as %#v, %v", m, back, ok)
		}
	}
}

func TestPutMessageOfOtherKinds(t *testing.T) {
	for _, kind := range wrongKinds() {
		for _, m := range append(kindMessages(), impl.Message{}) {
			m.Kind = kind
			if text := impl.PutMessage(m); text != "" {
				t.Errorf("PutMessage, %#v: %x", m, text)
			}
		}
	}
	for _, m := range kindMessages() {
		for kind := range 9 {
			changed := m
			changed.Kind = kind
			if text := impl.PutMessage(changed); (text != "") != (kind == m.Kind) {
				t.Errorf("PutMessage, %#v: %x", changed, text)
			}
		}
	}
}

// Each kind has all of its own fields, and no others; what a field must not be, it is not in any kind.
func TestPutMessageOfOtherFields(t *testing.T) {
	for _, m := range kindMessages() {
		for _, c := range otherChanges() {
			if changed := c.of(m); (impl.PutMessage(changed) != "") != hasField(m.Kind, c.field) {
				t.Errorf("%#v: %x", changed, impl.PutMessage(changed))
			}
		}
		for _, c := range wrongChanges() {
			if changed := c.of(m); impl.PutMessage(changed) != "" {
				t.Errorf("%#v: %x", changed, impl.PutMessage(changed))
			}
		}
		for _, c := range emptyChanges() {
			if changed := c.of(m); (impl.PutMessage(changed) == "") != hasField(m.Kind, c.field) {
				t.Errorf("%#v: %x", changed, impl.PutMessage(changed))
			}
		}
	}
}

// A field that is too long must not be made up for by one that is too short.
func TestPutMessageOfShiftedFields(t *testing.T) {
	g := impl.Base()
	for _, m := range []impl.Message{
		{Kind: impl.MReply, Element: g, Other: g, Nonce: sample(1, 15), Box: sample(2, 49), Mac: sample(3, 32)},
		{Kind: impl.MReply, Element: g, Other: g, Nonce: sample(1, 17), Box: sample(2, 47), Mac: sample(3, 32)},
		{Kind: impl.MReply, Element: g, Other: g, Nonce: sample(1, 16), Box: sample(2, 47), Mac: sample(3, 33)},
		{Kind: impl.MReply, Element: g, Other: g, Nonce: sample(1, 16), Box: sample(2, 49), Mac: sample(3, 31)},
		{Kind: impl.MReply, Element: g, Other: g, Nonce: "", Box: sample(2, 64), Mac: sample(3, 32)},
		{Kind: impl.MReply, Element: g, Other: g, Nonce: sample(2, 96)},
		{Kind: impl.MRegister, User: strings.Repeat("u", 65536+3), Element: g},
	} {
		if text := impl.PutMessage(m); text != "" {
			t.Errorf("%#v: %x", m, text)
		}
	}
}

func TestGetMessageOfShortTexts(t *testing.T) {
	checkText(t, "")
	for first := range 256 {
		checkText(t, string([]byte{byte(first)}))
		for second := range 256 {
			checkText(t, string([]byte{byte(first), byte(second)}))
		}
	}
}

// Texts that are cut short, or too long by a byte, are none.
func TestGetMessageOfCutTexts(t *testing.T) {
	for _, m := range messages() {
		s := impl.PutMessage(m)
		for _, cut := range []string{s[:len(s)-1], s[1:], s + "\x00", s + "\x01", s + s, "\x00" + s} {
			checkText(t, cut)
		}
		if back, ok := impl.GetMessage(s + "\x00"); ok {
			t.Errorf("%x and a zero: %#v", s, back)
		}
		if back, ok := impl.GetMessage(s[:len(s)-1]); ok {
			t.Errorf("%x but its last: %#v", s, back)
		}
	}
	for _, m := range kindMessages() {
		s := impl.PutMessage(m)
		for size := range len(s) {
			checkText(t, s[:size])
		}
	}
}

// A text that was changed at one of its bytes is another message or none.
func TestGetMessageOfChangedTexts(t *testing.T) {
	for _, m := range kindMessages() {
		s := impl.PutMessage(m)
		for i := range s {
			for b := range 256 {
				checkText(t, s[:i]+string([]byte{byte(b)})+s[i+1:])
			}
		}
	}
}

// The size of a name is told by two bytes, which must be those of the name.
func TestGetMessageOfWrongSizes(t *testing.T) {
	for _, size := range []int{0, 1, 2, 31, 32, 33, 34, 48, 255, 256, 257, 65535} {
		for _, told := range []int{0, 1, 31, 32, 33, 255, 256, 257, size - 1, size, size + 1, size + 8, size + 256} {
			start := string([]byte{byte(told >> 8), byte(told)}) + sample(1, size)
			checkText(t, "\x01"+start+impl.PutPoint(impl.Base()))
			checkText(t, "\x03"+start+impl.PutPoint(impl.Base())+sample(1, 48))
			checkText(t, "\x04"+start+impl.PutPoint(impl.Base())+impl.PutPoint(impl.Base())+sample(1, 16))
		}
	}
}

func TestGetMessageOfNoPoints(t *testing.T) {
	good := impl.PutPoint(impl.Base())
	for _, word := range pointWords() {
		p := impl.PutWord(word)
		checkText(t, "\x01\x00\x03ann"+p)
		checkText(t, "\x02"+p)
		checkText(t, "\x03\x00\x03ann"+p+sample(1, 48))
		checkText(t, "\x04\x00\x03ann"+p+good+sample(1, 16))
		checkText(t, "\x04\x00\x03ann"+good+p+sample(1, 16))
		checkText(t, "\x05"+p+good+sample(1, 96))
		checkText(t, "\x05"+good+p+sample(1, 96))
	}
}

func TestGetMessageOfAnyTexts(t *testing.T) {
	for kind := range 10 {
		for size := range 130 {
			for seed := range 3 {
				checkText(t, string([]byte{byte(kind)})+sample(seed*57+size, size))
				checkText(t, string([]byte{byte(kind)})+strings.Repeat("\x00", size))
			}
		}
		checkText(t, string([]byte{byte(kind)})+sample(1, 70000))
	}
}
