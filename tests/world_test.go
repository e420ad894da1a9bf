package tests

import (
	"slices"
	"strings"
	"testing"

	"loop.example/s02095/impl"
)

// A product is what keptTimes was asked for.
type product struct {
	k uint64
	p impl.Point
}

var products = map[product]impl.Point{}

// keptTimes is plainTimes, which is slow; scripts ask for the same products over and over.
func keptTimes(k uint64, p impl.Point) impl.Point {
	of := product{k, p}
	if _, known := products[of]; !known {
		products[of] = plainTimes(k, p)
	}
	return products[of]
}

// A visit is a packet that came to a party in a state: the kind of its message, or 0 if it is none.
type visit struct {
	toServer bool
	state    int
	kind     int
}

// A session is a client and the server's side, whose Key is here also while it is not shown.
type session struct {
	begun   impl.Event
	request string
	client  impl.Client
	side    impl.Side
	awaited string
}

// A world is the chapter's Exec in its own words, one event after the other.
type world struct {
	seed     string
	own      uint64
	public   impl.Point
	users    []impl.Record
	sessions []*session
	net      []impl.Packet
	visits   map[visit]int
	codes    map[[2]int]int
}

func newWorld(seed string) *world {
	own, _ := plainDerive(0, seed, "Server")
	return &world{seed: seed, own: own, public: keptTimes(own, impl.Base()), visits: map[visit]int{}, codes: map[[2]int]int{}}
}

func plainExec(seed string, events []impl.Event) impl.Outcome {
	if len(seed) != 32 || len(events) > 200 {
		return impl.Outcome{}
	}
	w := newWorld(seed)
	for _, e := range events {
		if !plainEventFits(e) {
			return impl.Outcome{}
		}
	}
	for _, e := range events {
		w.happen(e)
	}
	return w.outcome()
}

// plainEventFits empties the named fields, so that nothing may be left.
func plainEventFits(e impl.Event) bool {
	rest, fits := e, true
	named := map[int]string{1: "User Pass Blind Nonce", 2: "User Pass Blind Eph Nonce", 3: "At Eph Nonce", 4: "At", 5: "At", 6: "At Pos Byte"}
	for _, field := range strings.Fields(named[e.Kind]) {
		switch field {
		case "User":
			fits = fits && len(e.User) >= 1 && len(e.User) <= 32
			rest.User = ""
		case "Pass":
			fits = fits && len(e.Pass) <= 1000
			rest.Pass = ""
		case "Blind":
			fits = fits && plainFactorFits(e.Blind)
			rest.Blind = 0
		case "Eph":
			fits = fits && plainFactorFits(e.Eph)
			rest.Eph = 0
		case "Nonce":
			fits = fits && len(e.Nonce) == 16
			rest.Nonce = ""
		case "At":
			rest.At = 0
		case "Pos":
			rest.Pos = 0
		case "Byte":
			fits = fits && e.Byte >= 0 && e.Byte <= 255
			rest.Byte = 0
		}
	}
	return fits && named[e.Kind] != "" && rest == impl.Event{Kind: e.Kind}
}

func (w *world) outcome() impl.Outcome {
	out := impl.Outcome{Ok: true, Users: slices.Clone(w.users), Net: slices.Clone(w.net)}
	for _, s := range w.sessions {
		side := s.side
		if side.State != impl.SDone {
			side.Key = ""
		}
		out.Clients = append(out.Clients, s.client)
		out.Sides = append(out.Sides, side)
	}
	return out
}

func (w *world) send(session int, toServer bool, m impl.Message) string {
	body := plainPut(m)
	w.net = append(w.net, impl.Packet{Session: session, ToServer: toServer, Body: body})
	return body
}

func (w *world) happen(e impl.Event) {
	there := e.At >= 0 && e.At < len(w.net)
	switch {
	case e.Kind == impl.EvRegister || e.Kind == impl.EvLogin:
		w.begin(e)
	case e.Kind == impl.EvDrop && there:
		w.net = append(slices.Clone(w.net[:e.At]), w.net[e.At+1:]...)
	case e.Kind == impl.EvCopy && there && len(w.net) < 60:
		w.net = append(w.net, w.net[e.At])
	case e.Kind == impl.EvPoke && there && e.Pos >= 0 && e.Pos < len(w.net[e.At].Body):
		body := w.net[e.At].Body
		w.net[e.At].Body = body[:e.Pos] + string([]byte{byte(e.Byte)}) + body[e.Pos+1:]
	case e.Kind == impl.EvDeliver && there:
		packet := w.net[e.At]
		w.net = append(slices.Clone(w.net[:e.At]), w.net[e.At+1:]...)
		if packet.ToServer {
			w.atServer(packet, e)
		} else {
			w.atClient(packet)
		}
	}
}

func (w *world) begin(e impl.Event) {
	if len(w.sessions) == 30 {
		return
	}
	s := &session{begun: e, client: impl.Client{User: e.User}}
	w.sessions = append(w.sessions, s)
	h := plainHash(0, e.Pass)
	if h == zero {
		s.client.State, s.client.Err = impl.CFailed, impl.EArgs
		return
	}
	m := impl.Message{Kind: impl.MRegister, User: e.User, Element: keptTimes(e.Blind, h)}
	s.client.State = impl.CRegister
	if e.Kind == impl.EvLogin {
		m = impl.Message{Kind: impl.MLogin, User: e.User, Element: m.Element, Other: keptTimes(e.Eph, impl.Base()), Nonce: e.Nonce}
		s.client.State = impl.CLogin
	}
	s.request = w.send(len(w.sessions)-1, true, m)
}

func (w *world) registered(user string) (impl.Record, bool) {
	i := slices.IndexFunc(w.users, func(r impl.Record) bool { return r.User == user })
	if i < 0 {
		return impl.Record{}, false
	}
	return w.users[i], true
}

// atServer notes what came to which state, and which code went out.
func (w *world) atServer(packet impl.Packet, e impl.Event) {
	s := w.sessions[packet.Session]
	m, _ := plainGet(packet.Body)
	w.visits[visit{true, s.side.State, m.Kind}]++
	answer := w.answer(s, m, packet.Body, e)
	w.codes[[2]int{m.Kind, answer.Code}]++
	w.send(packet.Session, false, answer)
}

func refused(code int) impl.Message {
	return impl.Message{Kind: impl.MError, Code: code}
}

func (w *world) answer(s *session, m impl.Message, body string, e impl.Event) impl.Message {
	record, known := w.registered(m.User)
	full := len(w.users) == 8
	key, _ := plainDerive(0, w.seed, "User"+m.User)
	switch state := s.side.State; {
	case m.Kind == 0:
		return refused(impl.EWire)
	case m.Kind == impl.MRecord && state == impl.SRegister && m.User != s.side.User:
		return refused(impl.EUser)
	case m.Kind == impl.MRegister && state == impl.SNew && known, m.Kind == impl.MRecord && state == impl.SRegister && known:
		return refused(impl.EExists)
	case m.Kind == impl.MRegister && state == impl.SNew && full, m.Kind == impl.MRecord && state == impl.SRegister && full:
		return refused(impl.EFull)
	case m.Kind == impl.MRegister && state == impl.SNew:
		s.side.User, s.side.State = m.User, impl.SRegister
		return impl.Message{Kind: impl.MEvaluated, Element: keptTimes(key, m.Element)}
	case m.Kind == impl.MRecord && state == impl.SRegister:
		w.users = append(w.users, impl.Record{User: m.User, Public: m.Other, Box: m.Box})
		s.side.State = impl.SDone
		return impl.Message{Kind: impl.MDone}
	case m.Kind == impl.MLogin && state == impl.SNew && !known:
		return refused(impl.EUser)
	case m.Kind == impl.MLogin && state == impl.SNew:
		return w.reply(s, m, body, e, record, key)
	case m.Kind == impl.MFinish && state == impl.SLogin && m.Mac != s.awaited:
		return refused(impl.EMac)
	case m.Kind == impl.MFinish && state == impl.SLogin:
		s.side.State = impl.SDone
		return impl.Message{Kind: impl.MDone}
	}
	return refused(impl.EState)
}

func (w *world) reply(s *session, m impl.Message, body string, e impl.Event, record impl.Record, key uint64) impl.Message {
	out := impl.Message{Kind: impl.MReply, Element: keptTimes(key, m.Element), Other: keptTimes(e.Eph, impl.Base()), Nonce: e.Nonce, Box: record.Box}
	seen := body + impl.PutPoint(out.Element) + impl.PutPoint(out.Other) + out.Nonce + out.Box
	keys := plainAgree(keptTimes(e.Eph, m.Other), keptTimes(w.own, m.Other), keptTimes(e.Eph, record.Public), seen)
	out.Mac = libraryHmac(keys.Server, libraryHash(seen))
	s.side = impl.Side{State: impl.SLogin, User: m.User, Key: keys.Session}
	s.awaited = libraryHmac(keys.Client, libraryHash(seen+out.Mac))
	return out
}

func (w *world) atClient(packet impl.Packet) {
	s := w.sessions[packet.Session]
	m, _ := plainGet(packet.Body)
	state := s.client.State
	w.visits[visit{false, state, m.Kind}]++
	switch {
	case state == impl.CRegister && m.Kind == impl.MEvaluated:
		l := w.lockOf(s, m)
		record, _, export, _ := plainSeal(l)
		s.client.Export, s.client.State = export, impl.CRecord
		w.send(packet.Session, true, impl.Message{Kind: impl.MRecord, User: s.client.User, Other: record.Public, Box: record.Box})
	case state == impl.CRecord && m.Kind == impl.MDone:
		s.client.State = impl.CDone
	case state == impl.CLogin && m.Kind == impl.MReply:
		w.finish(packet.Session, s, m)
	case (state == impl.CRegister || state == impl.CRecord || state == impl.CLogin) && m.Kind == impl.MError:
		s.client.State, s.client.Err = impl.CFailed, m.Code
	}
}

func (w *world) lockOf(s *session, m impl.Message) lock {
	secret := plainOutput(0, s.begun.Pass, "", keptTimes(plainInverse(s.begun.Blind), m.Element))
	return lock{secret: secret, nonce: s.begun.Nonce, server: w.public, user: s.client.User}
}

func (w *world) finish(number int, s *session, m impl.Message) {
	private, export, ok := plainUnseal(w.lockOf(s, m), m.Box)
	if !ok {
		s.client.State, s.client.Err = impl.CFailed, impl.EMac
		return
	}
	eph := s.begun.Eph
	seen := s.request + impl.PutPoint(m.Element) + impl.PutPoint(m.Other) + m.Nonce + m.Box
	keys := plainAgree(keptTimes(eph, m.Other), keptTimes(eph, w.public), keptTimes(private, m.Other), seen)
	if m.Mac != libraryHmac(keys.Server, libraryHash(seen)) {
		s.client.State, s.client.Err = impl.CFailed, impl.EMac
		return
	}
	w.send(number, true, impl.Message{Kind: impl.MFinish, Mac: libraryHmac(keys.Client, libraryHash(seen+m.Mac))})
	s.client.Key, s.client.Export, s.client.State = keys.Session, export, impl.CDone
}

func sameOutcome(a impl.Outcome, b impl.Outcome) bool {
	return a.Ok == b.Ok && slices.Equal(a.Clients, b.Clients) && slices.Equal(a.Sides, b.Sides) && slices.Equal(a.Users, b.Users) && slices.Equal(a.Net, b.Net)
}

func checkExec(t *testing.T, what string, seed string, events []impl.Event) impl.Outcome {
	t.Helper()
	got := impl.Exec(seed, events)
	if want := plainExec(seed, events); !sameOutcome(got, want) {
		t.Fatalf("%s: %d events: got %#v, want %#v", what, len(events), got, want)
	}
	return got
}
