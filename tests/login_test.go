package tests

import (
	"math"
	"runtime"
	"slices"
	"strconv"
	"strings"
	"sync"
	"testing"
	"time"

	"loop.example/s02095/impl"
)

const (
	firstNonce  = "0123456789abcdef"
	secondNonce = "fedcba9876543210"
	serverNonce = "0011223344556677"
)

func asksRegister(user string, pass string) impl.Event {
	return impl.Event{Kind: impl.EvRegister, User: user, Pass: pass, Blind: 77, Nonce: firstNonce}
}

func asksLogin(user string, pass string) impl.Event {
	return impl.Event{Kind: impl.EvLogin, User: user, Pass: pass, Blind: 99, Eph: 1234567, Nonce: secondNonce}
}

func delivers(at int) impl.Event {
	return impl.Event{Kind: impl.EvDeliver, At: at, Eph: 7654321, Nonce: serverNonce}
}

func drops(at int) impl.Event {
	return impl.Event{Kind: impl.EvDrop, At: at}
}

func copies(at int) impl.Event {
	return impl.Event{Kind: impl.EvCopy, At: at}
}

func pokes(at int, pos int, b int) impl.Event {
	return impl.Event{Kind: impl.EvPoke, At: at, Pos: pos, Byte: b}
}

func repeated(e impl.Event, times int) []impl.Event {
	return slices.Repeat([]impl.Event{e}, times)
}

// A play is a script as far as it is written; it is added to without changing it.
type play struct {
	seed   string
	events []impl.Event
}

func newPlay(events ...impl.Event) play {
	return play{strings.Repeat("\x09", 32), events}
}

func (p play) then(events ...impl.Event) play {
	p.events = append(slices.Clone(p.events), events...)
	return p
}

func (p play) world() *world {
	w := newWorld(p.seed)
	for _, e := range p.events {
		w.happen(e)
	}
	return w
}

func (p play) outcome(t *testing.T) impl.Outcome {
	t.Helper()
	out := checkExec(t, "a play", p.seed, p.events)
	if !out.Ok {
		t.Fatalf("not in order: %#v", p.events)
	}
	return out
}

// at is where in Net the first message of this kind is, of the last session; a kind of 0 is what is none.
func (p play) at(kind int) int {
	w := p.world()
	return slices.IndexFunc(w.net, func(packet impl.Packet) bool {
		m, _ := plainGet(packet.Body)
		return m.Kind == kind && packet.Session == len(w.sessions)-1
	})
}

func (p play) give(kind int) play {
	return p.then(delivers(p.at(kind)))
}

func (p play) double(kind int) play {
	return p.then(copies(p.at(kind)))
}

// rewrite makes a packet another text of the same size.
func (p play) rewrite(at int, body string) play {
	old := p.world().net[at].Body
	for i := range len(body) {
		if old[i] != body[i] {
			p = p.then(pokes(at, i, int(body[i])))
		}
	}
	return p
}

// registers goes through a whole registration, and logsIn through a whole login.
func (p play) registers(user string, pass string) play {
	return p.then(asksRegister(user, pass)).give(impl.MRegister).give(impl.MEvaluated).give(impl.MRecord).give(impl.MDone)
}

func (p play) logsIn(user string, pass string) play {
	return p.then(asksLogin(user, pass)).give(impl.MLogin).give(impl.MReply).give(impl.MFinish).give(impl.MDone)
}

func lastCode(t *testing.T, o impl.Outcome) int {
	t.Helper()
	if len(o.Net) == 0 || o.Net[len(o.Net)-1].ToServer {
		t.Fatalf("the server sent nothing: %#v", o.Net)
	}
	m, _ := impl.GetMessage(o.Net[len(o.Net)-1].Body)
	return m.Code
}

func wantCode(t *testing.T, what string, p play, code int) {
	t.Helper()
	if got := lastCode(t, p.outcome(t)); got != code {
		t.Errorf("%s: the server answers with code %d, not %d", what, got, code)
	}
}

// wantStates holds the last session against the client's State and Err and the side's State.
func wantStates(t *testing.T, what string, p play, client int, err int, side int) impl.Outcome {
	t.Helper()
	o := p.outcome(t)
	last := len(o.Clients) - 1
	if len(o.Sides) != len(o.Clients) || o.Clients[last].State != client || o.Clients[last].Err != err || o.Sides[last].State != side {
		t.Errorf("%s: %#v, %#v, want the states %d with %d, and %d", what, o.Clients, o.Sides, client, err, side)
	}
	return o
}

func TestLoginConstants(t *testing.T) {
	got := []int{impl.MaxUser, impl.MaxPass, impl.MaxUsers, impl.MaxSessions, impl.MaxNet, impl.MaxEvents,
		impl.MRegister, impl.MEvaluated, impl.MRecord, impl.MLogin, impl.MReply, impl.MFinish, impl.MDone, impl.MError,
		impl.EWire, impl.EState, impl.EUser, impl.EExists, impl.EFull, impl.EArgs, impl.EMac,
		impl.CRegister, impl.CRecord, impl.CLogin, impl.CDone, impl.CFailed, impl.SNew, impl.SRegister, impl.SLogin, impl.SDone,
		impl.EvRegister, impl.EvLogin, impl.EvDeliver, impl.EvDrop, impl.EvCopy, impl.EvPoke}
	want := []int{32, 1000, 8, 30, 60, 200, 1, 2, 3, 4, 5, 6, 7, 8, 1, 2, 3, 4, 5, 6, 7, 1, 2, 3, 4, 5, 0, 1, 2, 3, 1, 2, 3, 4, 5, 6}
	if !slices.Equal(got, want) {
		t.Errorf("the constants are %v", got)
	}
}

func TestExecKnown(t *testing.T) {
	p := newPlay().registers("ann", "pw").then(asksLogin("ann", "pw")).give(impl.MLogin)
	o := p.outcome(t)
	reply, _ := impl.GetMessage(o.Net[0].Body)
	wantHex(t, "the server's mac", reply.Mac, "b35781be6e65340669e9206f18d63711ff5d7f48bbce074de584b3e717267261")
	o = p.give(impl.MReply).outcome(t)
	finish, _ := impl.GetMessage(o.Net[0].Body)
	wantHex(t, "the client's mac", finish.Mac, "f4e76a67c06c07195e58ec2dc3368755ea90c2275321b8b4c74fffbf9085eedf")
	o = p.give(impl.MReply).give(impl.MFinish).outcome(t)
	if o.Users[0].User != "ann" || o.Users[0].Public != (impl.Point{X: 2054784280239702125, Y: 990423806551756011}) {
		t.Errorf("%#v", o.Users)
	}
	wantHex(t, "box", o.Users[0].Box, "30313233343536373839616263646566229e0453f3151bd295255761684ea1a1013c697708a24fb5f10bef6f6d9f5acc")
	wantHex(t, "export key", o.Clients[0].Export, "32a8dcdae65e37bbaf9f9dc08f05b4fe36feef062bbd010f234bf391bdced96e")
	wantHex(t, "the client's key", o.Clients[1].Key, "29047134c7544f17bf4abf2681ddb8fb4d02bc42266ba990ca74971bdb6cbc7e")
	wantHex(t, "the side's key", o.Sides[1].Key, "29047134c7544f17bf4abf2681ddb8fb4d02bc42266ba990ca74971bdb6cbc7e")
}

func TestExecOfNoEvents(t *testing.T) {
	for _, events := range [][]impl.Event{nil, {}} {
		o := checkExec(t, "no event", sample(1, 32), events)
		if !o.Ok || len(o.Clients)+len(o.Sides)+len(o.Users)+len(o.Net) != 0 {
			t.Errorf("%#v", o)
		}
	}
}

func TestRegistrationSteps(t *testing.T) {
	p := newPlay(asksRegister("ann", "pw"))
	o := wantStates(t, "asked", p, impl.CRegister, 0, impl.SNew)
	if o.Sides[0] != (impl.Side{}) || o.Clients[0] != (impl.Client{User: "ann", State: impl.CRegister}) {
		t.Errorf("%#v, %#v", o.Clients, o.Sides)
	}
	o = wantStates(t, "evaluated", p.give(impl.MRegister), impl.CRegister, 0, impl.SRegister)
	if o.Sides[0] != (impl.Side{State: impl.SRegister, User: "ann"}) || len(o.Users) != 0 {
		t.Errorf("%#v, %#v", o.Sides, o.Users)
	}
	p = p.give(impl.MRegister).give(impl.MEvaluated)
	o = wantStates(t, "sealed", p, impl.CRecord, 0, impl.SRegister)
	if len(o.Clients[0].Export) != 32 || o.Clients[0].Key != "" || len(o.Users) != 0 {
		t.Errorf("%#v, %#v", o.Clients, o.Users)
	}
	o = wantStates(t, "kept", p.give(impl.MRecord), impl.CRecord, 0, impl.SDone)
	if len(o.Users) != 1 || o.Sides[0] != (impl.Side{State: impl.SDone, User: "ann"}) {
		t.Errorf("%#v, %#v", o.Sides, o.Users)
	}
	o = wantStates(t, "done", p.give(impl.MRecord).give(impl.MDone), impl.CDone, 0, impl.SDone)
	if len(o.Net) != 0 {
		t.Errorf("%#v", o.Net)
	}
}

// The side has its key from the reply on, but shows it only at its end.
func TestLoginSteps(t *testing.T) {
	p := newPlay().registers("ann", "pw").then(asksLogin("ann", "pw"))
	wantStates(t, "asked", p, impl.CLogin, 0, impl.SNew)
	o := wantStates(t, "replied", p.give(impl.MLogin), impl.CLogin, 0, impl.SLogin)
	if o.Sides[1] != (impl.Side{State: impl.SLogin, User: "ann"}) || o.Clients[1].Key != "" || o.Clients[1].Export != "" {
		t.Errorf("%#v, %#v", o.Clients, o.Sides)
	}
	p = p.give(impl.MLogin).give(impl.MReply)
	o = wantStates(t, "finished", p, impl.CDone, 0, impl.SLogin)
	if o.Sides[1].Key != "" || len(o.Clients[1].Key) != 32 || o.Clients[1].Export != o.Clients[0].Export {
		t.Errorf("%#v, %#v", o.Clients, o.Sides)
	}
	o = wantStates(t, "done", p.give(impl.MFinish), impl.CDone, 0, impl.SDone)
	if o.Sides[1].Key != o.Clients[1].Key || o.Sides[1].User != "ann" {
		t.Errorf("%#v, %#v", o.Clients, o.Sides)
	}
	wantStates(t, "told", p.give(impl.MFinish).give(impl.MDone), impl.CDone, 0, impl.SDone)
}

// checkThrough is promise 10: session first is the registration, and session second the login.
func checkThrough(t *testing.T, what string, o impl.Outcome, first int, second int) {
	t.Helper()
	r, l, side := o.Clients[first], o.Clients[second], o.Sides[second]
	if r.State != impl.CDone || o.Sides[first].State != impl.SDone || l.State != impl.CDone || side.State != impl.SDone ||
		len(l.Key) != 32 || l.Key != side.Key || len(l.Export) != 32 || l.Export != r.Export || r.Err != 0 || l.Err != 0 || side.User != l.User {
		t.Errorf("%s: %#v, %#v", what, o.Clients, o.Sides)
	}
}

func passwords() []string {
	return []string{"", "\x00", "pw", sample(5, 255), sample(6, 256), strings.Repeat("p", 999), sample(7, 1000)}
}

// Promise 10.
func TestLoginComesThrough(t *testing.T) {
	for i, user := range names() {
		for j, pass := range passwords() {
			what := "name " + strconv.Itoa(i) + ", password " + strconv.Itoa(j)
			o := newPlay().registers(user, pass).logsIn(user, pass).outcome(t)
			checkThrough(t, what, o, 0, 1)
			if len(o.Users) != 1 || o.Users[0].User != user || len(o.Net) != 0 {
				t.Errorf("%s: %#v, %#v", what, o.Users, o.Net)
			}
		}
	}
}

// Promise 10, with all factors at their edges.
func TestLoginWithFactors(t *testing.T) {
	for i, first := range oprfFactors() {
		for j, second := range oprfFactors() {
			third := oprfFactors()[(i+j)%len(oprfFactors())]
			register := impl.Event{Kind: impl.EvRegister, User: "ann", Pass: "pw", Blind: first, Nonce: sample(i, 16)}
			login := impl.Event{Kind: impl.EvLogin, User: "ann", Pass: "pw", Blind: second, Eph: third, Nonce: sample(j, 16)}
			deliver := impl.Event{Kind: impl.EvDeliver, Eph: first, Nonce: sample(i+j, 16)}
			events := slices.Concat([]impl.Event{register}, repeated(deliver, 4), []impl.Event{login}, repeated(deliver, 4))
			o := checkExec(t, "factors", sample(j, 32), events)
			checkThrough(t, "blinds and Ephs of "+strconv.Itoa(i)+", "+strconv.Itoa(j), o, 0, 1)
		}
	}
}

func TestLoginOfManySeeds(t *testing.T) {
	for _, seed := range []string{strings.Repeat("\x00", 32), strings.Repeat("\xff", 32), sample(1, 32), sample(2, 32), sample(3, 32)} {
		p := newPlay()
		p.seed = seed
		checkThrough(t, "a seed", p.registers("ann", "pw").logsIn("ann", "pw").outcome(t), 0, 1)
	}
}

// Promise 10 for all users that there is room for, while all are under way at once.
func TestLoginOfManyUsers(t *testing.T) {
	var asked, logins []impl.Event
	for i := range impl.MaxUsers {
		user, pass := sample(i, 1+4*i), sample(i, 100*i)
		asked = append(asked, asksRegister(user, pass))
		logins = append(logins, asksLogin(user, pass))
	}
	give := repeated(delivers(0), 4*impl.MaxUsers)
	o := newPlay().then(asked...).then(give...).then(logins...).then(give...).outcome(t)
	for i := range impl.MaxUsers {
		checkThrough(t, "user "+strconv.Itoa(i), o, i, impl.MaxUsers+i)
		if o.Users[i].User != sample(i, 1+4*i) {
			t.Errorf("user %d is %#v", i, o.Users[i])
		}
	}
	if len(o.Users) != impl.MaxUsers || len(o.Net) != 0 {
		t.Errorf("%d users, %d packets", len(o.Users), len(o.Net))
	}
}

// A login begun ahead of the registration comes through if it is delivered after it.
func TestLoginBegunBefore(t *testing.T) {
	p := newPlay(asksLogin("ann", "pw"), asksRegister("ann", "pw"), delivers(1), delivers(1), delivers(1), delivers(1))
	o := p.then(repeated(delivers(0), 4)...).outcome(t)
	checkThrough(t, "begun before", o, 1, 0)
}

func TestTwoLoginsAtOnce(t *testing.T) {
	p := newPlay().registers("ann", "pw").then(asksLogin("ann", "pw"), impl.Event{Kind: impl.EvLogin, User: "ann", Pass: "pw", Blind: 5, Eph: 6, Nonce: firstNonce})
	o := p.then(repeated(delivers(0), 8)...).outcome(t)
	checkThrough(t, "the first", o, 0, 1)
	checkThrough(t, "the second", o, 0, 2)
	if o.Clients[1].Key == o.Clients[2].Key {
		t.Error("both have the same key")
	}
	// The same request twice: the keys differ by what the server adds.
	again := newPlay().registers("ann", "pw").then(asksLogin("ann", "pw"), asksLogin("ann", "pw"), delivers(0),
		impl.Event{Kind: impl.EvDeliver, Eph: 3, Nonce: secondNonce}).then(repeated(delivers(0), 6)...).outcome(t)
	checkThrough(t, "the first of the same", again, 0, 1)
	checkThrough(t, "the second of the same", again, 0, 2)
	if again.Clients[1].Key == again.Clients[2].Key || again.Clients[1].Key != o.Clients[1].Key {
		t.Error("the keys of the same request")
	}
}

func TestLoginWithAnotherPassword(t *testing.T) {
	for _, pass := range []string{"", "p", "pw\x00", "Pw", "wp", sample(1, 1000)} {
		p := newPlay().registers("ann", "pw").then(asksLogin("ann", pass)).give(impl.MLogin)
		o := wantStates(t, "another password", p.give(impl.MReply), impl.CFailed, impl.EMac, impl.SLogin)
		if o.Clients[1].Key != "" || o.Clients[1].Export != "" || o.Sides[1].Key != "" || len(o.Net) != 0 {
			t.Errorf("%#v: %#v, %#v, %#v", pass, o.Clients, o.Sides, o.Net)
		}
	}
}

func TestLoginOfOthers(t *testing.T) {
	for _, user := range []string{"bob", "an", "anna", "Ann", "ann\x00"} {
		p := newPlay().registers("ann", "pw").then(asksLogin(user, "pw")).give(impl.MLogin)
		wantCode(t, user, p, impl.EUser)
		o := wantStates(t, user, p.give(impl.MError), impl.CFailed, impl.EUser, impl.SNew)
		if o.Sides[1] != (impl.Side{}) {
			t.Errorf("%#v", o.Sides)
		}
	}
	// One whose registration was not kept yet.
	p := newPlay(asksRegister("ann", "pw"), delivers(0), delivers(0), asksLogin("ann", "pw")).give(impl.MLogin)
	wantCode(t, "not kept yet", p, impl.EUser)
}

func TestTwoRegistrationsAtOnce(t *testing.T) {
	p := newPlay(asksRegister("ann", "pw"), asksRegister("ann", "other")).then(repeated(delivers(0), 6)...)
	wantCode(t, "the second record", p, impl.EExists)
	o := p.then(repeated(delivers(0), 2)...).outcome(t)
	if len(o.Users) != 1 || o.Clients[0].State != impl.CDone || o.Clients[1].State != impl.CFailed || o.Clients[1].Err != impl.EExists || o.Sides[1] != (impl.Side{State: impl.SRegister, User: "ann"}) {
		t.Errorf("%#v", o)
	}
	// What a client kept before it failed, stays.
	if len(o.Clients[1].Export) != 32 || o.Clients[1].Export == o.Clients[0].Export {
		t.Errorf("%#v", o.Clients)
	}
	// Which of both is kept hangs on whose record comes first.
	turned := newPlay(asksRegister("ann", "pw"), asksRegister("ann", "other")).then(repeated(delivers(0), 4)...).then(delivers(1), delivers(0))
	wantCode(t, "the first record", turned, impl.EExists)
	checkThrough(t, "the other password", turned.then(repeated(delivers(0), 2)...).logsIn("ann", "other").outcome(t), 1, 2)
}

func TestRegistrationOfOneWhoIs(t *testing.T) {
	p := newPlay().registers("ann", "pw").then(asksRegister("ann", "pw")).give(impl.MRegister)
	wantCode(t, "registered", p, impl.EExists)
	wantStates(t, "registered", p.give(impl.MError), impl.CFailed, impl.EExists, impl.SNew)
}

func users(count int) play {
	p := newPlay()
	for i := range count {
		p = p.registers(string([]byte{byte('a' + i)}), "pw")
	}
	return p
}

// At both steps it is looked whether the user is there, and then whether there is room; the record's user comes ahead of both.
func TestFull(t *testing.T) {
	o := wantStates(t, "the last", users(8), impl.CDone, 0, impl.SDone)
	if len(o.Users) != 8 {
		t.Errorf("%d users", len(o.Users))
	}
	wantCode(t, "one more", users(8).then(asksRegister("x", "pw")).give(impl.MRegister), impl.EFull)
	wantStates(t, "one more", users(8).then(asksRegister("x", "pw")).give(impl.MRegister).give(impl.MError), impl.CFailed, impl.EFull, impl.SNew)
	wantCode(t, "one who is there", users(8).then(asksRegister("c", "pw")).give(impl.MRegister), impl.EExists)
	wantStates(t, "room for one", users(7).then(asksRegister("x", "pw")).give(impl.MRegister), impl.CRegister, 0, impl.SRegister)
}

// twoOfRoomForOne has two registrations that were both evaluated while there was room for one; the first one is kept.
func twoOfRoomForOne(first string, second string) play {
	p := users(7).then(asksRegister(first, "pw"), asksRegister(second, "pw"))
	return p.then(repeated(delivers(0), 5)...)
}

func TestFullAtTheRecord(t *testing.T) {
	p := twoOfRoomForOne("x", "y")
	wantCode(t, "another user", p.give(impl.MRecord), impl.EFull)
	o := wantStates(t, "another user", p.give(impl.MRecord).give(impl.MError), impl.CFailed, impl.EFull, impl.SRegister)
	if len(o.Users) != 8 || o.Users[7].User != "x" || len(o.Clients[8].Export) != 32 {
		t.Errorf("%#v", o)
	}
	p = twoOfRoomForOne("x", "x")
	wantCode(t, "the same user", p.give(impl.MRecord), impl.EExists)
	for _, user := range []string{"a", "x", "z"} {
		p = twoOfRoomForOne("x", "y")
		p = p.then(pokes(p.at(impl.MRecord), 3, int(user[0])))
		wantCode(t, "the record of "+user, p.give(impl.MRecord), impl.EUser)
	}
}

// A packet is delivered twice, and to a session that has ended.
func TestDeliveredTwice(t *testing.T) {
	p := newPlay(asksRegister("ann", "pw"), copies(0), delivers(0), delivers(0))
	wantCode(t, "a request", p, impl.EState)
	p = newPlay(asksRegister("ann", "pw"), delivers(0)).double(impl.MEvaluated).give(impl.MEvaluated).give(impl.MEvaluated)
	o := wantStates(t, "an evaluation", p, impl.CRecord, 0, impl.SRegister)
	if len(o.Net) != 1 {
		t.Errorf("%#v", o.Net)
	}
	p = p.double(impl.MRecord).give(impl.MRecord).give(impl.MRecord)
	wantCode(t, "a record", p, impl.EState)
	if o := wantStates(t, "a record", p, impl.CRecord, 0, impl.SDone); len(o.Users) != 1 {
		t.Errorf("%#v", o.Users)
	}
	p = newPlay().registers("ann", "pw").then(asksLogin("ann", "pw")).double(impl.MLogin).give(impl.MLogin).double(impl.MReply)
	once := p.give(impl.MReply).give(impl.MReply).outcome(t)
	if len(once.Net) != 2 {
		t.Errorf("%#v", once.Net)
	}
	wantCode(t, "a login", p.give(impl.MLogin), impl.EState)
	p = p.give(impl.MReply).double(impl.MFinish).give(impl.MFinish).give(impl.MFinish)
	wantCode(t, "a finish", p, impl.EState)
	checkThrough(t, "a finish", p.outcome(t), 0, 1)
	// An error that comes to a client which has ended is nothing to it.
	checkThrough(t, "an error", p.give(impl.MError).outcome(t), 0, 1)
}

// A mac that is refused leaves the side as it is, so that the right one is still taken.
func TestFinishAfterARefusal(t *testing.T) {
	p := newPlay().registers("ann", "pw").then(asksLogin("ann", "pw")).give(impl.MLogin).give(impl.MReply).double(impl.MFinish)
	mac := p.outcome(t).Net[0].Body
	for _, pos := range []int{1, 16, 32} {
		wrong := p.then(pokes(0, pos, int(mac[pos]^0x40)), delivers(0))
		wantCode(t, "a changed mac", wrong, impl.EMac)
		wantStates(t, "a changed mac", wrong, impl.CDone, 0, impl.SLogin)
		checkThrough(t, "the right mac", wrong.give(impl.MFinish).outcome(t), 0, 1)
	}
}

// A key is of the session: the finish of another one is refused.
func TestFinishOfAnotherSession(t *testing.T) {
	p := newPlay().registers("ann", "pw").then(asksLogin("ann", "pw"), asksLogin("ann", "pw"), delivers(0),
		impl.Event{Kind: impl.EvDeliver, Eph: 3, Nonce: secondNonce}, delivers(0), delivers(0))
	net := p.outcome(t).Net
	wantCode(t, "of another", p.rewrite(1, net[0].Body).then(delivers(1)), impl.EMac)
}

// The client's seen is the request as it was sent, and the server's is the one that came.
func TestLoginOfAChangedRequest(t *testing.T) {
	p := newPlay().registers("ann", "pw").then(asksLogin("ann", "pw"))
	size := len(p.world().net[0].Body)
	for _, change := range []int{size - 1, size - 16} {
		changed := p.then(pokes(0, change, 0xee)).give(impl.MLogin)
		wantStates(t, "another nonce", changed, impl.CLogin, 0, impl.SLogin)
		wantStates(t, "another nonce", changed.give(impl.MReply), impl.CFailed, impl.EMac, impl.SLogin)
	}
	// Poked to and fro, it is the same again.
	same := p.then(pokes(0, size-1, 1), pokes(0, size-1, int(p.world().net[0].Body[size-1])))
	checkThrough(t, "the same again", same.give(impl.MLogin).give(impl.MReply).give(impl.MFinish).outcome(t), 0, 1)
}

// The name of a request may be changed under way: the client doesn't know of it.
func TestRegistrationUnderAnotherName(t *testing.T) {
	p := newPlay(asksRegister("ann", "pw"), pokes(0, 3, 'b')).give(impl.MRegister)
	o := wantStates(t, "another name", p, impl.CRegister, 0, impl.SRegister)
	if o.Sides[0].User != "bnn" || o.Clients[0].User != "ann" {
		t.Errorf("%#v, %#v", o.Clients, o.Sides)
	}
	p = p.give(impl.MEvaluated)
	wantCode(t, "the client's own name", p.give(impl.MRecord), impl.EUser)
	kept := p.then(pokes(0, 3, 'b')).give(impl.MRecord)
	if o := wantStates(t, "both changed", kept, impl.CRecord, 0, impl.SDone); len(o.Users) != 1 || o.Users[0].User != "bnn" {
		t.Errorf("%#v", o.Users)
	}
	// The box is bound to the name.
	wantStates(t, "a login", kept.give(impl.MDone).then(asksLogin("bnn", "pw")).give(impl.MLogin).give(impl.MReply), impl.CFailed, impl.EMac, impl.SLogin)
}

// A record with another public key has a box that is in order, but no keys that both have.
func TestRecordWithAnotherPublic(t *testing.T) {
	p := newPlay(asksRegister("ann", "pw")).give(impl.MRegister).give(impl.MEvaluated)
	body := p.world().net[0].Body
	other := body[:6] + impl.PutPoint(impl.Times(3, impl.Base())) + body[14:]
	p = p.rewrite(0, other).give(impl.MRecord).give(impl.MDone).then(asksLogin("ann", "pw")).give(impl.MLogin)
	wantStates(t, "another public key", p.give(impl.MReply), impl.CFailed, impl.EMac, impl.SLogin)
}

func numbersBeside(count int) []int {
	return []int{-1, -2, count, count + 1, 60, 256, math.MaxInt, math.MinInt, math.MinInt + 1, -1 << 32, 1 << 32}
}

func TestPacketsThatAreNotThere(t *testing.T) {
	p := newPlay(asksRegister("ann", "pw"), asksLogin("bob", "pw"), asksRegister("cid", "pw"))
	before := p.outcome(t)
	for _, at := range numbersBeside(3) {
		for _, e := range []impl.Event{delivers(at), drops(at), copies(at), pokes(at, 0, 7)} {
			if !sameOutcome(p.then(e).outcome(t), before) {
				t.Errorf("something happened by %#v", e)
			}
			if o := newPlay(e).outcome(t); len(o.Net)+len(o.Clients) != 0 {
				t.Errorf("something happened by %#v in an empty net", e)
			}
		}
	}
	for at := range 3 {
		for _, pos := range numbersBeside(len(before.Net[at].Body)) {
			if !sameOutcome(p.then(pokes(at, pos, 7)).outcome(t), before) {
				t.Errorf("something happened at %d, %d", at, pos)
			}
		}
	}
}

func TestDropsAndCopies(t *testing.T) {
	p := newPlay(asksRegister("ann", "pw"), asksLogin("bob", "pw"), asksRegister("cid", "pw"))
	before := p.outcome(t).Net
	for at := range 3 {
		dropped := p.then(drops(at)).outcome(t).Net
		if want := slices.Delete(slices.Clone(before), at, at+1); !slices.Equal(dropped, want) {
			t.Errorf("dropped %d: %#v", at, dropped)
		}
		copied := p.then(copies(at)).outcome(t).Net
		if want := append(slices.Clone(before), before[at]); !slices.Equal(copied, want) {
			t.Errorf("copied %d: %#v", at, copied)
		}
	}
	if o := p.then(drops(0), drops(0), drops(0), drops(0)).outcome(t); len(o.Net) != 0 || len(o.Clients) != 3 {
		t.Errorf("%#v", o)
	}
}

func TestPokes(t *testing.T) {
	p := newPlay(asksRegister("ann", "pw"), asksLogin("bob", "pw"), asksRegister("cid", "pw"), copies(1))
	before := p.outcome(t).Net
	for at := range 4 {
		size := len(before[at].Body)
		for _, pos := range []int{0, 1, size - 2, size - 1} {
			for _, b := range []int{0, 1, 127, 128, 255} {
				want := slices.Clone(before)
				body := []byte(want[at].Body)
				body[pos] = byte(b)
				want[at].Body = string(body)
				if got := p.then(pokes(at, pos, b)).outcome(t).Net; !slices.Equal(got, want) {
					t.Errorf("poked %d, %d, %d: %#v", at, pos, b, got)
				}
			}
		}
	}
}

// A copy is asked for with 59, 60 and 61 packets; what is sent has no such end.
func TestMaxNet(t *testing.T) {
	p := newPlay(asksRegister("ann", "pw")).then(repeated(copies(0), 58)...)
	for _, c := range []struct {
		what string
		p    play
		want int
	}{
		{"below", p, 59},
		{"the last copy", p.then(copies(58)), 60},
		{"one more", p.then(copies(58), copies(59)), 60},
		{"many more", p.then(repeated(copies(3), 30)...), 60},
		{"sent beyond", p.then(copies(0), asksLogin("bob", "pw")), 61},
		{"a copy beyond", p.then(copies(0), asksLogin("bob", "pw"), copies(60)), 61},
		{"sent by many", p.then(copies(0)).then(repeated(asksLogin("bob", "pw"), 29)...), 89},
		{"an answer", p.then(copies(0), delivers(59)), 60},
		{"dropped and copied", p.then(copies(0), drops(7), copies(0)), 60},
	} {
		if o := c.p.outcome(t); len(o.Net) != c.want {
			t.Errorf("%s: %d packets, not %d", c.what, len(o.Net), c.want)
		}
	}
}

func TestMaxSessions(t *testing.T) {
	p := newPlay().registers("ann", "pw").then(repeated(asksLogin("ann", "pw"), 28)...)
	for _, last := range []impl.Event{asksLogin("ann", "pw"), asksRegister("bob", "pw")} {
		o := p.then(last).outcome(t)
		if len(o.Clients) != 30 || len(o.Sides) != 30 || len(o.Net) != 29 {
			t.Errorf("%d clients, %d sides, %d packets", len(o.Clients), len(o.Sides), len(o.Net))
		}
		for _, more := range []impl.Event{asksLogin("ann", "pw"), asksRegister("bob", "pw")} {
			if !sameOutcome(p.then(last, more).outcome(t), o) || !sameOutcome(p.then(last, more, more).outcome(t), o) {
				t.Errorf("something happened by %#v", more)
			}
		}
	}
	full := p.then(asksLogin("ann", "pw"), asksRegister("bob", "pw"))
	o := full.give(impl.MLogin).give(impl.MReply).give(impl.MFinish).outcome(t)
	checkThrough(t, "the last session", o, 0, 29)
}

func TestMaxEvents(t *testing.T) {
	for _, size := range []int{199, 200} {
		o := newPlay(asksRegister("ann", "pw")).then(repeated(drops(1), size-2)...).then(delivers(0)).outcome(t)
		if len(o.Clients) != 1 || o.Sides[0].State != impl.SRegister {
			t.Errorf("%d events: %#v", size, o)
		}
	}
	for _, size := range []int{201, 202, 256, 400, 456, 65536 + 3} {
		if o := checkExec(t, "too many", sample(1, 32), repeated(drops(0), size)); !sameOutcome(o, impl.Outcome{}) {
			t.Errorf("%d events: %#v", size, o)
		}
	}
}

func TestExecOfWrongSeeds(t *testing.T) {
	for _, seed := range append(wrongTexts(32), "", sample(1, 31), sample(1, 33)) {
		for _, events := range [][]impl.Event{nil, {asksRegister("ann", "pw")}, {{}}} {
			if o := impl.Exec(seed, events); !sameOutcome(o, impl.Outcome{}) {
				t.Errorf("a seed of %d: %#v", len(seed), o)
			}
		}
	}
}

// goodEvents has every kind with fields that are all other than zero, as far as it has them.
func goodEvents() []impl.Event {
	return []impl.Event{asksRegister("ann", "pw"), asksLogin("ann", "pw"), delivers(1), drops(1), copies(1), pokes(1, 1, 1)}
}

// An eventChange makes one field of an event another.
type eventChange struct {
	field string
	make  func(e *impl.Event)
}

func namedFields() map[int]string {
	return map[int]string{impl.EvRegister: "User Pass Blind Nonce", impl.EvLogin: "User Pass Blind Eph Nonce", impl.EvDeliver: "At Eph Nonce", impl.EvDrop: "At", impl.EvCopy: "At", impl.EvPoke: "At Pos Byte"}
}

// wrongValues has what a field must not be where it is named, and not where it isn't.
func wrongValues() []eventChange {
	var out []eventChange
	for _, user := range wrongNames()[1:] {
		out = append(out, eventChange{"User", func(e *impl.Event) { e.User = user }})
	}
	for _, size := range []int{1001, 1002, 1256, 2000, 65536, 66536} {
		out = append(out, eventChange{"Pass", func(e *impl.Event) { e.Pass = sample(1, size) }})
	}
	for _, factor := range wrongFactors() {
		if factor != 0 {
			out = append(out, eventChange{"Blind", func(e *impl.Event) { e.Blind = factor }}, eventChange{"Eph", func(e *impl.Event) { e.Eph = factor }})
		}
	}
	for _, nonce := range wrongTexts(16)[1:] {
		out = append(out, eventChange{"Nonce", func(e *impl.Event) { e.Nonce = nonce }})
	}
	for _, b := range []int{-1, 256, 257, -256, -255, 511, 1 << 32, math.MaxInt, math.MinInt} {
		out = append(out, eventChange{"Byte", func(e *impl.Event) { e.Byte = b }})
	}
	return out
}

// zeroValues are wrong only where the field is named.
func zeroValues() []eventChange {
	return []eventChange{
		{"User", func(e *impl.Event) { e.User = "" }},
		{"Blind", func(e *impl.Event) { e.Blind = 0 }},
		{"Eph", func(e *impl.Event) { e.Eph = 0 }},
		{"Nonce", func(e *impl.Event) { e.Nonce = "" }},
	}
}

// goodValues are wrong only where the field is not named.
func goodValues() []eventChange {
	out := []eventChange{
		{"Pass", func(e *impl.Event) { e.Pass = "\x00" }},
		{"Pass", func(e *impl.Event) { e.Pass = sample(1, 1000) }},
		{"Byte", func(e *impl.Event) { e.Byte = 255 }},
		{"Nonce", func(e *impl.Event) { e.Nonce = sample(1, 16) }},
	}
	for _, user := range names() {
		out = append(out, eventChange{"User", func(e *impl.Event) { e.User = user }})
	}
	for _, factor := range oprfFactors() {
		out = append(out, eventChange{"Blind", func(e *impl.Event) { e.Blind = factor }}, eventChange{"Eph", func(e *impl.Event) { e.Eph = factor }})
	}
	for _, number := range []int{1, -1, 255, 256, math.MaxInt, math.MinInt} {
		out = append(out, eventChange{"At", func(e *impl.Event) { e.At = number }}, eventChange{"Pos", func(e *impl.Event) { e.Pos = number }})
	}
	return out
}

func checkEvent(t *testing.T, e impl.Event, fits bool) {
	t.Helper()
	good := newPlay().registers("ann", "pw").events
	for _, events := range [][]impl.Event{{e}, append(slices.Clone(good), e), append([]impl.Event{e}, good...), slices.Insert(slices.Clone(good), 2, e)} {
		if o := checkExec(t, "an event", sample(1, 32), events); o.Ok != fits || !fits && !sameOutcome(o, impl.Outcome{}) {
			t.Errorf("%#v: %#v", e, o)
		}
	}
}

func TestEventFields(t *testing.T) {
	for _, e := range goodEvents() {
		checkEvent(t, e, true)
		named := strings.Fields(namedFields()[e.Kind])
		for _, c := range wrongValues() {
			changed := e
			c.make(&changed)
			checkEvent(t, changed, false)
		}
		for _, c := range zeroValues() {
			changed := e
			c.make(&changed)
			checkEvent(t, changed, !slices.Contains(named, c.field))
		}
		for _, c := range goodValues() {
			changed := e
			c.make(&changed)
			checkEvent(t, changed, slices.Contains(named, c.field))
		}
	}
}

func TestEventKinds(t *testing.T) {
	for _, e := range append(goodEvents(), impl.Event{}) {
		for _, kind := range []int{0, -1, 7, 8, 255, 256, 257, 262, -255, 1<<32 + 1, math.MaxInt, math.MinInt, math.MinInt + 1} {
			e.Kind = kind
			checkEvent(t, e, false)
		}
	}
}

// inOrder says for which states a message is meant.
func inOrder(v visit) bool {
	if v.toServer {
		return v.state == impl.SNew && (v.kind == impl.MRegister || v.kind == impl.MLogin) || v.state == impl.SRegister && v.kind == impl.MRecord || v.state == impl.SLogin && v.kind == impl.MFinish
	}
	return v.state == impl.CRegister && v.kind == impl.MEvaluated || v.state == impl.CRecord && v.kind == impl.MDone || v.state == impl.CLogin && v.kind == impl.MReply ||
		(v.state == impl.CRegister || v.state == impl.CRecord || v.state == impl.CLogin) && v.kind == impl.MError
}

// checkDelivery delivers a packet and says what it came to. Promise 11: what is no message or not in order changes nothing.
func checkDelivery(t *testing.T, p play, at int) visit {
	t.Helper()
	before, after := p.outcome(t), p.then(delivers(at)).outcome(t)
	packet := before.Net[at]
	m, ok := impl.GetMessage(packet.Body)
	v := visit{packet.ToServer, before.Clients[packet.Session].State, m.Kind}
	if packet.ToServer {
		v.state = before.Sides[packet.Session].State
	}
	if inOrder(v) {
		return v
	}
	net := slices.Delete(slices.Clone(before.Net), at, at+1)
	if packet.ToServer {
		code := impl.EState
		if !ok {
			code = impl.EWire
		}
		net = append(net, impl.Packet{Session: packet.Session, Body: "\x08" + string([]byte{byte(code)})})
	}
	want := impl.Outcome{Ok: true, Clients: before.Clients, Sides: before.Sides, Users: before.Users, Net: net}
	if !sameOutcome(after, want) {
		t.Errorf("%v: got %#v, want %#v", v, after, want)
	}
	return v
}

// nameOf has a name of this size, which is known by it.
func nameOf(size int) string {
	return strings.Repeat("n", size)
}

// bodyOf is a message of this kind and size, or no message for a kind of 0; empty if there is none.
func bodyOf(kind int, size int) string {
	if kind == 0 {
		return strings.Repeat("\xee", size)
	}
	for _, m := range kindMessages() {
		if m.Kind != kind {
			continue
		}
		if m.User != "" {
			rest := size - len(impl.PutMessage(m)) + len(m.User)
			m.User = nameOf(min(max(rest, 1), 32))
		}
		if body := impl.PutMessage(m); len(body) == size {
			return body
		}
	}
	return ""
}

// registrationStages is one session in all its states with copies of its packets still under way.
func registrationStages(user string) []play {
	asked := newPlay().registers("anna", "pw").then(asksRegister(user, "pw")).double(impl.MRegister).double(impl.MRegister)
	evaluated := asked.give(impl.MRegister).double(impl.MEvaluated)
	refused := evaluated.give(impl.MRegister).double(impl.MError)
	sealed := refused.give(impl.MEvaluated).double(impl.MRecord)
	kept := sealed.give(impl.MRecord).double(impl.MDone)
	return []play{asked, evaluated, refused, refused.give(impl.MError), sealed, sealed.give(impl.MError), kept, kept.give(impl.MError), kept.give(impl.MDone)}
}

func loginStages(user string) []play {
	asked := newPlay().registers(user, "pw").then(asksLogin(user, "pw")).double(impl.MLogin).double(impl.MLogin)
	replied := asked.give(impl.MLogin).double(impl.MReply)
	refused := replied.give(impl.MLogin).double(impl.MError)
	finished := refused.give(impl.MReply).double(impl.MFinish)
	done := finished.give(impl.MFinish).double(impl.MDone)
	return []play{asked, replied, refused, refused.give(impl.MError), finished, finished.give(impl.MError), done, done.give(impl.MDone)}
}

// crossedStages has requests that were made others under way, so that client and side do not belong together.
func crossedStages() []play {
	register := newPlay().registers("anna", "pw").then(asksRegister(nameOf(28), "pw")).double(impl.MRegister).double(impl.MRegister)
	login := plainPut(impl.Message{Kind: impl.MLogin, User: "anna", Element: impl.Base(), Other: impl.Base(), Nonce: firstNonce})
	replied := register.rewrite(0, login).give(impl.MLogin).double(impl.MReply).give(impl.MRegister)
	ask := newPlay().registers("anna", "pw").then(asksLogin("anna", "pw")).double(impl.MLogin).double(impl.MLogin)
	evaluated := ask.rewrite(0, bodyOf(impl.MRegister, 39)).give(impl.MRegister).double(impl.MEvaluated).give(impl.MLogin)
	return []play{replied, replied.give(impl.MError), evaluated, evaluated.give(impl.MError)}
}

func stages() []play {
	out := crossedStages()
	for _, size := range []int{1, 22, 28, 32} {
		out = append(out, registrationStages(nameOf(size))...)
	}
	for _, size := range []int{1, 4, 28, 32} {
		out = append(out, loginStages(nameOf(size))...)
	}
	return out
}

// reachable has all that can come to a state. A packet keeps its size and its way, so that a message that only a client gets never comes to the server, nor the other way round.
// A client that waits for its first answer cannot get MDone, as nothing was sent yet that leads there; nor can one that sent its record get MReply, as its side is past that.
func reachable() map[visit]bool {
	out := map[visit]bool{}
	for _, state := range []int{impl.SNew, impl.SRegister, impl.SLogin, impl.SDone} {
		for _, kind := range []int{0, impl.MRegister, impl.MRecord, impl.MLogin, impl.MFinish} {
			out[visit{true, state, kind}] = true
		}
	}
	for _, state := range []int{impl.CRegister, impl.CRecord, impl.CLogin, impl.CDone, impl.CFailed} {
		for _, kind := range []int{0, impl.MEvaluated, impl.MReply, impl.MDone, impl.MError} {
			out[visit{false, state, kind}] = true
		}
	}
	delete(out, visit{false, impl.CRegister, impl.MDone})
	delete(out, visit{false, impl.CLogin, impl.MDone})
	delete(out, visit{false, impl.CRecord, impl.MReply})
	return out
}

// Promises 11 and 12, for every state with every kind of message.
func TestEveryStateWithEveryKind(t *testing.T) {
	seen := map[visit]bool{}
	for _, p := range stages() {
		for at, packet := range p.outcome(t).Net {
			seen[checkDelivery(t, p, at)] = true
			for kind := range 9 {
				if body := bodyOf(kind, len(packet.Body)); body != "" {
					seen[checkDelivery(t, p.rewrite(at, body), at)] = true
				}
			}
		}
	}
	for v := range reachable() {
		if !seen[v] {
			t.Errorf("%v did not come up", v)
		}
	}
	for v := range seen {
		if !reachable()[v] {
			t.Errorf("%v came up", v)
		}
	}
}

// steps has a message of every kind just ahead of its delivery.
func steps() []play {
	r := newPlay(asksRegister("ann", "pw"))
	r2 := r.give(impl.MRegister)
	r3 := r2.give(impl.MEvaluated)
	r4 := r3.give(impl.MRecord)
	l := r4.give(impl.MDone).then(asksLogin("ann", "pw"))
	l2 := l.give(impl.MLogin)
	l3 := l2.give(impl.MReply)
	l4 := l3.give(impl.MFinish)
	e := newPlay(asksLogin("ann", "pw")).give(impl.MLogin)
	return []play{r, r2, r3, r4, l, l2, l3, l4, e}
}

// A message that was changed at one of its bytes is told from the one that was sent, or makes no difference to who gets it.
func TestChangedAtEachByte(t *testing.T) {
	for _, p := range steps() {
		body := p.world().net[0].Body
		for pos := range body {
			for _, b := range []byte{body[pos] ^ 1, body[pos] ^ 0x80, 0, 0xff, body[pos] + 1} {
				changed := p.then(pokes(0, pos, int(b)))
				v := checkDelivery(t, changed, 0)
				// A login that was changed under way never ends with a key.
				if o := changed.then(repeated(delivers(0), 4)...).outcome(t); b != body[pos] && (v.kind == impl.MLogin || v.kind == impl.MReply) && (o.Sides[len(o.Sides)-1].Key != "" || o.Clients[len(o.Clients)-1].Key != "") {
					t.Errorf("%v, byte %d made %d: %#v", v, pos, b, o)
				}
			}
		}
	}
}

// dice is a plain row of numbers that is the same in every run.
type dice uint64

func (d *dice) roll(sides int) int {
	*d = *d*6364136223846793005 + 1442695040888963407
	return int(uint64(*d) >> 33 % uint64(sides))
}

func (d *dice) of(texts ...string) string {
	return texts[d.roll(len(texts))]
}

func (d *dice) factor() uint64 {
	return []uint64{1, 5, impl.N - 1}[d.roll(3)]
}

// name is one of a few, so that scripts come back to them, or in some scripts one of more than there is room for.
func (d *dice) name(many bool) string {
	if many {
		return string([]byte{byte('a' + d.roll(12))})
	}
	return d.of("ann", nameOf(1), nameOf(4), nameOf(4), nameOf(22), nameOf(28), nameOf(28), nameOf(32))
}

// body is another message of this size, or the same but for one byte.
func (d *dice) body(old string) string {
	kind := d.roll(16)
	if body := bodyOf(kind, len(old)); kind > 0 && body != "" {
		return body
	}
	if others := []string{bodyOf(impl.MRecord, len(old)), bodyOf(impl.MFinish, len(old)), bodyOf(impl.MLogin, len(old))}; kind < 12 && others[kind%3] != "" {
		return others[kind%3]
	}
	out := []byte(old)
	out[d.roll(len(out))] = byte(d.roll(256))
	return string(out)
}

// next adds some events that are likely to lead on.
func (d *dice) next(w *world, many bool) []impl.Event {
	nonce := d.of(firstNonce, secondNonce, serverNonce)
	pass := d.of("pw", "pw", "pw", "")
	at := d.roll(len(w.net) + 1)
	switch roll := d.roll(100); {
	case roll < 7 || many && roll < 20:
		return []impl.Event{{Kind: impl.EvRegister, User: d.name(many), Pass: pass, Blind: d.factor(), Nonce: nonce}}
	case roll < 15 || many && roll < 24:
		return []impl.Event{{Kind: impl.EvLogin, User: d.name(many), Pass: pass, Blind: d.factor(), Eph: d.factor(), Nonce: nonce}}
	case roll < 35:
		return []impl.Event{{Kind: impl.EvDeliver, At: at, Eph: d.factor(), Nonce: nonce}}
	case roll < 66 || many && roll < 96:
		return []impl.Event{{Kind: impl.EvDeliver, Eph: d.factor(), Nonce: nonce}}
	case roll < 68:
		return []impl.Event{drops(at)}
	case roll < 85:
		return []impl.Event{copies(at)}
	case at == len(w.net):
		return []impl.Event{pokes(at, 0, 1), pokes(-1, 0, 1)}
	}
	var out []impl.Event
	old := w.net[at].Body
	for i, b := range []byte(d.body(old)) {
		if old[i] != b {
			out = append(out, pokes(at, i, int(b)))
		}
	}
	return out
}

// Promise 12: scripts of all kinds of events. What came up on the way is counted, so that they are known to lead everywhere.
func TestExecOfScripts(t *testing.T) {
	visits, codes := map[visit]int{}, map[[2]int]int{}
	for number := range 200 {
		d := dice(number)
		w := newWorld(sample(number%3, 32))
		var events []impl.Event
		for len(events) < impl.MaxEvents {
			more := d.next(w, number%4 == 0)
			more = more[:min(len(more), impl.MaxEvents-len(events))]
			for _, e := range more {
				w.happen(e)
			}
			events = append(events, more...)
			if d.roll(40) == 0 || len(events) == impl.MaxEvents {
				if got := impl.Exec(w.seed, events); !sameOutcome(got, w.outcome()) {
					t.Fatalf("script %d, %d events: got %#v, want %#v", number, len(events), got, w.outcome())
				}
			}
		}
		addCounts(visits, w.visits)
		addCounts(codes, w.codes)
	}
	for v := range reachable() {
		if inOrder(v) && visits[v] == 0 {
			t.Errorf("%v did not come up", v)
		}
	}
	for _, of := range [][2]int{{0, impl.EWire}, {impl.MRegister, 0}, {impl.MRegister, impl.EExists}, {impl.MRegister, impl.EFull}, {impl.MRegister, impl.EState},
		{impl.MRecord, 0}, {impl.MRecord, impl.EUser}, {impl.MRecord, impl.EExists}, {impl.MRecord, impl.EFull}, {impl.MRecord, impl.EState},
		{impl.MLogin, 0}, {impl.MLogin, impl.EUser}, {impl.MLogin, impl.EState}, {impl.MFinish, 0}, {impl.MFinish, impl.EMac}, {impl.MFinish, impl.EState}} {
		if codes[of] == 0 {
			t.Errorf("kind %d was never answered with code %d", of[0], of[1])
		}
	}
}

func addCounts[K comparable](to map[K]int, from map[K]int) {
	for key, count := range from {
		to[key] += count
	}
}

// The events are left as they are, the lists of an answer are new, and the same script has the same answer.
func TestExecLeavesItsArguments(t *testing.T) {
	events := newPlay().registers("ann", "pw").then(asksLogin("ann", "pw"), copies(0), asksRegister("bob", "pw"), copies(1)).events
	behind := append(slices.Clone(events), asksRegister("behind", ""), impl.Event{})
	kept := slices.Clone(behind)
	first := impl.Exec(sample(1, 32), behind[:len(events)])
	second := impl.Exec(sample(1, 32), behind[:len(events)])
	if !slices.Equal(behind, kept) || !sameOutcome(first, second) {
		t.Error("the events were written into, or the second answer differs")
	}
	second.Clients[0], second.Sides[0], second.Users[0], second.Net[0] = impl.Client{}, impl.Side{}, impl.Record{}, impl.Packet{}
	for i := range behind {
		behind[i] = impl.Event{}
	}
	if !sameOutcome(first, plainExec(sample(1, 32), kept[:len(events)])) {
		t.Error("the answer shares memory")
	}
}

// All goroutines have ended, and calls at once do not disturb each other.
func TestExecEndsItsGoroutines(t *testing.T) {
	before := runtime.NumGoroutine()
	p := newPlay().registers("ann", "pw").then(repeated(asksLogin("ann", "pw"), 29)...).then(repeated(delivers(0), 100)...)
	want := p.outcome(t)
	var all sync.WaitGroup
	for range 8 {
		all.Add(1)
		go func() {
			defer all.Done()
			for range 4 {
				if !sameOutcome(impl.Exec(p.seed, p.events), want) || impl.Exec(p.seed, p.events[:1]).Clients[0].State != impl.CRegister || impl.Exec("", nil).Ok {
					t.Error("the answer differs")
				}
			}
		}()
	}
	all.Wait()
	for range 100 {
		if runtime.NumGoroutine() <= before {
			return
		}
		time.Sleep(10 * time.Millisecond)
	}
	t.Errorf("%d goroutines before, %d after", before, runtime.NumGoroutine())
}
