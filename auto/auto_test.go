package auto_test

import (
	"bytes"
	"math"
	"math/rand"
	"slices"
	"testing"

	"concierge/api"
	"concierge/auto"
	"concierge/cp"
	"concierge/fsm"
	"concierge/nego"
	"concierge/opts"
)

// far are numbers that are none of an automaton's.
var far = []int{math.MinInt, math.MinInt + 1, -1 << 41, -1 << 32, -1000, -256, -2, -1, 1 << 41, 1 << 62, math.MaxInt - 1, math.MaxInt}

// most are an automaton's limits, as the chapter has them.
const (
	mostCount = 1000
	mostWait  = 1 << 20
	mostTick  = 1 << 40
	mostTimer = 1<<40 + 1<<20
)

// mru, magic and addr are rules of a peer's.
var (
	mru   = api.Rule{Type: 1, Size: 2, Kind: api.RuleSpan, Low: 128, High: 1492, Good: 1492}
	magic = api.Rule{Type: 5, Size: 4, Kind: api.RuleNot, Low: 7, Good: 9}
	addr  = api.Rule{Type: 3, Size: 4, Kind: api.RuleOnly, Good: 0x0a000002, Must: true}
)

// conf are settings that may be.
func conf(r ...api.Rule) api.AutoConf {
	return api.AutoConf{Rules: r, MaxConf: 10, MaxTerm: 2, MaxFail: 5, Wait: 3}
}

// opt is an option of those bytes.
func opt(typ int, data ...byte) api.Option {
	return api.Option{Type: typ, Data: data}
}

// ctl is a packet of those bytes.
func ctl(code, id int, data ...byte) api.Ctl {
	return api.Ctl{Code: code, ID: id, Data: data}
}

// asked are options as a link asks for them.
func asked() []api.Option {
	return []api.Option{opt(1, 5, 212), opt(5, 1, 2, 3, 4)}
}

// at is an automaton in the state that may be, as it is on its way.
func at(s api.State, ask ...api.Option) api.Auto {
	a := api.Auto{State: s, ID: 20, Req: 17, Ask: ask, Count: 6, Naks: 2}
	if fsm.Timed(s) {
		a.Timer = 50
	}
	return a
}

// states are all, events too.
func states() []api.State {
	return []api.State{0, 1, 2, 3, 4, 5, 6, 7, 8, 9}
}

func events() []api.Event {
	return []api.Event{1, 2, 3, 4, 5, 6, 7, 8, 9, 10, 11, 12, 13, 14, 15, 16}
}

// raw are the bytes of options, one behind the other.
func raw(l []api.Option) []byte {
	var b []byte
	for _, o := range l {
		b = append(b, byte(o.Type), byte(len(o.Data)+2))
		b = append(b, o.Data...)
	}
	return b
}

// copied is the same automaton on other memory, copiedCtl the same packet, copiedConf the same settings.
func copied(a api.Auto) api.Auto {
	l := make([]api.Option, len(a.Ask))
	for i, o := range a.Ask {
		l[i] = api.Option{Type: o.Type, Data: bytes.Clone(o.Data)}
	}
	a.Ask = l
	return a
}

func copiedCtl(p api.Ctl) api.Ctl {
	p.Data = bytes.Clone(p.Data)
	return p
}

func copiedConf(c api.AutoConf) api.AutoConf {
	c.Rules = slices.Clone(c.Rules)
	return c
}

// same tells whether both are the same automaton, samePacket the same packet.
func same(a, b api.Auto) bool {
	return a.State == b.State && a.ID == b.ID && a.Req == b.Req && a.Count == b.Count && a.Timer == b.Timer && a.Naks == b.Naks &&
		slices.EqualFunc(a.Ask, b.Ask, func(x, y api.Option) bool { return x.Type == y.Type && string(x.Data) == string(y.Data) })
}

func samePacket(x, y api.Ctl) bool {
	return x.Code == y.Code && x.ID == y.ID && string(x.Data) == string(y.Data)
}

func sameConf(c, d api.AutoConf) bool {
	return slices.Equal(c.Rules, d.Rules) && c.MaxConf == d.MaxConf && c.MaxTerm == d.MaxTerm && c.MaxFail == d.MaxFail && c.Wait == d.Wait
}

// told is what a call tells.
type told struct {
	a    api.Auto
	out  []api.Ctl
	done []api.Action
	mine bool
}

func (x told) same(y told) bool {
	return same(x.a, y.a) && slices.EqualFunc(x.out, y.out, samePacket) && slices.Equal(x.done, y.done) && x.mine == y.mine
}

// A second reading of the chapter, in its words.

// isFrom: "from 1 to 1000" and the like.
func isFrom(n, low, high int) bool {
	return low <= n && n <= high
}

// optionsMayBe: "opts.Encode of Ask tells no error".
func optionsMayBe(l []api.Option) bool {
	if len(l) > 64 {
		return false
	}
	size := 0
	for _, o := range l {
		if !isFrom(o.Type, 0, 255) || len(o.Data) > 253 {
			return false
		}
		size += 2 + len(o.Data)
	}
	return size <= 1488
}

// settingsMayBe: "Settings may be".
func settingsMayBe(c api.AutoConf) bool {
	return nego.Check(c.Rules...) == api.OK && isFrom(c.MaxConf, 1, 1000) && isFrom(c.MaxTerm, 1, 1000) && isFrom(c.MaxFail, 0, 1000) && isFrom(c.Wait, 1, 1048576)
}

// automatonMayBe: "An automaton may be".
func automatonMayBe(a api.Auto) bool {
	if !isFrom(int(a.State), 0, 9) || !isFrom(a.ID, 0, 255) || !isFrom(a.Req, 0, 255) || !optionsMayBe(a.Ask) || !isFrom(a.Count, 0, 1000) || !isFrom(a.Naks, 0, 1000) {
		return false
	}
	switch a.State {
	case 4, 5, 6, 7, 8:
		return isFrom(a.Timer, 1, 1099511627776+1048576)
	}
	return a.Timer == 0
}

// allMayBe: "Where the automaton, the settings, or the tick may not be".
func allMayBe(c api.AutoConf, a api.Auto, tick int) bool {
	return settingsMayBe(c) && automatonMayBe(a) && isFrom(tick, 0, 1099511627776)
}

// done: "An event is done"; as it is, if it cannot come.
func done(c api.AutoConf, a api.Auto, e api.Event, in, answer api.Ctl, tick int) told {
	next, l, err := fsm.Step(a.State, e)
	if err != api.OK {
		return told{a: a}
	}
	x := told{a: a, done: l}
	x.a.State = next
	oneMore := func() int {
		if x.a.ID++; x.a.ID == 256 {
			x.a.ID = 0
		}
		return x.a.ID
	}
	likewise := func() {
		if x.a.Count > 0 {
			x.a.Count--
		}
		x.a.Timer = tick + c.Wait
	}
	for _, action := range l {
		switch action {
		case api.IRC:
			x.a.Count = c.MaxConf
			for _, other := range l {
				if other == api.STR {
					x.a.Count = c.MaxTerm
				}
			}
		case api.ZRC:
			x.a.Count, x.a.Timer = 0, tick+c.Wait
		case api.SCR:
			x.a.Req = oneMore()
			x.out = append(x.out, api.Ctl{Code: 1, ID: x.a.Req, Data: raw(a.Ask)})
			likewise()
		case api.STR:
			x.out = append(x.out, api.Ctl{Code: 5, ID: oneMore()})
			likewise()
		case api.SCA:
			x.out = append(x.out, answer)
			x.a.Naks = 0
		case api.SCN:
			x.out = append(x.out, answer)
			if answer.Code == 3 && x.a.Naks < 1000 {
				x.a.Naks++
			}
		case api.SER:
			x.out = append(x.out, answer)
		case api.STA:
			x.out = append(x.out, api.Ctl{Code: 6, ID: in.ID})
		case api.SCJ:
			if p, err := cp.Reject(in, oneMore()); err == api.OK {
				x.out = append(x.out, p)
			}
		}
	}
	if next < api.Closing || next > api.AckSent {
		x.a.Timer = 0
	}
	return x
}

// doing is what Do should tell.
func doing(c api.AutoConf, a api.Auto, e api.Event, in, answer api.Ctl, tick int) told {
	if !allMayBe(c, a, tick) {
		return told{a: a}
	}
	return done(c, a, e, in, answer, tick)
}

// coming is what Packet should tell.
func coming(c api.AutoConf, a api.Auto, in api.Ctl, tick int) told {
	if in.Code < 1 || in.Code > 7 {
		return told{a: a}
	}
	x := told{a: a}
	if allMayBe(c, a, tick) && isFrom(in.ID, 0, 255) && len(in.Data) <= 1488 {
		x = comes(c, a, in, tick)
	}
	x.mine = true
	return x
}

// comes is what a packet that may be does to an automaton that may be.
func comes(c api.AutoConf, a api.Auto, in api.Ctl, tick int) told {
	l, err := opts.Decode(in.Data)
	whole, last, none := err == api.OK, in.ID == a.Req, api.Ctl{}
	switch in.Code {
	case 1:
		if !whole {
			break
		}
		code, better := nego.Answer(c.Rules, l, a.Naks, c.MaxFail)
		e := api.RCRMin
		if code == 2 {
			e = api.RCRPlus
		}
		return done(c, a, e, in, api.Ctl{Code: code, ID: in.ID, Data: raw(better)}, tick)
	case 2:
		if last && string(in.Data) == string(raw(a.Ask)) {
			return done(c, a, api.RCA, in, none, tick)
		}
	case 3, 4:
		learned, good := nego.Learn(a.Ask, in.Code, l)
		if !last || !whole || !good || !optionsMayBe(learned) || a.State < api.Closed {
			break
		}
		a.Ask = learned
		return done(c, a, api.RCN, in, none, tick)
	case 5:
		return done(c, a, api.RTR, in, none, tick)
	case 6:
		return done(c, a, api.RTA, in, none, tick)
	case 7:
		if len(in.Data) > 0 && in.Data[0] >= 1 && in.Data[0] <= 7 {
			return done(c, a, api.RXJMin, in, none, tick)
		} else if len(in.Data) > 0 {
			return done(c, a, api.RXJPlus, in, none, tick)
		}
	}
	return told{a: a}
}

// waiting is what Timeout should tell.
func waiting(c api.AutoConf, a api.Auto, tick int) told {
	switch {
	case !allMayBe(c, a, tick), a.Timer == 0, a.Timer > tick:
		return told{a: a}
	case a.Count > 0:
		return done(c, a, api.TOPlus, api.Ctl{}, api.Ctl{}, tick)
	}
	return done(c, a, api.TOMinus, api.Ctl{}, api.Ctl{}, tick)
}

// given are a call's arguments, and which call it is.
type given struct {
	kind       int
	c          api.AutoConf
	a          api.Auto
	e          api.Event
	in, answer api.Ctl
	tick       int
}

// The kinds of calls.
const (
	callDo = iota
	callPacket
	callTimeout
)

// call is what the call tells, want what it should.
func (g given) call() told {
	switch g.kind {
	case callDo:
		a, out, done := auto.Do(g.c, g.a, g.e, g.in, g.answer, g.tick)
		return told{a, out, done, false}
	case callPacket:
		a, out, done, mine := auto.Packet(g.c, g.a, g.in, g.tick)
		return told{a, out, done, mine}
	}
	a, out, done := auto.Timeout(g.c, g.a, g.tick)
	return told{a, out, done, false}
}

func (g given) want() told {
	switch g.kind {
	case callDo:
		return doing(g.c, g.a, g.e, g.in, g.answer, g.tick)
	case callPacket:
		return coming(g.c, g.a, g.in, g.tick)
	}
	return waiting(g.c, g.a, g.tick)
}

// copied are the same arguments on other memory.
func (g given) copied() given {
	g.c, g.a, g.in, g.answer = copiedConf(g.c), copied(g.a), copiedCtl(g.in), copiedCtl(g.answer)
	return g
}

func (g given) same(h given) bool {
	return sameConf(g.c, h.c) && same(g.a, h.a) && samePacket(g.in, h.in) && samePacket(g.answer, h.answer)
}

// tells fails where the call tells something else than the second reading, or changes what it was given; it is what the call tells.
func tells(t *testing.T, g given) told {
	t.Helper()
	h := g.copied()
	got, want := g.call(), h.want()
	if !got.same(want) {
		t.Fatalf("of %+v:\n%+v, not\n%+v", h, got, want)
	}
	if !g.same(h) {
		t.Fatalf("%+v was changed to %+v", h, g)
	}
	if automatonMayBe(h.a) && settingsMayBe(h.c) && auto.Check(got.a, h.c) != api.OK {
		t.Fatalf("of %+v comes one that may not be: %+v", h, got.a)
	}
	return got
}

// does, comesIn and waits fail likewise, each of one kind of call.
func does(t *testing.T, c api.AutoConf, a api.Auto, e api.Event, in, answer api.Ctl, tick int) told {
	t.Helper()
	return tells(t, given{kind: callDo, c: c, a: a, e: e, in: in, answer: answer, tick: tick})
}

func comesIn(t *testing.T, c api.AutoConf, a api.Auto, in api.Ctl, tick int) told {
	t.Helper()
	return tells(t, given{kind: callPacket, c: c, a: a, in: in, tick: tick})
}

func waits(t *testing.T, c api.AutoConf, a api.Auto, tick int) told {
	t.Helper()
	return tells(t, given{kind: callTimeout, c: c, a: a, tick: tick})
}

// is fails where what was told is not just that.
func (x told) is(t *testing.T, what string, a api.Auto, out []api.Ctl, done ...api.Action) {
	t.Helper()
	if !x.same(told{a, out, done, x.mine}) {
		t.Errorf("%s: %+v, %v, %v, not %+v, %v, %v", what, x.a, x.out, x.done, a, out, done)
	}
}

// nothing fails where something happened to the automaton.
func (x told) nothing(t *testing.T, what string, a api.Auto, mine bool) {
	t.Helper()
	x.is(t, what, a, nil)
	if x.mine != mine {
		t.Errorf("%s: %t", what, x.mine)
	}
}

// P16.1

// checks fails where Check tells something else than the second reading.
func checks(t *testing.T, a api.Auto, c api.AutoConf, good bool) {
	t.Helper()
	if (automatonMayBe(a) && settingsMayBe(c)) != good {
		t.Fatalf("%+v, %+v: the second reading tells %t", a, c, !good)
	}
	if err := auto.Check(a, c); (err == api.OK) != good || !good && err != api.ErrAuto {
		t.Errorf("Check of %+v, %+v: %d", a, c, err)
	}
}

func TestCheckOfSettings(t *testing.T) {
	with := func(change func(c *api.AutoConf, n int), good, bad []int) {
		t.Helper()
		for _, n := range append(append([]int{}, good...), append(bad, far...)...) {
			c := conf(mru)
			change(&c, n)
			checks(t, at(api.Opened), c, slices.Contains(good, n))
		}
	}
	with(func(c *api.AutoConf, n int) { c.MaxConf = n }, []int{1, 2, 999, 1000}, []int{0, 1001})
	with(func(c *api.AutoConf, n int) { c.MaxTerm = n }, []int{1, 2, 999, 1000}, []int{0, 1001})
	with(func(c *api.AutoConf, n int) { c.MaxFail = n }, []int{0, 1, 999, 1000}, []int{1001})
	with(func(c *api.AutoConf, n int) { c.Wait = n }, []int{1, 2, mostWait - 1, mostWait}, []int{0, mostWait + 1})
	checks(t, at(api.Opened), conf(), true)
	checks(t, at(api.Opened), conf(mru, magic, addr), true)
	checks(t, at(api.Opened), conf(mru, magic, mru), false)
	checks(t, at(api.Opened), conf(api.Rule{}), false)
	checks(t, at(api.Opened), api.AutoConf{}, false)
	many := make([]api.Rule, 17)
	for i := range many {
		many[i] = api.Rule{Type: i + 1, Kind: api.RuleAny}
	}
	checks(t, at(api.Opened), conf(many[:16]...), true)
	checks(t, at(api.Opened), conf(many...), false)
}

func TestCheckOfNumbers(t *testing.T) {
	with := func(change func(a *api.Auto, n int), good, bad []int) {
		t.Helper()
		for _, s := range states() {
			for _, n := range append(append([]int{}, good...), append(bad, far...)...) {
				a := at(s, asked()...)
				change(&a, n)
				checks(t, a, conf(), slices.Contains(good, n))
			}
		}
	}
	with(func(a *api.Auto, n int) { a.ID = n }, []int{0, 1, 254, 255}, []int{256})
	with(func(a *api.Auto, n int) { a.Req = n }, []int{0, 1, 254, 255}, []int{256})
	with(func(a *api.Auto, n int) { a.Count = n }, []int{0, 1, 999, 1000}, []int{1001})
	with(func(a *api.Auto, n int) { a.Naks = n }, []int{0, 1, 999, 1000}, []int{1001})
}

func TestCheckOfStates(t *testing.T) {
	for _, n := range append([]int{-1, 10, 11, 16, 256, 1<<32 + 6}, far...) {
		for _, timer := range []int{0, 1, 50} {
			checks(t, api.Auto{State: api.State(n), Timer: timer}, conf(), false)
		}
	}
	for _, s := range states() {
		checks(t, at(s), conf(), true)
		for _, timer := range []int{1, 2, 50, mostTick, mostTick + 1, mostTimer - 1, mostTimer} {
			a := at(s)
			a.Timer = timer
			checks(t, a, conf(), fsm.Timed(s))
		}
		for _, timer := range append([]int{mostTimer + 1}, far...) {
			a := at(s)
			a.Timer = timer
			checks(t, a, conf(), false)
		}
		a := at(s)
		a.Timer = 0
		checks(t, a, conf(), !fsm.Timed(s))
	}
	checks(t, api.Auto{}, conf(), true)
	checks(t, api.Auto{}, api.AutoConf{}, false)
}

// rows are rows of options, those that may be, and those that may not.
func rows() (good, bad [][]api.Option) {
	long := func(n int) api.Option { return api.Option{Type: 9, Data: make([]byte, n)} }
	full := slices.Repeat([]api.Option{long(246)}, 6) // 6 times 248 bytes
	good = [][]api.Option{nil, {}, asked(), {opt(0)}, {opt(255)}, {long(253)}, slices.Repeat([]api.Option{opt(1)}, 64), full, {opt(1), opt(1)}}
	bad = [][]api.Option{{long(254)}, slices.Repeat([]api.Option{opt(1)}, 65), append(full[:5:5], long(247)), append(full[:6:6], opt(1))}
	for _, typ := range append([]int{256, -1}, far...) {
		bad = append(bad, []api.Option{opt(typ)}, []api.Option{opt(1), opt(typ), opt(3)})
	}
	return good, bad
}

func TestCheckOfOptions(t *testing.T) {
	good, bad := rows()
	for _, s := range states() {
		for _, l := range good {
			checks(t, at(s, l...), conf(), true)
		}
		for _, l := range bad {
			checks(t, at(s, l...), conf(), false)
		}
	}
}

func TestNew(t *testing.T) {
	good, bad := rows()
	for _, l := range good {
		a, err := auto.New(l...)
		if err != api.OK || !same(a, api.Auto{State: api.Initial, Ask: l}) {
			t.Errorf("New of %v: %+v, %d", l, a, err)
		}
		if err := auto.Check(a, conf()); err != api.OK {
			t.Errorf("Check of New of %v: %d", l, err)
		}
	}
	for _, l := range bad {
		if a, err := auto.New(l...); err != api.ErrAuto || !same(a, api.Auto{}) {
			t.Errorf("New of %v: %+v, %d", l, a, err)
		}
	}
}

// P16.2

func TestTheExample(t *testing.T) {
	c := api.AutoConf{MaxConf: 2, MaxTerm: 1, Wait: 3}
	a, err := auto.New()
	if err != api.OK {
		t.Fatal(err)
	}
	a, out, done := auto.Do(c, a, api.Up, api.Ctl{}, api.Ctl{}, 5)
	told{a, out, done, false}.is(t, "Up", api.Auto{State: api.Closed}, nil)
	a, out, done = auto.Do(c, a, api.Open, api.Ctl{}, api.Ctl{}, 5)
	told{a, out, done, false}.is(t, "Open", api.Auto{State: api.ReqSent, ID: 1, Req: 1, Count: 1, Timer: 8}, []api.Ctl{ctl(1, 1)}, api.IRC, api.SCR)
}

func TestDoByHand(t *testing.T) {
	ask := asked()
	bytesOf := []byte{1, 4, 5, 212, 5, 6, 1, 2, 3, 4}
	c := conf(mru)
	in, answer := ctl(1, 77, 1, 2), ctl(3, 77, 9)
	with := func(s api.State, id, req, count, timer, naks int) api.Auto {
		return api.Auto{State: s, ID: id, Req: req, Ask: ask, Count: count, Timer: timer, Naks: naks}
	}
	request := []api.Ctl{ctl(1, 21, bytesOf...)}
	term := []api.Ctl{ctl(5, 21)}
	for i, x := range []struct {
		s    api.State
		e    api.Event
		next api.Auto
		out  []api.Ctl
		done []api.Action
	}{
		{api.Initial, api.Open, with(api.Starting, 20, 17, 6, 0, 2), nil, []api.Action{api.TLS}},
		{api.Starting, api.Up, with(api.ReqSent, 21, 21, 9, 103, 2), request, []api.Action{api.IRC, api.SCR}},
		{api.Closed, api.RUC, with(api.Closed, 21, 17, 6, 0, 2), []api.Ctl{ctl(7, 21, 1, 77, 0, 6, 1, 2)}, []api.Action{api.SCJ}},
		{api.Closed, api.RTR, with(api.Closed, 20, 17, 6, 0, 2), []api.Ctl{ctl(6, 77)}, []api.Action{api.STA}},
		{api.Stopped, api.RCRMin, with(api.ReqSent, 21, 21, 9, 103, 3), append(request[:1:1], answer), []api.Action{api.IRC, api.SCR, api.SCN}},
		{api.Stopped, api.RCRPlus, with(api.AckSent, 21, 21, 9, 103, 0), append(request[:1:1], answer), []api.Action{api.IRC, api.SCR, api.SCA}},
		{api.Closing, api.TOPlus, with(api.Closing, 21, 17, 5, 103, 2), term, []api.Action{api.STR}},
		{api.Closing, api.RTA, with(api.Closed, 20, 17, 6, 0, 2), nil, []api.Action{api.TLF}},
		{api.Closing, api.Open, with(api.Stopping, 20, 17, 6, 50, 2), nil, nil},
		{api.Stopping, api.TOMinus, with(api.Stopped, 20, 17, 6, 0, 2), nil, []api.Action{api.TLF}},
		{api.ReqSent, api.Close, with(api.Closing, 21, 17, 1, 103, 2), term, []api.Action{api.IRC, api.STR}},
		{api.ReqSent, api.RCA, with(api.AckRcvd, 20, 17, 10, 50, 2), nil, []api.Action{api.IRC}},
		{api.ReqSent, api.TOPlus, with(api.ReqSent, 21, 21, 5, 103, 2), request, []api.Action{api.SCR}},
		{api.ReqSent, api.Down, with(api.Starting, 20, 17, 6, 0, 2), nil, nil},
		{api.AckSent, api.RCA, with(api.Opened, 20, 17, 10, 0, 2), nil, []api.Action{api.IRC, api.TLU}},
		{api.AckSent, api.RCN, with(api.AckSent, 21, 21, 9, 103, 2), request, []api.Action{api.IRC, api.SCR}},
		{api.AckRcvd, api.RCRPlus, with(api.Opened, 20, 17, 6, 0, 0), []api.Ctl{answer}, []api.Action{api.SCA, api.TLU}},
		{api.Opened, api.RCRPlus, with(api.AckSent, 21, 21, 5, 103, 0), append(request[:1:1], answer), []api.Action{api.TLD, api.SCR, api.SCA}},
		{api.Opened, api.RTR, with(api.Stopping, 20, 17, 0, 103, 2), []api.Ctl{ctl(6, 77)}, []api.Action{api.TLD, api.ZRC, api.STA}},
		{api.Opened, api.RXJMin, with(api.Stopping, 21, 17, 1, 103, 2), term, []api.Action{api.TLD, api.IRC, api.STR}},
		{api.Opened, api.RXR, with(api.Opened, 20, 17, 6, 0, 2), []api.Ctl{answer}, []api.Action{api.SER}},
		{api.Opened, api.RXJPlus, with(api.Opened, 20, 17, 6, 0, 2), nil, nil},
	} {
		a, out, done := auto.Do(c, at(x.s, ask...), x.e, in, answer, 100)
		if got := (told{a, out, done, false}); !got.same(told{x.next, x.out, x.done, false}) {
			t.Errorf("%d: %+v, not %+v, %v, %v", i, got, x.next, x.out, x.done)
		}
	}
}

// autos gives automata in the state, with their fields at and about their edges.
func autos(s api.State, see func(api.Auto)) {
	timers := []int{0}
	if fsm.Timed(s) {
		timers = []int{1, 50, mostTimer}
	}
	for _, id := range []int{0, 1, 127, 254, 255} {
		for _, count := range []int{0, 1, 2, 999, 1000} {
			for _, naks := range []int{0, 1, 4, 5, 998, 999, 1000} {
				for _, timer := range timers {
					see(api.Auto{State: s, ID: id, Req: (id * 3) % 256, Ask: asked()[:count%3], Count: count, Naks: naks, Timer: timer})
				}
			}
		}
	}
}

func TestDo(t *testing.T) {
	rnd := rand.New(rand.NewSource(16))
	ticks := []int{0, 1, 50, mostTick - 1, mostTick}
	for _, s := range states() {
		autos(s, func(a api.Auto) {
			for _, e := range events() {
				c := conf(mru, magic)
				c.Wait = []int{1, 3, mostWait}[rnd.Intn(3)]
				c.MaxConf, c.MaxTerm = 1+rnd.Intn(1000), 1+rnd.Intn(1000)
				in := ctl(rnd.Intn(256), rnd.Intn(256), make([]byte, rnd.Intn(9))...)
				answer := ctl(rnd.Intn(6), rnd.Intn(256), 1, 2, 3)
				does(t, c, a, e, in, answer, ticks[rnd.Intn(len(ticks))])
			}
		})
	}
}

func TestDoTakesPacketsAsTheyAre(t *testing.T) {
	strange := []api.Ctl{{}, ctl(-1, -1), ctl(256, 256, 1), ctl(math.MaxInt, math.MinInt), ctl(3, 300), ctl(-3, 5), ctl(3, 0, make([]byte, 1489)...), ctl(12, 9, make([]byte, 1488)...), ctl(12, 9, make([]byte, 1485)...), ctl(12, 9, make([]byte, 1484)...), ctl(255, 255, make([]byte, 70000)...), ctl(256, 1), ctl(1, 256)}
	for _, s := range states() {
		for _, e := range events() {
			for _, in := range strange {
				for _, answer := range strange {
					does(t, conf(mru), at(s, asked()...), e, in, answer, 100)
				}
			}
		}
	}
	// What cannot be told again uses up a number all the same.
	got := does(t, conf(), at(api.Opened), api.RUC, ctl(12, 9, make([]byte, 1489)...), api.Ctl{}, 100)
	if got.a.ID != 21 || len(got.out) != 0 || !slices.Equal(got.done, []api.Action{api.SCJ}) {
		t.Errorf("%+v", got)
	}
	got = does(t, conf(), at(api.Opened), api.RUC, ctl(12, 9, make([]byte, 1488)...), api.Ctl{}, 100)
	if got.a.ID != 21 || len(got.out) != 1 || got.out[0].ID != 21 || len(got.out[0].Data) != 1488 || got.out[0].Code != api.CodeRej {
		t.Errorf("%+v", got)
	}
}

func TestNumbersGoRound(t *testing.T) {
	for _, x := range []struct{ id, next int }{{0, 1}, {253, 254}, {254, 255}, {255, 0}} {
		a := at(api.ReqSent)
		a.ID = x.id
		got := does(t, conf(), a, api.TOPlus, api.Ctl{}, api.Ctl{}, 60)
		if got.a.ID != x.next || got.a.Req != x.next || got.out[0].ID != x.next {
			t.Errorf("behind %d: %+v", x.id, got)
		}
		got = does(t, conf(), a, api.Close, api.Ctl{}, api.Ctl{}, 60)
		if got.a.ID != x.next || got.a.Req != 17 || got.out[0].ID != x.next {
			t.Errorf("behind %d: %+v", x.id, got)
		}
		got = does(t, conf(), a, api.RUC, ctl(12, 3), api.Ctl{}, 60)
		if got.a.ID != x.next || got.a.Req != 17 || got.out[0].ID != x.next {
			t.Errorf("behind %d: %+v", x.id, got)
		}
	}
}

func TestNaksAreCounted(t *testing.T) {
	for _, x := range []struct{ code, naks, next int }{{3, 0, 1}, {3, 998, 999}, {3, 999, 1000}, {3, 1000, 1000}, {4, 0, 0}, {4, 7, 7}, {4, 1000, 1000}, {2, 7, 7}, {0, 7, 7}, {-3, 7, 7}, {259, 7, 7}} {
		a := at(api.ReqSent)
		a.Naks = x.naks
		if got := does(t, conf(), a, api.RCRMin, ctl(1, 5), ctl(x.code, 5), 60); got.a.Naks != x.next || len(got.out) != 1 {
			t.Errorf("behind %d, by %d: %+v", x.naks, x.code, got)
		}
		// An answer that takes all begins anew, whatever it bears.
		if got := does(t, conf(), a, api.RCRPlus, ctl(1, 5), ctl(x.code, 5), 60); got.a.Naks != 0 || len(got.out) != 1 || got.out[0].Code != x.code {
			t.Errorf("behind %d, by %d: %+v", x.naks, x.code, got)
		}
	}
}

func TestCountsDoNotFallBelowNone(t *testing.T) {
	for _, x := range []struct{ count, next int }{{0, 0}, {1, 0}, {2, 1}, {1000, 999}} {
		for _, s := range []api.State{api.Closing, api.Stopping, api.ReqSent, api.AckRcvd, api.AckSent} {
			a := at(s)
			a.Count = x.count
			if got := does(t, conf(), a, api.TOPlus, api.Ctl{}, api.Ctl{}, 60); got.a.Count != x.next || got.a.Timer != 63 {
				t.Errorf("%d in %d: %+v", x.count, s, got)
			}
		}
	}
	// Of one attempt none is left once it was made.
	c := conf()
	c.MaxConf, c.MaxTerm = 1, 1
	if got := does(t, c, at(api.Closed), api.Open, api.Ctl{}, api.Ctl{}, 60); got.a.Count != 0 {
		t.Errorf("%+v", got)
	}
	if got := does(t, c, at(api.Opened), api.Close, api.Ctl{}, api.Ctl{}, 60); got.a.Count != 0 {
		t.Errorf("%+v", got)
	}
	// How often the end is asked for is not how often options are.
	c.MaxConf, c.MaxTerm = 1000, 7
	if got := does(t, c, at(api.AckSent), api.Close, api.Ctl{}, api.Ctl{}, 60); got.a.Count != 6 {
		t.Errorf("%+v", got)
	}
	if got := does(t, c, at(api.AckSent), api.RCN, api.Ctl{}, api.Ctl{}, 60); got.a.Count != 999 {
		t.Errorf("%+v", got)
	}
}

func TestTimerAtTheEdges(t *testing.T) {
	c := conf()
	for _, wait := range []int{1, mostWait} {
		for _, tick := range []int{0, 1, mostTick} {
			c.Wait = wait
			for _, e := range []api.Event{api.Close, api.RTR} {
				if got := does(t, c, at(api.Opened), e, api.Ctl{}, api.Ctl{}, tick); got.a.Timer != tick+wait {
					t.Errorf("%d at %d: %+v", e, tick, got)
				}
			}
			if got := does(t, c, at(api.Closed), api.Open, api.Ctl{}, api.Ctl{}, tick); got.a.Timer != tick+wait {
				t.Errorf("at %d: %+v", tick, got)
			}
		}
	}
}

// wrongAutos are automata that may not be, wrongConfs settings, wrongTicks ticks.
func wrongAutos() []api.Auto {
	var l []api.Auto
	for _, s := range states() {
		for _, change := range []func(a *api.Auto, n int){
			func(a *api.Auto, n int) { a.ID = n },
			func(a *api.Auto, n int) { a.Req = n },
			func(a *api.Auto, n int) { a.Count = n },
			func(a *api.Auto, n int) { a.Naks = n },
			func(a *api.Auto, n int) { a.Timer = n },
		} {
			for _, n := range append([]int{mostTimer + 1}, far...) {
				a := at(s, asked()...)
				change(&a, n)
				l = append(l, a)
			}
		}
		a := at(s, asked()...)
		a.Timer = 1 - min(a.Timer, 1)
		_, bad := rows()
		l = append(l, a, at(s, bad[0]...), at(s, bad[1]...), at(s, bad[3]...), at(s, opt(256)))
		for _, change := range []func(a *api.Auto){
			func(a *api.Auto) { a.ID = 256 },
			func(a *api.Auto) { a.Req = 256 },
			func(a *api.Auto) { a.Count = 1001 },
			func(a *api.Auto) { a.Naks = 1001 },
		} {
			a := at(s, asked()...)
			change(&a)
			l = append(l, a)
		}
	}
	for _, n := range append([]int{10, 16}, far...) {
		l = append(l, at(api.State(n)), api.Auto{State: api.State(n), Timer: 5})
	}
	return l
}

func wrongConfs() []api.AutoConf {
	var l []api.AutoConf
	for _, change := range []func(c *api.AutoConf){
		func(c *api.AutoConf) { c.MaxConf = 0 },
		func(c *api.AutoConf) { c.MaxConf = 1001 },
		func(c *api.AutoConf) { c.MaxTerm = 0 },
		func(c *api.AutoConf) { c.MaxTerm = 1001 },
		func(c *api.AutoConf) { c.MaxFail = -1 },
		func(c *api.AutoConf) { c.MaxFail = 1001 },
		func(c *api.AutoConf) { c.Wait = 0 },
		func(c *api.AutoConf) { c.Wait = mostWait + 1 },
		func(c *api.AutoConf) { c.Wait = math.MaxInt },
		func(c *api.AutoConf) { c.Rules = []api.Rule{{}} },
		func(c *api.AutoConf) { c.Rules = []api.Rule{mru, mru} },
		func(c *api.AutoConf) { *c = api.AutoConf{} },
	} {
		c := conf(mru)
		change(&c)
		l = append(l, c)
	}
	return l
}

func wrongTicks() []int {
	return append([]int{-1, mostTick + 1, mostTimer}, far...)
}

func TestDoOfNone(t *testing.T) {
	in, answer := ctl(1, 5, 1), ctl(3, 5, 2)
	for _, e := range append(events(), 0, 17) {
		for _, a := range wrongAutos() {
			does(t, conf(mru), a, e, in, answer, 100).nothing(t, "an automaton that may not be", a, false)
		}
		for _, s := range states() {
			a := at(s, asked()...)
			for _, c := range wrongConfs() {
				does(t, c, a, e, in, answer, 100).nothing(t, "settings that may not be", a, false)
			}
			for _, tick := range wrongTicks() {
				does(t, conf(mru), a, e, in, answer, tick).nothing(t, "a tick that may not be", a, false)
			}
		}
	}
	for _, s := range states() {
		a := at(s, asked()...)
		for _, e := range append([]int{0, 17, 18, 256, 1<<32 + 3}, far...) {
			does(t, conf(mru), a, api.Event(e), in, answer, 100).nothing(t, "an event that there is not", a, false)
		}
		for _, e := range events() {
			if _, _, err := fsm.Step(s, e); err != api.OK {
				does(t, conf(mru), a, e, in, answer, 100).nothing(t, "an event that cannot come", a, false)
			}
		}
	}
}

// P16.3

func TestPacketsOfOtherCodes(t *testing.T) {
	for _, s := range states() {
		a := at(s, asked()...)
		for _, code := range append([]int{0, 8, 9, 10, 11, 12, 255, 256, 257, 1<<32 + 1}, far...) {
			comesIn(t, conf(mru), a, ctl(code, 17, 1, 2, 3), 100).nothing(t, "a code of none", a, false)
		}
	}
	for _, a := range wrongAutos() {
		comesIn(t, conf(mru), a, ctl(8, 17), 100).nothing(t, "a code of none", a, false)
	}
	for _, c := range wrongConfs() {
		comesIn(t, c, at(api.Opened), ctl(0, 17), 100).nothing(t, "a code of none", at(api.Opened), false)
	}
}

func TestPacketOfNone(t *testing.T) {
	for code := api.ConfReq; code <= api.CodeRej; code++ {
		in := ctl(code, 17)
		if code == api.ConfAck {
			in.Data = raw(asked())
		} else if code != api.ConfReq {
			in.Data = raw(asked()[1:])
		}
		for _, a := range wrongAutos() {
			comesIn(t, conf(mru), a, in, 100).nothing(t, "an automaton that may not be", a, true)
		}
		for _, s := range states() {
			a := at(s, asked()...)
			for _, c := range wrongConfs() {
				comesIn(t, c, a, in, 100).nothing(t, "settings that may not be", a, true)
			}
			for _, tick := range wrongTicks() {
				comesIn(t, conf(mru), a, in, tick).nothing(t, "a tick that may not be", a, true)
			}
			for _, id := range append([]int{256, 273}, far...) {
				comesIn(t, conf(mru), a, api.Ctl{Code: code, ID: id, Data: in.Data}, 100).nothing(t, "a number that may not be", a, true)
			}
			for _, n := range []int{1489, 1500, 65536} {
				comesIn(t, conf(mru), a, ctl(code, 17, make([]byte, n)...), 100).nothing(t, "too many bytes", a, true)
			}
		}
	}
}

func TestLongestPackets(t *testing.T) {
	// 1488 bytes are not too many: the end is answered, and what is rejected is.
	long := make([]byte, 1488)
	for _, code := range []int{api.TermReq, api.TermAck, api.CodeRej} {
		got := comesIn(t, conf(), at(api.Opened), ctl(code, 9, long...), 100)
		if code != api.CodeRej && got.a.State == api.Opened {
			t.Errorf("%d: %+v", code, got)
		}
	}
	l := slices.Repeat([]api.Option{{Type: 9, Data: make([]byte, 246)}}, 6)
	got := comesIn(t, conf(), at(api.ReqSent), ctl(api.ConfReq, 9, raw(l)...), 100)
	if len(got.out) != 1 || !samePacket(got.out[0], ctl(api.ConfRej, 9, raw(l)...)) {
		t.Errorf("%+v", got)
	}
	got = comesIn(t, conf(), at(api.ReqSent, l...), ctl(api.ConfAck, 17, raw(l)...), 100)
	if got.a.State != api.AckRcvd {
		t.Errorf("%+v", got)
	}
}

func TestConfReq(t *testing.T) {
	c := conf(mru, addr)
	own := []byte{3, 6, 10, 0, 0, 2}
	for i, x := range []struct {
		naks   int
		data   []byte
		answer api.Ctl
		next   api.State
		after  int
	}{
		{2, own, ctl(2, 200, own...), api.AckSent, 0},
		{2, append([]byte{1, 4, 5, 212}, own...), ctl(2, 200, append([]byte{1, 4, 5, 212}, own...)...), api.AckSent, 0},
		{2, append(own[:6:6], 1, 4, 5, 220), ctl(3, 200, 1, 4, 5, 212), api.ReqSent, 3},
		{4, append(own[:6:6], 1, 4, 5, 220), ctl(3, 200, 1, 4, 5, 212), api.ReqSent, 5},
		{5, append(own[:6:6], 1, 4, 5, 220), ctl(4, 200, 1, 4, 5, 220), api.ReqSent, 5},
		{1000, append(own[:6:6], 1, 4, 5, 220), ctl(4, 200, 1, 4, 5, 220), api.ReqSent, 1000},
		{2, nil, ctl(3, 200, own...), api.ReqSent, 3},
		{5, nil, ctl(3, 200, own...), api.ReqSent, 6},
		{1000, nil, ctl(3, 200, own...), api.ReqSent, 1000},
		{2, append(own[:6:6], 7, 2), ctl(4, 200, 7, 2), api.ReqSent, 2},
		{0, append([]byte{9, 3, 1, 1, 3, 8}, own...), ctl(4, 200, 9, 3, 1, 1, 3, 8), api.ReqSent, 0},
	} {
		a := at(api.ReqSent, asked()...)
		a.Naks = x.naks
		got := comesIn(t, c, a, ctl(api.ConfReq, 200, x.data...), 100)
		a.State, a.Naks = x.next, x.after
		action := api.SCN
		if x.answer.Code == api.ConfAck {
			action = api.SCA
		}
		got.is(t, "case "+string(rune('0'+i)), a, []api.Ctl{x.answer}, action)
		if !got.mine {
			t.Error(i)
		}
	}
}

// broken are bytes of no options.
func broken() [][]byte {
	return [][]byte{{1}, {1, 0}, {1, 1}, {1, 3}, {1, 4, 5}, {1, 4, 5, 212, 5}, {5, 255}, append(raw(asked()), 0), bytes.Repeat([]byte{7, 2}, 65)}
}

func TestConfReqThatIsLetGo(t *testing.T) {
	for _, s := range states() {
		a := at(s, asked()...)
		for _, b := range broken() {
			comesIn(t, conf(mru), a, ctl(api.ConfReq, 17, b...), 100).nothing(t, "no options", a, true)
		}
		comesIn(t, conf(mru), a, ctl(api.ConfReq, 17, bytes.Repeat([]byte{7, 2}, 64)...), 100)
	}
	// Where nothing can come nothing does.
	for _, s := range []api.State{api.Initial, api.Starting} {
		comesIn(t, conf(), at(s), ctl(api.ConfReq, 17), 100).nothing(t, "nothing can come", at(s), true)
	}
}

func TestConfReqThatIsAcknowledgedInOrder(t *testing.T) {
	// One's own question goes out ahead of the answer.
	a := at(api.Opened, opt(5, 0, 0, 0, 1))
	a.Naks = 3
	got := comesIn(t, conf(mru), a, ctl(api.ConfReq, 44, 1, 4, 1, 0), 100)
	a.State, a.ID, a.Req, a.Count, a.Timer, a.Naks = api.AckSent, 21, 21, 5, 103, 0
	got.is(t, "in Opened", a, []api.Ctl{ctl(1, 21, 5, 6, 0, 0, 0, 1), ctl(2, 44, 1, 4, 1, 0)}, api.TLD, api.SCR, api.SCA)
	// In Closed what is asked is answered as an end.
	got = comesIn(t, conf(mru), at(api.Closed), ctl(api.ConfReq, 44, 1, 4, 1, 0), 100)
	got.is(t, "in Closed", at(api.Closed), []api.Ctl{ctl(6, 44)}, api.STA)
}

func TestConfAck(t *testing.T) {
	own := raw(asked())
	for _, s := range states() {
		a := at(s, asked()...)
		got := comesIn(t, conf(mru), a, ctl(api.ConfAck, 17, own...), 100)
		if want := done(conf(mru), a, api.RCA, ctl(api.ConfAck, 17), api.Ctl{}, 100); !same(got.a, want.a) || !slices.EqualFunc(got.out, want.out, samePacket) || !slices.Equal(got.done, want.done) {
			t.Errorf("in %d: %+v", s, got)
		}
		other := append([]byte{}, own...)
		other[9] ^= 1
		for _, b := range [][]byte{nil, own[:9], own[:4], append(own[:10:10], 7, 2), other, raw([]api.Option{asked()[1], asked()[0]}), {1}} {
			comesIn(t, conf(mru), a, ctl(api.ConfAck, 17, b...), 100).nothing(t, "another question's bytes", a, true)
		}
		for _, id := range []int{0, 16, 18, 20, 21, 255} {
			comesIn(t, conf(mru), a, ctl(api.ConfAck, id, own...), 100).nothing(t, "another question's number", a, true)
		}
	}
	// Who asks for nothing is answered by nothing.
	if got := comesIn(t, conf(), at(api.ReqSent), ctl(api.ConfAck, 17), 100); got.a.State != api.AckRcvd {
		t.Errorf("%+v", got)
	}
}

func TestConfNak(t *testing.T) {
	for _, s := range states() {
		a := at(s, asked()...)
		got := comesIn(t, conf(mru), a, ctl(api.ConfNak, 17, 5, 6, 9, 9, 9, 9, 8, 2), 100)
		next := at(s, asked()[0], opt(5, 9, 9, 9, 9))
		switch s {
		case api.Initial, api.Starting:
			got.nothing(t, "where it cannot come", a, true)
		case api.Closed, api.Stopped:
			got.is(t, "at rest", next, []api.Ctl{ctl(6, 17)}, api.STA)
		case api.Closing, api.Stopping:
			got.is(t, "at the end", next, nil)
		case api.ReqSent, api.AckSent:
			next.ID, next.Req, next.Count, next.Timer = 21, 21, 9, 103
			got.is(t, "on the way", next, []api.Ctl{ctl(1, 21, 1, 4, 5, 212, 5, 6, 9, 9, 9, 9)}, api.IRC, api.SCR)
		case api.AckRcvd:
			next.State, next.ID, next.Req, next.Count, next.Timer = api.ReqSent, 21, 21, 5, 103
			got.is(t, "on the way", next, []api.Ctl{ctl(1, 21, 1, 4, 5, 212, 5, 6, 9, 9, 9, 9)}, api.SCR)
		case api.Opened:
			next.State, next.ID, next.Req, next.Count, next.Timer = api.ReqSent, 21, 21, 5, 103
			got.is(t, "in Opened", next, []api.Ctl{ctl(1, 21, 1, 4, 5, 212, 5, 6, 9, 9, 9, 9)}, api.TLD, api.SCR)
		}
	}
	// A Nak of what is not asked for teaches nothing, but it is one.
	got := comesIn(t, conf(), at(api.ReqSent, asked()...), ctl(api.ConfNak, 17, 8, 2), 100)
	if got.a.ID != 21 || len(got.out) != 1 || string(got.out[0].Data) != string(raw(asked())) {
		t.Errorf("%+v", got)
	}
}

func TestConfRej(t *testing.T) {
	own := raw(asked())
	a := at(api.AckSent, asked()...)
	for _, x := range []struct{ rejected, left []byte }{{own[:4], own[4:]}, {own[4:], own[:4]}, {own, nil}} {
		got := comesIn(t, conf(), a, ctl(api.ConfRej, 17, x.rejected...), 100)
		if got.a.ID != 21 || got.a.State != api.AckSent || len(got.out) != 1 || !samePacket(got.out[0], ctl(1, 21, x.left...)) || string(raw(got.a.Ask)) != string(x.left) {
			t.Errorf("%v: %+v", x.rejected, got)
		}
	}
	for _, s := range states() {
		a := at(s, asked()...)
		for _, b := range [][]byte{nil, {8, 2}, {1, 4, 5, 213}, append(own[:10:10], own...), append(own[4:10:10], own[:4]...), {5, 2}} {
			comesIn(t, conf(mru), a, ctl(api.ConfRej, 17, b...), 100).nothing(t, "of what was not asked", a, true)
		}
	}
}

func TestNaksAndRejectsThatAreLetGo(t *testing.T) {
	for _, s := range states() {
		for _, code := range []int{api.ConfNak, api.ConfRej} {
			a := at(s, asked()...)
			comesIn(t, conf(), a, ctl(code, 17), 100).nothing(t, "without options", a, true)
			for _, b := range broken() {
				comesIn(t, conf(), a, ctl(code, 17, b...), 100).nothing(t, "no options", a, true)
			}
			for _, id := range []int{0, 16, 18, 20, 21, 255} {
				comesIn(t, conf(), a, ctl(code, id, raw(asked())...), 100).nothing(t, "another question's number", a, true)
			}
			none := at(s)
			comesIn(t, conf(), none, ctl(api.ConfRej, 17, raw(asked())...), 100).nothing(t, "nothing was asked", none, true)
		}
	}
}

func TestLearntOptionsMayBeTooLong(t *testing.T) {
	// Six options of one type: told to have more bytes they all get them.
	six := slices.Repeat([]api.Option{opt(1, 0)}, 6)
	for _, x := range []struct {
		n    int
		good bool
	}{{1, true}, {246, true}, {247, false}, {253, false}} {
		longer := api.Option{Type: 1, Data: bytes.Repeat([]byte{4}, x.n)}
		a := at(api.ReqSent, six...)
		got := comesIn(t, conf(), a, ctl(api.ConfNak, 17, raw([]api.Option{longer})...), 100)
		if !x.good {
			got.nothing(t, "too long", a, true)
		} else if got.a.ID != 21 || len(got.out[0].Data) != 6*(x.n+2) {
			t.Errorf("%d: %+v", x.n, got)
		}
	}
}

func TestTermReqAndTermAck(t *testing.T) {
	for _, s := range states() {
		for _, id := range []int{0, 17, 20, 255} {
			for _, data := range [][]byte{nil, {1}, make([]byte, 1488)} {
				a := at(s, asked()...)
				got := comesIn(t, conf(), a, ctl(api.TermReq, id, data...), 100)
				if s >= api.Closed && (len(got.out) != 1 || !samePacket(got.out[0], ctl(6, id))) {
					t.Errorf("in %d: %+v", s, got)
				}
				got = comesIn(t, conf(), a, ctl(api.TermAck, id, data...), 100)
				want := done(conf(), a, api.RTA, api.Ctl{}, api.Ctl{}, 100)
				if !same(got.a, want.a) || !slices.Equal(got.done, want.done) {
					t.Errorf("in %d: %+v", s, got)
				}
			}
		}
	}
	got := comesIn(t, conf(), at(api.Closing), ctl(api.TermAck, 3), 100)
	got.is(t, "the end", api.Auto{State: api.Closed, ID: 20, Req: 17, Count: 6, Naks: 2}, nil, api.TLF)
}

func TestCodeRej(t *testing.T) {
	for _, s := range states() {
		a := at(s, asked()...)
		comesIn(t, conf(), a, ctl(api.CodeRej, 17), 100).nothing(t, "without data", a, true)
		for first := range 256 {
			for _, data := range [][]byte{{byte(first)}, {byte(first), 1, 0, 4}, {byte(first), 200}} {
				got := comesIn(t, conf(), a, ctl(api.CodeRej, 99, data...), 100)
				e := api.RXJPlus
				if first >= 1 && first <= 7 {
					e = api.RXJMin
				}
				if want := done(conf(), a, e, api.Ctl{}, api.Ctl{}, 100); !same(got.a, want.a) || !slices.Equal(got.done, want.done) {
					t.Errorf("%d in %d: %+v", first, s, got)
				}
			}
		}
	}
	for _, x := range []struct {
		first byte
		next  api.State
	}{{0, api.Opened}, {1, api.Stopping}, {7, api.Stopping}, {8, api.Opened}, {255, api.Opened}} {
		if got := comesIn(t, conf(), at(api.Opened), ctl(api.CodeRej, 99, x.first), 100); got.a.State != x.next {
			t.Errorf("%d: %+v", x.first, got)
		}
	}
}

func TestPackets(t *testing.T) {
	rnd := rand.New(rand.NewSource(163))
	for _, s := range states() {
		autos(s, func(a api.Auto) {
			for code := 0; code <= 8; code++ {
				c := conf(mru, magic)
				c.MaxFail = []int{0, 1, 5, 1000}[rnd.Intn(4)]
				comesIn(t, c, a, randomPacket(rnd, a, code), rnd.Intn(200))
			}
		})
	}
}

// randomPacket is one of that code, such as it may come to the automaton.
func randomPacket(rnd *rand.Rand, a api.Auto, code int) api.Ctl {
	in := api.Ctl{Code: code, ID: a.Req}
	if rnd.Intn(5) == 0 {
		in.ID = rnd.Intn(256)
	}
	switch rnd.Intn(8) {
	case 0:
	case 1, 2:
		in.Data = raw(a.Ask)
	case 3:
		for _, o := range a.Ask {
			if rnd.Intn(2) == 0 {
				in.Data = append(in.Data, raw([]api.Option{o})...)
			}
		}
	case 4:
		in.Data = []byte{1, 4, byte(rnd.Intn(8)), byte(rnd.Intn(256))}
	case 5:
		in.Data = []byte{5, 6, 0, 0, 0, byte(rnd.Intn(12))}
	case 6:
		in.Data = []byte{byte(rnd.Intn(9)), byte(2 + rnd.Intn(3)), 3, 2}
	default:
		in.Data = make([]byte, rnd.Intn(12))
		rnd.Read(in.Data)
	}
	return in
}

// P16.4

func TestTimeout(t *testing.T) {
	for _, s := range states() {
		autos(s, func(a api.Auto) {
			for _, tick := range []int{0, 1, 2, 49, 50, 51, mostTick} {
				got := waits(t, conf(mru), a, tick)
				if a.Timer == 0 || a.Timer > tick {
					got.nothing(t, "not due", a, false)
				} else if again := got.a.Timer != 0; again != (a.Count > 0) {
					t.Errorf("%+v at %d: %+v", a, tick, got)
				}
			}
		})
	}
}

func TestTimeoutByHand(t *testing.T) {
	a := at(api.AckRcvd, opt(1, 5, 212))
	waits(t, conf(), a, 49).nothing(t, "ahead of its tick", a, false)
	for _, tick := range []int{50, 51, 1000, mostTick} {
		a = at(api.AckRcvd, opt(1, 5, 212))
		got := waits(t, conf(), a, tick)
		a.State, a.ID, a.Req, a.Count, a.Timer = api.ReqSent, 21, 21, 5, tick+3
		got.is(t, "once more", a, []api.Ctl{ctl(1, 21, 1, 4, 5, 212)}, api.SCR)
		a = at(api.Closing)
		a.Count = 1
		got = waits(t, conf(), a, tick)
		a.ID, a.Count, a.Timer = 21, 0, tick+3
		got.is(t, "the last one", a, []api.Ctl{ctl(5, 21)}, api.STR)
		a.Timer = tick
		got = waits(t, conf(), a, tick)
		a.State, a.Timer = api.Closed, 0
		got.is(t, "none", a, nil, api.TLF)
	}
	a = at(api.ReqSent)
	a.Timer = mostTick + 1
	waits(t, conf(), a, mostTick).nothing(t, "behind all ticks", a, false)
}

func TestTimeoutOfNone(t *testing.T) {
	for _, a := range wrongAutos() {
		waits(t, conf(), a, mostTick).nothing(t, "an automaton that may not be", a, false)
	}
	for _, s := range states() {
		for _, c := range wrongConfs() {
			waits(t, c, at(s), 100).nothing(t, "settings that may not be", at(s), false)
		}
		for _, tick := range wrongTicks() {
			waits(t, conf(), at(s), tick).nothing(t, "a tick that may not be", at(s), false)
		}
	}
}

// P16.5

func TestSame(t *testing.T) {
	a := api.Auto{State: 6, ID: 1, Req: 2, Ask: asked(), Count: 3, Timer: 4, Naks: 5}
	if !auto.Same(a, a) || !auto.Same(a, copied(a)) || !auto.Same(api.Auto{}, api.Auto{Ask: []api.Option{}}) || !auto.Same(api.Auto{Ask: []api.Option{{}}}, api.Auto{Ask: []api.Option{{Data: []byte{}}}}) {
		t.Error("not the same")
	}
	for i, change := range []func(b *api.Auto){
		func(b *api.Auto) { b.State = 7 },
		func(b *api.Auto) { b.ID = 0 },
		func(b *api.Auto) { b.Req = 3 },
		func(b *api.Auto) { b.Count = 4 },
		func(b *api.Auto) { b.Timer = 0 },
		func(b *api.Auto) { b.Naks = -5 },
		func(b *api.Auto) { b.Ask = nil },
		func(b *api.Auto) { b.Ask = b.Ask[:1] },
		func(b *api.Auto) { b.Ask = append(b.Ask, opt(7)) },
		func(b *api.Auto) { b.Ask[0].Type = 2 },
		func(b *api.Auto) { b.Ask[1].Data[3]++ },
		func(b *api.Auto) { b.Ask[1].Data = b.Ask[1].Data[:3] },
		func(b *api.Auto) { b.Ask[1].Data = nil },
		func(b *api.Auto) { b.Ask[0], b.Ask[1] = b.Ask[1], b.Ask[0] },
	} {
		b := copied(a)
		change(&b)
		if auto.Same(a, b) || auto.Same(b, a) || !auto.Same(b, copied(b)) {
			t.Errorf("change %d", i)
		}
	}
	for _, b := range wrongAutos() { // also of those that may not be
		if !auto.Same(b, copied(b)) || auto.Same(b, a) {
			t.Errorf("%+v", b)
		}
	}
}

// P16.6, and all calls, one behind the other.

func TestWalks(t *testing.T) {
	rnd := rand.New(rand.NewSource(166))
	var seen [10]int
	for range 400 {
		c := conf([]api.Rule{mru, magic, addr}[:rnd.Intn(4)]...)
		c.MaxConf, c.MaxTerm, c.MaxFail, c.Wait = 1+rnd.Intn(4), 1+rnd.Intn(3), rnd.Intn(3), 1+rnd.Intn(5)
		a, err := auto.New(asked()[:rnd.Intn(3)]...)
		if err != api.OK {
			t.Fatal(err)
		}
		tick := []int{0, mostTick - 300}[rnd.Intn(2)]
		for range 300 {
			g := given{kind: rnd.Intn(3), c: c, a: a, tick: tick}
			switch g.kind {
			case callDo:
				g.e = randomEvent(rnd)
				g.in, g.answer = randomPacket(rnd, a, rnd.Intn(14)), randomPacket(rnd, a, 2+rnd.Intn(3))
			case callPacket:
				g.in = randomPacket(rnd, a, 1+rnd.Intn(7))
			}
			a = tells(t, g).a
			seen[a.State]++
			tick += rnd.Intn(2)
		}
	}
	for s, n := range seen {
		if n < 500 {
			t.Errorf("%d was come to %d times only", s, n)
		}
	}
}

// randomEvent is one, most often Up or Open.
func randomEvent(rnd *rand.Rand) api.Event {
	switch rnd.Intn(3) {
	case 0:
		return api.Up
	case 1:
		return api.Open
	}
	return api.Event(rnd.Intn(18))
}

func TestFromEachThatMayBe(t *testing.T) {
	// Whatever comes: any events and packets, at any edges.
	rnd := rand.New(rand.NewSource(167))
	c := api.AutoConf{MaxConf: 1000, MaxTerm: 1000, MaxFail: 1000, Wait: mostWait, Rules: []api.Rule{addr}}
	for _, s := range states() {
		autos(s, func(a api.Auto) {
			for _, tick := range []int{0, mostTick} {
				x := does(t, c, a, api.Event(rnd.Intn(17)), randomPacket(rnd, a, rnd.Intn(256)), randomPacket(rnd, a, 3), tick).a
				x = comesIn(t, c, x, randomPacket(rnd, x, 1+rnd.Intn(7)), tick).a
				x = waits(t, c, x, mostTick).a
				if auto.Check(x, c) != api.OK {
					t.Fatalf("%+v", x)
				}
			}
		})
	}
}

// P16.7

func TestItEnds(t *testing.T) {
	for _, s := range []api.State{api.Closing, api.Stopping, api.ReqSent, api.AckRcvd, api.AckSent} {
		for _, count := range []int{0, 1, 2, 3, 17, 999, 1000} {
			c, a := conf(), at(s, asked()...)
			a.Count = count
			c.Wait = 1 + count%5
			n, tick := 0, 0
			for ; a.Timer != 0 && n <= mostCount+1; tick++ {
				next, out, done := auto.Timeout(c, a, tick)
				if tick < a.Timer {
					if !auto.Same(a, next) || len(out)+len(done) != 0 {
						t.Fatalf("%+v at %d: %+v", a, tick, next)
					}
					continue
				}
				if n++; len(out) != 1 && next.Timer != 0 {
					t.Fatalf("%+v at %d: %v", a, tick, out)
				}
				a = next
			}
			if n != count+1 || fsm.Timed(a.State) {
				t.Errorf("from %d with %d: %d timeouts, then %+v", s, count, n, a)
			}
			for range 100 { // and none comes again
				tick += 1000
				next, out, done := auto.Timeout(c, a, tick)
				if !auto.Same(a, next) || len(out)+len(done) != 0 {
					t.Fatalf("%+v at %d: %+v", a, tick, next)
				}
			}
		}
	}
}

func TestAsManyQuestionsAsTheSettingsSay(t *testing.T) {
	for _, most := range []int{1, 2, 3, 1000} {
		for _, x := range []struct {
			from api.State
			e    api.Event
		}{{api.Closed, api.Open}, {api.Opened, api.Close}} {
			c := conf()
			c.MaxConf, c.MaxTerm = most, most
			a, out, _ := auto.Do(c, at(x.from), x.e, api.Ctl{}, api.Ctl{}, 0)
			n := len(out)
			for a.Timer != 0 && n <= mostCount {
				a, out, _ = auto.Timeout(c, a, a.Timer)
				n += len(out)
			}
			if n != most || a.State != api.Stopped && a.State != api.Closed {
				t.Errorf("of %d: %d, then %+v", most, n, a)
			}
		}
	}
}

// P16.8

func TestStaleAnswers(t *testing.T) {
	for _, s := range states() {
		autos(s, func(a api.Auto) {
			for _, code := range []int{api.ConfAck, api.ConfNak, api.ConfRej} {
				for _, id := range []int{a.Req + 1, a.Req + 255, a.Req + 128, a.Req ^ 1} {
					in := api.Ctl{Code: code, ID: id % 256, Data: raw(a.Ask)}
					got, out, done, mine := auto.Packet(conf(mru), a, in, 100)
					told{got, out, done, mine}.nothing(t, "stale", a, true)
				}
			}
		})
	}
	// On the way: the first question's answer, once a second one went out.
	c := conf(mru)
	a, out, _ := auto.Do(c, at(api.Closed, asked()...), api.Open, api.Ctl{}, api.Ctl{}, 0)
	first := out[0]
	a, out, _ = auto.Timeout(c, a, a.Timer)
	second := out[0]
	for _, code := range []int{api.ConfAck, api.ConfNak, api.ConfRej} {
		comesIn(t, c, a, api.Ctl{Code: code, ID: first.ID, Data: first.Data}, 5).nothing(t, "the first one", a, true)
	}
	if got := comesIn(t, c, a, api.Ctl{Code: api.ConfAck, ID: second.ID, Data: second.Data}, 5); got.a.State != api.AckRcvd {
		t.Errorf("%+v", got)
	}
}

// P16.9

// side is an automaton, its settings, and what is on the way to it.
type side struct {
	c  api.AutoConf
	a  api.Auto
	to []api.Ctl
}

// meets lets packets come in all orders in which those of each side stay in theirs, till none is left; it tells how many orders there were.
func meets(t *testing.T, sides [2]side, depth int) int {
	t.Helper()
	if depth > 40 {
		t.Fatal("no end")
	}
	if len(sides[0].to)+len(sides[1].to) == 0 {
		if sides[0].a.State != api.Opened || sides[1].a.State != api.Opened || sides[0].a.Timer+sides[1].a.Timer != 0 {
			t.Fatalf("%+v and %+v", sides[0].a, sides[1].a)
		}
		return 1
	}
	n := 0
	for i, x := range sides {
		if len(x.to) == 0 {
			continue
		}
		next := sides
		got := comesIn(t, x.c, x.a, x.to[0], 100)
		next[i].a, next[i].to = got.a, x.to[1:]
		next[1-i].to = append(slices.Clone(sides[1-i].to), got.out...)
		n += meets(t, next, depth+1)
	}
	return n
}

func TestTheyMeet(t *testing.T) {
	rules := []api.Rule{mru, magic}
	asks := [][]api.Option{nil, {opt(1, 5, 212)}, {opt(5, 0, 0, 0, 8)}, {opt(1, 0, 128), opt(5, 1, 2, 3, 4)}, {opt(5, 1, 2, 3, 4), opt(1, 1, 0)}}
	for _, one := range asks {
		for _, other := range asks {
			for _, first := range []api.Event{api.Up, api.Open} {
				var sides [2]side
				for i, ask := range [][]api.Option{one, other} {
					a, err := auto.New(ask...)
					if err != api.OK {
						t.Fatal(err)
					}
					c := conf(rules...)
					a = does(t, c, a, first, api.Ctl{}, api.Ctl{}, 0).a
					got := does(t, c, a, api.Up+api.Open-first, api.Ctl{}, api.Ctl{}, 0)
					if got.a.State != api.ReqSent {
						t.Fatalf("%+v", got)
					}
					sides[i].c, sides[i].a, sides[1-i].to = c, got.a, got.out
				}
				if n := meets(t, sides, 0); n < 4 {
					t.Errorf("%d orders", n)
				}
			}
		}
	}
}

func TestTheyMeetFromAnyReqSent(t *testing.T) {
	for _, id := range []int{0, 5, 254, 255} {
		for _, count := range []int{0, 1, 1000} {
			for _, naks := range []int{0, 5, 1000} {
				a := api.Auto{State: api.ReqSent, ID: id, Req: (id + 250) % 256, Ask: asked(), Count: count, Timer: 1, Naks: naks}
				b := api.Auto{State: api.ReqSent, ID: 9, Req: 9, Count: 1000 - count, Timer: mostTimer, Naks: 3}
				sides := [2]side{{c: conf(), a: a, to: []api.Ctl{ctl(1, b.Req)}}, {c: conf(mru, magic), a: b, to: []api.Ctl{ctl(1, a.Req, raw(a.Ask)...)}}}
				meets(t, sides, 0)
			}
		}
	}
}

func TestTheyAgree(t *testing.T) {
	// Where one asks what the other one does not take, it learns, and they meet all the same.
	bad := []api.Option{opt(7), opt(1, 5, 220), opt(5, 0, 0, 0, 7)}
	c := conf(mru, magic)
	a := does(t, c, at(api.Closed, bad...), api.Open, api.Ctl{}, api.Ctl{}, 0)
	b := does(t, c, at(api.Closed, asked()...), api.Open, api.Ctl{}, api.Ctl{}, 0)
	sides := [2]side{{c, a.a, b.out}, {c, b.a, a.out}}
	for range 20 {
		for i, x := range sides {
			if len(x.to) > 0 {
				got := comesIn(t, c, x.a, x.to[0], 1)
				sides[i].a, sides[i].to = got.a, sides[i].to[1:]
				sides[1-i].to = append(sides[1-i].to, got.out...)
			}
		}
	}
	if sides[0].a.State != api.Opened || sides[1].a.State != api.Opened {
		t.Fatalf("%+v and %+v", sides[0].a, sides[1].a)
	}
	if want := []byte{1, 4, 5, 212, 5, 6, 0, 0, 0, 9}; string(raw(sides[0].a.Ask)) != string(want) {
		t.Errorf("%v", sides[0].a.Ask)
	}
}

// P16.10

// spoilBytes, spoil and spoilTold change all that is there, also in the memory behind it.
func spoilBytes(b []byte) {
	b = b[:cap(b)]
	for i := range b {
		b[i] ^= 0xff
	}
}

func spoil(l []api.Option) {
	l = l[:cap(l)]
	for i := range l {
		spoilBytes(l[i].Data)
		l[i].Type = ^l[i].Type
	}
}

func spoilTold(x told) {
	spoil(x.a.Ask)
	for _, p := range x.out[:cap(x.out)] {
		spoilBytes(p.Data)
	}
	for i := range x.out {
		x.out[i] = ctl(-1, -1, 66)
	}
	for i := range x.done {
		x.done[i] = -1
	}
}

// roomy are the same arguments, with room behind each list, so that what is put behind would be seen.
func (g given) roomy() given {
	g = g.copied()
	room := func(b []byte) []byte { return append(b, 1, 2, 3, 4, 5, 6, 7, 8)[:len(b)] }
	for i := range g.a.Ask {
		g.a.Ask[i].Data = room(g.a.Ask[i].Data)
	}
	g.a.Ask = append(g.a.Ask, opt(9, 9), opt(9, 9))[:len(g.a.Ask)]
	g.in.Data, g.answer.Data = room(g.in.Data), room(g.answer.Data)
	g.c.Rules = append(g.c.Rules, mru, mru)[:len(g.c.Rules)]
	return g
}

// behind are the same arguments, with what stands in the room behind them.
func (g given) behind() given {
	h := g
	h.a.Ask = slices.Clone(g.a.Ask[:cap(g.a.Ask)])
	for i, o := range h.a.Ask {
		h.a.Ask[i].Data = o.Data[:cap(o.Data)]
	}
	h.in.Data, h.answer.Data = g.in.Data[:cap(g.in.Data)], g.answer.Data[:cap(g.answer.Data)]
	h.c.Rules = g.c.Rules[:cap(g.c.Rules)]
	return h.copied()
}

// apart fails where what the call tells shares memory with what it was given, with another answer, or within itself.
func apart(t *testing.T, g given) {
	t.Helper()
	g = g.roomy()
	want, all := g.copied().want(), g.behind()
	one, other := g.call(), g.call()
	spoilTold(one)
	if !g.behind().same(all) {
		t.Fatalf("a change of what was told changed %+v to %+v", all, g)
	}
	if !other.same(want) {
		t.Fatalf("a change of what was told changed another answer: %+v, not %+v", other, want)
	}
	spoil(g.a.Ask)
	spoilBytes(g.in.Data)
	spoilBytes(g.answer.Data)
	clear(g.c.Rules)
	if !other.same(want) {
		t.Fatalf("a change of what was given changed the answer: %+v, not %+v", other, want)
	}
	// Within the answer: what is asked, and each packet that goes out.
	spoil(other.a.Ask)
	if !slices.EqualFunc(other.out, want.out, samePacket) {
		t.Fatalf("a change of what is asked changed what goes out: %v, not %v", other.out, want.out)
	}
	for i := range other.out {
		spoilBytes(other.out[i].Data)
		for k := i + 1; k < len(other.out); k++ {
			if !samePacket(other.out[k], want.out[k]) {
				t.Fatalf("a change of packet %d changed %d", i, k)
			}
		}
	}
}

func TestMemoryIsOnesOwn(t *testing.T) {
	rnd := rand.New(rand.NewSource(1610))
	c := conf(mru, magic)
	for _, s := range states() {
		a := at(s, asked()...)
		for _, e := range append(events(), 0) {
			apart(t, given{kind: callDo, c: c, a: a, e: e, in: ctl(12, 5, 1, 2, 3), answer: ctl(3, 5, 7, 8, 9), tick: 100})
			apart(t, given{kind: callDo, c: c, a: a, e: e, in: ctl(12, 5, 1, 2, 3), answer: ctl(3, 5, 7, 8, 9), tick: -1})
		}
		for code := 0; code <= 8; code++ {
			for range 40 {
				apart(t, given{kind: callPacket, c: c, a: a, in: randomPacket(rnd, a, code), tick: 100})
			}
			apart(t, given{kind: callPacket, c: c, a: a, in: ctl(code, 17, raw(asked())...), tick: 100})
			apart(t, given{kind: callPacket, c: c, a: a, in: ctl(code, 17, 5, 6, 9, 9, 9, 9), tick: 100})
			apart(t, given{kind: callPacket, c: c, a: a, in: ctl(code, 17, raw(asked())...), tick: mostTick + 1})
		}
		apart(t, given{kind: callTimeout, c: c, a: a, tick: 100})
		apart(t, given{kind: callTimeout, c: c, a: a, tick: 10})
	}
	// The same packet as the one that came and as its answer.
	shared := ctl(12, 5, 1, 2, 3)
	got := does(t, c, at(api.Opened), api.RXR, shared, shared, 100)
	spoilBytes(got.out[0].Data)
	if !samePacket(shared, ctl(12, 5, 1, 2, 3)) {
		t.Errorf("%v", shared)
	}
}

func TestNewIsNewMemory(t *testing.T) {
	ask := append(asked(), opt(9, 9))[:2]
	one, _ := auto.New(ask...)
	other, _ := auto.New(ask...)
	spoil(one.Ask)
	if !same(api.Auto{Ask: ask[:3]}, api.Auto{Ask: append(asked(), opt(9, 9))}) {
		t.Errorf("%v", ask[:3])
	}
	spoil(ask)
	if !same(other, api.Auto{Ask: asked()}) {
		t.Errorf("%+v", other)
	}
}
