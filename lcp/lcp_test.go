package lcp_test

import (
	"bytes"
	"math"
	"math/rand"
	"slices"
	"testing"

	"concierge/api"
	"concierge/auto"
	"concierge/cp"
	"concierge/fsm"
	"concierge/lcp"
	"concierge/opts"
)

// far are numbers that are none of a link's.
var far = []int{math.MinInt, math.MinInt + 1, -1 << 41, -1 << 32, -1000, -256, -2, -1, 1 << 41, 1 << 62, math.MaxInt - 1, math.MaxInt}

// most are a link's limits, as the chapters have them.
const (
	mostMagic = 4294967295
	mostWait  = 1048576
	mostEcho  = 1048576
	mostTick  = 1099511627776
	mostNext  = 1099511627776 + 1048576
)

// own, peer and learnt are the magic numbers of a link that is on its way.
const (
	own    = 0x01020304
	peer   = 0x0a0b0c0d
	learnt = 0x07070707
)

// conf are settings that may be.
func conf() api.LcpConf {
	return api.LcpConf{MRU: 1492, MaxConf: 10, MaxTerm: 2, MaxFail: 5, Wait: 3, Echo: 20, Lost: 3}
}

// opt is an option of those bytes, ctl a packet.
func opt(typ int, data ...byte) api.Option {
	return api.Option{Type: typ, Data: data}
}

func ctl(code, id int, data ...byte) api.Ctl {
	return api.Ctl{Code: code, ID: id, Data: data}
}

// asked are options as a link asks for them.
func asked() []api.Option {
	return []api.Option{opt(1, 5, 212), opt(5, 1, 2, 3, 4)}
}

// at is a control in the state that may be, as it is on its way.
func at(s api.State) api.Lcp {
	l := api.Lcp{A: api.Auto{State: s, ID: 20, Req: 17, Ask: asked(), Count: 6, Naks: 2}, Magic: own, Peer: peer, MRU: 1400, Pending: 1}
	if fsm.Timed(s) {
		l.A.Timer = 50
	}
	if s == api.Opened {
		l.NextEcho = 60
	}
	return l
}

// states are all.
func states() []api.State {
	return []api.State{0, 1, 2, 3, 4, 5, 6, 7, 8, 9}
}

// raw are the bytes of options, one behind the other, four those of a number.
func raw(l []api.Option) []byte {
	var b []byte
	for _, o := range l {
		b = append(b, byte(o.Type), byte(len(o.Data)+2))
		b = append(b, o.Data...)
	}
	return b
}

func four(n int) []byte {
	return []byte{byte(n >> 24), byte(n >> 16), byte(n >> 8), byte(n)}
}

// echo is an echo's data.
func echo(magic int, more ...byte) []byte {
	return append(four(magic), more...)
}

// copied is the same control on other memory, copiedCtl the same packet.
func copied(l api.Lcp) api.Lcp {
	ask := make([]api.Option, len(l.A.Ask))
	for i, o := range l.A.Ask {
		ask[i] = api.Option{Type: o.Type, Data: bytes.Clone(o.Data)}
	}
	l.A.Ask = ask
	return l
}

func copiedCtl(p api.Ctl) api.Ctl {
	p.Data = bytes.Clone(p.Data)
	return p
}

// sameAuto tells whether both are the same automaton, same the same control, samePacket the same packet.
func sameAuto(a, b api.Auto) bool {
	return a.State == b.State && a.ID == b.ID && a.Req == b.Req && a.Count == b.Count && a.Timer == b.Timer && a.Naks == b.Naks &&
		slices.EqualFunc(a.Ask, b.Ask, func(x, y api.Option) bool { return x.Type == y.Type && string(x.Data) == string(y.Data) })
}

func same(a, b api.Lcp) bool {
	return sameAuto(a.A, b.A) && a.Magic == b.Magic && a.Peer == b.Peer && a.MRU == b.MRU && a.Pending == b.Pending && a.NextEcho == b.NextEcho
}

func samePacket(x, y api.Ctl) bool {
	return x.Code == y.Code && x.ID == y.ID && string(x.Data) == string(y.Data)
}

// told is what a call tells.
type told struct {
	l    api.Lcp
	out  []api.Ctl
	done []api.Action
}

func (x told) same(y told) bool {
	return same(x.l, y.l) && slices.EqualFunc(x.out, y.out, samePacket) && slices.Equal(x.done, y.done)
}

// A second reading of the chapter, in its words.

// isFrom: "from 1 to 1000" and the like.
func isFrom(n, low, high int) bool {
	return low <= n && n <= high
}

// settingsMayBe: "Settings may be".
func settingsMayBe(c api.LcpConf) bool {
	return isFrom(c.MRU, 128, 1492) && isFrom(c.MaxConf, 1, 1000) && isFrom(c.MaxTerm, 1, 1000) && isFrom(c.MaxFail, 0, 1000) &&
		isFrom(c.Wait, 1, mostWait) && isFrom(c.Echo, 0, mostEcho) && isFrom(c.Lost, 1, 1000)
}

// itsSettings: "The automaton's settings".
func itsSettings(c api.LcpConf, m int) api.AutoConf {
	good := m + 1
	if m%2 != 0 {
		good = m - 1
	}
	if good == 0 {
		good = 2
	}
	return api.AutoConf{
		Rules:   []api.Rule{{Type: 1, Size: 2, Kind: api.RuleSpan, Low: 128, High: 1492, Good: 1492}, {Type: 5, Size: 4, Kind: api.RuleNot, Low: m, Good: good}},
		MaxConf: c.MaxConf, MaxTerm: c.MaxTerm, MaxFail: c.MaxFail, Wait: c.Wait,
	}
}

// linkMayBe: "A link's control may be".
func linkMayBe(c api.LcpConf, l api.Lcp) bool {
	if !isFrom(l.Magic, 1, mostMagic) || !isFrom(l.Peer, 0, mostMagic) || !isFrom(l.MRU, 128, 1492) || !isFrom(l.Pending, 0, 1000) {
		return false
	}
	if auto.Check(l.A, itsSettings(c, l.Magic)) != api.OK {
		return false
	}
	return l.NextEcho == 0 || l.A.State == 9 && c.Echo != 0 && isFrom(l.NextEcho, 1, mostNext)
}

// allMayBe: "where the settings, the control, or the tick may not be".
func allMayBe(c api.LcpConf, l api.Lcp, tick int) bool {
	return settingsMayBe(c) && linkMayBe(c, l) && isFrom(tick, 0, mostTick)
}

// follows: "Behind what the automaton did".
func follows(c api.LcpConf, x told, tick int) told {
	last := api.NoAction
	for _, action := range x.done {
		if action == api.TLU || action == api.TLD {
			last = action
		}
	}
	if last != api.NoAction {
		x.l.Pending, x.l.NextEcho = 0, 0
	}
	if last == api.TLU && c.Echo != 0 {
		x.l.NextEcho = tick + c.Echo
	}
	for _, o := range x.l.A.Ask {
		if o.Type != 5 {
			continue
		}
		if n, _ := opts.Number(o); len(o.Data) == 4 && n != 0 {
			x.l.Magic = n
		}
		break
	}
	return x
}

// done is auto.Do, with what follows.
func done(c api.LcpConf, l api.Lcp, e api.Event, in, answer api.Ctl, tick int) told {
	x := told{l: l}
	x.l.A, x.out, x.done = auto.Do(itsSettings(c, l.Magic), l.A, e, in, answer, tick)
	return follows(c, x, tick)
}

// doing is what Do should tell.
func doing(c api.LcpConf, l api.Lcp, e api.Event, tick int) told {
	if !allMayBe(c, l, tick) || e != api.Up && e != api.Down && e != api.Open && e != api.Close {
		return told{l: l}
	}
	return done(c, l, e, api.Ctl{}, api.Ctl{}, tick)
}

// coming is what Packet should tell.
func coming(c api.LcpConf, l api.Lcp, in api.Ctl, tick int) told {
	if !allMayBe(c, l, tick) || !isFrom(in.Code, 0, 255) || !isFrom(in.ID, 0, 255) || len(in.Data) > 1488 {
		return told{l: l}
	}
	none := api.Ctl{}
	switch in.Code {
	case 1, 2, 3, 4, 5, 6, 7:
		return agreeing(c, l, in, tick)
	case 8:
		if l.A.State != 9 || len(in.Data) < 2 {
			return told{l: l}
		}
		if in.Data[0] == 0xc0 && in.Data[1] == 0x21 {
			return done(c, l, api.RXJMin, none, none, tick)
		}
		return done(c, l, api.RXJPlus, none, none, tick)
	case 9, 10:
		if l.A.State != 9 || len(in.Data) < 4 || string(in.Data[:4]) == string(four(l.Magic)) {
			return told{l: l}
		}
		if in.Code == 9 {
			return done(c, l, api.RXR, in, api.Ctl{Code: 10, ID: in.ID, Data: append(four(l.Magic), in.Data[4:]...)}, tick)
		}
		l.Pending = 0
		return follows(c, told{l: l}, tick)
	case 11:
		return told{l: l}
	}
	return done(c, l, api.RUC, in, none, tick)
}

// agreeing is what a packet of an automaton's code should do.
func agreeing(c api.LcpConf, l api.Lcp, in api.Ctl, tick int) told {
	x := told{l: l}
	x.l.A, x.out, x.done, _ = auto.Packet(itsSettings(c, l.Magic), l.A, in, tick)
	if slices.ContainsFunc(x.out, func(p api.Ctl) bool { return p.Code == 2 }) {
		x.l.Peer, x.l.MRU = 0, 1492
		options, _ := opts.Decode(in.Data)
		for _, o := range slices.Backward(options) {
			if n, there := opts.Number(o); there && o.Type == 5 {
				x.l.Peer = n
			} else if there && o.Type == 1 {
				x.l.MRU = n
			}
		}
	}
	return follows(c, x, tick)
}

// rejecting is what Reject should tell.
func rejecting(c api.LcpConf, l api.Lcp, p api.PPP) told {
	x := told{l: l}
	if !allMayBe(c, l, 0) || l.A.State != 9 {
		return x
	}
	id := l.A.ID + 1
	if id == 256 {
		id = 0
	}
	if none, err := cp.Protocol(p, id); err == api.OK {
		x.l.A.ID, x.out = id, []api.Ctl{none}
	}
	return x
}

// ticking is what Tick should tell.
func ticking(c api.LcpConf, l api.Lcp, tick int) told {
	x := told{l: l}
	if !allMayBe(c, l, tick) {
		return x
	}
	x.l.A, x.out, x.done = auto.Timeout(itsSettings(c, l.Magic), l.A, tick)
	x = follows(c, x, tick)
	if x.l.A.State != 9 || x.l.NextEcho == 0 || x.l.NextEcho > tick {
		return x
	}
	if x.l.Pending >= c.Lost {
		first := done(c, x.l, api.Down, api.Ctl{}, api.Ctl{}, tick)
		second := done(c, first.l, api.Close, api.Ctl{}, api.Ctl{}, tick)
		return told{second.l, slices.Concat(x.out, first.out, second.out), slices.Concat(x.done, first.done, second.done)}
	}
	if x.l.A.ID++; x.l.A.ID == 256 {
		x.l.A.ID = 0
	}
	x.out = append(x.out, api.Ctl{Code: 9, ID: x.l.A.ID, Data: four(x.l.Magic)})
	x.l.Pending, x.l.NextEcho = x.l.Pending+1, tick+c.Echo
	return x
}

// given are a call's arguments, and which call it is.
type given struct {
	kind int
	c    api.LcpConf
	l    api.Lcp
	e    api.Event
	in   api.Ctl
	p    api.PPP
	tick int
}

// The kinds of calls.
const (
	callDo = iota
	callPacket
	callReject
	callTick
)

// call is what the call tells, want what it should.
func (g given) call() told {
	var x told
	switch g.kind {
	case callDo:
		x.l, x.out, x.done = lcp.Do(g.c, g.l, g.e, g.tick)
	case callPacket:
		x.l, x.out, x.done = lcp.Packet(g.c, g.l, g.in, g.tick)
	case callReject:
		x.l, x.out = lcp.Reject(g.c, g.l, g.p)
	case callTick:
		x.l, x.out, x.done = lcp.Tick(g.c, g.l, g.tick)
	}
	return x
}

func (g given) want() told {
	switch g.kind {
	case callDo:
		return doing(g.c, g.l, g.e, g.tick)
	case callPacket:
		return coming(g.c, g.l, g.in, g.tick)
	case callReject:
		return rejecting(g.c, g.l, g.p)
	}
	return ticking(g.c, g.l, g.tick)
}

// copied are the same arguments on other memory.
func (g given) copied() given {
	g.l, g.in, g.p.Info = copied(g.l), copiedCtl(g.in), bytes.Clone(g.p.Info)
	return g
}

func (g given) same(h given) bool {
	return same(g.l, h.l) && samePacket(g.in, h.in) && bytes.Equal(g.p.Info, h.p.Info)
}

// tells fails where the call tells something else than the second reading, changes what it was given, or makes one that may not be; it is what the call tells.
func tells(t *testing.T, g given) told {
	t.Helper()
	h := g.copied()
	got, want := g.call(), h.want()
	if !got.same(want) {
		t.Fatalf("of %+v:\n%+v, not\n%+v", h, got, want)
	}
	if !g.same(h) {
		t.Fatalf("%+v was changed to %+v", h, g)
	}
	if settingsMayBe(h.c) && linkMayBe(h.c, h.l) && (lcp.Check(h.c, got.l) != api.OK || !linkMayBe(h.c, got.l)) {
		t.Fatalf("of %+v comes one that may not be: %+v", h, got.l)
	}
	return got
}

// does, comesIn, rejects and ticks fail likewise, each of one kind of call.
func does(t *testing.T, c api.LcpConf, l api.Lcp, e api.Event, tick int) told {
	t.Helper()
	return tells(t, given{kind: callDo, c: c, l: l, e: e, tick: tick})
}

func comesIn(t *testing.T, c api.LcpConf, l api.Lcp, in api.Ctl, tick int) told {
	t.Helper()
	return tells(t, given{kind: callPacket, c: c, l: l, in: in, tick: tick})
}

func rejects(t *testing.T, c api.LcpConf, l api.Lcp, p api.PPP) told {
	t.Helper()
	return tells(t, given{kind: callReject, c: c, l: l, p: p})
}

func ticks(t *testing.T, c api.LcpConf, l api.Lcp, tick int) told {
	t.Helper()
	return tells(t, given{kind: callTick, c: c, l: l, tick: tick})
}

// is fails where what was told is not just that.
func (x told) is(t *testing.T, what string, l api.Lcp, out []api.Ctl, done ...api.Action) {
	t.Helper()
	if !x.same(told{l, out, done}) {
		t.Errorf("%s: %+v, %v, %v, not %+v, %v, %v", what, x.l, x.out, x.done, l, out, done)
	}
}

// nothing fails where something happened to the control.
func (x told) nothing(t *testing.T, what string, l api.Lcp) {
	t.Helper()
	x.is(t, what, l, nil)
}

// P17.1

// checks fails where Check tells something else than good, or than the second reading.
func checks(t *testing.T, c api.LcpConf, l api.Lcp, good bool) {
	t.Helper()
	if (settingsMayBe(c) && linkMayBe(c, l)) != good {
		t.Fatalf("%+v, %+v: the second reading tells %t", c, l, !good)
	}
	if err := lcp.Check(c, l); (err == api.OK) != good || !good && err != api.ErrLcp {
		t.Errorf("Check of %+v, %+v: %d", c, l, err)
	}
}

// setting is one of the settings, and numbers that it may be, and may not be.
type setting struct {
	set       func(c *api.LcpConf, n int)
	good, bad []int
}

// theSettings are all.
func theSettings() []setting {
	return []setting{
		{func(c *api.LcpConf, n int) { c.MRU = n }, []int{128, 129, 1000, 1491, 1492}, []int{0, 1, 127, 1493, 1500, 65535, 65536 + 1492}},
		{func(c *api.LcpConf, n int) { c.MaxConf = n }, []int{1, 2, 999, 1000}, []int{0, 1001}},
		{func(c *api.LcpConf, n int) { c.MaxTerm = n }, []int{1, 2, 999, 1000}, []int{0, 1001}},
		{func(c *api.LcpConf, n int) { c.MaxFail = n }, []int{0, 1, 999, 1000}, []int{1001}},
		{func(c *api.LcpConf, n int) { c.Wait = n }, []int{1, 2, mostWait - 1, mostWait}, []int{0, mostWait + 1}},
		{func(c *api.LcpConf, n int) { c.Echo = n }, []int{0, 1, mostEcho - 1, mostEcho}, []int{mostEcho + 1}},
		{func(c *api.LcpConf, n int) { c.Lost = n }, []int{1, 2, 999, 1000}, []int{0, 1001}},
	}
}

// wrongConfs are settings that may not be.
func wrongConfs() []api.LcpConf {
	l := []api.LcpConf{{}}
	for _, x := range theSettings() {
		for _, n := range append(x.bad, far...) {
			c := conf()
			x.set(&c, n)
			l = append(l, c)
		}
	}
	return l
}

func TestCheckOfSettings(t *testing.T) {
	for _, x := range theSettings() {
		for _, n := range x.good {
			c := conf()
			x.set(&c, n)
			for _, s := range states() {
				l := at(s)
				l.NextEcho = 0
				checks(t, c, l, true)
			}
			if l, err := lcp.New(c, own); err != api.OK || lcp.Check(c, l) != api.OK {
				t.Errorf("New under %+v: %d", c, err)
			}
		}
	}
	for _, c := range wrongConfs() {
		checks(t, c, at(api.Initial), false)
		checks(t, c, at(api.ReqSent), false)
		checks(t, c, api.Lcp{A: api.Auto{State: api.Opened}, Magic: 1, MRU: 1492}, false)
		if l, err := lcp.New(c, own); err != api.ErrLcp || !same(l, api.Lcp{}) {
			t.Errorf("New under %+v: %+v, %d", c, l, err)
		}
	}
}

// wrongLinks are controls that may not be, in each state.
func wrongLinks() []api.Lcp {
	var l []api.Lcp
	for _, s := range states() {
		for _, x := range []struct {
			set func(l *api.Lcp, n int)
			bad []int
		}{
			{func(l *api.Lcp, n int) { l.Magic = n }, []int{0, mostMagic + 1}},
			{func(l *api.Lcp, n int) { l.Peer = n }, []int{mostMagic + 1}},
			{func(l *api.Lcp, n int) { l.MRU = n }, []int{0, 127, 1493, 1500}},
			{func(l *api.Lcp, n int) { l.Pending = n }, []int{1001}},
			{func(l *api.Lcp, n int) { l.NextEcho = n }, []int{mostNext + 1}},
			{func(l *api.Lcp, n int) { l.A.ID = n }, []int{256}},
			{func(l *api.Lcp, n int) { l.A.Req = n }, []int{256}},
			{func(l *api.Lcp, n int) { l.A.Count = n }, []int{1001}},
			{func(l *api.Lcp, n int) { l.A.Naks = n }, []int{1001}},
			{func(l *api.Lcp, n int) { l.A.Timer = n }, []int{mostNext + 1}},
			{func(l *api.Lcp, n int) { l.A.State = api.State(n) }, []int{10}},
			{func(l *api.Lcp, n int) { l.A.Ask[1].Type = n }, []int{256}},
		} {
			for _, n := range append(x.bad, far...) {
				bad := at(s)
				x.set(&bad, n)
				l = append(l, bad)
			}
		}
		long, many, timed := at(s), at(s), at(s)
		long.A.Ask = []api.Option{{Type: 5, Data: make([]byte, 254)}}
		many.A.Ask = make([]api.Option, 65)
		timed.A.Timer = 1 - min(1, timed.A.Timer)
		l = append(l, long, many, timed)
		if s != api.Opened {
			for _, next := range []int{1, 60, mostNext} {
				bad := at(s)
				bad.NextEcho = next
				l = append(l, bad)
			}
		}
	}
	return append(l, api.Lcp{})
}

func TestCheckOfControls(t *testing.T) {
	for _, l := range wrongLinks() {
		checks(t, conf(), l, false)
	}
	for _, s := range states() {
		for _, x := range []struct {
			set  func(l *api.Lcp, n int)
			good []int
		}{
			{func(l *api.Lcp, n int) { l.Magic = n }, []int{1, 2, 3, 1 << 31, mostMagic - 1, mostMagic}},
			{func(l *api.Lcp, n int) { l.Peer = n }, []int{0, 1, own, mostMagic}},
			{func(l *api.Lcp, n int) { l.MRU = n }, []int{128, 129, 1491, 1492}},
			{func(l *api.Lcp, n int) { l.Pending = n }, []int{0, 1, 3, 4, 999, 1000}},
			{func(l *api.Lcp, n int) { l.A.ID = n }, []int{0, 255}},
			{func(l *api.Lcp, n int) { l.A.Count = n }, []int{0, 1000}},
			{func(l *api.Lcp, n int) { l.A.Ask = asked()[:n] }, []int{0, 1, 2}},
		} {
			for _, n := range x.good {
				l := at(s)
				x.set(&l, n)
				checks(t, conf(), l, true)
			}
		}
	}
}

func TestCheckOfTheNextEcho(t *testing.T) {
	for _, every := range []int{0, 1, 20, mostEcho} {
		c := conf()
		c.Echo = every
		for _, s := range states() {
			for _, next := range append([]int{0, 1, 2, 60, mostTick, mostTick + 1, mostNext - 1, mostNext, mostNext + 1}, far...) {
				l := at(s)
				l.NextEcho = next
				checks(t, c, l, next == 0 || s == api.Opened && every > 0 && next >= 1 && next <= mostNext)
			}
		}
	}
}

func TestNew(t *testing.T) {
	for _, mru := range []int{128, 255, 256, 1400, 1492} {
		for _, magic := range []int{1, 2, 7, 255, 256, own, 1 << 31, mostMagic - 1, mostMagic} {
			c := conf()
			c.MRU = mru
			l, err := lcp.New(c, magic)
			want := api.Lcp{A: api.Auto{Ask: []api.Option{opt(1, byte(mru>>8), byte(mru)), opt(5, four(magic)...)}}, Magic: magic, MRU: 1492}
			if err != api.OK || !same(l, want) {
				t.Errorf("%d, %d: %+v, %d", mru, magic, l, err)
			}
			checks(t, c, l, true)
		}
	}
	for _, magic := range append([]int{0, mostMagic + 1, mostMagic + 8}, far...) {
		if l, err := lcp.New(conf(), magic); err != api.ErrLcp || !same(l, api.Lcp{}) {
			t.Errorf("%d: %+v, %d", magic, l, err)
		}
	}
}

func TestTheExample(t *testing.T) {
	l, err := lcp.New(api.LcpConf{MRU: 1492, MaxConf: 1, MaxTerm: 1, Wait: 1, Lost: 1}, 7)
	if err != api.OK || !same(l, api.Lcp{A: api.Auto{Ask: []api.Option{opt(1, 5, 212), opt(5, 0, 0, 0, 7)}}, Magic: 7, MRU: 1492}) {
		t.Error(l, err)
	}
}

func TestAuto(t *testing.T) {
	for _, x := range []struct{ magic, good int }{{1, 2}, {2, 3}, {3, 2}, {4, 5}, {5, 4}, {7, 6}, {0, 1}, {-1, -2}, {-2, -1}, {own, own + 1}, {mostMagic, mostMagic - 1}, {mostMagic - 1, mostMagic}, {mostMagic + 1, mostMagic + 2}, {math.MaxInt, math.MaxInt - 1}, {math.MinInt, math.MinInt + 1}} {
		for _, c := range append(wrongConfs(), conf(), api.LcpConf{MRU: 128, MaxConf: 4, MaxTerm: 3, MaxFail: 2, Wait: 1, Echo: 9, Lost: 8}) {
			got := lcp.Auto(c, x.magic)
			rules := []api.Rule{{Type: 1, Size: 2, Kind: api.RuleSpan, Low: 128, High: 1492, Good: 1492}, {Type: 5, Size: 4, Kind: api.RuleNot, Low: x.magic, Good: x.good}}
			if !slices.Equal(got.Rules, rules) || got.MaxConf != c.MaxConf || got.MaxTerm != c.MaxTerm || got.MaxFail != c.MaxFail || got.Wait != c.Wait {
				t.Errorf("%+v, %d: %+v", c, x.magic, got)
			}
			if want := itsSettings(c, x.magic); !slices.Equal(got.Rules, want.Rules) {
				t.Errorf("%d: the second reading tells %+v", x.magic, want)
			}
			if settingsMayBe(c) && isFrom(x.magic, 1, mostMagic) && auto.Check(api.Auto{}, got) != api.OK {
				t.Errorf("%+v, %d: they may not be", c, x.magic)
			}
		}
	}
}

// P17.2

// wrongTicks are ticks that there are not.
func wrongTicks() []int {
	return append([]int{-1, mostTick + 1, mostNext}, far...)
}

func TestDoOfNone(t *testing.T) {
	for _, e := range []api.Event{api.Up, api.Down, api.Open, api.Close} {
		for _, l := range wrongLinks() {
			does(t, conf(), l, e, 100).nothing(t, "a control that may not be", l)
		}
		for _, s := range states() {
			for _, c := range wrongConfs() {
				does(t, c, at(s), e, 100).nothing(t, "settings that may not be", at(s))
			}
			for _, tick := range wrongTicks() {
				does(t, conf(), at(s), e, tick).nothing(t, "a tick that there is not", at(s))
			}
		}
	}
	for _, s := range states() {
		for _, e := range append([]int{0, 5, 6, 7, 8, 9, 10, 11, 12, 13, 14, 15, 16, 17, 256, 1<<32 + 3}, far...) {
			does(t, conf(), at(s), api.Event(e), 100).nothing(t, "another event", at(s))
		}
	}
}

func TestDoByHand(t *testing.T) {
	request := []byte{1, 4, 5, 212, 5, 6, 1, 2, 3, 4}
	for i, x := range []struct {
		from   api.State
		e      api.Event
		change func(l *api.Lcp)
		out    []api.Ctl
		done   []api.Action
	}{
		{api.Initial, api.Up, func(l *api.Lcp) { l.A.State = api.Closed }, nil, nil},
		{api.Initial, api.Open, func(l *api.Lcp) { l.A.State = api.Starting }, nil, []api.Action{api.TLS}},
		{api.Initial, api.Close, func(l *api.Lcp) {}, nil, nil},
		{api.Initial, api.Down, func(l *api.Lcp) {}, nil, nil},
		{api.Starting, api.Up, func(l *api.Lcp) {
			l.A.State, l.A.ID, l.A.Req, l.A.Count, l.A.Timer = api.ReqSent, 21, 21, 9, 103
		}, []api.Ctl{ctl(1, 21, request...)}, []api.Action{api.IRC, api.SCR}},
		{api.Starting, api.Close, func(l *api.Lcp) { l.A.State = api.Initial }, nil, []api.Action{api.TLF}},
		{api.Opened, api.Down, func(l *api.Lcp) {
			l.A.State, l.Pending, l.NextEcho = api.Starting, 0, 0
		}, nil, []api.Action{api.TLD}},
		{api.Opened, api.Close, func(l *api.Lcp) {
			l.A.State, l.A.ID, l.A.Count, l.A.Timer, l.Pending, l.NextEcho = api.Closing, 21, 1, 103, 0, 0
		}, []api.Ctl{ctl(5, 21)}, []api.Action{api.TLD, api.IRC, api.STR}},
		{api.Opened, api.Open, func(l *api.Lcp) {}, nil, nil},
		{api.Opened, api.Up, func(l *api.Lcp) {}, nil, nil},
		{api.AckSent, api.Close, func(l *api.Lcp) {
			l.A.State, l.A.ID, l.A.Count, l.A.Timer = api.Closing, 21, 1, 103
		}, []api.Ctl{ctl(5, 21)}, []api.Action{api.IRC, api.STR}},
		{api.Closing, api.Down, func(l *api.Lcp) { l.A.State, l.A.Timer = api.Initial, 0 }, nil, nil},
	} {
		want := at(x.from)
		x.change(&want)
		l, out, done := lcp.Do(conf(), at(x.from), x.e, 100)
		if got := (told{l, out, done}); !got.same(told{want, x.out, x.done}) {
			t.Errorf("%d: %+v, not %+v", i, got, want)
		}
	}
}

// links gives controls in the state, with their fields at and about their edges.
func links(s api.State, see func(api.Lcp)) {
	timers, nexts := []int{0}, []int{0}
	if fsm.Timed(s) {
		timers = []int{1, 50, mostNext}
	}
	if s == api.Opened {
		nexts = []int{0, 1, 50, 51, mostTick, mostNext}
	}
	for i, id := range []int{0, 1, 127, 254, 255} {
		for j, pending := range []int{0, 1, 2, 3, 4, 999, 1000} {
			for _, timer := range timers {
				for _, next := range nexts {
					l := at(s)
					l.A.ID, l.A.Timer, l.A.Naks, l.A.Count = id, timer, []int{0, 4, 5, 1000}[j%4], []int{0, 1, 999, 1000}[(i+j)%4]
					l.Magic, l.Pending, l.NextEcho = []int{1, own, mostMagic}[(i+2*j)%3], pending, next
					l.A.Ask = [][]api.Option{nil, asked(), {opt(5, 0, 0, 0, 0)}, {opt(5, 1, 2, 3)}, {opt(5, 7, 7, 7, 7), opt(5, 1, 1, 1, 1)}, {opt(1), opt(5), opt(5, 2, 2, 2, 2)}}[(i+3*j)%6]
					see(l)
				}
			}
		}
	}
}

func TestDo(t *testing.T) {
	for _, s := range states() {
		links(s, func(l api.Lcp) {
			for e := range 18 {
				for _, tick := range []int{0, 1, 50, mostTick} {
					does(t, conf(), l, api.Event(e), tick)
				}
			}
		})
	}
}

// What follows.

func TestWhatIsAskedBecomesTheMagicNumber(t *testing.T) {
	for _, x := range []struct {
		ask   []api.Option
		magic int
	}{
		{asked(), own},
		{nil, 99},
		{[]api.Option{opt(1, 5, 212)}, 99},
		{[]api.Option{opt(5, 0, 0, 0, 0)}, 99},
		{[]api.Option{opt(5, 0, 0, 0, 1)}, 1},
		{[]api.Option{opt(5, 255, 255, 255, 255)}, mostMagic},
		{[]api.Option{opt(5, 128, 0, 0, 0)}, 1 << 31},
		{[]api.Option{opt(5)}, 99},
		{[]api.Option{opt(5, 1)}, 99},
		{[]api.Option{opt(5, 1, 2)}, 99},
		{[]api.Option{opt(5, 1, 2, 3)}, 99},
		{[]api.Option{opt(5, 1, 2, 3, 4, 5)}, 99},
		{[]api.Option{opt(5, 1, 2, 3), opt(5, 1, 2, 3, 4)}, 99},
		{[]api.Option{opt(5, 0, 0, 0, 0), opt(5, 1, 2, 3, 4)}, 99},
		{[]api.Option{opt(4, 9, 9, 9, 9), opt(6, 9, 9, 9, 9), opt(5, 1, 2, 3, 4), opt(5, 8, 8, 8, 8)}, own},
	} {
		for _, s := range states() {
			l := at(s)
			l.A.Ask, l.Magic, l.Pending = x.ask, 99, 1
			want := told{l: l}
			want.l.A, want.out, want.done = auto.Do(itsSettings(conf(), 99), l.A, api.Open, api.Ctl{}, api.Ctl{}, 100)
			want.l.Magic = x.magic
			does(t, conf(), l, api.Open, 100).is(t, "Open", want.l, want.out, want.done...)
		}
	}
}

func TestUpAndDown(t *testing.T) {
	for _, every := range []int{0, 1, 20, mostEcho} {
		for _, tick := range []int{0, 1, 100, mostTick} {
			c := conf()
			c.Echo = every
			next := 0
			if every != 0 {
				next = tick + every
			}
			// Up, by an acknowledgement of what was asked.
			l := at(api.AckSent)
			got := comesIn(t, c, l, ctl(2, 17, raw(asked())...), tick)
			l.A.State, l.A.Timer, l.A.Count, l.Pending, l.NextEcho = api.Opened, 0, 10, 0, next
			got.is(t, "an acknowledgement", l, nil, api.IRC, api.TLU)
			// Up, by a request that is granted.
			l = at(api.AckRcvd)
			got = comesIn(t, c, l, ctl(1, 9, raw([]api.Option{opt(1, 4, 0), opt(5, 0, 0, 0, 9)})...), tick)
			l.A.State, l.A.Timer, l.A.Naks, l.Pending, l.NextEcho, l.Peer, l.MRU = api.Opened, 0, 0, 0, next, 9, 1024
			got.is(t, "a request", l, []api.Ctl{ctl(2, 9, 1, 4, 4, 0, 5, 6, 0, 0, 0, 9)}, api.SCA, api.TLU)
			// Down, by what ends the link.
			l = got.l
			l.Pending = 2
			got = comesIn(t, c, l, ctl(5, 44), tick)
			l.A.State, l.A.Count, l.A.Timer, l.Pending, l.NextEcho = api.Stopping, 0, tick+3, 0, 0
			got.is(t, "an end", l, []api.Ctl{ctl(6, 44)}, api.TLD, api.ZRC, api.STA)
		}
	}
}

// P17.3

// anyPackets are one packet of each code that there is, of lengths of each kind.
func anyPackets() []api.Ctl {
	var l []api.Ctl
	for code := range 256 {
		for _, data := range [][]byte{nil, {1}, {0xc0, 0x21}, {0x80, 0x21}, {1, 2, 3}, four(own), four(own + 1), echo(peer, 1, 2), raw(asked()), {1, 4, 5, 220}, make([]byte, 1488)} {
			l = append(l, ctl(code, 17, data...))
		}
	}
	return l
}

func TestPackets(t *testing.T) {
	for _, s := range states() {
		for _, in := range anyPackets() {
			comesIn(t, conf(), at(s), in, 100)
		}
	}
}

func TestPacketOfNone(t *testing.T) {
	some := []api.Ctl{ctl(1, 5, 1, 4, 4, 0), ctl(2, 17, raw(asked())...), ctl(5, 5), ctl(6, 5), ctl(7, 5, 1), ctl(8, 5, 0xc0, 0x21), ctl(9, 5, four(peer)...), ctl(10, 5, four(peer)...), ctl(11, 5), ctl(12, 5), ctl(0, 5)}
	for _, in := range some {
		for _, l := range wrongLinks() {
			comesIn(t, conf(), l, in, 100).nothing(t, "a control that may not be", l)
		}
		for _, s := range states() {
			for _, c := range wrongConfs() {
				comesIn(t, c, at(s), in, 100).nothing(t, "settings that may not be", at(s))
			}
			for _, tick := range wrongTicks() {
				comesIn(t, conf(), at(s), in, tick).nothing(t, "a tick that there is not", at(s))
			}
			for _, id := range append([]int{256, 261, 273}, far...) {
				comesIn(t, conf(), at(s), api.Ctl{Code: in.Code, ID: id, Data: in.Data}, 100).nothing(t, "a number that there is not", at(s))
			}
			for _, n := range []int{1489, 1500, 65536} {
				comesIn(t, conf(), at(s), api.Ctl{Code: in.Code, ID: 5, Data: append(bytes.Clone(in.Data), make([]byte, n-len(in.Data))...)}, 100).nothing(t, "too many bytes", at(s))
			}
			for _, code := range append([]int{256, 256 + in.Code, 1<<32 + in.Code}, far...) {
				comesIn(t, conf(), at(s), api.Ctl{Code: code, ID: 5, Data: in.Data}, 100).nothing(t, "a code that there is not", at(s))
			}
		}
	}
}

// options are rows of options that a peer may ask for, and what is told of it then: its magic number and how much it takes.
func options() []struct {
	l          []api.Option
	magic, mru int
	granted    bool
} {
	return []struct {
		l          []api.Option
		magic, mru int
		granted    bool
	}{
		{nil, 0, 1492, true},
		{[]api.Option{opt(1, 4, 0)}, 0, 1024, true},
		{[]api.Option{opt(1, 0, 128)}, 0, 128, true},
		{[]api.Option{opt(1, 5, 212)}, 0, 1492, true},
		{[]api.Option{opt(5, 9, 8, 7, 6)}, 0x09080706, 1492, true},
		{[]api.Option{opt(5, 255, 255, 255, 255)}, mostMagic, 1492, true},
		{[]api.Option{opt(5, 0, 0, 0, 0)}, 0, 1492, true},
		{[]api.Option{opt(5, 1, 2, 3, 5), opt(1, 2, 0)}, own + 1, 512, true},
		{[]api.Option{opt(1, 0, 127)}, 0, 0, false},
		{[]api.Option{opt(1, 5, 213)}, 0, 0, false},
		{[]api.Option{opt(5, 1, 2, 3, 4)}, 0, 0, false},
		{[]api.Option{opt(5, 1, 2, 3)}, 0, 0, false},
		{[]api.Option{opt(5, 1, 2, 3, 5), opt(5, 9, 9, 9, 9)}, 0, 0, false},
		{[]api.Option{opt(1, 4, 0), opt(1, 4, 0)}, 0, 0, false},
		{[]api.Option{opt(1, 4, 0), opt(7)}, 0, 0, false},
		{[]api.Option{opt(2, 0, 0, 0, 0)}, 0, 0, false},
	}
}

func TestRequests(t *testing.T) {
	for _, s := range states() {
		for i, x := range options() {
			l := at(s)
			got := comesIn(t, conf(), l, ctl(1, 99, raw(x.l)...), 100)
			acked := slices.ContainsFunc(got.out, func(p api.Ctl) bool { return p.Code == api.ConfAck })
			if acked != (x.granted && (s == api.Stopped || s >= api.ReqSent)) {
				t.Errorf("%d in %d: %+v", i, s, got)
			}
			wanted := l
			if acked {
				wanted.Peer, wanted.MRU = x.magic, x.mru
			}
			if got.l.Peer != wanted.Peer || got.l.MRU != wanted.MRU || got.l.Magic != own {
				t.Errorf("%d in %d: %+v", i, s, got)
			}
		}
	}
}

func TestRequestByHand(t *testing.T) {
	// One's own number is none that the peer may have, and what is below 128 is not taken.
	l := at(api.ReqSent)
	got := comesIn(t, conf(), l, ctl(1, 200, 5, 6, 1, 2, 3, 4, 1, 4, 0, 100), 100)
	l.A.Naks = 3
	got.is(t, "both are not taken", l, []api.Ctl{ctl(3, 200, 5, 6, 1, 2, 3, 5, 1, 4, 5, 212)}, api.SCN)
	got = comesIn(t, conf(), got.l, ctl(1, 201, 5, 6, 1, 2, 3, 5, 1, 4, 5, 212), 100)
	l.A.State, l.A.Naks, l.Peer, l.MRU = api.AckSent, 0, own+1, 1492
	got.is(t, "both are taken", l, []api.Ctl{ctl(2, 201, 5, 6, 1, 2, 3, 5, 1, 4, 5, 212)}, api.SCA)
	// An open link that is asked anew goes down, and takes over what is asked.
	l = at(api.Opened)
	got = comesIn(t, conf(), l, ctl(1, 7, 1, 4, 0, 128), 100)
	l.A.State, l.A.ID, l.A.Req, l.A.Count, l.A.Timer, l.A.Naks = api.AckSent, 21, 21, 5, 103, 0
	l.Peer, l.MRU, l.Pending, l.NextEcho = 0, 128, 0, 0
	got.is(t, "asked anew", l, []api.Ctl{ctl(1, 21, raw(asked())...), ctl(2, 7, 1, 4, 0, 128)}, api.TLD, api.SCR, api.SCA)
}

func TestAnswersTeach(t *testing.T) {
	for _, x := range []struct {
		code  int
		data  []byte
		magic int
		ask   []api.Option
	}{
		{3, []byte{5, 6, 7, 7, 7, 7}, learnt, []api.Option{opt(1, 5, 212), opt(5, 7, 7, 7, 7)}},
		{3, []byte{5, 6, 0, 0, 0, 0}, own, []api.Option{opt(1, 5, 212), opt(5, 0, 0, 0, 0)}},
		{3, []byte{5, 5, 7, 7, 7}, own, []api.Option{opt(1, 5, 212), opt(5, 7, 7, 7)}},
		{3, []byte{1, 4, 0, 200}, own, []api.Option{opt(1, 0, 200), opt(5, 1, 2, 3, 4)}},
		{4, []byte{5, 6, 1, 2, 3, 4}, own, []api.Option{opt(1, 5, 212)}},
		{4, []byte{1, 4, 5, 212}, own, []api.Option{opt(5, 1, 2, 3, 4)}},
		{4, []byte{1, 4, 5, 212, 5, 6, 1, 2, 3, 4}, own, nil},
	} {
		for _, s := range states() {
			l := at(s)
			got := comesIn(t, conf(), l, ctl(x.code, 17, x.data...), 100)
			if s < api.Closed {
				got.nothing(t, "it cannot come", l)
				continue
			}
			if got.l.Magic != x.magic || !opts.Same(got.l.A.Ask, x.ask) || got.l.Peer != peer || got.l.MRU != 1400 {
				t.Errorf("%d of %v in %d: %+v", x.code, x.data, s, got)
			}
			// The number that is learned is the one that echoes are told by, and that the peer may not have.
			asked := comesIn(t, conf(), got.l, ctl(1, 3, append([]byte{5, 6}, four(x.magic)...)...), 100)
			if slices.ContainsFunc(asked.out, func(p api.Ctl) bool { return p.Code == api.ConfAck }) {
				t.Errorf("%d of %v in %d: %+v", x.code, x.data, s, asked)
			}
		}
	}
}

func TestProtocolRejects(t *testing.T) {
	for _, s := range states() {
		for _, x := range []struct {
			data []byte
			e    api.Event
		}{
			{nil, api.NoEvent}, {[]byte{0xc0}, api.NoEvent}, {[]byte{0xc0, 0x21}, api.RXJMin}, {[]byte{0xc0, 0x21, 1, 2, 0, 4}, api.RXJMin},
			{[]byte{0x80, 0x21}, api.RXJPlus}, {[]byte{0xc0, 0x20}, api.RXJPlus}, {[]byte{0x21, 0xc0}, api.RXJPlus}, {[]byte{0, 0}, api.RXJPlus}, {append([]byte{0x00, 0x57}, make([]byte, 1486)...), api.RXJPlus},
		} {
			l := at(s)
			got := comesIn(t, conf(), l, ctl(8, 77, x.data...), 100)
			if s != api.Opened || x.e != api.RXJMin {
				got.nothing(t, "a Protocol-Reject", l)
				continue
			}
			l.A.State, l.A.ID, l.A.Count, l.A.Timer, l.Pending, l.NextEcho = api.Stopping, 21, 1, 103, 0, 0
			got.is(t, "of LCP", l, []api.Ctl{ctl(5, 21)}, api.TLD, api.IRC, api.STR)
		}
	}
}

func TestEchoes(t *testing.T) {
	for _, s := range states() {
		for _, x := range []struct {
			data []byte
			good bool
		}{
			{nil, false}, {[]byte{1}, false}, {[]byte{9, 9, 9}, false}, {four(own), false}, {echo(own, 1, 2, 3), false},
			{four(peer), true}, {four(0), true}, {four(own + 1), true}, {four(own ^ 1<<31), true}, {four(mostMagic), true}, {echo(peer, 1, 2, 3), true}, {append(four(peer), four(own)...), true}, {echo(0, make([]byte, 1484)...), true},
		} {
			for _, id := range []int{0, 7, 255} {
				l := at(s)
				got := comesIn(t, conf(), l, ctl(9, id, x.data...), 100)
				if !x.good || s != api.Opened {
					got.nothing(t, "an Echo-Request", l)
				} else {
					got.is(t, "an Echo-Request", l, []api.Ctl{ctl(10, id, echo(own, x.data[4:]...)...)}, api.SER)
				}
				for _, pending := range []int{0, 1, 3, 1000} {
					l.Pending = pending
					got = comesIn(t, conf(), l, ctl(10, id, x.data...), 100)
					if !x.good || s != api.Opened {
						got.nothing(t, "an Echo-Reply", l)
					} else {
						next := l
						next.Pending = 0
						got.is(t, "an Echo-Reply", next, nil)
					}
				}
			}
			comesIn(t, conf(), at(s), ctl(11, 7, x.data...), 100).nothing(t, "a Discard-Request", at(s))
		}
	}
}

func TestUnknownCodes(t *testing.T) {
	for _, s := range states() {
		for code := range 256 {
			if code >= 1 && code <= 11 {
				continue
			}
			l := at(s)
			got := comesIn(t, conf(), l, ctl(code, 44, 1, 2), 100)
			if s < api.Closed {
				got.nothing(t, "it cannot come", l)
				continue
			}
			l.A.ID = 21
			got.is(t, "a code that is none", l, []api.Ctl{ctl(7, 21, byte(code), 44, 0, 6, 1, 2)}, api.SCJ)
		}
	}
	l := at(api.Opened)
	got := comesIn(t, conf(), l, ctl(12, 44, make([]byte, 1488)...), 100)
	if len(got.out) != 1 || len(got.out[0].Data) != 1488 {
		t.Errorf("%+v", got)
	}
}

// P17.4

func TestReject(t *testing.T) {
	for _, s := range states() {
		for _, x := range []struct {
			p    api.PPP
			good bool
		}{
			{api.PPP{Proto: 0x8021, Info: []byte{1, 1, 0, 4}}, true},
			{api.PPP{Proto: 0x0021}, true},
			{api.PPP{Proto: 0xc021, Info: []byte{9}}, true},
			{api.PPP{Proto: 0x0057, Info: make([]byte, 1486)}, true},
			{api.PPP{Proto: 0x0057, Info: make([]byte, 1487)}, true},
			{api.PPP{Proto: 0x0057, Info: make([]byte, 1492)}, true},
			{api.PPP{Proto: 0x0057, Info: make([]byte, 1493)}, false},
			{api.PPP{}, false}, {api.PPP{Proto: 0x20}, false}, {api.PPP{Proto: 0x0121}, false}, {api.PPP{Proto: 0x10021}, false}, {api.PPP{Proto: -1}, false}, {api.PPP{Proto: math.MinInt}, false}, {api.PPP{Proto: math.MaxInt}, false},
		} {
			for _, id := range []struct{ last, next int }{{0, 1}, {20, 21}, {254, 255}, {255, 0}} {
				l := at(s)
				l.A.ID = id.last
				got := rejects(t, conf(), l, x.p)
				if s != api.Opened || !x.good {
					got.nothing(t, "nothing is told", l)
					continue
				}
				l.A.ID = id.next
				data := append([]byte{byte(x.p.Proto >> 8), byte(x.p.Proto)}, x.p.Info...)
				got.is(t, "a protocol that is none", l, []api.Ctl{ctl(8, id.next, data[:min(1488, len(data))]...)})
			}
		}
	}
}

func TestRejectOfNone(t *testing.T) {
	p := api.PPP{Proto: 0x8021, Info: []byte{1, 1, 0, 4}}
	for _, l := range wrongLinks() {
		rejects(t, conf(), l, p).nothing(t, "a control that may not be", l)
	}
	for _, c := range wrongConfs() {
		rejects(t, c, at(api.Opened), p).nothing(t, "settings that may not be", at(api.Opened))
	}
	// What is asked does not become the magic number by this.
	l := at(api.Opened)
	l.Magic = 99
	if got := rejects(t, conf(), l, p); got.l.Magic != 99 {
		t.Errorf("%+v", got)
	}
}

// P17.5

func TestTickOfTheAutomaton(t *testing.T) {
	for _, s := range states() {
		links(s, func(l api.Lcp) {
			for _, tick := range []int{0, 1, 2, 49, 50, 51, mostTick} {
				ticks(t, conf(), l, tick)
			}
		})
	}
	l := at(api.AckRcvd)
	ticks(t, conf(), l, 49).nothing(t, "ahead of its tick", l)
	got := ticks(t, conf(), l, 50)
	l.A.State, l.A.ID, l.A.Req, l.A.Count, l.A.Timer = api.ReqSent, 21, 21, 5, 53
	got.is(t, "once more", l, []api.Ctl{ctl(1, 21, raw(asked())...)}, api.SCR)
	l.A.Count = 0
	got = ticks(t, conf(), l, 53)
	l.A.State, l.A.Timer = api.Stopped, 0
	got.is(t, "given up", l, nil, api.TLF)
}

func TestTickSendsEchoes(t *testing.T) {
	for _, every := range []int{1, 20, mostEcho} {
		for _, tick := range []int{60, 61, 1000, mostTick} {
			for _, id := range []struct{ last, next int }{{0, 1}, {254, 255}, {255, 0}} {
				for pending := range 3 {
					c := conf()
					c.Echo = every
					l := at(api.Opened)
					l.A.ID, l.Pending = id.last, pending
					got := ticks(t, c, l, tick)
					l.A.ID, l.Pending, l.NextEcho = id.next, pending+1, tick+every
					got.is(t, "an echo", l, []api.Ctl{ctl(9, id.next, four(own)...)})
				}
			}
		}
	}
	for _, x := range []struct{ next, tick int }{{60, 59}, {60, 0}, {1, 0}, {mostTick, mostTick - 1}, {mostTick + 1, mostTick}, {mostNext, mostTick}, {0, 0}, {0, 60}, {0, mostTick}} {
		l := at(api.Opened)
		l.NextEcho, l.Pending = x.next, 3
		ticks(t, conf(), l, x.tick).nothing(t, "none is due", l)
	}
}

func TestTickEndsTheLink(t *testing.T) {
	for _, lost := range []int{1, 2, 3, 999, 1000} {
		c := conf()
		c.Lost = lost
		for _, pending := range []int{lost - 1, lost, min(lost+1, 1000), 1000} {
			l := at(api.Opened)
			l.Pending = pending
			got := ticks(t, c, l, 60)
			if pending < lost {
				l.A.ID, l.Pending, l.NextEcho = 21, pending+1, 80
				got.is(t, "the last echo", l, []api.Ctl{ctl(9, 21, four(own)...)})
			} else {
				l.A.State, l.Pending, l.NextEcho = api.Initial, 0, 0
				got.is(t, "too many were lost", l, nil, api.TLD, api.TLF)
			}
		}
	}
}

func TestTickOfNone(t *testing.T) {
	for _, l := range wrongLinks() {
		ticks(t, conf(), l, 100).nothing(t, "a control that may not be", l)
		ticks(t, conf(), l, mostTick).nothing(t, "a control that may not be", l)
	}
	for _, s := range states() {
		for _, c := range wrongConfs() {
			ticks(t, c, at(s), 100).nothing(t, "settings that may not be", at(s))
		}
		for _, tick := range wrongTicks() {
			ticks(t, conf(), at(s), tick).nothing(t, "a tick that there is not", at(s))
		}
	}
}

// P17.6

func TestNext(t *testing.T) {
	for _, x := range []struct{ timer, echo, next int }{
		{0, 0, 0}, {5, 0, 5}, {0, 5, 5}, {5, 6, 5}, {6, 5, 5}, {5, 5, 5}, {1, mostNext, 1}, {mostNext, 1, 1}, {0, 1, 1}, {1, 0, 1},
		{-5, 0, 0}, {0, -5, 0}, {-5, 3, -5}, {3, -5, -5}, {math.MinInt, math.MaxInt, math.MinInt}, {math.MaxInt, 0, math.MaxInt}, {0, math.MinInt, 0},
	} {
		l := api.Lcp{A: api.Auto{Timer: x.timer}, NextEcho: x.echo}
		if got := lcp.Next(l); got != x.next {
			t.Errorf("%d, %d: %d", x.timer, x.echo, got)
		}
	}
	for _, s := range states() {
		want := 0
		if fsm.Timed(s) {
			want = 50
		} else if s == api.Opened {
			want = 60
		}
		if got := lcp.Next(at(s)); got != want {
			t.Errorf("%d: %d", s, got)
		}
	}
}

func TestRejected(t *testing.T) {
	for _, x := range []struct {
		in    api.Ctl
		proto int
		there bool
	}{
		{ctl(8, 1, 0xc0, 0x21), 0xc021, true},
		{ctl(8, 1, 0x80, 0x21, 1, 2, 3), 0x8021, true},
		{ctl(8, 0, 0, 0), 0, true},
		{ctl(8, 255, 255, 255), 65535, true},
		{ctl(8, 255, 1, 0, 9), 256, true},
		{ctl(8, 1, 0xc0), 0, false},
		{ctl(8, 1), 0, false},
		{ctl(7, 1, 0xc0, 0x21), 0, false},
		{ctl(9, 1, 0xc0, 0x21), 0, false},
		{ctl(0, 1, 0xc0, 0x21), 0, false},
		{ctl(264, 1, 0xc0, 0x21), 0, false},
		{ctl(-8, 1, 0xc0, 0x21), 0, false},
		{ctl(8, -1, 0xc0, 0x21), 0xc021, true},
		{ctl(8, 1, append([]byte{0xc0, 0x21}, make([]byte, 70000)...)...), 0xc021, true},
	} {
		if proto, there := lcp.Rejected(x.in); proto != x.proto || there != x.there {
			t.Errorf("%v: %d, %t", x.in.Code, proto, there)
		}
	}
	// It is told of what Reject made.
	_, out := lcp.Reject(conf(), at(api.Opened), api.PPP{Proto: 0x8021, Info: make([]byte, 1492)})
	if proto, there := lcp.Rejected(out[0]); proto != 0x8021 || !there {
		t.Error(proto, there)
	}
}

func TestSame(t *testing.T) {
	l := at(api.Opened)
	if !lcp.Same(l, l) || !lcp.Same(l, copied(l)) || !lcp.Same(api.Lcp{}, api.Lcp{A: api.Auto{Ask: []api.Option{}}}) {
		t.Error("not the same")
	}
	for i, change := range []func(m *api.Lcp){
		func(m *api.Lcp) { m.A.State = 8 },
		func(m *api.Lcp) { m.A.ID++ },
		func(m *api.Lcp) { m.A.Req++ },
		func(m *api.Lcp) { m.A.Count++ },
		func(m *api.Lcp) { m.A.Timer++ },
		func(m *api.Lcp) { m.A.Naks++ },
		func(m *api.Lcp) { m.A.Ask = nil },
		func(m *api.Lcp) { m.A.Ask[1].Data[3]++ },
		func(m *api.Lcp) { m.A.Ask[1].Type++ },
		func(m *api.Lcp) { m.Magic++ },
		func(m *api.Lcp) { m.Peer++ },
		func(m *api.Lcp) { m.MRU++ },
		func(m *api.Lcp) { m.Pending++ },
		func(m *api.Lcp) { m.NextEcho++ },
		func(m *api.Lcp) { m.Magic, m.Peer = m.Peer, m.Magic },
	} {
		m := copied(l)
		change(&m)
		if lcp.Same(l, m) || lcp.Same(m, l) || !lcp.Same(m, copied(m)) {
			t.Errorf("change %d", i)
		}
	}
	for _, m := range wrongLinks() { // also of those that may not be
		if !lcp.Same(m, copied(m)) || lcp.Same(m, l) {
			t.Errorf("%+v", m)
		}
	}
}

// P17.7, and all calls, one behind the other.

// randomPacket is one, such as it may come to the control.
func randomPacket(rnd *rand.Rand, l api.Lcp) api.Ctl {
	in := api.Ctl{Code: rnd.Intn(13), ID: l.A.Req}
	if in.Code == 12 || rnd.Intn(6) == 0 {
		in.Code = []int{1, 2, 9, 10, rnd.Intn(256)}[rnd.Intn(5)]
	}
	if in.Code > 4 || rnd.Intn(6) == 0 {
		in.ID = rnd.Intn(256)
	}
	switch rnd.Intn(9) {
	case 0, 1:
		in.Data = raw(l.A.Ask)
	case 2:
		for _, o := range l.A.Ask {
			if rnd.Intn(2) == 0 {
				in.Data = append(in.Data, raw([]api.Option{o})...)
			}
		}
	case 3:
		in.Data = []byte{1, 4, byte(rnd.Intn(8)), byte(rnd.Intn(256))}
	case 4:
		in.Data = append([]byte{5, 6}, four(l.Magic+rnd.Intn(3)-1)...)
	case 5:
		in.Data = append([]byte{1, 4, 4, 0, 5, 6}, four(rnd.Intn(3)*peer)...)
	case 6:
		in.Data = echo(l.Magic+rnd.Intn(2), make([]byte, rnd.Intn(3))...)
	case 7:
		in.Data = []byte{[]byte{0xc0, 0x80, 0}[rnd.Intn(3)], 0x21, 1, 2}[:rnd.Intn(5)]
	default:
		in.Data = make([]byte, rnd.Intn(12))
		rnd.Read(in.Data)
	}
	return in
}

// randomCall is any, of the control at that tick.
func randomCall(rnd *rand.Rand, c api.LcpConf, l api.Lcp, tick int) given {
	g := given{kind: []int{callDo, callPacket, callPacket, callPacket, callPacket, callReject, callTick, callTick}[rnd.Intn(8)], c: c, l: l, tick: tick}
	switch g.kind {
	case callDo:
		g.e = []api.Event{api.Up, api.Up, api.Open, api.Open, api.Down, api.Close, api.Event(rnd.Intn(18))}[rnd.Intn(7)]
	case callPacket:
		g.in = randomPacket(rnd, l)
	case callReject:
		g.p = api.PPP{Proto: []int{0x8021, 0x0021, 0xc021, rnd.Intn(70000)}[rnd.Intn(4)], Info: make([]byte, rnd.Intn(9))}
	}
	return g
}

// calmCall is one of those by which a link comes up, and goes on.
func calmCall(rnd *rand.Rand, c api.LcpConf, l api.Lcp, tick int) given {
	g := given{kind: callPacket, c: c, l: l, tick: tick}
	switch {
	case l.A.State < api.ReqSent:
		g.kind, g.e = callDo, []api.Event{api.Up, api.Open}[rnd.Intn(2)]
	case l.A.State == api.Opened && rnd.Intn(3) == 0:
		g.in = ctl(9+rnd.Intn(2), rnd.Intn(256), four(l.Peer)...)
	case l.A.State == api.Opened || rnd.Intn(4) == 0:
		g.kind = callTick
	case rnd.Intn(2) == 0:
		g.in = ctl(1, rnd.Intn(256), append([]byte{1, 4, byte(1 + rnd.Intn(4)), 0, 5, 6}, four(peer+rnd.Intn(9))...)...)
	default:
		g.in = ctl(2, l.A.Req, raw(l.A.Ask)...)
	}
	return g
}

func TestWalks(t *testing.T) {
	rnd := rand.New(rand.NewSource(177))
	var seen [10]int
	ends, echoes := 0, 0
	for i := range 500 {
		c := api.LcpConf{MRU: 128 + rnd.Intn(1365), MaxConf: 1 + rnd.Intn(4), MaxTerm: 1 + rnd.Intn(3), MaxFail: rnd.Intn(3), Wait: 1 + rnd.Intn(5), Echo: rnd.Intn(4), Lost: 1 + rnd.Intn(3)}
		l, err := lcp.New(c, []int{1, own, mostMagic}[rnd.Intn(3)])
		if err != api.OK {
			t.Fatal(err)
		}
		tick := []int{0, mostTick - 300}[rnd.Intn(2)]
		for range 300 {
			g := randomCall(rnd, c, l, tick)
			if i%2 == 0 && rnd.Intn(8) > 0 {
				g = calmCall(rnd, c, l, tick)
			}
			got := tells(t, g)
			if slices.Equal(got.done, []api.Action{api.TLD, api.TLF}) {
				ends++
			}
			if g.kind == callTick && len(got.out) == 1 && got.out[0].Code == api.EchoReq {
				echoes++
			}
			l = got.l
			seen[l.A.State]++
			tick += rnd.Intn(2)
		}
	}
	for s, n := range seen {
		if n < 500 {
			t.Errorf("%d was come to %d times only", s, n)
		}
	}
	if ends < 500 || echoes < 2500 {
		t.Errorf("only %d ended, and %d echoes went out", ends, echoes)
	}
}

func TestFromEachThatMayBe(t *testing.T) {
	// Whatever comes: any calls, at any edges.
	rnd := rand.New(rand.NewSource(178))
	c := api.LcpConf{MRU: 128, MaxConf: 1000, MaxTerm: 1000, MaxFail: 1000, Wait: mostWait, Echo: mostEcho, Lost: 1000}
	for _, s := range states() {
		links(s, func(l api.Lcp) {
			for _, tick := range []int{0, mostTick} {
				for range 5 {
					g := randomCall(rnd, c, l, tick)
					l = tells(t, g).l
					if lcp.Check(c, l) != api.OK {
						t.Fatalf("%+v", l)
					}
				}
			}
		})
	}
}

// P17.8

// side is a link, its settings, and what is on the way to it.
type side struct {
	c  api.LcpConf
	l  api.Lcp
	to []api.Ctl
}

// begun is a link that was not brought up yet.
func begun(t *testing.T, c api.LcpConf, magic int) side {
	t.Helper()
	l, err := lcp.New(c, magic)
	if err != api.OK {
		t.Fatal(err)
	}
	return side{c: c, l: l}
}

// do does the event to the one side; what goes out is on the way to the other one.
func do(sides *[2]side, i int, e api.Event, tick int) {
	l, out, _ := lcp.Do(sides[i].c, sides[i].l, e, tick)
	sides[i].l = l
	sides[1-i].to = append(slices.Clone(sides[1-i].to), out...)
}

// takes lets the one side have its next packet.
func takes(t *testing.T, sides *[2]side, i, tick int) {
	in := sides[i].to[0]
	l, out, _ := lcp.Packet(sides[i].c, sides[i].l, in, tick)
	if lcp.Check(sides[i].c, l) != api.OK {
		t.Fatalf("%+v", l)
	}
	sides[i].l, sides[i].to = l, sides[i].to[1:]
	sides[1-i].to = append(slices.Clone(sides[1-i].to), out...)
}

// met fails where the two sides are not open, with each other's numbers.
func met(t *testing.T, sides [2]side) {
	t.Helper()
	for i, x := range sides {
		y := sides[1-i]
		if x.l.A.State != api.Opened || x.l.Peer != y.l.Magic || x.l.MRU != y.c.MRU || x.l.Magic == y.l.Magic {
			t.Errorf("%+v does not know %+v", x.l, y.l)
		}
	}
}

// meets lets packets come in all orders in which those of each side stay in theirs, till none is left; it tells how many orders there were.
func meets(t *testing.T, sides [2]side, tick, depth int) int {
	t.Helper()
	if depth > 40 {
		t.Fatal("it goes on and on")
	}
	n := 0
	for i := range sides {
		if len(sides[i].to) > 0 {
			next := sides
			takes(t, &next, i, tick)
			n += meets(t, next, tick, depth+1)
		}
	}
	if n == 0 {
		met(t, sides)
		return 1
	}
	return n
}

func TestMeet(t *testing.T) {
	numbers := [][2]int{{own, peer}, {1, 2}, {2, 1}, {2, 3}, {1, mostMagic}, {mostMagic - 1, mostMagic}}
	for _, m := range numbers {
		for _, mru := range [][2]int{{1492, 1492}, {128, 1400}} {
			for _, events := range [][]api.Event{{api.Up, api.Open}, {api.Open, api.Up}} {
				var sides [2]side
				for i := range sides {
					c := conf()
					c.MRU = mru[i]
					sides[i] = begun(t, c, m[i])
				}
				for i := range sides {
					for _, e := range events {
						do(&sides, i, e, 10)
					}
				}
				if n := meets(t, sides, 10, 0); n != 4 {
					t.Errorf("%v: %d orders", m, n)
				}
			}
		}
	}
}

func TestMeetWhereOneComesLater(t *testing.T) {
	// The one is up, while the other one is not open yet, and answers by an end: the clock asks anew.
	for _, early := range []int{0, 1, 5} {
		sides := [2]side{begun(t, conf(), own), begun(t, conf(), peer)}
		do(&sides, 1, api.Up, 0)
		do(&sides, 0, api.Open, 0)
		do(&sides, 0, api.Up, 0)
		for range early {
			for i := range sides {
				for len(sides[i].to) > 0 {
					takes(t, &sides, i, 0)
				}
			}
		}
		do(&sides, 1, api.Open, 1)
		for tick := 2; tick < 20; tick++ {
			for i := range sides {
				for len(sides[i].to) > 0 {
					takes(t, &sides, i, tick)
				}
				l, out, _ := lcp.Tick(sides[i].c, sides[i].l, tick)
				sides[i].l = l
				sides[1-i].to = append(sides[1-i].to, out...)
			}
		}
		met(t, sides)
	}
}

// P17.9

// opened are two links that met at that tick, under these settings.
func opened(t *testing.T, c api.LcpConf, tick int) [2]side {
	t.Helper()
	sides := [2]side{begun(t, c, own), begun(t, c, peer)}
	for i := range sides {
		do(&sides, i, api.Open, tick)
		do(&sides, i, api.Up, tick)
	}
	for len(sides[0].to)+len(sides[1].to) > 0 {
		for i := range sides {
			if len(sides[i].to) > 0 {
				takes(t, &sides, i, tick)
			}
		}
	}
	met(t, sides)
	return sides
}

func TestEchoesKeepItOpen(t *testing.T) {
	for _, every := range []int{0, 1, 2, 7, 20} {
		for _, lost := range []int{1, 3} {
			c := conf()
			c.Echo, c.Lost = every, lost
			sides := opened(t, c, 5)
			sent := 0
			for tick := 5; tick < 400; tick++ {
				for i := range sides {
					l, out, done := lcp.Tick(c, sides[i].l, tick)
					if len(done) != 0 || l.A.State != api.Opened {
						t.Fatalf("Echo %d, Lost %d, at %d: %+v, %v", every, lost, tick, l, done)
					}
					sides[i].l = l
					sides[1-i].to = append(sides[1-i].to, out...)
					sent += len(out)
					for len(sides[1-i].to) > 0 {
						takes(t, &sides, 1-i, tick)
					}
					for len(sides[i].to) > 0 {
						takes(t, &sides, i, tick)
					}
					if sides[i].l.Pending != 0 {
						t.Fatalf("at %d: %+v", tick, sides[i].l)
					}
				}
			}
			want := 0
			if every != 0 {
				want = 2 * ((399 - 5) / every)
			}
			if sent != want {
				t.Errorf("Echo %d: %d went out, not %d", every, sent, want)
			}
			met(t, sides)
		}
	}
}

func TestSilenceEndsIt(t *testing.T) {
	for _, every := range []int{1, 2, 7, 50} {
		for _, lost := range []int{1, 2, 3, 10} {
			for _, from := range []int{0, 5, mostTick - 1000} {
				c := conf()
				c.Echo, c.Lost = every, lost
				l := opened(t, c, from)[0].l
				sent, tick := 0, from
				for l.A.State == api.Opened && tick <= from+(lost+2)*every {
					tick++
					next := ticks(t, c, l, tick)
					sent += len(next.out)
					l = next.l
				}
				if l.A.State != api.Initial || l.NextEcho != 0 || lcp.Next(l) != 0 {
					t.Errorf("Echo %d, Lost %d: %+v", every, lost, l)
				}
				if sent != lost || tick != from+(lost+1)*every {
					t.Errorf("Echo %d, Lost %d: %d went out, till %d", every, lost, sent, tick-from)
				}
			}
		}
	}
	// Also behind any that may be, however many are pending.
	links(api.Opened, func(l api.Lcp) {
		c := conf()
		if l.NextEcho == 0 {
			return
		}
		l.NextEcho = 25
		for tick := 5; tick <= 5+(c.Lost+2)*c.Echo; tick++ {
			l, _, _ = lcp.Tick(c, l, tick)
		}
		if l.A.State != api.Initial {
			t.Errorf("%+v", l)
		}
	})
}

func TestWithoutEchoesItStaysOpen(t *testing.T) {
	c := conf()
	c.Echo = 0
	l := opened(t, c, 0)[0].l
	for _, tick := range []int{1, 20, 21, 1000, mostTick} {
		ticks(t, c, l, tick).nothing(t, "nothing is due", l)
	}
	if lcp.Next(l) != 0 {
		t.Errorf("%+v", l)
	}
}

func TestOneAnswerIsEnough(t *testing.T) {
	// Whoever answers once, at the last, is asked as often again.
	c := conf()
	sides := opened(t, c, 0)
	l := sides[0].l
	for tick := 1; tick <= 400; tick++ {
		l, _, _ = lcp.Tick(c, l, tick)
		if l.Pending == c.Lost {
			l, _, _ = lcp.Packet(c, l, ctl(api.EchoRep, 0, four(l.Peer)...), tick)
		}
		if l.A.State != api.Opened {
			t.Fatalf("at %d: %+v", tick, l)
		}
	}
	// One's own echoes, that a line leads back, are none.
	l = sides[0].l
	for tick := 1; tick <= 100; tick++ {
		next, out, _ := lcp.Tick(c, l, tick)
		for _, p := range out {
			back := comesIn(t, c, next, p, tick)
			back.nothing(t, "one's own", next)
			next = comesIn(t, c, back.l, api.Ctl{Code: api.EchoRep, ID: p.ID, Data: p.Data}, tick).l
		}
		l = next
	}
	if l.A.State != api.Initial {
		t.Errorf("%+v", l)
	}
}

// P17.10

func TestNoneIsTold(t *testing.T) {
	sides := opened(t, conf(), 0)
	x, y := sides[0].l, sides[1].l
	// A code that is none, and the peer that hears of it.
	next := comesIn(t, conf(), x, ctl(200, 9, 1, 2, 3), 1)
	if len(next.out) != 1 || next.out[0].Code != api.CodeRej || next.out[0].ID != next.l.A.ID {
		t.Fatalf("%+v", next)
	}
	comesIn(t, conf(), y, next.out[0], 1).nothing(t, "the peer goes on", y)
	// A protocol that is none.
	next = rejects(t, conf(), next.l, api.PPP{Proto: 0x8057, Info: []byte{1, 2, 0, 4}})
	if len(next.out) != 1 || !samePacket(next.out[0], ctl(8, next.l.A.ID, 0x80, 0x57, 1, 2, 0, 4)) {
		t.Fatalf("%+v", next)
	}
	comesIn(t, conf(), y, next.out[0], 1).nothing(t, "the peer goes on", y)
	if proto, there := lcp.Rejected(next.out[0]); proto != 0x8057 || !there {
		t.Error(proto, there)
	}
	// Elsewhere than in Opened no protocol is told of, but codes are.
	for _, s := range states()[:9] {
		if _, out := lcp.Reject(conf(), at(s), api.PPP{Proto: 0x8057}); len(out) != 0 {
			t.Errorf("in %d: %v", s, out)
		}
		if _, out, _ := lcp.Packet(conf(), at(s), ctl(200, 9), 1); (len(out) == 1) != (s >= api.Closed) {
			t.Errorf("in %d: %v", s, out)
		}
	}
}

// Memory of one's own.

// roomy is the same control with room behind each of its lists, which a call might write into.
func roomy(l api.Lcp) api.Lcp {
	l = copied(l)
	for i, o := range l.A.Ask {
		l.A.Ask[i].Data = append(make([]byte, 0, 64), o.Data...)
	}
	l.A.Ask = append(make([]api.Option, 0, 16), l.A.Ask...)
	return l
}

// spoil writes over all that a call told.
func (x told) spoil() {
	for i, o := range x.l.A.Ask {
		for j := range o.Data[:cap(o.Data)] {
			o.Data[:cap(o.Data)][j] ^= 0x55
		}
		x.l.A.Ask[i] = api.Option{Type: 77}
	}
	for i, p := range x.out {
		for j := range p.Data[:cap(p.Data)] {
			p.Data[:cap(p.Data)][j] ^= 0x55
		}
		x.out[i] = api.Ctl{}
	}
	for i := range x.done {
		x.done[i] = 99
	}
}

func TestMemoryOfOnesOwn(t *testing.T) {
	rnd := rand.New(rand.NewSource(179))
	for _, s := range states() {
		for range 400 {
			l := roomy(at(s))
			if rnd.Intn(8) == 0 {
				l.MRU = 0 // also where nothing may be
			}
			g := randomCall(rnd, conf(), l, []int{10, 60}[rnd.Intn(2)])
			g.in.Data = append(make([]byte, 0, 64), g.in.Data...)
			h := g.copied()
			got := g.call()
			again := g.call()
			got.spoil()
			if want := h.want(); !again.same(want) {
				t.Fatalf("two answers share memory: of %+v: %+v, not %+v", h, again, want)
			}
			if !g.same(h) {
				t.Fatalf("an answer shares memory with what was given: %+v, not %+v", g, h)
			}
			kept := copied(again.l)
			told{out: again.out, done: again.done}.spoil()
			if !same(again.l, kept) {
				t.Fatalf("lists of one answer share memory: %+v, not %+v", again.l, kept)
			}
		}
	}
	one, err := lcp.New(conf(), own)
	two, _ := lcp.New(conf(), own)
	told{l: one}.spoil()
	if want := (api.Lcp{A: api.Auto{Ask: asked()}, Magic: own, MRU: 1492}); err != api.OK || !same(two, want) {
		t.Errorf("%+v", two)
	}
	a, b := lcp.Auto(conf(), own), lcp.Auto(conf(), own)
	clear(a.Rules[:cap(a.Rules)])
	if !slices.Equal(b.Rules, itsSettings(conf(), own).Rules) {
		t.Errorf("%+v", b)
	}
}
