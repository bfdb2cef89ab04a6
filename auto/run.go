package auto

import (
	"bytes"
	"slices"

	"concierge/api"
	"concierge/cp"
	"concierge/fsm"
	"concierge/nego"
	"concierge/opts"
)

// maxCount is how often something is counted at most, maxNumber the highest number of a packet, maxWait how many ticks an answer is waited for at most.
const (
	maxCount  = 1000
	maxNumber = 255
	maxWait   = 1 << 20
)

// isIn tells whether n is from low to high.
func isIn(n, low, high int) bool {
	return n >= low && n <= high
}

// confMayBe tells whether the settings may be.
func confMayBe(c api.AutoConf) bool {
	return nego.Check(c.Rules...) == api.OK &&
		isIn(c.MaxConf, 1, maxCount) &&
		isIn(c.MaxTerm, 1, maxCount) &&
		isIn(c.MaxFail, 0, maxCount) &&
		isIn(c.Wait, 1, maxWait)
}

// mayBe tells whether the automaton may be.
func mayBe(a api.Auto) bool {
	_, err := opts.Encode(a.Ask...)
	return err == api.OK &&
		isIn(int(a.State), int(api.Initial), int(api.Opened)) &&
		isIn(a.ID, 0, maxNumber) &&
		isIn(a.Req, 0, maxNumber) &&
		isIn(a.Count, 0, maxCount) &&
		isIn(a.Naks, 0, maxCount) &&
		timerMayBe(a)
}

// timerMayBe tells whether the automaton's timer may be: it runs just where the state is timed.
func timerMayBe(a api.Auto) bool {
	if fsm.Timed(a.State) {
		return isIn(a.Timer, 1, api.MaxTick+maxWait)
	}
	return a.Timer == 0
}

// run is an automaton that is being changed by what comes at a tick: with its settings, the packet that came, the answer to it, what goes out, and which actions are done. Each action is one of its methods.
type run struct {
	c          api.AutoConf
	a          api.Auto
	tick       int
	in, answer api.Ctl
	out        []api.Ctl
	done       []api.Action
}

// begin is the automaton, on memory of its own, to which nothing came yet.
func begin(c api.AutoConf, a api.Auto, in api.Ctl, tick int) *run {
	a.Ask = copies(a.Ask)
	return &run{c: c, a: a, tick: tick, in: in}
}

// copies are the options on memory of their own.
func copies(l []api.Option) []api.Option {
	var all []api.Option
	for _, o := range l {
		all = append(all, api.Option{Type: o.Type, Data: bytes.Clone(o.Data)})
	}
	return all
}

// mayBe tells whether the automaton, its settings and the tick may be.
func (r *run) mayBe() bool {
	return Check(r.a, r.c) == api.OK && isIn(r.tick, 0, api.MaxTick)
}

// event does the event; false, and nothing happens, if it cannot come.
func (r *run) event(e api.Event) bool {
	next, l, err := fsm.Step(r.a.State, e)
	if err != api.OK {
		return false
	}
	r.a.State, r.done = next, l
	do := r.do
	for _, x := range l {
		do(x)
	}
	if !fsm.Timed(next) {
		r.a.Timer = 0
	}
	return true
}

// deeds are the actions' methods, by the actions' numbers.
func deeds() []func(*run) {
	return []func(*run){
		api.TLU: (*run).tell,
		api.TLD: (*run).tell,
		api.TLS: (*run).tell,
		api.TLF: (*run).tell,
		api.IRC: (*run).countAnew,
		api.ZRC: (*run).countNoMore,
		api.SCR: (*run).ask,
		api.SCA: (*run).ack,
		api.SCN: (*run).nak,
		api.STR: (*run).askToEnd,
		api.STA: (*run).ackEnd,
		api.SCJ: (*run).reject,
		api.SER: (*run).reply,
	}
}

// do does the action.
func (r *run) do(x api.Action) {
	deeds()[x](r)
}

// tell: tlu, tld, tls and tlf. Who asked is told of them, and does the rest.
func (r *run) tell() {}

// countAnew: irc.
func (r *run) countAnew() {
	r.a.Count = r.c.MaxConf
	if slices.Contains(r.done, api.STR) {
		r.a.Count = r.c.MaxTerm
	}
}

// countNoMore: zrc.
func (r *run) countNoMore() {
	r.a.Count = 0
	r.wait()
}

// ask: scr.
func (r *run) ask() {
	r.a.Req = r.number()
	b, _ := opts.Encode(r.a.Ask...)
	r.question(api.Ctl{Code: api.ConfReq, ID: r.a.Req, Data: b})
}

// ack: sca.
func (r *run) ack() {
	r.reply()
	r.a.Naks = 0
}

// nak: scn.
func (r *run) nak() {
	r.reply()
	if r.answer.Code == api.ConfNak {
		r.a.Naks = min(r.a.Naks+1, maxCount)
	}
}

// askToEnd: str.
func (r *run) askToEnd() {
	r.question(api.Ctl{Code: api.TermReq, ID: r.number()})
}

// ackEnd: sta.
func (r *run) ackEnd() {
	r.send(api.Ctl{Code: api.TermAck, ID: r.in.ID})
}

// reject: scj.
func (r *run) reject() {
	// The number is used up, also where nothing goes out.
	if p, err := cp.Reject(r.in, r.number()); err == api.OK {
		r.send(p)
	}
}

// reply: ser, and what sca and scn have in common.
func (r *run) reply() {
	r.send(api.Ctl{Code: r.answer.Code, ID: r.answer.ID, Data: bytes.Clone(r.answer.Data)})
}

// number is the next number of a packet that is no answer.
func (r *run) number() int {
	r.a.ID = (r.a.ID + 1) % (maxNumber + 1)
	return r.a.ID
}

// question sends what is asked again, if no answer comes in time.
func (r *run) question(p api.Ctl) {
	r.send(p)
	r.a.Count = max(r.a.Count-1, 0)
	r.wait()
}

// wait sets the timer.
func (r *run) wait() {
	r.a.Timer = r.tick + r.c.Wait
}

// send lets the packet, which nobody else has, go out.
func (r *run) send(p api.Ctl) {
	r.out = append(r.out, p)
}

// packet does what comes of the packet, whose code is an automaton's.
func (r *run) packet() {
	switch r.in.Code {
	case api.ConfReq:
		r.asked()
	case api.ConfAck:
		r.acked()
	case api.ConfNak, api.ConfRej:
		r.refused()
	case api.TermReq:
		r.event(api.RTR)
	case api.TermAck:
		r.event(api.RTA)
	case api.CodeRej:
		r.rejected()
	}
}

// asked: a Configure-Request, which is answered by the rules.
func (r *run) asked() {
	l, err := opts.Decode(r.in.Data)
	if err != api.OK {
		return
	}
	code, told := nego.Answer(r.c.Rules, l, r.a.Naks, r.c.MaxFail)
	b, err := opts.Encode(told...)
	if err != api.OK {
		return
	}
	r.answer = api.Ctl{Code: code, ID: r.in.ID, Data: b}
	if code == api.ConfAck {
		r.event(api.RCRPlus)
	} else {
		r.event(api.RCRMin)
	}
}

// acked: a Configure-Ack, which counts just if it is of what was asked last.
func (r *run) acked() {
	b, _ := opts.Encode(r.a.Ask...)
	if r.in.ID == r.a.Req && bytes.Equal(r.in.Data, b) {
		r.event(api.RCA)
	}
}

// refused: a Configure-Nak or -Reject; what it teaches is asked from then on.
func (r *run) refused() {
	l, err := opts.Decode(r.in.Data)
	if err != api.OK || r.in.ID != r.a.Req {
		return
	}
	next, taught := nego.Learn(r.a.Ask, r.in.Code, l)
	if _, err := opts.Encode(next...); err != api.OK || !taught {
		return
	}
	asked := r.a.Ask
	r.a.Ask = next
	if !r.event(api.RCN) {
		r.a.Ask = asked
	}
}

// rejected: a Code-Reject; without one of the codes that an automaton needs nothing goes on.
func (r *run) rejected() {
	if len(r.in.Data) == 0 {
		return
	}
	if isIn(int(r.in.Data[0]), api.ConfReq, api.CodeRej) {
		r.event(api.RXJMin)
	} else {
		r.event(api.RXJPlus)
	}
}

// isDue tells whether the timer is due.
func (r *run) isDue() bool {
	return r.a.Timer > 0 && r.a.Timer <= r.tick
}

// timeout asks once more, or gives up.
func (r *run) timeout() {
	if r.a.Count > 0 {
		r.event(api.TOPlus)
	} else {
		r.event(api.TOMinus)
	}
}
