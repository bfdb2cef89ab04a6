package lcp

import (
	"bytes"

	"concierge/api"
	"concierge/auto"
	"concierge/cp"
	"concierge/octet"
	"concierge/opts"
)

// minMRU and maxMRU are how many bytes a peer takes at least, and at most; it takes maxMRU, as long as it says nothing else.
const (
	minMRU = 128
	maxMRU = 1492
)

// protoSize, mruSize and magicSize are how many bytes such a number has.
const (
	protoSize = 2
	mruSize   = 2
	magicSize = 4
)

// maxMagic is the highest magic number, maxNumber the highest number of a packet.
const (
	maxMagic  = 1<<32 - 1
	maxNumber = 255
)

// maxEcho is how many ticks lie between echoes at most, maxLost how many may be without an answer.
const (
	maxEcho = 1 << 20
	maxLost = 1000
)

// isIn tells whether n is from low to high.
func isIn(n, low, high int) bool {
	return n >= low && n <= high
}

// otherThan is a magic number that is not that one, and not 0.
func otherThan(magic int) int {
	if other := magic ^ 1; other != 0 {
		return other
	}
	return 2
}

// number is what the first bytes of b, so many, bear.
func number(b []byte, size int) int {
	n, _, _ := octet.Take(b, size)
	return int(n)
}

// confMayBe tells whether the settings may be. Those that are an automaton's are so, if any automaton may be under them.
func confMayBe(c api.LcpConf) bool {
	return auto.Check(api.Auto{}, Auto(c, 1)) == api.OK &&
		isIn(c.MRU, minMRU, maxMRU) &&
		isIn(c.Echo, 0, maxEcho) &&
		isIn(c.Lost, 1, maxLost)
}

// mayBe tells whether the control may be, under settings that may be.
func mayBe(c api.LcpConf, l api.Lcp) bool {
	return isIn(l.Magic, 1, maxMagic) &&
		auto.Check(l.A, Auto(c, l.Magic)) == api.OK &&
		isIn(l.Peer, 0, maxMagic) &&
		isIn(l.MRU, minMRU, maxMRU) &&
		isIn(l.Pending, 0, maxLost) &&
		nextEchoMayBe(c, l)
}

// nextEchoMayBe tells whether the tick of the next echo may be: there is none but in Opened, where echoes are wanted.
func nextEchoMayBe(c api.LcpConf, l api.Lcp) bool {
	if c.Echo != 0 && l.A.State == api.Opened {
		return isIn(l.NextEcho, 0, api.MaxTick+maxEcho)
	}
	return l.NextEcho == 0
}

// link is a control that is being changed by what comes at a tick: with its settings, the packet that came, what goes out, and which actions were done. What a code does is one of its methods.
type link struct {
	c    api.LcpConf
	l    api.Lcp
	tick int
	in   api.Ctl
	out  []api.Ctl
	done []api.Action
}

// begin is the control, on memory of its own, to which nothing came yet.
func begin(c api.LcpConf, l api.Lcp, tick int) *link {
	l.A.Ask = copies(l.A.Ask)
	return &link{c: c, l: l, tick: tick}
}

// copies are the options on memory of their own.
func copies(l []api.Option) []api.Option {
	var all []api.Option
	for _, o := range l {
		all = append(all, api.Option{Type: o.Type, Data: bytes.Clone(o.Data)})
	}
	return all
}

// mayBe tells whether the control, its settings and the tick may be.
func (k *link) mayBe() bool {
	return Check(k.c, k.l) == api.OK && isIn(k.tick, 0, api.MaxTick)
}

// isOpen tells whether the link is open.
func (k *link) isOpen() bool {
	return k.l.A.State == api.Opened
}

// conf are the automaton's settings.
func (k *link) conf() api.AutoConf {
	return Auto(k.c, k.l.Magic)
}

// did takes over what became of the automaton.
func (k *link) did(a api.Auto, out []api.Ctl, done []api.Action) {
	k.l.A = a
	k.out = append(k.out, out...)
	k.done = append(k.done, done...)
}

// event does the event to the automaton.
func (k *link) event(e api.Event) {
	k.answer(e, api.Ctl{})
}

// answer does the event to the automaton, with the packet that came and the answer to it.
func (k *link) answer(e api.Event, answer api.Ctl) {
	// How many actions there were ahead of this is told now, what follows of those behind it is done at last.
	defer k.follow(len(k.done))
	k.did(auto.Do(k.conf(), k.l.A, e, k.in, answer, k.tick))
}

// timeout does to the automaton what comes of the clock.
func (k *link) timeout() {
	defer k.follow(len(k.done))
	k.did(auto.Timeout(k.conf(), k.l.A, k.tick))
}

// follow does what follows of the actions from that place on, and takes over the own magic number that is asked for.
func (k *link) follow(from int) {
	for _, x := range k.done[from:] {
		switch x {
		case api.TLU:
			k.echoAnew()
		case api.TLD:
			k.echoNoMore()
		}
	}
	o, _ := opts.Find(k.l.A.Ask, api.LcpMagic)
	if n, _ := opts.Number(o); len(o.Data) == magicSize && n != 0 {
		k.l.Magic = n
	}
}

// echoAnew: the link is up.
func (k *link) echoAnew() {
	k.echoNoMore()
	if k.c.Echo != 0 {
		k.l.NextEcho = k.tick + k.c.Echo
	}
}

// echoNoMore: the link is down.
func (k *link) echoNoMore() {
	k.l.Pending, k.l.NextEcho = 0, 0
}

// deed is what the code of the packet that came does. A packet that is let go, there or here, changes nothing.
func (k *link) deed() func() {
	switch k.in.Code {
	case api.ConfReq, api.ConfAck, api.ConfNak, api.ConfRej, api.TermReq, api.TermAck, api.CodeRej:
		return k.agree
	case api.ProtRej:
		return k.rejected
	case api.EchoReq:
		return k.echoAsked
	case api.EchoRep:
		return k.echoed
	case api.DiscReq:
		return k.letGo
	}
	return k.unknown
}

// agree: a code of an automaton's.
func (k *link) agree() {
	defer k.follow(len(k.done))
	a, out, done, _ := auto.Packet(k.conf(), k.l.A, k.in, k.tick)
	k.did(a, out, done)
	for _, p := range out {
		if p.Code == api.ConfAck {
			k.learn()
		}
	}
}

// learn takes over what the peer asked for, and was granted.
func (k *link) learn() {
	l, _ := opts.Decode(k.in.Data)
	k.l.Peer = told(l, api.LcpMagic, 0)
	k.l.MRU = told(l, api.LcpMRU, maxMRU)
}

// told is what the first option of that type bears, or none, if that is nothing.
func told(l []api.Option, typ, none int) int {
	o, _ := opts.Find(l, typ)
	if n, there := opts.Number(o); there {
		return n
	}
	return none
}

// rejected: a Protocol-Reject; without this protocol nothing goes on.
func (k *link) rejected() {
	proto, there := Rejected(k.in)
	if !there || !k.isOpen() {
		return
	}
	if proto == api.ProtoLCP {
		k.event(api.RXJMin)
	} else {
		k.event(api.RXJPlus)
	}
}

// echoAsked: an Echo-Request, which is answered.
func (k *link) echoAsked() {
	if !k.isEcho() {
		return
	}
	b := append(k.magic(), k.in.Data[magicSize:]...)
	k.answer(api.RXR, api.Ctl{Code: api.EchoRep, ID: k.in.ID, Data: b})
}

// echoed: an Echo-Reply; the peer is there.
func (k *link) echoed() {
	if !k.isEcho() {
		return
	}
	k.l.Pending = 0
	// No action was done by this; what is asked for counts none the less.
	k.follow(len(k.done))
}

// isEcho tells whether the packet that came is an echo that counts: the link is open, and it bears a magic number that is not the own one, which would come of a line that leads back.
func (k *link) isEcho() bool {
	return k.isOpen() && len(k.in.Data) >= magicSize && number(k.in.Data, magicSize) != k.l.Magic
}

// letGo: a Discard-Request.
func (k *link) letGo() {}

// unknown: a code that is none.
func (k *link) unknown() {
	k.event(api.RUC)
}

// magic is the own magic number's bytes.
func (k *link) magic() []byte {
	return octet.Put(uint64(k.l.Magic), magicSize)
}

// nextID is the next number of a packet that is no answer.
func (k *link) nextID() int {
	return (k.l.A.ID + 1) % (maxNumber + 1)
}

// send lets the packet, which nobody else has, go out.
func (k *link) send(p api.Ctl) {
	k.out = append(k.out, p)
}

// reject tells that p's protocol is none. What cannot be told uses up no number.
func (k *link) reject(p api.PPP) {
	id := k.nextID()
	if none, err := cp.Protocol(p, id); err == api.OK {
		k.l.A.ID = id
		k.send(none)
	}
}

// echoIsDue tells whether the next echo is due.
func (k *link) echoIsDue() bool {
	return k.isOpen() && k.l.NextEcho > 0 && k.l.NextEcho <= k.tick
}

// echo asks whether the peer is there, or ends the link, if it did not answer too often.
func (k *link) echo() {
	if k.l.Pending >= k.c.Lost {
		k.event(api.Down)
		k.event(api.Close)
		return
	}
	k.l.A.ID = k.nextID()
	k.send(api.Ctl{Code: api.EchoReq, ID: k.l.A.ID, Data: k.magic()})
	k.l.Pending++
	k.l.NextEcho = k.tick + k.c.Echo
}
