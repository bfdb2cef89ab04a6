package pppoe_test

import (
	"bytes"
	"math"
	"math/rand"
	"slices"
	"strings"
	"testing"

	"concierge/api"
	"concierge/pppoe"
	"concierge/tags"
)

// codes are those of PPPoE.
var codes = []int{api.PADI, api.PADO, api.PADR, api.PADS, api.PADT, api.Data}

// wrongIDs are numbers that no session begins with, some of them with the lowest two bytes of one that may be.
var wrongIDs = []int{
	math.MinInt, -0x10000, -65534, -1, 0, 65535, 65536, 65537, 0x10000 + 258, 1 << 32, 1<<32 + 1, math.MaxInt,
}

// goodIDs are the edges of those that may be.
var goodIDs = []int{1, 2, 255, 256, 258, 0x7fff, 0x8000, 65280, 65533, 65534}

// drawn are so many bytes, the same for the same seed.
func drawn(seed int64, size int) []byte {
	b := make([]byte, size)
	rand.New(rand.NewSource(seed)).Read(b)
	return b
}

// more are so many bytes that r draws.
func more(r *rand.Rand, size int) []byte {
	b := make([]byte, size)
	r.Read(b)
	return b
}

// tag is one of that type and value.
func tag(typ int, value string) api.Tag {
	return api.Tag{Type: typ, Value: []byte(value)}
}

// wire is the bytes that the tags have, written out by themselves, of any tags.
func wire(l ...api.Tag) []byte {
	var b []byte
	for _, t := range l {
		b = append(b, byte(t.Type>>8), byte(t.Type), byte(len(t.Value)>>8), byte(len(t.Value)))
		b = append(b, t.Value...)
	}
	return b
}

// join is the parts, one behind the other, in memory of its own.
func join(parts ...[]byte) []byte {
	return bytes.Join(parts, nil)
}

// same tells whether both are the same packet.
func same(a, b api.PPPoE) bool {
	return a.Code == b.Code && a.Session == b.Session && bytes.Equal(a.Payload, b.Payload)
}

// sameDisc tells whether both ask the same.
func sameDisc(a, b api.Disc) bool {
	return a.Code == b.Code && a.Session == b.Session && a.Service == b.Service &&
		a.HasUniq == b.HasUniq && bytes.Equal(a.Uniq, b.Uniq) &&
		a.HasRelay == b.HasRelay && bytes.Equal(a.Relay, b.Relay) && bytes.Equal(a.Cookie, b.Cookie)
}

// copiedDisc is d in memory of its own.
func copiedDisc(d api.Disc) api.Disc {
	d.Uniq, d.Relay, d.Cookie = bytes.Clone(d.Uniq), bytes.Clone(d.Relay), bytes.Clone(d.Cookie)
	return d
}

// spoil overwrites b and all the room behind it.
func spoil(b []byte) {
	b = b[:cap(b)]
	for i := range b {
		b[i] ^= 0xff
	}
}

// spoilDisc overwrites what d has.
func spoilDisc(d api.Disc) {
	spoil(d.Uniq)
	spoil(d.Relay)
	spoil(d.Cookie)
}

// roomy is a copy of b with room behind it that is filled, and all of that.
func roomy(b []byte) (piece, whole []byte) {
	whole = append(bytes.Clone(b), bytes.Repeat([]byte{0xee}, 100)...)
	return whole[:len(b)], whole
}

// told fails where an answer is not that packet.
func told(t *testing.T, what string, got api.PPPoE, err api.Errno, want api.PPPoE) {
	t.Helper()
	if err != api.OK || !same(got, want) {
		t.Errorf("%s: %v, %d, not %v", what, got, err, want)
	}
}

// refused fails where an answer is not that error, and nothing beside it.
func refused(t *testing.T, what string, got api.PPPoE, err, want api.Errno) {
	t.Helper()
	if err != want || got.Code != 0 || got.Session != 0 || len(got.Payload) != 0 {
		t.Errorf("%s: %v, %d, not %d", what, got, err, want)
	}
}

// packet is one of that code and session, with those tags.
func packet(code, session int, l ...api.Tag) api.PPPoE {
	return api.PPPoE{Code: code, Session: session, Payload: wire(l...)}
}

// asked is a Disc of that code with all that may be told again.
func asked(code int) api.Disc {
	return api.Disc{Code: code, Service: "isp", Uniq: []byte("uniq"), HasUniq: true, Relay: []byte("relay"), HasRelay: true, Cookie: []byte("cookie")}
}

// P6.1

func TestExampleOne(t *testing.T) {
	p, err := pppoe.Terminate(258)
	told(t, "Terminate", p, err, api.PPPoE{Code: api.PADT, Session: 258})
	if b, err := pppoe.Encode(p); !bytes.Equal(b, []byte{17, 167, 1, 2, 0, 0}) || err != api.OK {
		t.Errorf("%v, %d", b, err)
	}
}

func TestEncode(t *testing.T) {
	for _, c := range []struct {
		p    api.PPPoE
		want string
	}{
		{api.PPPoE{}, "\x11\x00\x00\x00\x00\x00"},
		{api.PPPoE{Payload: []byte{}}, "\x11\x00\x00\x00\x00\x00"},
		{api.PPPoE{Code: api.PADI, Payload: []byte("\x01\x01\x00\x00")}, "\x11\x09\x00\x00\x00\x04\x01\x01\x00\x00"},
		{api.PPPoE{Code: 255, Session: 65535, Payload: []byte("x")}, "\x11\xff\xff\xff\x00\x01x"},
		{api.PPPoE{Code: 0x12, Session: 0x3456, Payload: bytes.Repeat([]byte("y"), 0x123)}, "\x11\x12\x34\x56\x01\x23" + strings.Repeat("y", 0x123)},
	} {
		if got, err := pppoe.Encode(c.p); string(got) != c.want || err != api.OK {
			t.Errorf("%v: %x, %d", c.p, got, err)
		}
	}
}

func TestEncodeCodesAndSessions(t *testing.T) {
	for code := range 256 {
		if got, err := pppoe.Encode(api.PPPoE{Code: code, Session: 1}); !bytes.Equal(got, []byte{17, byte(code), 0, 1, 0, 0}) || err != api.OK {
			t.Errorf("code %d: %x, %d", code, got, err)
		}
	}
	for id := range 65536 {
		if got, err := pppoe.Encode(api.PPPoE{Code: 7, Session: id}); !bytes.Equal(got, []byte{17, 7, byte(id / 256), byte(id % 256), 0, 0}) || err != api.OK {
			t.Fatalf("session %d: %x, %d", id, got, err)
		}
	}
}

// noBytes fails where a packet is not refused with that error, and nothing beside it.
func noBytes(t *testing.T, p api.PPPoE, want api.Errno) {
	t.Helper()
	if b, err := pppoe.Encode(p); err != want || len(b) != 0 {
		t.Errorf("code %d, session %d, %d bytes: %x, %d, not %d", p.Code, p.Session, len(p.Payload), b, err, want)
	}
}

func TestEncodeOfNone(t *testing.T) {
	long := make([]byte, 1495)
	for _, code := range []int{math.MinInt, -256, -1, 256, 257, 0x109, 1 << 32, math.MaxInt} {
		noBytes(t, api.PPPoE{Code: code}, api.ErrPPPoE)
		noBytes(t, api.PPPoE{Code: code, Session: 65536}, api.ErrPPPoE)
		noBytes(t, api.PPPoE{Code: code, Session: 65535, Payload: long}, api.ErrPPPoE)
	}
	for _, id := range []int{math.MinInt, -65536, -1, 65536, 65537, 1 << 32, math.MaxInt} {
		noBytes(t, api.PPPoE{Session: id}, api.ErrPPPoE)
		noBytes(t, api.PPPoE{Code: 255, Session: id, Payload: long}, api.ErrPPPoE)
	}
}

func TestEncodeLengths(t *testing.T) {
	all := drawn(1, 1500)
	for size := range 1495 {
		want := join([]byte{17, 0x65, 0, 9, byte(size / 256), byte(size % 256)}, all[:size])
		if got, err := pppoe.Encode(api.PPPoE{Code: api.PADS, Session: 9, Payload: all[:size]}); !bytes.Equal(got, want) || err != api.OK {
			t.Fatalf("%d bytes: %x, %d", size, got, err)
		}
	}
	for _, size := range []int{1495, 1496, 1500, 65535, 65536, 65537, 1 << 20} {
		noBytes(t, api.PPPoE{Code: api.PADS, Payload: make([]byte, size)}, api.ErrLong)
	}
}

// P6.2

// noPacket fails where bytes are not refused with that error, and nothing beside it.
func noPacket(t *testing.T, what string, b []byte, want api.Errno) {
	t.Helper()
	p, err := pppoe.Decode(b)
	refused(t, what, p, err, want)
}

// isPacket fails where the bytes are not that packet.
func isPacket(t *testing.T, what string, b []byte, want api.PPPoE) {
	t.Helper()
	p, err := pppoe.Decode(b)
	told(t, what, p, err, want)
}

func TestDecode(t *testing.T) {
	isPacket(t, "of the example", []byte{17, 167, 1, 2, 0, 0}, api.PPPoE{Code: api.PADT, Session: 258})
	isPacket(t, "of zeros", []byte{17, 0, 0, 0, 0, 0}, api.PPPoE{})
	isPacket(t, "of the highest", []byte("\x11\xff\xff\xff\x00\x02ab"), api.PPPoE{Code: 255, Session: 65535, Payload: []byte("ab")})
	isPacket(t, "padded", []byte("\x11\x09\x00\x00\x00\x02abcdef"), api.PPPoE{Code: api.PADI, Payload: []byte("ab")})
	isPacket(t, "padded, without a payload", []byte("\x11\x09\x12\x34\x00\x00abcdef"), api.PPPoE{Code: api.PADI, Session: 0x1234})
}

func TestDecodeShort(t *testing.T) {
	for size := range 6 {
		noPacket(t, "cut", []byte{17, 167, 1, 2, 0, 0}[:size], api.ErrShort)
		noPacket(t, "cut, of no version", []byte{18, 167, 1, 2, 0, 0}[:size], api.ErrShort)
		noPacket(t, "cut, too long", []byte{17, 167, 1, 2, 0xff, 0xff}[:size], api.ErrShort)
	}
	noPacket(t, "nil", nil, api.ErrShort)
}

func TestDecodeVersions(t *testing.T) {
	for first := range 256 {
		b := []byte{byte(first), 9, 0, 0, 0, 1, 'x'}
		if first == 0x11 {
			isPacket(t, "version 1, type 1", b, api.PPPoE{Code: api.PADI, Payload: []byte("x")})
			continue
		}
		noPacket(t, "another version", b, api.ErrPPPoE)
		noPacket(t, "another version, cut", b[:6], api.ErrPPPoE)
		noPacket(t, "another version, too long", []byte{byte(first), 9, 0, 0, 0xff, 0xff, 'x'}, api.ErrPPPoE)
	}
}

// All lengths that two bytes can tell, with as many bytes there, with fewer, and with more.
func TestDecodeLengths(t *testing.T) {
	all := drawn(2, 1600)
	for size := range 65536 {
		head := []byte{17, 0, 0, 7, byte(size / 256), byte(size % 256)}
		if size > 1494 {
			noPacket(t, "too long, nothing there", head, api.ErrLong)
			if size < 1600 {
				noPacket(t, "too long, all there", join(head, all[:size]), api.ErrLong)
			}
			continue
		}
		want := api.PPPoE{Session: 7, Payload: all[:size]}
		isPacket(t, "just all", join(head, all[:size]), want)
		isPacket(t, "more", join(head, all[:size+1]), want)
		if size > 0 {
			noPacket(t, "a byte lacks", join(head, all[:size-1]), api.ErrShort)
			noPacket(t, "all lacks", head, api.ErrShort)
		}
	}
	noPacket(t, "too long, all there", join([]byte{17, 0, 0, 7, 0xff, 0xff}, make([]byte, 65535)), api.ErrLong)
}

// P6.3

// asks fails where the packet does not ask that.
func asks(t *testing.T, what string, p api.PPPoE, want api.Disc) {
	t.Helper()
	if got, err := pppoe.Client(p); !sameDisc(got, want) || err != api.OK {
		t.Errorf("Client, %s: %+v, %d, not %+v", what, got, err, want)
	}
}

// asksNothing fails where the packet is not refused, and nothing told beside that.
func asksNothing(t *testing.T, what string, p api.PPPoE) {
	t.Helper()
	if got, err := pppoe.Client(p); err != api.ErrDisc || !sameDisc(got, api.Disc{}) {
		t.Errorf("Client, %s, code %#x, session %d: %+v, %d", what, p.Code, p.Session, got, err)
	}
}

// full are tags of all types that a client is asked about, and of others between them.
func full() []api.Tag {
	return []api.Tag{
		tag(api.TagVendor, "v"), tag(api.TagRelay, "relay"), tag(api.TagName, "ac"), tag(api.TagCookie, "cookie"),
		tag(api.TagService, "isp"), tag(api.TagUniq, "uniq"), tag(0x7777, "other"),
	}
}

func TestClient(t *testing.T) {
	want := api.Disc{Service: "isp", Uniq: []byte("uniq"), HasUniq: true, Relay: []byte("relay"), HasRelay: true}
	want.Code = api.PADI
	asks(t, "PADI", packet(api.PADI, 0, full()...), want)
	want.Code, want.Cookie = api.PADR, []byte("cookie")
	asks(t, "PADR", packet(api.PADR, 0, full()...), want)
	want.Code, want.Session, want.Service, want.Cookie = api.PADT, 258, "", nil
	asks(t, "PADT", packet(api.PADT, 258, full()...), want)
}

func TestClientOfLittle(t *testing.T) {
	for _, code := range []int{api.PADI, api.PADR} {
		asks(t, "any service", packet(code, 0, tag(api.TagService, "")), api.Disc{Code: code})
		asks(t, "values of no bytes", packet(code, 0, tag(api.TagUniq, ""), tag(api.TagService, ""), tag(api.TagRelay, ""), tag(api.TagCookie, "")), api.Disc{Code: code, HasUniq: true, HasRelay: true})
		asks(t, "with Host-Uniq alone", packet(code, 0, tag(api.TagUniq, "u"), tag(api.TagService, "s")), api.Disc{Code: code, Service: "s", Uniq: []byte("u"), HasUniq: true})
		asks(t, "with a relay alone", packet(code, 0, tag(api.TagService, "s"), tag(api.TagRelay, "r")), api.Disc{Code: code, Service: "s", Relay: []byte("r"), HasRelay: true})
	}
	asks(t, "PADT without tags", packet(api.PADT, 1), api.Disc{Code: api.PADT, Session: 1})
	asks(t, "PADT, nil", api.PPPoE{Code: api.PADT, Session: 1}, api.Disc{Code: api.PADT, Session: 1})
}

// Of several tags of one type the first one counts, even where it has no bytes.
func TestClientTakesTheFirst(t *testing.T) {
	l := []api.Tag{
		tag(api.TagUniq, ""), tag(api.TagRelay, "r1"), tag(api.TagCookie, "c1"), tag(api.TagService, "s"),
		tag(api.TagUniq, "u2"), tag(api.TagRelay, "r2"), tag(api.TagCookie, "c2"), tag(api.TagCookie, ""),
	}
	want := api.Disc{Code: api.PADR, Service: "s", HasUniq: true, Relay: []byte("r1"), HasRelay: true, Cookie: []byte("c1")}
	asks(t, "several", packet(api.PADR, 0, l...), want)
	l[2].Value = nil
	want.Cookie = nil
	asks(t, "an empty cookie first", packet(api.PADR, 0, l...), want)
}

func TestClientCodes(t *testing.T) {
	one := wire(tag(api.TagService, ""))
	others := []int{math.MinInt, -1, api.PADI - 256, 256, 256 + api.PADI, 1<<32 + api.PADT, math.MaxInt}
	for code := range 256 {
		if code != api.PADI && code != api.PADR && code != api.PADT {
			others = append(others, code)
		}
	}
	for _, code := range others {
		for _, session := range []int{0, 1, 65535} {
			asksNothing(t, "no client's code", api.PPPoE{Code: code, Session: session, Payload: one})
			asksNothing(t, "no client's code, no tags", api.PPPoE{Code: code, Session: session})
		}
	}
}

func TestClientSessions(t *testing.T) {
	one := wire(tag(api.TagService, ""))
	for _, code := range []int{api.PADI, api.PADR} {
		for _, session := range []int{math.MinInt, -65536, -1, 1, 2, 256, 65534, 65535, 65536, 1 << 32, math.MaxInt} {
			asksNothing(t, "a session", api.PPPoE{Code: code, Session: session, Payload: one})
		}
	}
	for _, session := range []int{1, 2, 255, 256, 65534, 65535} {
		asks(t, "PADT", api.PPPoE{Code: api.PADT, Session: session, Payload: one}, api.Disc{Code: api.PADT, Session: session})
	}
	for _, session := range []int{0, 65536, 65537, 1 << 32, math.MaxInt} {
		asksNothing(t, "no session", api.PPPoE{Code: api.PADT, Session: session})
		asksNothing(t, "no session", api.PPPoE{Code: api.PADT, Session: session, Payload: one})
	}
}

func TestClientServices(t *testing.T) {
	none := wire(tag(api.TagUniq, "u"), tag(api.TagName, "n"))
	two := wire(tag(api.TagService, "s"), tag(api.TagUniq, "u"), tag(api.TagService, "s"))
	three := wire(tag(api.TagService, ""), tag(api.TagService, ""), tag(api.TagService, ""))
	for _, code := range []int{api.PADI, api.PADR} {
		asksNothing(t, "no payload", api.PPPoE{Code: code})
		for _, b := range [][]byte{none, two, three} {
			asksNothing(t, "not just one service", api.PPPoE{Code: code, Payload: b})
		}
	}
	asks(t, "PADT, no service", api.PPPoE{Code: api.PADT, Session: 5, Payload: none}, api.Disc{Code: api.PADT, Session: 5, Uniq: []byte("u"), HasUniq: true})
	asks(t, "PADT, two", api.PPPoE{Code: api.PADT, Session: 5, Payload: two}, api.Disc{Code: api.PADT, Session: 5, Uniq: []byte("u"), HasUniq: true})
	asks(t, "PADT, three", api.PPPoE{Code: api.PADT, Session: 5, Payload: three}, api.Disc{Code: api.PADT, Session: 5})
}

// What stands behind a tag that ends the row does not count.
func TestClientEnd(t *testing.T) {
	one := wire(tag(api.TagService, "s"), tag(api.TagEnd, ""), tag(api.TagService, "t"), tag(api.TagUniq, "u"), tag(api.TagCookie, "c"))
	for _, code := range []int{api.PADI, api.PADR} {
		asks(t, "an end", api.PPPoE{Code: code, Payload: append(one, 1, 2, 3)}, api.Disc{Code: code, Service: "s"})
		asksNothing(t, "an end first", api.PPPoE{Code: code, Payload: join(make([]byte, 4), one)})
	}
	asks(t, "an end first", api.PPPoE{Code: api.PADT, Session: 9, Payload: join(make([]byte, 4), one)}, api.Disc{Code: api.PADT, Session: 9})
}

func TestClientOfNoTags(t *testing.T) {
	one := wire(tag(api.TagService, "isp"))
	many := bytes.Repeat(wire(tag(7, "")), 64)
	for _, b := range [][]byte{
		one[:6], one[:3], append(bytes.Clone(one), 0), join(one, []byte{1, 3, 0, 1}), join(one, []byte{0, 0, 0, 1, 9}),
		join(one, many), join(one, make([]byte, 1488)), {0xff}, bytes.Repeat([]byte{0xff}, 1494), make([]byte, 1495), make([]byte, 70000),
	} {
		asksNothing(t, "no tags", api.PPPoE{Code: api.PADI, Payload: b})
		asksNothing(t, "no tags", api.PPPoE{Code: api.PADR, Payload: b})
		asksNothing(t, "no tags", api.PPPoE{Code: api.PADT, Session: 3, Payload: b})
	}
	asks(t, "all that may be", api.PPPoE{Code: api.PADI, Payload: join(one, make([]byte, 1487))}, api.Disc{Code: api.PADI, Service: "isp"})
	asks(t, "64 tags", api.PPPoE{Code: api.PADI, Payload: join(many[4:], one)}, api.Disc{Code: api.PADI, Service: "isp"})
}

// first is the value of the first tag of that type, and whether there is one.
func first(l []api.Tag, typ int) ([]byte, bool) {
	i := slices.IndexFunc(l, func(t api.Tag) bool { return t.Type == typ })
	if i < 0 {
		return nil, false
	}
	return l[i].Value, true
}

// Any tags: what is asked is told by the rule, tag by tag.
func TestClientOfAny(t *testing.T) {
	r := rand.New(rand.NewSource(3))
	types := []int{api.TagService, api.TagUniq, api.TagRelay, api.TagCookie, api.TagName, api.TagSystem}
	heard := map[int]int{}
	for range 20000 {
		p := api.PPPoE{Code: []int{api.PADI, api.PADR, api.PADT, api.PADS}[r.Intn(4)], Session: r.Intn(8) / 6}
		var l []api.Tag
		services := 0
		for range r.Intn(6) {
			next := api.Tag{Type: types[r.Intn(len(types))], Value: more(r, r.Intn(3))}
			if next.Type == api.TagService {
				services++
			}
			l = append(l, next)
		}
		p.Payload = wire(l...)
		want := api.Disc{Code: p.Code, Session: p.Session}
		want.Uniq, want.HasUniq = first(l, api.TagUniq)
		want.Relay, want.HasRelay = first(l, api.TagRelay)
		name, _ := first(l, api.TagService)
		switch {
		case p.Code == api.PADI && p.Session == 0 && services == 1:
			want.Service = string(name)
		case p.Code == api.PADR && p.Session == 0 && services == 1:
			want.Service = string(name)
			want.Cookie, _ = first(l, api.TagCookie)
		case p.Code == api.PADT && p.Session == 1:
		default:
			asksNothing(t, "drawn", p)
			continue
		}
		heard[p.Code]++
		asks(t, "drawn", p, want)
	}
	if len(heard) != 3 || heard[api.PADI] < 100 || heard[api.PADR] < 100 || heard[api.PADT] < 100 {
		t.Error("too few:", heard)
	}
}

// P6.4

func TestOffer(t *testing.T) {
	p, err := pppoe.Offer("ac", []string{"gold", "isp", "", "silver"}, asked(api.PADI), []byte("12345"))
	told(t, "Offer", p, err, packet(api.PADO, 0,
		tag(api.TagName, "ac"), tag(api.TagService, "isp"), tag(api.TagService, "gold"), tag(api.TagService, ""), tag(api.TagService, "silver"),
		tag(api.TagUniq, "uniq"), tag(api.TagRelay, "relay"), tag(api.TagCookie, "12345")))
}

func TestOfferOfLittle(t *testing.T) {
	d := api.Disc{Code: api.PADI}
	want := packet(api.PADO, 0, tag(api.TagName, ""), tag(api.TagService, ""), tag(api.TagCookie, ""))
	for _, services := range [][]string{nil, {}, {""}, {"", ""}} {
		for _, cookie := range [][]byte{nil, {}} {
			p, err := pppoe.Offer("", services, d, cookie)
			told(t, "Offer of nothing", p, err, want)
		}
	}
}

// Services keep their order, and only that which was asked for is left out: it stands there already.
func TestOfferServices(t *testing.T) {
	d := api.Disc{Code: api.PADI, Service: "b"}
	for _, c := range []struct{ services, want []string }{
		{nil, []string{"b"}},
		{[]string{"b"}, []string{"b"}},
		{[]string{"a", "b", "c"}, []string{"b", "a", "c"}},
		{[]string{"c", "a"}, []string{"b", "c", "a"}},
		{[]string{"B", "b ", "bb", "\x00", "b"}, []string{"b", "B", "b ", "bb", "\x00"}},
		{[]string{"a", "a"}, []string{"b", "a", "a"}},
	} {
		l := []api.Tag{tag(api.TagName, "n")}
		for _, s := range c.want {
			l = append(l, tag(api.TagService, s))
		}
		p, err := pppoe.Offer("n", c.services, d, []byte("c"))
		told(t, "services", p, err, packet(api.PADO, 0, append(l, tag(api.TagCookie, "c"))...))
	}
}

func TestSession(t *testing.T) {
	for _, id := range goodIDs {
		p, err := pppoe.Session(asked(api.PADR), id)
		told(t, "Session", p, err, packet(api.PADS, id, tag(api.TagService, "isp"), tag(api.TagUniq, "uniq"), tag(api.TagRelay, "relay")))
		p, err = pppoe.Session(api.Disc{Code: api.PADR}, id)
		told(t, "Session of nothing", p, err, packet(api.PADS, id, tag(api.TagService, "")))
	}
	for _, id := range wrongIDs {
		p, err := pppoe.Session(asked(api.PADR), id)
		refused(t, "a wrong number", p, err, api.ErrRange)
	}
}

// Whatever is told to the one that asked, it is told by d's code alone, not by d's session.
func TestAnswersOfAnyDisc(t *testing.T) {
	for _, session := range []int{math.MinInt, -1, 1, 65536, math.MaxInt} {
		p, err := pppoe.Offer("n", nil, api.Disc{Code: api.PADI, Session: session}, nil)
		told(t, "Offer", p, err, packet(api.PADO, 0, tag(api.TagName, "n"), tag(api.TagService, ""), tag(api.TagCookie, "")))
		p, err = pppoe.Session(api.Disc{Code: api.PADR, Session: session}, 3)
		told(t, "Session", p, err, packet(api.PADS, 3, tag(api.TagService, "")))
		p, err = pppoe.Refuse(api.Disc{Code: api.PADR, Session: session}, api.TagSystem, "w")
		told(t, "Refuse", p, err, packet(api.PADS, 0, tag(api.TagSystem, "w")))
	}
}

func TestAnswersToOthers(t *testing.T) {
	long := strings.Repeat("l", 70000)
	others := []int{math.MinInt, -1, 1, 8, 10, api.PADI - 256, api.PADR + 256, 1<<32 + api.PADI, math.MaxInt}
	for _, code := range append(others, codes...) {
		d := asked(code)
		d.Service = long
		if code != api.PADI {
			p, err := pppoe.Offer(long, make([]string, 65), d, nil)
			refused(t, "Offer to another code", p, err, api.ErrDisc)
		}
		if code != api.PADR {
			p, err := pppoe.Session(d, -1)
			refused(t, "Session of another code", p, err, api.ErrDisc)
			p, err = pppoe.Session(asked(code), 1)
			refused(t, "Session of another code", p, err, api.ErrDisc)
			p, err = pppoe.Refuse(d, 0, long)
			refused(t, "Refuse of another code", p, err, api.ErrDisc)
			p, err = pppoe.Refuse(asked(code), api.TagSystem, "why")
			refused(t, "Refuse of another code", p, err, api.ErrDisc)
		}
	}
}

// P6.4 and P6.5: what tags.Encode says of the tags

func TestOfferTooMany(t *testing.T) {
	services := make([]string, 0, 70)
	for i := range 70 {
		services = append(services, string(rune('0'+i)))
	}
	d := api.Disc{Code: api.PADI, Service: "0"}
	p, err := pppoe.Offer("", services[:62], d, nil)
	if l, _ := tags.Decode(p.Payload); err != api.OK || len(l) != 64 {
		t.Errorf("64 tags: %d, %d", len(l), err)
	}
	p, err = pppoe.Offer("", services[:63], d, nil)
	refused(t, "65 tags", p, err, api.ErrMany)
	d.HasUniq = true
	p, err = pppoe.Offer("", services[:62], d, nil)
	refused(t, "65 tags, with Host-Uniq", p, err, api.ErrMany)
	p, err = pppoe.Offer("", services[:61], d, nil)
	if l, _ := tags.Decode(p.Payload); err != api.OK || len(l) != 64 {
		t.Errorf("64 tags, with Host-Uniq: %d, %d", len(l), err)
	}
	p, err = pppoe.Offer(strings.Repeat("l", 70000), services, d, nil)
	refused(t, "too many, and one that may not be", p, err, api.ErrMany)
	p, err = pppoe.Offer("n", make([]string, 1<<16), d, nil)
	refused(t, "65536 services", p, err, api.ErrMany)
}

// Bytes of each part that an offer has, up to all that there may be, and one more.
func TestOfferLong(t *testing.T) {
	// An offer of nothing, with what is told again and another service, has six tags: 24 bytes.
	room := 1494 - 24
	fill := func(size int, cases func(s string) (string, string, string, api.Disc)) (api.PPPoE, api.Errno) {
		name, other, cookie, d := cases(strings.Repeat("x", size))
		d.Code, d.HasUniq, d.HasRelay = api.PADI, true, true
		return pppoe.Offer(name, []string{other}, d, []byte(cookie))
	}
	for i, c := range []func(s string) (name, other, cookie string, d api.Disc){
		func(s string) (string, string, string, api.Disc) { return s[1:], "o", "", api.Disc{} },
		func(s string) (string, string, string, api.Disc) { return "", s, "", api.Disc{} },
		func(s string) (string, string, string, api.Disc) { return "", "", "", api.Disc{Service: s} },
		func(s string) (string, string, string, api.Disc) { return "", "o", s[1:], api.Disc{} },
		func(s string) (string, string, string, api.Disc) { return "", "o", "", api.Disc{Uniq: []byte(s[1:])} },
		func(s string) (string, string, string, api.Disc) { return "", "o", "", api.Disc{Relay: []byte(s[1:])} },
	} {
		p, err := fill(room, c)
		if err != api.OK || len(p.Payload) != 1494 {
			t.Errorf("%d: %d bytes, %d", i, len(p.Payload), err)
		}
		for _, size := range []int{room + 1, room + 2, 1500, 65535} {
			p, err = fill(size, c)
			refused(t, "too long", p, err, api.ErrLong)
		}
		p, err = fill(65537, c)
		refused(t, "a tag that may not be", p, err, api.ErrTag)
	}
}

func TestSessionLong(t *testing.T) {
	d := api.Disc{Code: api.PADR, Service: strings.Repeat("s", 1000), Uniq: make([]byte, 400), HasUniq: true, Relay: make([]byte, 82), HasRelay: true}
	p, err := pppoe.Session(d, 1)
	if err != api.OK || len(p.Payload) != 1494 {
		t.Errorf("%d bytes, %d", len(p.Payload), err)
	}
	d.Relay = make([]byte, 83)
	p, err = pppoe.Session(d, 1)
	refused(t, "too long", p, err, api.ErrLong)
	p, err = pppoe.Session(d, 0)
	refused(t, "a wrong number ahead of too long", p, err, api.ErrRange)
	d.Uniq = make([]byte, 65536)
	p, err = pppoe.Session(d, 1)
	refused(t, "a tag that may not be", p, err, api.ErrTag)
	d.HasUniq, d.HasRelay = false, false
	p, err = pppoe.Session(d, 1)
	told(t, "what is not there is not told", p, err, packet(api.PADS, 1, tag(api.TagService, d.Service)))
}

// P6.5

func TestRefuse(t *testing.T) {
	for _, typ := range []int{api.TagNoService, api.TagSystem, api.TagGeneric} {
		p, err := pppoe.Refuse(asked(api.PADR), typ, "full")
		told(t, "Refuse", p, err, packet(api.PADS, 0, tag(typ, "full"), tag(api.TagUniq, "uniq"), tag(api.TagRelay, "relay")))
		p, err = pppoe.Refuse(api.Disc{Code: api.PADR, Service: "s"}, typ, "")
		told(t, "Refuse without a reason", p, err, packet(api.PADS, 0, tag(typ, "")))
	}
}

func TestRefuseTypes(t *testing.T) {
	wrong := []int{math.MinInt, -0x0202, -1, 0x10000, 0x10202, 1<<32 + 0x0202, math.MaxInt}
	for typ := range 0x10000 {
		if typ != 0x0201 && typ != 0x0202 && typ != 0x0203 {
			wrong = append(wrong, typ)
		}
	}
	for _, typ := range wrong {
		p, err := pppoe.Refuse(asked(api.PADR), typ, "full")
		refused(t, "a type of no error", p, err, api.ErrArg)
	}
	p, err := pppoe.Refuse(asked(api.PADR), api.TagService, strings.Repeat("w", 2000))
	refused(t, "a type of no error ahead of too long", p, err, api.ErrArg)
}

func TestRefuseLong(t *testing.T) {
	d := api.Disc{Code: api.PADR, Uniq: make([]byte, 400), HasUniq: true, Relay: make([]byte, 82), HasRelay: true}
	p, err := pppoe.Refuse(d, api.TagGeneric, strings.Repeat("w", 1000))
	if err != api.OK || len(p.Payload) != 1494 {
		t.Errorf("%d bytes, %d", len(p.Payload), err)
	}
	p, err = pppoe.Refuse(d, api.TagGeneric, strings.Repeat("w", 1001))
	refused(t, "too long", p, err, api.ErrLong)
	p, err = pppoe.Refuse(d, api.TagGeneric, strings.Repeat("w", 65536))
	refused(t, "a tag that may not be", p, err, api.ErrTag)
}

func TestTerminate(t *testing.T) {
	for id := 1; id <= 65534; id++ {
		p, err := pppoe.Terminate(id)
		if p.Code != api.PADT || p.Session != id || len(p.Payload) != 0 || err != api.OK {
			t.Fatalf("%d: %v, %d", id, p, err)
		}
	}
	for _, id := range wrongIDs {
		p, err := pppoe.Terminate(id)
		refused(t, "a wrong number", p, err, api.ErrRange)
	}
}

// P6.6

func TestThereAndBack(t *testing.T) {
	r := rand.New(rand.NewSource(4))
	for range 5000 {
		p := api.PPPoE{Code: r.Intn(256), Session: r.Intn(65536), Payload: more(r, r.Intn(100))}
		if r.Intn(20) == 0 {
			p.Payload = more(r, 1494-r.Intn(3))
		}
		b, err := pppoe.Encode(p)
		if err != api.OK {
			t.Fatal(p, err)
		}
		isPacket(t, "what was encoded", b, p)
		isPacket(t, "anything behind", join(b, more(r, r.Intn(2000))), p)
		isPacket(t, "another packet behind", join(b, b), p)
	}
}

func TestBytesThereAndBack(t *testing.T) {
	r := rand.New(rand.NewSource(5))
	took := 0
	for range 20000 {
		b := more(r, r.Intn(20))
		for i := range min(len(b), 6) {
			switch {
			case i == 0 && r.Intn(10) > 0:
				b[i] = 17
			case i == 4:
				b[i] = 0
			case i == 5:
				b[i] %= 20
			}
		}
		p, err := pppoe.Decode(b)
		if err != api.OK {
			continue
		}
		took++
		if again, err := pppoe.Encode(p); err != api.OK || !bytes.HasPrefix(b, again) {
			t.Fatalf("%x: %v, %x, %d", b, p, again, err)
		}
	}
	if took < 1000 {
		t.Error("too few were packets:", took)
	}
}

// P6.7

// once fails where the packet has that tag of d another time than it should, or another one of its type.
func once(t *testing.T, what string, p api.PPPoE, typ int, value []byte, has bool) {
	t.Helper()
	l, err := tags.Decode(p.Payload)
	if err != api.OK {
		t.Fatal(what, err)
	}
	got := tags.All(l, typ)
	if has && (len(got) != 1 || !bytes.Equal(got[0], value)) || !has && len(got) != 0 {
		t.Errorf("%s, type %#x: %q", what, typ, got)
	}
}

// What a client sent to be told again goes by its bytes through all: asked, answered, and sent.
func TestToldAgain(t *testing.T) {
	r := rand.New(rand.NewSource(6))
	for range 3000 {
		var l []api.Tag
		for _, typ := range []int{api.TagUniq, api.TagRelay, api.TagCookie} {
			if r.Intn(3) > 0 {
				l = append(l, api.Tag{Type: typ, Value: more(r, r.Intn(50))})
			}
			if r.Intn(8) == 0 {
				l = append(l, api.Tag{Type: typ, Value: more(r, r.Intn(50))})
			}
		}
		l = append(l, tag(api.TagService, "s"))
		r.Shuffle(len(l), func(i, j int) { l[i], l[j] = l[j], l[i] })
		uniq, hasUniq := first(l, api.TagUniq)
		relay, hasRelay := first(l, api.TagRelay)
		check := func(what string, p api.PPPoE, err api.Errno) {
			t.Helper()
			if err != api.OK {
				t.Fatal(what, err)
			}
			once(t, what, p, api.TagUniq, uniq, hasUniq)
			once(t, what, p, api.TagRelay, relay, hasRelay)
		}
		d, err := pppoe.Client(packet(api.PADI, 0, l...))
		if err != api.OK {
			t.Fatal(l, err)
		}
		p, err := pppoe.Offer("ac", []string{"other"}, d, []byte("cookie"))
		check("Offer", p, err)
		d, err = pppoe.Client(packet(api.PADR, 0, l...))
		if err != api.OK {
			t.Fatal(l, err)
		}
		p, err = pppoe.Session(d, 1+r.Intn(65534))
		check("Session", p, err)
		p, err = pppoe.Refuse(d, api.TagSystem, "full")
		check("Refuse", p, err)
	}
}

// What is not said to be there is not told, though there be bytes.
func TestNotToldAgain(t *testing.T) {
	for i := range 4 {
		d := api.Disc{Code: api.PADR, Uniq: []byte("u"), HasUniq: i&1 > 0, Relay: []byte("r"), HasRelay: i&2 > 0}
		p, err := pppoe.Session(d, 1)
		l := []api.Tag{tag(api.TagService, "")}
		why := []api.Tag{tag(api.TagGeneric, "w")}
		offer := []api.Tag{tag(api.TagName, ""), tag(api.TagService, "")}
		if d.HasUniq {
			l, why, offer = append(l, tag(api.TagUniq, "u")), append(why, tag(api.TagUniq, "u")), append(offer, tag(api.TagUniq, "u"))
		}
		if d.HasRelay {
			l, why, offer = append(l, tag(api.TagRelay, "r")), append(why, tag(api.TagRelay, "r")), append(offer, tag(api.TagRelay, "r"))
		}
		told(t, "Session", p, err, packet(api.PADS, 1, l...))
		p, err = pppoe.Refuse(d, api.TagGeneric, "w")
		told(t, "Refuse", p, err, packet(api.PADS, 0, why...))
		d.Code = api.PADI
		p, err = pppoe.Offer("", nil, d, []byte("c"))
		told(t, "Offer", p, err, packet(api.PADO, 0, append(offer, tag(api.TagCookie, "c"))...))
	}
}

// P6.8

func TestEncodeIsOnesOwn(t *testing.T) {
	payload, whole := roomy([]byte("payload"))
	kept := bytes.Clone(whole)
	p := api.PPPoE{Code: 7, Session: 1, Payload: payload}
	one, _ := pppoe.Encode(p)
	two, _ := pppoe.Encode(p)
	if !bytes.Equal(whole, kept) {
		t.Fatal("what was handed in is changed")
	}
	spoil(one)
	if !bytes.Equal(whole, kept) || string(two) != "\x11\x07\x00\x01\x00\x07payload" {
		t.Error("what was told is shared")
	}
	spoil(whole)
	if string(two) != "\x11\x07\x00\x01\x00\x07payload" {
		t.Error("what was handed in is kept")
	}
}

func TestDecodeIsOnesOwn(t *testing.T) {
	b, whole := roomy([]byte("\x11\x07\x00\x01\x00\x07payload"))
	kept := bytes.Clone(whole)
	one, _ := pppoe.Decode(b)
	two, _ := pppoe.Decode(b)
	if !bytes.Equal(whole, kept) {
		t.Fatal("what was handed in is changed")
	}
	spoil(one.Payload)
	if !bytes.Equal(whole, kept) || string(two.Payload) != "payload" {
		t.Error("what was told is shared")
	}
	spoil(whole)
	if string(two.Payload) != "payload" {
		t.Error("what was handed in is kept")
	}
}

func TestClientIsOnesOwn(t *testing.T) {
	payload, whole := roomy(wire(full()...))
	kept := bytes.Clone(whole)
	p := api.PPPoE{Code: api.PADR, Payload: payload}
	one, _ := pppoe.Client(p)
	two, _ := pppoe.Client(p)
	want := copiedDisc(two)
	if !bytes.Equal(whole, kept) {
		t.Fatal("what was handed in is changed")
	}
	_, _ = append(one.Uniq, "overwritten"...), append(one.Relay, "overwritten"...)
	if string(one.Uniq) != "uniq" || string(one.Relay) != "relay" || string(one.Cookie) != "cookie" {
		t.Error("parts of what was told share memory")
	}
	spoilDisc(one)
	if !bytes.Equal(whole, kept) || !sameDisc(two, want) {
		t.Error("what was told is shared")
	}
	spoil(whole)
	if !sameDisc(two, want) {
		t.Error("what was handed in is kept")
	}
}

func TestAnswersAreOnesOwn(t *testing.T) {
	uniq, allUniq := roomy([]byte("uniq"))
	relay, allRelay := roomy([]byte("relay"))
	cookie, allCookie := roomy([]byte("cookie"))
	services := []string{"a", "b", "c", "d"}
	all := [][]byte{allUniq, allRelay, allCookie}
	kept := join(all...)
	for name, call := range map[string]func() (api.PPPoE, api.Errno){
		"Offer": func() (api.PPPoE, api.Errno) {
			d := api.Disc{Code: api.PADI, Service: "b", Uniq: uniq, HasUniq: true, Relay: relay, HasRelay: true}
			return pppoe.Offer("ac", services[:3], d, cookie)
		},
		"Session": func() (api.PPPoE, api.Errno) {
			return pppoe.Session(api.Disc{Code: api.PADR, Uniq: uniq, HasUniq: true, Relay: relay, HasRelay: true, Cookie: cookie}, 9)
		},
		"Refuse": func() (api.PPPoE, api.Errno) {
			return pppoe.Refuse(api.Disc{Code: api.PADR, Uniq: uniq, HasUniq: true, Relay: relay, HasRelay: true, Cookie: cookie}, api.TagSystem, "why")
		},
		"Terminate": func() (api.PPPoE, api.Errno) { return pppoe.Terminate(7) },
	} {
		one, err := call()
		two, _ := call()
		if err != api.OK || !same(one, two) {
			t.Fatal(name, err)
		}
		want := bytes.Clone(two.Payload)
		spoil(one.Payload)
		if !bytes.Equal(join(all...), kept) || !bytes.Equal(two.Payload, want) || strings.Join(services, "") != "abcd" {
			t.Error(name, "what was told is shared, or what was handed in is changed")
		}
		for _, b := range all {
			spoil(b)
		}
		if !bytes.Equal(two.Payload, want) {
			t.Error(name, "what was handed in is kept")
		}
		for _, b := range all {
			spoil(b)
		}
	}
}
