package cp_test

import (
	"bytes"
	"math"
	"math/rand"
	"testing"

	"concierge/api"
	"concierge/cp"
)

// wrongBytes are numbers that no byte has, some of them with the lowest byte of one that may be.
var wrongBytes = []int{math.MinInt, -1 << 32, -256, -255, -1, 256, 257, 0x107, 0x10000, 1 << 32, 1<<32 + 1, math.MaxInt}

// wrongProtos are numbers that no protocol has, some of them with the lowest two bytes of one that may be.
var wrongProtos = []int{
	math.MinInt, -0x10000 + 0xc021, -0xc021, -65535, -1, 0, 2, 0x20, 0x0100, 0x0101, 0xc020, 0xc121, 0xffff,
	0x10000, 0x10001, 0x10021, 0x1c021, 1<<32 + 0xc021, math.MaxInt, math.MaxInt &^ 0x100,
}

// drawn are so many bytes, the same for the same seed.
func drawn(seed int64, size int) []byte {
	b := make([]byte, size)
	rand.New(rand.NewSource(seed)).Read(b)
	return b
}

// more are so many bytes that r draws.
func more(r *rand.Rand, size int) []byte {
	b := make([]byte, size)
	r.Read(b)
	return b
}

// join is the parts, one behind the other, in memory of its own.
func join(parts ...[]byte) []byte {
	return bytes.Join(parts, nil)
}

// spoil overwrites b and all the room behind it.
func spoil(b []byte) {
	b = b[:cap(b)]
	for i := range b {
		b[i] ^= 0xff
	}
}

// roomy is a copy of b with room behind it that is filled, and all of that.
func roomy(b []byte) (piece, whole []byte) {
	whole = append(bytes.Clone(b), bytes.Repeat([]byte{0xee}, 100)...)
	return whole[:len(b)], whole
}

// isProto tells whether the two bytes are a protocol, as the words say it.
func isProto(high, low byte) bool {
	return high%2 == 0 && low%2 == 1
}

// samePPP tells whether both bear the same.
func samePPP(a, b api.PPP) bool {
	return a.Proto == b.Proto && bytes.Equal(a.Info, b.Info)
}

// sameCtl tells whether both are the same packet.
func sameCtl(a, b api.Ctl) bool {
	return a.Code == b.Code && a.ID == b.ID && bytes.Equal(a.Data, b.Data)
}

// isSplit fails where bytes are not split into that.
func isSplit(t *testing.T, what string, b []byte, want api.PPP) {
	t.Helper()
	if got, err := cp.Split(b); err != api.OK || !samePPP(got, want) {
		t.Errorf("%s: %v, %d, not %v", what, got, err, want)
	}
}

// noSplit fails where bytes are not refused with that error, and nothing beside it.
func noSplit(t *testing.T, what string, b []byte, want api.Errno) {
	t.Helper()
	if got, err := cp.Split(b); err != want || got.Proto != 0 || len(got.Info) != 0 {
		t.Errorf("%s: %v, %d, not %d", what, got, err, want)
	}
}

// isBytes fails where an answer is not those bytes.
func isBytes(t *testing.T, what string, got []byte, err api.Errno, want []byte) {
	t.Helper()
	if err != api.OK || !bytes.Equal(got, want) {
		t.Errorf("%s: %x, %d, not %x", what, got, err, want)
	}
}

// noBytes fails where an answer is not that error, and nothing beside it.
func noBytes(t *testing.T, what string, got []byte, err, want api.Errno) {
	t.Helper()
	if err != want || len(got) != 0 {
		t.Errorf("%s: %x, %d, not %d", what, got, err, want)
	}
}

// isCtl fails where an answer is not that packet.
func isCtl(t *testing.T, what string, got api.Ctl, err api.Errno, want api.Ctl) {
	t.Helper()
	if err != api.OK || !sameCtl(got, want) {
		t.Errorf("%s: %v, %d, not %v", what, got, err, want)
	}
}

// noCtl fails where an answer is not that error, and nothing beside it.
func noCtl(t *testing.T, what string, got api.Ctl, err, want api.Errno) {
	t.Helper()
	if err != want || got.Code != 0 || got.ID != 0 || len(got.Data) != 0 {
		t.Errorf("%s: %v, %d, not %d", what, got, err, want)
	}
}

// P7.1

func TestExampleOne(t *testing.T) {
	b, err := cp.Join(api.PPP{Proto: 0xc021, Info: []byte{1, 2}})
	isBytes(t, "Join", b, err, []byte{0xc0, 0x21, 1, 2})
	b, err = cp.Encode(api.Ctl{Code: 1, ID: 7, Data: []byte{9}})
	isBytes(t, "Encode", b, err, []byte{1, 7, 0, 5, 9})
}

func TestSplit(t *testing.T) {
	isSplit(t, "LCP", []byte{0xc0, 0x21, 1, 2}, api.PPP{Proto: api.ProtoLCP, Info: []byte{1, 2}})
	isSplit(t, "IPCP", []byte{0x80, 0x21, 3}, api.PPP{Proto: api.ProtoIPCP, Info: []byte{3}})
	isSplit(t, "IP, without bytes", []byte{0, 0x21}, api.PPP{Proto: api.ProtoIP})
	isSplit(t, "the lowest", []byte{0, 1, 0}, api.PPP{Proto: 1, Info: []byte{0}})
	isSplit(t, "the highest", []byte{0xfe, 0xff}, api.PPP{Proto: 0xfeff})
}

func TestSplitShort(t *testing.T) {
	noSplit(t, "nil", nil, api.ErrProto)
	noSplit(t, "no bytes", []byte{}, api.ErrProto)
	for b := range 256 {
		noSplit(t, "one byte", []byte{byte(b)}, api.ErrProto)
	}
	noSplit(t, "one byte, more behind it", []byte{0xc0, 0x21}[:1], api.ErrProto)
}

// All numbers that two bytes can tell, in both ways.
func TestProtocols(t *testing.T) {
	long := make([]byte, 2+1493)
	for n := range 65536 {
		high, low := byte(n/256), byte(n%256)
		long[0], long[1] = high, low
		b, err := cp.Join(api.PPP{Proto: n, Info: []byte("xy")})
		if isProto(high, low) {
			isSplit(t, "that may be", []byte{high, low, 'x', 'y'}, api.PPP{Proto: n, Info: []byte("xy")})
			noSplit(t, "that may be, too long", long, api.ErrLong)
			isBytes(t, "that may be", b, err, []byte{high, low, 'x', 'y'})
			continue
		}
		noSplit(t, "that may not be", []byte{high, low, 'x', 'y'}, api.ErrProto)
		noSplit(t, "that may not be, without bytes", []byte{high, low}, api.ErrProto)
		noSplit(t, "that may not be, too long", long, api.ErrProto)
		noBytes(t, "that may not be", b, err, api.ErrProto)
	}
}

func TestSplitAndJoinLengths(t *testing.T) {
	all := drawn(1, 1600)
	for size := range 1600 {
		b := join([]byte{0x80, 0x21}, all[:size])
		p := api.PPP{Proto: 0x8021, Info: all[:size]}
		got, err := cp.Join(p)
		if size <= 1492 {
			isSplit(t, "short enough", b, p)
			isBytes(t, "short enough", got, err, b)
			continue
		}
		noSplit(t, "too long", b, api.ErrLong)
		noBytes(t, "too long", got, err, api.ErrLong)
	}
	for _, size := range []int{65535, 65536, 65537, 65536 + 1492, 1 << 20} {
		noSplit(t, "far too long", join([]byte{0x80, 0x21}, make([]byte, size)), api.ErrLong)
		got, err := cp.Join(api.PPP{Proto: 0x8021, Info: make([]byte, size)})
		noBytes(t, "far too long", got, err, api.ErrLong)
	}
}

func TestJoin(t *testing.T) {
	for _, c := range []struct {
		p    api.PPP
		want string
	}{
		{api.PPP{Proto: 1}, "\x00\x01"},
		{api.PPP{Proto: 1, Info: []byte{}}, "\x00\x01"},
		{api.PPP{Proto: api.ProtoIP, Info: []byte{0}}, "\x00\x21\x00"},
		{api.PPP{Proto: api.ProtoLCP, Info: []byte("abc")}, "\xc0\x21abc"},
		{api.PPP{Proto: 0xfeff, Info: []byte{0xff}}, "\xfe\xff\xff"},
	} {
		got, err := cp.Join(c.p)
		isBytes(t, "Join", got, err, []byte(c.want))
	}
}

func TestJoinOfNone(t *testing.T) {
	long := make([]byte, 1493)
	for _, n := range wrongProtos {
		got, err := cp.Join(api.PPP{Proto: n})
		noBytes(t, "no protocol", got, err, api.ErrProto)
		got, err = cp.Join(api.PPP{Proto: n, Info: long})
		noBytes(t, "no protocol, too long", got, err, api.ErrProto)
	}
}

// P7.2

// isPacket fails where the bytes are not that packet.
func isPacket(t *testing.T, what string, b []byte, want api.Ctl) {
	t.Helper()
	got, err := cp.Decode(b)
	isCtl(t, what, got, err, want)
}

// noPacket fails where bytes are not refused, and nothing told beside it.
func noPacket(t *testing.T, what string, b []byte) {
	t.Helper()
	got, err := cp.Decode(b)
	noCtl(t, what, got, err, api.ErrCtl)
}

func TestDecode(t *testing.T) {
	isPacket(t, "of the example", []byte{1, 7, 0, 5, 9}, api.Ctl{Code: 1, ID: 7, Data: []byte{9}})
	isPacket(t, "without data", []byte{5, 255, 0, 4}, api.Ctl{Code: api.TermReq, ID: 255})
	isPacket(t, "of code 0", []byte{0, 0, 0, 4}, api.Ctl{})
	isPacket(t, "of the highest code", []byte{255, 0, 0, 6, 1, 2}, api.Ctl{Code: 255, Data: []byte{1, 2}})
	isPacket(t, "more behind it", []byte{1, 7, 0, 5, 9, 8, 7}, api.Ctl{Code: 1, ID: 7, Data: []byte{9}})
	isPacket(t, "more behind it, without data", []byte{1, 7, 0, 4, 9, 8, 7}, api.Ctl{Code: 1, ID: 7})
}

func TestDecodeShort(t *testing.T) {
	noPacket(t, "nil", nil)
	for size := range 4 {
		noPacket(t, "cut", []byte{1, 7, 0, 4}[:size])
		noPacket(t, "cut, of a length of its own", []byte{1, 7, 0, byte(size)}[:size])
	}
	for size := range 4 {
		noPacket(t, "of a length below 4", []byte{1, 7, 0, byte(size)})
		noPacket(t, "of a length below 4, with data", []byte{1, 7, 0, byte(size), 1, 2, 3, 4})
	}
}

func TestDecodeHeads(t *testing.T) {
	for n := range 65536 {
		code, id := n/256, n%256
		got, err := cp.Decode([]byte{byte(code), byte(id), 0, 5, 'x'})
		isCtl(t, "head", got, err, api.Ctl{Code: code, ID: id, Data: []byte("x")})
	}
}

// All lengths that two bytes can tell, with as many bytes there, with one less, and with more.
func TestDecodeLengths(t *testing.T) {
	all := drawn(2, 65600)
	for size := range 65536 {
		b := all[:size+16]
		b[0], b[1], b[2], b[3] = 9, 3, byte(size/256), byte(size%256)
		if size < 4 {
			noPacket(t, "length below 4", b)
			continue
		}
		if size > 1600 && size%251 > 0 && size < 65500 {
			continue
		}
		want := api.Ctl{Code: 9, ID: 3, Data: b[4:size]}
		isPacket(t, "as long as it says", b[:size], want)
		isPacket(t, "longer by one", b[:size+1], want)
		isPacket(t, "longer", b, want)
		noPacket(t, "shorter by one", b[:size-1])
		noPacket(t, "the head alone", b[:min(4, size-1)])
	}
}

func TestEncode(t *testing.T) {
	for _, c := range []struct {
		c    api.Ctl
		want string
	}{
		{api.Ctl{}, "\x00\x00\x00\x04"},
		{api.Ctl{Data: []byte{}}, "\x00\x00\x00\x04"},
		{api.Ctl{Code: 255, ID: 255}, "\xff\xff\x00\x04"},
		{api.Ctl{Code: api.EchoReq, ID: 1, Data: []byte("abcd")}, "\x09\x01\x00\x08abcd"},
	} {
		got, err := cp.Encode(c.c)
		isBytes(t, "Encode", got, err, []byte(c.want))
	}
	for n := range 65536 {
		code, id := n/256, n%256
		got, err := cp.Encode(api.Ctl{Code: code, ID: id, Data: []byte("x")})
		isBytes(t, "Encode", got, err, []byte{byte(code), byte(id), 0, 5, 'x'})
	}
}

// noEncode fails where a packet is not refused with that error, and nothing told beside it.
func noEncode(t *testing.T, what string, c api.Ctl, want api.Errno) {
	t.Helper()
	got, err := cp.Encode(c)
	noBytes(t, what, got, err, want)
}

func TestEncodeOfNone(t *testing.T) {
	long := make([]byte, 1489)
	for _, n := range wrongBytes {
		noEncode(t, "code", api.Ctl{Code: n}, api.ErrArg)
		noEncode(t, "number", api.Ctl{ID: n}, api.ErrArg)
		noEncode(t, "both", api.Ctl{Code: n, ID: n}, api.ErrArg)
		noEncode(t, "code, too long", api.Ctl{Code: n, ID: 255, Data: long}, api.ErrArg)
		noEncode(t, "number, too long", api.Ctl{Code: 255, ID: n, Data: long}, api.ErrArg)
	}
}

func TestEncodeLengths(t *testing.T) {
	all := drawn(3, 1600)
	for size := range 1600 {
		c := api.Ctl{Code: api.CodeRej, ID: 9, Data: all[:size]}
		if size > 1488 {
			noEncode(t, "too long", c, api.ErrLong)
			continue
		}
		got, err := cp.Encode(c)
		isBytes(t, "short enough", got, err, join([]byte{7, 9, byte((size + 4) / 256), byte((size + 4) % 256)}, all[:size]))
	}
	for _, size := range []int{65531, 65532, 65535, 65536, 65537, 65536 + 1488, 1 << 20} {
		noEncode(t, "far too long", api.Ctl{Code: 1, Data: make([]byte, size)}, api.ErrLong)
	}
}

// P7.3

func TestReject(t *testing.T) {
	got, err := cp.Reject(api.Ctl{Code: 1, ID: 7, Data: []byte{9}}, 3)
	isCtl(t, "Reject", got, err, api.Ctl{Code: 7, ID: 3, Data: []byte{1, 7, 0, 5, 9}})
	got, err = cp.Reject(api.Ctl{Code: 0xff, ID: 0xfe}, 0)
	isCtl(t, "Reject of no data", got, err, api.Ctl{Code: 7, Data: []byte{0xff, 0xfe, 0, 4}})
	got, err = cp.Reject(api.Ctl{}, 255)
	isCtl(t, "Reject of zeros", got, err, api.Ctl{Code: 7, ID: 255, Data: []byte{0, 0, 0, 4}})
}

func TestProtocol(t *testing.T) {
	got, err := cp.Protocol(api.PPP{Proto: 0x8021, Info: []byte{1, 2}}, 3)
	isCtl(t, "Protocol", got, err, api.Ctl{Code: 8, ID: 3, Data: []byte{0x80, 0x21, 1, 2}})
	got, err = cp.Protocol(api.PPP{Proto: 0x0021}, 0)
	isCtl(t, "Protocol of no bytes", got, err, api.Ctl{Code: 8, Data: []byte{0, 0x21}})
	got, err = cp.Protocol(api.PPP{Proto: 1, Info: []byte{0}}, 255)
	isCtl(t, "Protocol of the lowest", got, err, api.Ctl{Code: 8, ID: 255, Data: []byte{0, 1, 0}})
}

func TestNumbersOfRejects(t *testing.T) {
	for id := range 256 {
		got, err := cp.Reject(api.Ctl{Code: 12, ID: 5}, id)
		isCtl(t, "Reject", got, err, api.Ctl{Code: 7, ID: id, Data: []byte{12, 5, 0, 4}})
		got, err = cp.Protocol(api.PPP{Proto: 0x8021}, id)
		isCtl(t, "Protocol", got, err, api.Ctl{Code: 8, ID: id, Data: []byte{0x80, 0x21}})
	}
	for _, id := range wrongBytes {
		for _, c := range []api.Ctl{{Code: 1}, {Code: -1}, {ID: 256}, {Data: make([]byte, 1489)}} {
			got, err := cp.Reject(c, id)
			noCtl(t, "Reject", got, err, api.ErrArg)
		}
		for _, p := range []api.PPP{{Proto: 0xc021}, {}, {Proto: 0xc021, Info: make([]byte, 1493)}} {
			got, err := cp.Protocol(p, id)
			noCtl(t, "Protocol", got, err, api.ErrArg)
		}
	}
}

// What is told of is refused as Encode and Join refuse it.
func TestRejectsOfNone(t *testing.T) {
	for _, n := range wrongBytes {
		for _, size := range []int{0, 1488, 1489} {
			got, err := cp.Reject(api.Ctl{Code: n, Data: make([]byte, size)}, 7)
			noCtl(t, "Reject of no code", got, err, api.ErrArg)
			got, err = cp.Reject(api.Ctl{ID: n, Data: make([]byte, size)}, 7)
			noCtl(t, "Reject of no number", got, err, api.ErrArg)
		}
	}
	for _, n := range wrongProtos {
		for _, size := range []int{0, 1492, 1493} {
			got, err := cp.Protocol(api.PPP{Proto: n, Info: make([]byte, size)}, 7)
			noCtl(t, "Protocol of none", got, err, api.ErrProto)
		}
	}
}

func TestRejectsLengths(t *testing.T) {
	all := drawn(4, 1600)
	for size := range 1600 {
		got, err := cp.Reject(api.Ctl{Code: 13, ID: 2, Data: all[:size]}, 8)
		if size > 1488 {
			noCtl(t, "Reject", got, err, api.ErrLong)
		} else {
			want := join([]byte{13, 2, byte((size + 4) / 256), byte((size + 4) % 256)}, all[:size])
			isCtl(t, "Reject", got, err, api.Ctl{Code: 7, ID: 8, Data: want[:min(len(want), 1488)]})
		}
		got, err = cp.Protocol(api.PPP{Proto: 0xc023, Info: all[:size]}, 8)
		if size > 1492 {
			noCtl(t, "Protocol", got, err, api.ErrLong)
		} else {
			want := join([]byte{0xc0, 0x23}, all[:size])
			isCtl(t, "Protocol", got, err, api.Ctl{Code: 8, ID: 8, Data: want[:min(len(want), 1488)]})
		}
	}
}

// P7.4

func TestJoinedIsSplit(t *testing.T) {
	r := rand.New(rand.NewSource(5))
	for range 5000 {
		p := api.PPP{Proto: r.Intn(128)<<9 | r.Intn(128)<<1 | 1, Info: more(r, r.Intn(1493))}
		b, err := cp.Join(p)
		if err != api.OK {
			t.Fatal(p.Proto, len(p.Info), err)
		}
		isSplit(t, "what was joined", b, p)
	}
}

func TestSplitIsJoined(t *testing.T) {
	r := rand.New(rand.NewSource(6))
	took := 0
	for range 20000 {
		b := more(r, r.Intn(8))
		if r.Intn(16) == 0 {
			b = more(r, 1480+r.Intn(20))
		}
		p, err := cp.Split(b)
		if want := len(b) >= 2 && isProto(b[0], b[1]) && len(b) <= 2+1492; want != (err == api.OK) {
			t.Fatalf("%x: %v, %d", b, p, err)
		}
		if err != api.OK {
			continue
		}
		took++
		again, err := cp.Join(p)
		isBytes(t, "what was split", again, err, b)
	}
	if took < 1000 {
		t.Error("too few were split:", took)
	}
}

func TestEncodedIsDecoded(t *testing.T) {
	r := rand.New(rand.NewSource(7))
	for range 5000 {
		c := api.Ctl{Code: r.Intn(256), ID: r.Intn(256), Data: more(r, r.Intn(1489))}
		b, err := cp.Encode(c)
		if err != api.OK {
			t.Fatal(c.Code, c.ID, len(c.Data), err)
		}
		isPacket(t, "what was encoded", b, c)
		isPacket(t, "what was encoded, more behind it", join(b, more(r, r.Intn(100))), c)
	}
}

func TestDecodedIsEncoded(t *testing.T) {
	r := rand.New(rand.NewSource(8))
	took := 0
	for range 20000 {
		b := more(r, r.Intn(12))
		if len(b) >= 4 {
			b[2], b[3] = 0, byte(r.Intn(16))
		}
		c, err := cp.Decode(b)
		if want := len(b) >= 4 && b[3] >= 4 && int(b[3]) <= len(b); want != (err == api.OK) {
			t.Fatalf("%x: %v, %d", b, c, err)
		}
		if err != api.OK {
			continue
		}
		took++
		if again, err := cp.Encode(c); err != api.OK || len(again) != int(b[3]) || !bytes.HasPrefix(b, again) {
			t.Fatalf("%x: %v, %x, %d", b, c, again, err)
		}
	}
	if took < 1000 {
		t.Error("too few were packets:", took)
	}
}

// P7.5

// bears fails where a packet can't be encoded, and joined.
func bears(t *testing.T, c api.Ctl) {
	t.Helper()
	b, err := cp.Encode(c)
	if err != api.OK || len(b) > 1492 {
		t.Fatalf("%d bytes of data: %d bytes, %d", len(c.Data), len(b), err)
	}
	whole, err := cp.Join(api.PPP{Proto: api.ProtoLCP, Info: b})
	if err != api.OK || len(whole) > 1494 {
		t.Fatalf("%d bytes: %d bytes joined, %d", len(b), len(whole), err)
	}
}

// What is told of a reject, and of a reject of that, stays within its bounds.
func TestRejectsAreBounded(t *testing.T) {
	for size := range 1493 {
		p := api.PPP{Proto: api.ProtoIPCP, Info: make([]byte, size)}
		c, err := cp.Protocol(p, size%256)
		if err != api.OK {
			t.Fatal(size, err)
		}
		bears(t, c)
		if size > 1488 {
			continue
		}
		c = api.Ctl{Code: size % 256, Data: make([]byte, size)}
		for range 3 {
			if c, err = cp.Reject(c, 255); err != api.OK {
				t.Fatal(size, err)
			}
			bears(t, c)
		}
	}
}

// P7.6

// isOnesOwn fails where two answers of a call share memory, or one with what is handed in (whole).
func isOnesOwn(t *testing.T, what string, whole []byte, call func() ([]byte, api.Errno)) {
	t.Helper()
	kept := bytes.Clone(whole)
	one, err := call()
	two, _ := call()
	want := bytes.Clone(two)
	if err != api.OK || !bytes.Equal(one, two) || len(one) == 0 {
		t.Fatalf("%s: %x and %x, %d", what, one, two, err)
	}
	if !bytes.Equal(whole, kept) {
		t.Fatal(what, "what was handed in is changed")
	}
	spoil(one)
	if !bytes.Equal(whole, kept) || !bytes.Equal(two, want) {
		t.Error(what, "what was told is shared")
	}
	spoil(whole)
	if !bytes.Equal(two, want) {
		t.Error(what, "what was handed in is kept")
	}
	spoil(whole)
}

func TestWhatIsToldIsOnesOwn(t *testing.T) {
	for _, size := range []int{1, 8, 1488, 1492} {
		data, whole := roomy(drawn(9, size))
		isOnesOwn(t, "Join", whole, func() ([]byte, api.Errno) { return cp.Join(api.PPP{Proto: 0x21, Info: data}) })
		isOnesOwn(t, "Protocol", whole, func() ([]byte, api.Errno) {
			c, err := cp.Protocol(api.PPP{Proto: 0x21, Info: data}, 1)
			return c.Data, err
		})
		joined, all := roomy(join([]byte{0, 0x21}, data))
		isOnesOwn(t, "Split", all, func() ([]byte, api.Errno) {
			p, err := cp.Split(joined)
			return p.Info, err
		})
		if size > 1488 {
			continue
		}
		isOnesOwn(t, "Encode", whole, func() ([]byte, api.Errno) { return cp.Encode(api.Ctl{Code: 1, ID: 2, Data: data}) })
		isOnesOwn(t, "Reject", whole, func() ([]byte, api.Errno) {
			c, err := cp.Reject(api.Ctl{Code: 1, ID: 2, Data: data}, 3)
			return c.Data, err
		})
		b, all := roomy(join([]byte{1, 2, byte((size + 4) / 256), byte((size + 4) % 256)}, data))
		isOnesOwn(t, "Decode", all, func() ([]byte, api.Errno) {
			c, err := cp.Decode(b)
			return c.Data, err
		})
	}
}
