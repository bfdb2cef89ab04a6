package ether_test

import (
	"bytes"
	"math"
	"math/rand"
	"testing"

	"concierge/api"
	"concierge/ether"
)

var (
	client = api.MAC{2, 0, 0, 0, 0, 171}
	server = api.MAC{2, 17, 34, 51, 68, 85}
	all    = api.MAC{255, 255, 255, 255, 255, 255}
)

// wrongTypes are types that no frame has, some of them with the lowest two bytes of one that may be.
var wrongTypes = []int{
	math.MinInt, -0x10000, -0xffff, -0x8863, -1, 0, 1, 46, 1500, 1501, 0x05dc, 0x05fe, 0x05ff,
	0x10000, 0x10001, 0x10600, 0x18863, 0x1ffff, 1 << 32, 1<<32 + 0x8863, math.MaxInt,
}

// goodTypes are the edges of those that may be, and those of PPPoE.
var goodTypes = []int{0x0600, 0x0601, 0x07ff, 0x0800, 0x7fff, 0x8000, api.TypeDisc, api.TypeSess, 0xfffe, 0xffff}

// sizes are those of payloads that may be: the edges, and those around the ones that are padded.
var sizes = []int{0, 1, 2, 3, 4, 13, 14, 15, 45, 46, 47, 59, 60, 61, 255, 256, 1492, 1494, 1498, 1499, 1500}

// drawn are so many bytes, the same for the same seed.
func drawn(seed int64, size int) []byte {
	b := make([]byte, size)
	rand.New(rand.NewSource(seed)).Read(b)
	return b
}

// wire is the bytes that a frame has, written out by themselves.
func wire(dst, src api.MAC, typ int, payload []byte) []byte {
	b := make([]byte, 14+len(payload))
	for i := range 6 {
		b[i], b[6+i] = dst[i], src[i]
	}
	b[12], b[13] = byte(typ/256), byte(typ%256)
	for i, x := range payload {
		b[14+i] = x
	}
	return b
}

// same tells whether both are one frame.
func same(a, b api.Ether) bool {
	return a.Dst == b.Dst && a.Src == b.Src && a.Type == b.Type && bytes.Equal(a.Payload, b.Payload)
}

// isZero tells whether nothing stands in the frame.
func isZero(e api.Ether) bool {
	return e.Dst == api.MAC{} && e.Src == api.MAC{} && e.Type == 0 && len(e.Payload) == 0
}

// encoded is the frame's bytes; it fails where there are none.
func encoded(t *testing.T, e api.Ether) []byte {
	t.Helper()
	b, err := ether.Encode(e)
	if err != api.OK {
		t.Fatalf("Encode of type %#x, %d bytes: %d", e.Type, len(e.Payload), err)
	}
	return b
}

// decoded is the frame of the bytes; it fails where there is none.
func decoded(t *testing.T, b []byte) api.Ether {
	t.Helper()
	e, err := ether.Decode(b)
	if err != api.OK {
		t.Fatalf("Decode of %d bytes: %d", len(b), err)
	}
	return e
}

// refused fails where a frame is not refused by both, with that error and nothing beside it.
func refused(t *testing.T, e api.Ether, want api.Errno) {
	t.Helper()
	if got := ether.Check(e); got != want {
		t.Errorf("Check of type %#x, %d bytes: %d, not %d", e.Type, len(e.Payload), got, want)
	}
	if b, got := ether.Encode(e); got != want || len(b) != 0 {
		t.Errorf("Encode of type %#x, %d bytes: %x, %d, not %d", e.Type, len(e.Payload), b, got, want)
	}
}

// roomy is a copy of b with room behind it that is filled, and all of that.
func roomy(b []byte) (piece, whole []byte) {
	whole = append(bytes.Clone(b), bytes.Repeat([]byte{0xee}, 100)...)
	return whole[:len(b)], whole
}

// spoil overwrites b and all the room behind it.
func spoil(b []byte) {
	b = b[:cap(b)]
	for i := range b {
		b[i] ^= 0xff
	}
}

// P4.1

func TestEncode(t *testing.T) {
	e := api.Ether{Dst: all, Src: client, Type: api.TypeDisc, Payload: []byte{17, 9, 0, 0}}
	want := "\xff\xff\xff\xff\xff\xff\x02\x00\x00\x00\x00\xab\x88\x63\x11\x09\x00\x00"
	if got, err := ether.Encode(e); string(got) != want || err != api.OK {
		t.Errorf("%x, %d", got, err)
	}
	if got, err := ether.Encode(api.Ether{Type: 0x0601}); string(got) != "\x00\x00\x00\x00\x00\x00\x00\x00\x00\x00\x00\x00\x06\x01" || err != api.OK {
		t.Errorf("without a payload: %x, %d", got, err)
	}
}

func TestMayBe(t *testing.T) {
	for _, typ := range goodTypes {
		for _, size := range sizes {
			e := api.Ether{Dst: server, Src: client, Type: typ, Payload: drawn(1, size)}
			if err := ether.Check(e); err != api.OK {
				t.Errorf("Check of type %#x, %d bytes: %d", typ, size, err)
			}
			if got, err := ether.Encode(e); !bytes.Equal(got, wire(server, client, typ, e.Payload)) || err != api.OK {
				t.Errorf("Encode of type %#x, %d bytes: %x, %d", typ, size, got, err)
			}
		}
	}
}

// Any addresses may be: it is not told here who they are.
func TestAnyAddresses(t *testing.T) {
	for _, dst := range []api.MAC{{}, {1}, client, server, all} {
		for _, src := range []api.MAC{{}, {1}, client, server, all} {
			e := api.Ether{Dst: dst, Src: src, Type: api.TypeSess, Payload: []byte{1}}
			if err := ether.Check(e); err != api.OK {
				t.Errorf("Check to %v of %v: %d", dst, src, err)
			}
			if got, err := ether.Encode(e); !bytes.Equal(got, wire(dst, src, api.TypeSess, []byte{1})) || err != api.OK {
				t.Errorf("Encode to %v of %v: %x, %d", dst, src, got, err)
			}
		}
	}
}

func TestTypesThatMayNotBe(t *testing.T) {
	for _, typ := range wrongTypes {
		for _, size := range []int{0, 46, 1500} {
			refused(t, api.Ether{Dst: server, Src: client, Type: typ, Payload: drawn(2, size)}, api.ErrEther)
		}
	}
}

func TestPayloadsThatAreTooLong(t *testing.T) {
	for _, typ := range goodTypes {
		for _, size := range []int{1501, 1502, 1514, 3000, 65536} {
			refused(t, api.Ether{Dst: server, Src: client, Type: typ, Payload: drawn(3, size)}, api.ErrLong)
		}
	}
}

// Where both are wrong, the type is told first.
func TestTypeAheadOfLength(t *testing.T) {
	for _, typ := range wrongTypes {
		for _, size := range []int{1501, 65536} {
			refused(t, api.Ether{Dst: server, Src: client, Type: typ, Payload: drawn(4, size)}, api.ErrEther)
		}
	}
}

func TestNothingMayNotBe(t *testing.T) {
	refused(t, api.Ether{}, api.ErrEther)
}

// P4.2

func TestDecode(t *testing.T) {
	e, err := ether.Decode([]byte("\xff\xff\xff\xff\xff\xff\x02\x00\x00\x00\x00\xab\x88\x63\x11\x09\x00\x00"))
	want := api.Ether{Dst: all, Src: client, Type: api.TypeDisc, Payload: []byte{17, 9, 0, 0}}
	if !same(e, want) || err != api.OK {
		t.Errorf("%v, %d", e, err)
	}
	e, err = ether.Decode([]byte("\x01\x02\x03\x04\x05\x06\x07\x08\x09\x0a\x0b\x0c\x0d\x0e"))
	want = api.Ether{Dst: api.MAC{1, 2, 3, 4, 5, 6}, Src: api.MAC{7, 8, 9, 10, 11, 12}, Type: 0x0d0e}
	if !same(e, want) || err != api.OK {
		t.Errorf("a head alone: %v, %d", e, err)
	}
}

func TestDecodeLengths(t *testing.T) {
	for _, size := range sizes {
		payload := drawn(5, size)
		e, err := ether.Decode(wire(server, client, api.TypeSess, payload))
		if !same(e, api.Ether{Dst: server, Src: client, Type: api.TypeSess, Payload: payload}) || err != api.OK {
			t.Errorf("%d bytes: %v, %d", size, e, err)
		}
	}
}

// What is too short is told first: of 12 or 13 bytes the type, too, is none.
func TestDecodeTooShort(t *testing.T) {
	for _, whole := range [][]byte{make([]byte, 14), wire(server, client, api.TypeDisc, nil), bytes.Repeat([]byte{255}, 14)} {
		for size := range 14 {
			if e, err := ether.Decode(whole[:size]); !isZero(e) || err != api.ErrShort {
				t.Errorf("%x: %v, %d", whole[:size], e, err)
			}
		}
	}
	if e, err := ether.Decode(nil); !isZero(e) || err != api.ErrShort {
		t.Error("nil:", e, err)
	}
}

// All that two bytes can tell.
func TestDecodeTypes(t *testing.T) {
	for typ := range 0x10000 {
		e, err := ether.Decode(wire(server, client, typ, []byte{7}))
		if typ < 0x0600 {
			if !isZero(e) || err != api.ErrEther {
				t.Fatalf("type %#x: %v, %d", typ, e, err)
			}
			continue
		}
		if !same(e, api.Ether{Dst: server, Src: client, Type: typ, Payload: []byte{7}}) || err != api.OK {
			t.Fatalf("type %#x: %v, %d", typ, e, err)
		}
	}
}

func TestDecodeTooLong(t *testing.T) {
	for _, size := range []int{1501, 1502, 1514, 3000, 65536} {
		for _, typ := range goodTypes {
			if e, err := ether.Decode(wire(server, client, typ, drawn(6, size))); !isZero(e) || err != api.ErrLong {
				t.Errorf("type %#x, %d bytes: %v, %d", typ, size, e, err)
			}
		}
		for _, typ := range []int{0, 1, 1500, 0x05ff} {
			if e, err := ether.Decode(wire(server, client, typ, drawn(6, size))); !isZero(e) || err != api.ErrEther {
				t.Errorf("type %#x, %d bytes: %v, %d", typ, size, e, err)
			}
		}
	}
}

// P4.3

func TestPad(t *testing.T) {
	for size := range 200 {
		b := bytes.Repeat([]byte{255}, size)
		got := ether.Pad(b)
		want := append(bytes.Clone(b), make([]byte, max(60-size, 0))...)
		if !bytes.Equal(got, want) {
			t.Errorf("%d bytes: %x", size, got)
		}
	}
	for _, size := range []int{1514, 1515, 65536} {
		if got := ether.Pad(drawn(7, size)); !bytes.Equal(got, drawn(7, size)) {
			t.Errorf("%d bytes: %d", size, len(got))
		}
	}
	if got := ether.Pad(nil); !bytes.Equal(got, make([]byte, 60)) {
		t.Errorf("nil: %x", got)
	}
}

// What lies in the room behind b is not b's.
func TestPadIsZeros(t *testing.T) {
	for _, size := range []int{0, 1, 18, 59, 60, 61} {
		piece, _ := roomy(bytes.Repeat([]byte{1}, size))
		got := ether.Pad(piece)
		if len(got) != max(size, 60) || !bytes.Equal(got[:size], piece) || len(bytes.Trim(got[size:], "\x00")) != 0 {
			t.Errorf("%d bytes: %x", size, got)
		}
	}
}

func TestExampleOne(t *testing.T) {
	b := encoded(t, api.Ether{Dst: all, Src: client, Type: api.TypeDisc, Payload: []byte{1, 2, 3, 4}})
	if len(b) != 18 || len(ether.Pad(b)) != 60 {
		t.Error(len(b), len(ether.Pad(b)))
	}
}

func TestReply(t *testing.T) {
	for _, dst := range []api.MAC{{}, {1}, client, server, all} {
		for _, from := range []api.MAC{{}, client, all} {
			for _, src := range []api.MAC{{}, {1}, client, server, all} {
				e := api.Ether{Dst: dst, Src: from, Type: api.TypeDisc, Payload: []byte("asked")}
				want := api.Ether{Dst: from, Src: src, Type: api.TypeDisc, Payload: []byte("told")}
				if got := ether.Reply(e, src, []byte("told")); !same(got, want) {
					t.Errorf("to %v of %v, told of %v: %v", dst, from, src, got)
				}
			}
		}
	}
}

// One bit beside the address that was asked is another address.
func TestReplyOfEachBit(t *testing.T) {
	e := api.Ether{Dst: server, Src: client, Type: api.TypeSess}
	for bit := range 48 {
		src := server
		src[bit/8] ^= 1 << (bit % 8)
		if got := ether.Reply(e, src, nil); !same(got, api.Ether{Dst: client, Src: src, Type: api.TypeSess}) {
			t.Errorf("bit %d: %v", bit, got)
		}
	}
}

// Reply refuses nothing: the type is e's, the payload as it was given, though no such frame may be.
func TestReplyOfWhatMayNotBe(t *testing.T) {
	types := append(append([]int(nil), wrongTypes...), goodTypes...)
	for _, typ := range types {
		for _, size := range []int{0, 1, 1500, 1501, 65536} {
			e := api.Ether{Dst: all, Src: client, Type: typ, Payload: []byte("asked")}
			want := api.Ether{Dst: client, Src: server, Type: typ, Payload: drawn(8, size)}
			if got := ether.Reply(e, server, drawn(8, size)); !same(got, want) {
				t.Errorf("type %#x, %d bytes: type %#x, %d bytes", typ, size, got.Type, len(got.Payload))
			}
		}
	}
	if got := ether.Reply(api.Ether{}, api.MAC{}, nil); !isZero(got) {
		t.Error("of nothing:", got)
	}
}

func TestReplyToReply(t *testing.T) {
	e := api.Ether{Dst: server, Src: client, Type: api.TypeSess, Payload: []byte("asked")}
	if got := ether.Reply(ether.Reply(e, server, []byte("told")), client, e.Payload); !same(got, e) {
		t.Error(got)
	}
}

// P4.4

func TestFramesThereAndBack(t *testing.T) {
	r := rand.New(rand.NewSource(9))
	for i := range 2000 {
		e := api.Ether{Type: 0x0600 + r.Intn(0x10000-0x0600), Payload: drawn(int64(i), r.Intn(1501))}
		r.Read(e.Dst[:])
		r.Read(e.Src[:])
		if got := decoded(t, encoded(t, e)); !same(got, e) {
			t.Fatalf("type %#x, %d bytes: %v", e.Type, len(e.Payload), got)
		}
	}
	for _, typ := range goodTypes {
		for _, size := range sizes {
			e := api.Ether{Dst: all, Src: client, Type: typ, Payload: drawn(10, size)}
			if got := decoded(t, encoded(t, e)); !same(got, e) {
				t.Errorf("type %#x, %d bytes: %v", typ, size, got)
			}
		}
	}
}

// Of any bytes: what is decoded makes the same bytes, all of them, and what is refused is refused by the rule.
func TestBytesThereAndBack(t *testing.T) {
	r := rand.New(rand.NewSource(11))
	taken := 0
	for i := range 5000 {
		b := drawn(int64(i), r.Intn(1600))
		if len(b) > 12 && r.Intn(4) == 0 {
			b[12] = byte(r.Intn(8))
		}
		e, err := ether.Decode(b)
		switch {
		case len(b) < 14:
			if err != api.ErrShort {
				t.Fatalf("%d bytes: %d", len(b), err)
			}
		case int(b[12])*256+int(b[13]) < 0x0600:
			if err != api.ErrEther {
				t.Fatalf("type %x: %d", b[12:14], err)
			}
		case len(b) > 1514:
			if err != api.ErrLong {
				t.Fatalf("%d bytes: %d", len(b), err)
			}
		default:
			taken++
			if err != api.OK || ether.Check(e) != api.OK || !bytes.Equal(encoded(t, e), b) {
				t.Fatalf("%x: %v, %d", b, e, err)
			}
		}
	}
	if taken < 1000 {
		t.Error("too few frames among the bytes:", taken)
	}
}

// P4.5

func TestPadded(t *testing.T) {
	for size := range 1501 {
		e := api.Ether{Dst: server, Src: client, Type: api.TypeSess, Payload: bytes.Repeat([]byte{255}, size)}
		got := decoded(t, ether.Pad(encoded(t, e)))
		want := e
		want.Payload = append(bytes.Clone(e.Payload), make([]byte, max(46-size, 0))...)
		if !same(got, want) || len(got.Payload) < 46 {
			t.Fatalf("%d bytes: %v", size, got)
		}
	}
}

func TestPaddedTwice(t *testing.T) {
	for _, size := range sizes {
		once := ether.Pad(encoded(t, api.Ether{Dst: all, Src: client, Type: api.TypeDisc, Payload: drawn(12, size)}))
		if twice := ether.Pad(once); !bytes.Equal(once, twice) {
			t.Errorf("%d bytes: %x, then %x", size, once, twice)
		}
	}
}

// P4.6

func TestEncodeIsOnesOwn(t *testing.T) {
	for _, size := range sizes {
		payload, whole := roomy(drawn(13, size))
		kept := bytes.Clone(whole)
		e := api.Ether{Dst: all, Src: client, Type: api.TypeDisc, Payload: payload}
		first, second := encoded(t, e), encoded(t, e)
		want := wire(all, client, api.TypeDisc, drawn(13, size))
		if !bytes.Equal(whole, kept) {
			t.Fatalf("%d bytes: what was handed in is changed", size)
		}
		spoil(first)
		if !bytes.Equal(whole, kept) || !bytes.Equal(second, want) {
			t.Errorf("%d bytes: what was told is shared", size)
		}
		spoil(whole)
		if !bytes.Equal(second, want) {
			t.Errorf("%d bytes: what was handed in is kept", size)
		}
	}
}

func TestDecodeIsOnesOwn(t *testing.T) {
	for _, size := range sizes {
		b, whole := roomy(wire(all, client, api.TypeDisc, drawn(14, size)))
		kept := bytes.Clone(whole)
		first, second := decoded(t, b), decoded(t, b)
		if !bytes.Equal(whole, kept) {
			t.Fatalf("%d bytes: what was handed in is changed", size)
		}
		spoil(first.Payload)
		if !bytes.Equal(whole, kept) || !bytes.Equal(second.Payload, drawn(14, size)) {
			t.Errorf("%d bytes: what was told is shared", size)
		}
		spoil(whole)
		if !bytes.Equal(second.Payload, drawn(14, size)) || second.Dst != all || second.Src != client {
			t.Errorf("%d bytes: what was handed in is kept", size)
		}
	}
}

func TestPadIsOnesOwn(t *testing.T) {
	for _, size := range []int{0, 1, 18, 59, 60, 61, 1514} {
		b, whole := roomy(drawn(15, size))
		kept := bytes.Clone(whole)
		first, second := ether.Pad(b), ether.Pad(b)
		want := bytes.Clone(second)
		if !bytes.Equal(whole, kept) {
			t.Fatalf("%d bytes: what was handed in is changed", size)
		}
		spoil(first)
		if !bytes.Equal(whole, kept) || !bytes.Equal(second, want) {
			t.Errorf("%d bytes: what was told is shared", size)
		}
		spoil(whole)
		if !bytes.Equal(second, want) {
			t.Errorf("%d bytes: what was handed in is kept", size)
		}
	}
}

func TestReplyIsOnesOwn(t *testing.T) {
	for _, size := range []int{0, 1, 46, 1500, 1501} {
		asked, wholeAsked := roomy([]byte("asked"))
		told, wholeTold := roomy(drawn(16, size))
		keptAsked, keptTold := bytes.Clone(wholeAsked), bytes.Clone(wholeTold)
		e := api.Ether{Dst: all, Src: client, Type: api.TypeDisc, Payload: asked}
		first, second := ether.Reply(e, server, told), ether.Reply(e, server, told)
		if !bytes.Equal(wholeAsked, keptAsked) || !bytes.Equal(wholeTold, keptTold) {
			t.Fatalf("%d bytes: what was handed in is changed", size)
		}
		spoil(first.Payload)
		if !bytes.Equal(wholeAsked, keptAsked) || !bytes.Equal(wholeTold, keptTold) || !bytes.Equal(second.Payload, drawn(16, size)) {
			t.Errorf("%d bytes: what was told is shared", size)
		}
		spoil(wholeTold)
		if !bytes.Equal(second.Payload, drawn(16, size)) {
			t.Errorf("%d bytes: what was handed in is kept", size)
		}
	}
}

// What one answers with is as it was, too, where it is what was asked.
func TestReplyWithWhatWasAsked(t *testing.T) {
	e := api.Ether{Dst: server, Src: client, Type: api.TypeSess, Payload: []byte("asked")}
	back := ether.Reply(e, server, e.Payload)
	spoil(back.Payload)
	if string(e.Payload) != "asked" {
		t.Errorf("%q", e.Payload)
	}
}
