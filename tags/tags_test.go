package tags_test

import (
	"bytes"
	"math"
	"math/rand"
	"strings"
	"testing"

	"concierge/api"
	"concierge/tags"
)

// wrongTypes are types that no tag has, some of them with the lowest two bytes of one that may be.
var wrongTypes = []int{
	math.MinInt, -0x10000, -0xffff, -0x0103, -1, api.TagEnd,
	0x10000, 0x10001, 0x10103, 0x1ffff, 1 << 32, 1<<32 + 0x0103, math.MaxInt,
}

// goodTypes are the edges of those that may be, and those of PPPoE.
var goodTypes = []int{
	1, 2, 0xff, 0x0100, api.TagService, api.TagName, api.TagUniq, api.TagCookie, api.TagVendor, api.TagRelay,
	api.TagNoService, api.TagSystem, api.TagGeneric, 0x7fff, 0x8000, 0xff00, 0xfffe, 0xffff,
}

// drawn are so many bytes, the same for the same seed.
func drawn(seed int64, size int) []byte {
	b := make([]byte, size)
	rand.New(rand.NewSource(seed)).Read(b)
	return b
}

// more are so many bytes that r draws.
func more(r *rand.Rand, size int) []byte {
	b := make([]byte, size)
	r.Read(b)
	return b
}

// tag is one of that type and value.
func tag(typ int, value string) api.Tag {
	return api.Tag{Type: typ, Value: []byte(value)}
}

// many are n tags without values, of the types 1, 2 and so on.
func many(n int) []api.Tag {
	l := make([]api.Tag, n)
	for i := range l {
		l[i].Type = i + 1
	}
	return l
}

// wire is the bytes that the tags have, written out by themselves, of any tags.
func wire(l ...api.Tag) []byte {
	var b []byte
	for _, t := range l {
		b = append(b, byte(t.Type>>8), byte(t.Type), byte(len(t.Value)>>8), byte(len(t.Value)))
		b = append(b, t.Value...)
	}
	return b
}

// join is the parts, one behind the other, in memory of its own.
func join(parts ...[]byte) []byte {
	return bytes.Join(parts, nil)
}

// same tells whether both are the same tags, in one order.
func same(a, b []api.Tag) bool {
	if len(a) != len(b) {
		return false
	}
	for i := range a {
		if a[i].Type != b[i].Type || !bytes.Equal(a[i].Value, b[i].Value) {
			return false
		}
	}
	return true
}

// copied are the tags in memory of their own.
func copied(l []api.Tag) []api.Tag {
	other := make([]api.Tag, len(l))
	for i, t := range l {
		other[i] = api.Tag{Type: t.Type, Value: bytes.Clone(t.Value)}
	}
	return other
}

// encoded is the tags' bytes; it fails where there are none.
func encoded(t *testing.T, l ...api.Tag) []byte {
	t.Helper()
	b, err := tags.Encode(l...)
	if err != api.OK {
		t.Fatalf("Encode of %d tags: %d", len(l), err)
	}
	return b
}

// decoded is the tags of the bytes; it fails where there are none.
func decoded(t *testing.T, b []byte) []api.Tag {
	t.Helper()
	l, err := tags.Decode(b)
	if err != api.OK {
		t.Fatalf("Decode of %x: %d", b, err)
	}
	return l
}

// noBytes fails where tags are not refused with that error, and nothing beside it.
func noBytes(t *testing.T, what string, want api.Errno, l ...api.Tag) {
	t.Helper()
	if b, got := tags.Encode(l...); got != want || len(b) != 0 {
		t.Errorf("Encode, %s: %x, %d, not %d", what, b, got, want)
	}
}

// noTags fails where bytes are not refused with that error, and nothing beside it.
func noTags(t *testing.T, what string, want api.Errno, b []byte) {
	t.Helper()
	if l, got := tags.Decode(b); got != want || len(l) != 0 {
		t.Errorf("Decode, %s: %v, %d, not %d", what, l, got, want)
	}
}

// areTags fails where the bytes are not those tags.
func areTags(t *testing.T, what string, b []byte, want []api.Tag) {
	t.Helper()
	if got, err := tags.Decode(b); !same(got, want) || err != api.OK {
		t.Errorf("Decode, %s: %v, %d, not %v", what, got, err, want)
	}
}

// row are tags that may be, drawn: most at most, together at most so many bytes.
func row(r *rand.Rand, most, bytesMost int) []api.Tag {
	var l []api.Tag
	for range r.Intn(most + 1) {
		size := r.Intn(40)
		if r.Intn(8) == 0 {
			size = r.Intn(400)
		}
		bytesMost -= 4 + size
		if bytesMost < 0 {
			break
		}
		typ := 1 + r.Intn(0xffff)
		if r.Intn(2) == 0 {
			typ = goodTypes[r.Intn(len(goodTypes))]
		}
		l = append(l, api.Tag{Type: typ, Value: more(r, size)})
	}
	return l
}

// spoil overwrites b and all the room behind it.
func spoil(b []byte) {
	b = b[:cap(b)]
	for i := range b {
		b[i] ^= 0xff
	}
}

// spoilTags overwrites the tags, their values, and all the room behind each.
func spoilTags(l []api.Tag) {
	l = l[:cap(l)]
	for i := range l {
		spoil(l[i].Value)
		l[i] = api.Tag{Type: -7}
	}
}

// roomy is a copy of b with room behind it that is filled, and all of that.
func roomy(b []byte) (piece, whole []byte) {
	whole = append(bytes.Clone(b), bytes.Repeat([]byte{0xee}, 100)...)
	return whole[:len(b)], whole
}

// P5.1

func TestExampleOne(t *testing.T) {
	if got, err := tags.Encode(tag(0x0103, "\x01\x02")); string(got) != "\x01\x03\x00\x02\x01\x02" || err != api.OK {
		t.Errorf("%x, %d", got, err)
	}
}

func TestEncode(t *testing.T) {
	got, err := tags.Encode(tag(api.TagService, ""), tag(api.TagName, "ac"), tag(0xfedc, strings.Repeat("x", 258)), tag(api.TagService, "isp"))
	want := "\x01\x01\x00\x00" + "\x01\x02\x00\x02ac" + "\xfe\xdc\x01\x02" + strings.Repeat("x", 258) + "\x01\x01\x00\x03isp"
	if string(got) != want || err != api.OK {
		t.Errorf("%x, %d", got, err)
	}
}

func TestEncodeOfNothing(t *testing.T) {
	for _, l := range [][]api.Tag{nil, {}} {
		if got, err := tags.Encode(l...); len(got) != 0 || err != api.OK {
			t.Errorf("%x, %d", got, err)
		}
	}
	for _, value := range [][]byte{nil, {}} {
		if got, err := tags.Encode(api.Tag{Type: 7, Value: value}); string(got) != "\x00\x07\x00\x00" || err != api.OK {
			t.Errorf("%x, %d", got, err)
		}
	}
}

func TestEncodeTypes(t *testing.T) {
	for _, typ := range goodTypes {
		if got, err := tags.Encode(tag(typ, "v")); !bytes.Equal(got, []byte{byte(typ / 256), byte(typ % 256), 0, 1, 'v'}) || err != api.OK {
			t.Errorf("type %#x: %x, %d", typ, got, err)
		}
	}
	for _, typ := range wrongTypes {
		noBytes(t, "a wrong type", api.ErrTag, tag(typ, "v"))
		noBytes(t, "a wrong type without a value", api.ErrTag, tag(typ, ""))
		noBytes(t, "a wrong type first", api.ErrTag, tag(typ, "v"), tag(1, "v"))
		noBytes(t, "a wrong type last", api.ErrTag, tag(1, "v"), tag(typ, "v"))
	}
}

func TestEncodeLengths(t *testing.T) {
	for _, size := range []int{0, 1, 2, 3, 4, 5, 253, 254, 255, 256, 257, 511, 512, 1024, 1488, 1489, 1490} {
		value := drawn(1, size)
		want := join([]byte{1, 2, byte(size / 256), byte(size % 256)}, value)
		if got, err := tags.Encode(api.Tag{Type: api.TagName, Value: value}); !bytes.Equal(got, want) || err != api.OK {
			t.Errorf("%d bytes: %x, %d", size, got, err)
		}
	}
	for _, size := range []int{1491, 1492, 1494, 1495, 1500, 65533, 65534, 65535} {
		noBytes(t, "too long", api.ErrLong, api.Tag{Type: api.TagName, Value: make([]byte, size)})
	}
	for _, size := range []int{65536, 65537, 65540, 131072, 1 << 20} {
		noBytes(t, "a value that may not be", api.ErrTag, api.Tag{Type: api.TagName, Value: make([]byte, size)})
	}
}

// It is all the bytes together that are counted, heads too.
func TestEncodeTogether(t *testing.T) {
	half := api.Tag{Type: 1, Value: drawn(2, 743)}
	if got := encoded(t, half, half); len(got) != 1494 || !bytes.Equal(got, wire(half, half)) {
		t.Errorf("two halves: %d bytes", len(got))
	}
	noBytes(t, "two halves and a byte", api.ErrLong, half, api.Tag{Type: 1, Value: drawn(2, 744)})
	noBytes(t, "two halves and a tag without a value", api.ErrLong, half, half, tag(1, ""))
	fill := many(64)
	fill[63].Value = drawn(3, 1494-64*4)
	if got := encoded(t, fill...); len(got) != 1494 || !bytes.Equal(got, wire(fill...)) {
		t.Errorf("64 tags: %d bytes", len(got))
	}
	fill[0].Value = []byte{1}
	noBytes(t, "64 tags and a byte", api.ErrLong, fill...)
	all := make([]api.Tag, 64)
	for i := range all {
		all[i] = api.Tag{Type: 0xffff, Value: make([]byte, 65535)}
	}
	noBytes(t, "all that may be", api.ErrLong, all...)
}

func TestEncodeMany(t *testing.T) {
	for _, n := range []int{1, 2, 63, 64} {
		if got, err := tags.Encode(many(n)...); !bytes.Equal(got, wire(many(n)...)) || err != api.OK {
			t.Errorf("%d tags: %x, %d", n, got, err)
		}
	}
	for _, n := range []int{65, 66, 128, 5000} {
		noBytes(t, "too many", api.ErrMany, many(n)...)
	}
}

// What the promise names first is told first.
func TestEncodeErrorsInOrder(t *testing.T) {
	long := api.Tag{Type: 1, Value: make([]byte, 1491)}
	none := api.Tag{Type: 1, Value: make([]byte, 65536)}
	for _, wrong := range []api.Tag{{}, tag(-1, ""), tag(0x10000, "v"), none} {
		noBytes(t, "too many, the first may not be", api.ErrMany, append([]api.Tag{wrong}, many(64)...)...)
		noBytes(t, "too many, the last may not be", api.ErrMany, append(many(64), wrong)...)
		noBytes(t, "64, the last may not be", api.ErrTag, append(many(63), wrong)...)
		noBytes(t, "too long behind one that may not be", api.ErrTag, wrong, long)
		noBytes(t, "too long ahead of one that may not be", api.ErrTag, long, long, wrong)
	}
	noBytes(t, "too many and too long", api.ErrMany, append(many(64), long)...)
	noBytes(t, "an end that is too long", api.ErrTag, api.Tag{Value: make([]byte, 1491)})
}

// P5.2

func TestDecode(t *testing.T) {
	areTags(t, "of the example", []byte("\x01\x03\x00\x02\x01\x02"), []api.Tag{tag(api.TagUniq, "\x01\x02")})
	b := "\x01\x01\x00\x00" + "\x01\x02\x00\x02ac" + "\xfe\xdc\x01\x02" + strings.Repeat("x", 258) + "\x01\x01\x00\x03isp"
	want := []api.Tag{tag(api.TagService, ""), tag(api.TagName, "ac"), tag(0xfedc, strings.Repeat("x", 258)), tag(api.TagService, "isp")}
	areTags(t, "of four", []byte(b), want)
}

func TestDecodeOfNothing(t *testing.T) {
	areTags(t, "of nil", nil, nil)
	areTags(t, "of no bytes", []byte{}, nil)
}

// All types that two bytes can tell: 0 alone is an end.
func TestDecodeTypes(t *testing.T) {
	for typ := range 0x10000 {
		b := []byte{byte(typ / 256), byte(typ % 256), 0, 0}
		want := []api.Tag{{Type: typ}}
		if typ == 0 {
			want = nil
		}
		if got, err := tags.Decode(b); !same(got, want) || err != api.OK {
			t.Fatalf("type %#x: %v, %d", typ, got, err)
		}
	}
}

// All lengths that there is room for, and one more, with bytes of a tag behind them and without.
func TestDecodeLengths(t *testing.T) {
	for size := range 1491 {
		head := []byte{1, 2, byte(size / 256), byte(size % 256)}
		value := bytes.Repeat([]byte{9}, size)
		areTags(t, "just all", join(head, value), []api.Tag{{Type: api.TagName, Value: value}})
		if size > 0 {
			noTags(t, "a byte lacks", api.ErrTag, join(head, value[1:]))
			noTags(t, "all lacks", api.ErrTag, head)
		}
		if size <= 1486 {
			areTags(t, "a tag behind", join(head, value, wire(tag(5, ""))), []api.Tag{{Type: api.TagName, Value: value}, tag(5, "")})
		}
	}
}

func TestDecodeLengthsBeyond(t *testing.T) {
	for _, size := range []int{1487, 1490, 1491, 1494, 0x7fff, 0x8000, 0xfffb, 0xfffc, 0xfffe, 0xffff} {
		head := []byte{1, 2, byte(size / 256), byte(size % 256)}
		for _, there := range []int{0, 1, 4, 100, 1486} {
			noTags(t, "more than is left", api.ErrTag, join(head, make([]byte, there)))
			if there <= 1480 {
				noTags(t, "more than is left, of the second", api.ErrTag, join(wire(tag(1, "v")), head, make([]byte, there)))
			}
		}
	}
}

func TestDecodeHeadsCut(t *testing.T) {
	for _, ahead := range [][]byte{nil, wire(tag(1, "")), wire(tag(1, "v"), tag(2, "value")), wire(many(63)...), wire(many(64)...)} {
		for _, head := range []string{"\x00\x00\x00", "\x01\x02\x00", "\xff\xff\xff", "\x00\x01\x00"} {
			for size := 1; size <= 3; size++ {
				noTags(t, "a head that is cut", api.ErrTag, join(ahead, []byte(head[:size])))
			}
		}
	}
}

// However bytes are cut, what is told is what the rule says, tag by tag.
func TestDecodeCut(t *testing.T) {
	l := []api.Tag{tag(api.TagService, "isp"), tag(api.TagUniq, ""), tag(api.TagCookie, strings.Repeat("c", 32))}
	b := wire(l...)
	whole := map[int]int{0: 0, 7: 1, 11: 2, 47: 3}
	for size := range len(b) + 1 {
		n, ok := whole[size]
		if ok {
			areTags(t, "cut between tags", b[:size], l[:n])
			continue
		}
		noTags(t, "cut within a tag", api.ErrTag, b[:size])
	}
}

func TestDecodeLong(t *testing.T) {
	fill := api.Tag{Type: api.TagVendor, Value: drawn(4, 1490)}
	areTags(t, "1494 bytes", wire(fill), []api.Tag{fill})
	for _, b := range [][]byte{
		make([]byte, 1495),                   // an end first
		append(wire(fill), 0),                // a head that is cut
		wire(fill, tag(1, "")),               // tags that may be
		bytes.Repeat([]byte{0xff}, 1495),     // more than is left
		join([]byte{0, 0, 0, 1}, wire(fill)), // an end with a length
		wire(many(400)...),                   // too many
		wire(api.Tag{Type: 1, Value: wire(fill)}),
		make([]byte, 65536),
	} {
		noTags(t, "too long", api.ErrLong, b)
	}
}

func TestDecodeEnd(t *testing.T) {
	end := []byte{0, 0, 0, 0}
	behinds := [][]byte{
		nil, {0}, {1, 2, 3}, {0, 0, 0, 1}, {1, 2, 0xff, 0xff}, end,
		wire(tag(1, "v")), wire(many(65)...), drawn(5, 1000),
	}
	for _, l := range [][]api.Tag{nil, many(1), many(63), many(64), {tag(api.TagService, ""), tag(api.TagUniq, "\x00\x00\x00\x00")}} {
		for _, behind := range behinds {
			areTags(t, "with an end", join(wire(l...), end, behind), l)
		}
	}
	areTags(t, "an end and 1490 bytes", make([]byte, 1494), nil)
}

func TestDecodeEndWithLength(t *testing.T) {
	for _, head := range [][]byte{{0, 0, 0, 1}, {0, 0, 0, 4}, {0, 0, 1, 0}, {0, 0, 0xff, 0xff}} {
		for _, ahead := range [][]byte{nil, wire(tag(1, "v")), wire(many(64)...)} {
			for _, there := range []int{0, 1, 4, 256, 1000} {
				noTags(t, "an end with a length", api.ErrTag, join(ahead, head, make([]byte, there)))
			}
		}
	}
}

// A type whose bytes are 0 but for one is no end.
func TestDecodeHalfAnEnd(t *testing.T) {
	for _, typ := range []int{0x0001, 0x0100, 0x0080, 0x8000} {
		l := []api.Tag{tag(typ, ""), tag(1, "behind")}
		areTags(t, "no end", wire(l...), l)
	}
}

func TestDecodeMany(t *testing.T) {
	for _, n := range []int{1, 63, 64} {
		areTags(t, "as many as may be", wire(many(n)...), many(n))
	}
	for _, n := range []int{65, 66, 100, 373} {
		noTags(t, "too many", api.ErrMany, wire(many(n)...))
	}
	fill := many(65)
	fill[64].Value = make([]byte, 1494-65*4)
	noTags(t, "too many, 1494 bytes", api.ErrMany, wire(fill...))
}

// What comes first in the row is told, and of one tag what the promise names first.
func TestDecodeErrorsInOrder(t *testing.T) {
	b64, b65 := wire(many(64)...), wire(many(65)...)
	for _, wrong := range [][]byte{{1}, {0, 0, 0}, {1, 2, 0, 1}, {1, 2, 0xff, 0xff}, {0, 0, 0, 1}, {0, 0, 0, 1, 7}} {
		noTags(t, "the 65th is none", api.ErrTag, join(b64, wrong))
		noTags(t, "the 66th is none", api.ErrMany, join(b65, wrong))
	}
	noTags(t, "an end with a length ahead of too many", api.ErrTag, join([]byte{0, 0, 0, 1}, b65))
	noTags(t, "too many ahead of an end", api.ErrMany, join(b65, make([]byte, 4)))
	areTags(t, "an end ahead of too many", join(wire(many(3)...), make([]byte, 4), b65), many(3))
}

// read is Decode written in another way: by places in b, from the end of each tag to the next.
func read(b []byte) ([]api.Tag, api.Errno) {
	if len(b) > 1494 {
		return nil, 2
	}
	var l []api.Tag
	for at := 0; at < len(b); {
		if at+4 > len(b) {
			return nil, 50
		}
		typ, end := int(b[at])*256+int(b[at+1]), at+4+int(b[at+2])*256+int(b[at+3])
		if typ == 0 && end != at+4 || end > len(b) {
			return nil, 50
		}
		if typ == 0 {
			return l, 0
		}
		if len(l) == 64 {
			return nil, 3
		}
		l = append(l, api.Tag{Type: typ, Value: b[at+4 : end]})
		at = end
	}
	return l, 0
}

// Of any bytes: rows of tags, with bytes changed, cut, and put in.
func TestDecodeOfAnyBytes(t *testing.T) {
	r := rand.New(rand.NewSource(6))
	told := map[api.Errno]int{}
	for range 30000 {
		b := wire(row(r, 70, 1600)...)
		for range r.Intn(3) {
			if len(b) > 0 {
				b[r.Intn(len(b))] = byte(r.Intn(4))
			}
		}
		switch r.Intn(6) {
		case 0:
			b = b[:r.Intn(len(b)+1)]
		case 1:
			at := r.Intn(len(b) + 1)
			b = join(b[:at], make([]byte, r.Intn(6)), b[at:])
		case 2:
			b = join(b, wire(many(r.Intn(70))...))
		case 3:
			b = more(r, r.Intn(12))
		}
		want, wantErr := read(b)
		got, err := tags.Decode(b)
		if !same(got, want) || err != wantErr || err != api.OK && len(got) != 0 {
			t.Fatalf("%x: %v, %d, not %v, %d", b, got, err, want, wantErr)
		}
		told[err]++
	}
	for _, err := range []api.Errno{api.OK, api.ErrLong, api.ErrTag, api.ErrMany} {
		if told[err] < 100 {
			t.Errorf("error %d was told %d times alone", err, told[err])
		}
	}
}

// P5.3

// anyList is a list that holds what may be and what may not.
func anyList() []api.Tag {
	return []api.Tag{
		tag(api.TagService, "first"), tag(api.TagUniq, ""), {Type: api.TagEnd, Value: []byte("end")},
		tag(-1, "below"), tag(api.TagService, "second"), tag(1<<40, "beyond"), {Type: api.TagRelay},
		tag(api.TagService, ""), tag(-1, "again"), tag(api.TagService, "first"),
		{Type: 0x10000 + api.TagService, Value: make([]byte, 70000)},
	}
}

func TestFind(t *testing.T) {
	l := anyList()
	for typ, want := range map[int]string{
		api.TagService: "first", api.TagUniq: "", api.TagEnd: "end", -1: "below", 1 << 40: "beyond", api.TagRelay: "",
		0x10000 + api.TagService: string(make([]byte, 70000)),
	} {
		if got, there := tags.Find(l, typ); string(got) != want || !there {
			t.Errorf("type %#x: %q, %v", typ, got, there)
		}
	}
	for _, typ := range []int{api.TagName, 1, 0xffff, 0x10000, -2, math.MinInt, math.MaxInt} {
		if got, there := tags.Find(l, typ); len(got) != 0 || there {
			t.Errorf("type %#x: %q, %v", typ, got, there)
		}
	}
}

func TestFindTheFirst(t *testing.T) {
	l := []api.Tag{tag(9, "other"), tag(7, ""), tag(7, "second")}
	if got, there := tags.Find(l, 7); len(got) != 0 || !there {
		t.Errorf("%q, %v", got, there)
	}
	if got, there := tags.Find(nil, 0); len(got) != 0 || there {
		t.Errorf("of nothing: %q, %v", got, there)
	}
}

// asTexts are the values, as texts between strokes.
func asTexts(values [][]byte) string {
	return string(bytes.Join(values, []byte("|")))
}

func TestAll(t *testing.T) {
	l := anyList()
	for typ, want := range map[int][]string{
		api.TagService: {"first", "second", "", "first"}, api.TagUniq: {""}, api.TagEnd: {"end"}, -1: {"below", "again"},
		1 << 40: {"beyond"}, api.TagRelay: {""}, 0x10000 + api.TagService: {string(make([]byte, 70000))},
		api.TagName: nil, 1: nil, 0xffff: nil, -2: nil, math.MinInt: nil, math.MaxInt: nil,
	} {
		if got := tags.All(l, typ); len(got) != len(want) || asTexts(got) != strings.Join(want, "|") {
			t.Errorf("type %#x: %q", typ, got)
		}
	}
	if got := tags.All(nil, 0); len(got) != 0 {
		t.Errorf("of nothing: %q", got)
	}
}

func TestWithout(t *testing.T) {
	l := anyList()
	for typ, want := range map[int][]int{
		api.TagService: {1, 2, 3, 5, 6, 8, 10}, api.TagUniq: {0, 2, 3, 4, 5, 6, 7, 8, 9, 10}, api.TagEnd: {0, 1, 3, 4, 5, 6, 7, 8, 9, 10},
		-1: {0, 1, 2, 4, 5, 6, 7, 9, 10}, 1 << 40: {0, 1, 2, 3, 4, 6, 7, 8, 9, 10}, api.TagName: {0, 1, 2, 3, 4, 5, 6, 7, 8, 9, 10},
		0x10000 + api.TagService: {0, 1, 2, 3, 4, 5, 6, 7, 8, 9}, math.MinInt: {0, 1, 2, 3, 4, 5, 6, 7, 8, 9, 10},
	} {
		var others []api.Tag
		for _, i := range want {
			others = append(others, l[i])
		}
		if got := tags.Without(l, typ); !same(got, others) {
			t.Errorf("type %#x: %v", typ, got)
		}
	}
	if got := tags.Without([]api.Tag{tag(7, "a"), tag(7, "")}, 7); len(got) != 0 {
		t.Errorf("of one type alone: %v", got)
	}
	if got := tags.Without(nil, 0); len(got) != 0 {
		t.Errorf("of nothing: %v", got)
	}
}

// Lists may be longer than any that can be decoded.
func TestLongLists(t *testing.T) {
	var l []api.Tag
	for i := range 1000 {
		l = append(l, api.Tag{Type: i % 3, Value: []byte{byte(i), byte(i >> 8)}})
	}
	ones, others := tags.All(l, 1), tags.Without(l, 1)
	if len(ones) != 333 || len(others) != 667 {
		t.Fatal(len(ones), len(others))
	}
	for i := range l {
		at := i / 3
		if i%3 == 1 && !bytes.Equal(ones[at], l[i].Value) {
			t.Fatal(i, ones[at])
		}
		if i%3 == 0 && !same(others[2*at:2*at+1], l[i:i+1]) || i%3 == 2 && !same(others[2*at+1:2*at+2], l[i:i+1]) {
			t.Fatal(i, others[2*at])
		}
	}
}

// Each tag is among All of its type or Without it, once; what is found is the first of All.
func TestFindAllWithoutAgree(t *testing.T) {
	r := rand.New(rand.NewSource(7))
	for range 2000 {
		var l []api.Tag
		for range r.Intn(12) {
			l = append(l, api.Tag{Type: r.Intn(4) - 1, Value: more(r, r.Intn(3))})
		}
		for typ := -2; typ <= 4; typ++ {
			all, others := tags.All(l, typ), tags.Without(l, typ)
			if len(all)+len(others) != len(l) || len(tags.All(others, typ)) != 0 {
				t.Fatalf("type %d of %v: %v, %v", typ, l, all, others)
			}
			value, there := tags.Find(l, typ)
			if there != (len(all) > 0) || there && !bytes.Equal(value, all[0]) || !there && len(value) != 0 {
				t.Fatalf("type %d of %v: %v, %v", typ, l, value, there)
			}
		}
	}
}

// P5.4

func TestTagsThereAndBack(t *testing.T) {
	r := rand.New(rand.NewSource(8))
	for range 3000 {
		l := row(r, 64, 1494)
		b := encoded(t, l...)
		areTags(t, "what was encoded", b, l)
		if room := 1494 - len(b) - 4; room >= 0 {
			areTags(t, "with an end and anything behind", join(b, make([]byte, 4), more(r, r.Intn(room+1))), l)
			areTags(t, "with an end and all that may be behind", join(b, make([]byte, 4), more(r, room)), l)
		}
	}
}

func TestEachTypeThereAndBack(t *testing.T) {
	for typ := 1; typ <= 0xffff; typ++ {
		l := []api.Tag{tag(typ, "v"), tag(1, "")}
		if got := decoded(t, encoded(t, l...)); !same(got, l) {
			t.Fatalf("type %#x: %v", typ, got)
		}
	}
}

func TestBytesThereAndBack(t *testing.T) {
	r := rand.New(rand.NewSource(9))
	ended := 0
	for range 10000 {
		b := wire(row(r, 64, 1300)...)
		if r.Intn(2) == 0 {
			b = join(b, make([]byte, 4), more(r, r.Intn(100)))
		}
		for range r.Intn(3) {
			if len(b) > 0 {
				b[r.Intn(len(b))] = byte(r.Intn(3))
			}
		}
		l, err := tags.Decode(b)
		if err != api.OK {
			continue
		}
		again := encoded(t, l...)
		if !bytes.HasPrefix(b, again) {
			t.Fatalf("%x: %x", b, again)
		}
		if rest := b[len(again):]; len(rest) > 0 {
			ended++
			if !bytes.HasPrefix(rest, make([]byte, 4)) {
				t.Fatalf("%x was let go without an end", rest)
			}
		}
	}
	if ended < 1000 {
		t.Error("too few rows with an end:", ended)
	}
}

// P5.5

func TestParts(t *testing.T) {
	r := rand.New(rand.NewSource(10))
	for range 3000 {
		a, b := row(r, 32, 700), row(r, 32, 700)
		first, second := wire(a...), wire(b...)
		if r.Intn(2) == 0 {
			second = join(second, make([]byte, 4), more(r, r.Intn(80)))
		}
		areTags(t, "of both", join(first, second), append(decoded(t, first), decoded(t, second)...))
		areTags(t, "the first one with an end", join(first, make([]byte, 4), second), a)
	}
}

func TestPartsTooMany(t *testing.T) {
	for n := range 65 {
		areTags(t, "64 in parts", join(wire(many(n)...), wire(many(64-n)...)), append(many(n), many(64-n)...))
		noTags(t, "65 in parts", api.ErrMany, join(wire(many(n)...), wire(many(65-n)...)))
	}
}

// P5.6

func TestEncodeIsOnesOwn(t *testing.T) {
	l := []api.Tag{tag(api.TagService, "isp"), {Type: api.TagName}, tag(api.TagUniq, strings.Repeat("u", 300))}
	want := wire(l...)
	first, second := encoded(t, l...), encoded(t, l...)
	spoil(first)
	if !bytes.Equal(second, want) || !bytes.Equal(wire(l...), want) {
		t.Error("what was told is shared")
	}
	spoilTags(l)
	if !bytes.Equal(second, want) {
		t.Error("what was handed in is kept")
	}
}

// One value alone: its bytes are copied even where nothing else need be.
func TestEncodeOfRoomyIsOnesOwn(t *testing.T) {
	piece, whole := roomy(drawn(11, 20))
	kept := bytes.Clone(whole)
	b := encoded(t, api.Tag{Type: 7, Value: piece}, api.Tag{Type: 8, Value: piece})
	if !bytes.Equal(whole, kept) {
		t.Fatal("what was handed in is changed")
	}
	spoil(b)
	if !bytes.Equal(whole, kept) {
		t.Error("what was told is shared")
	}
}

func TestDecodeIsOnesOwn(t *testing.T) {
	l := []api.Tag{tag(api.TagService, "isp"), tag(api.TagName, "ac"), tag(api.TagUniq, ""), tag(api.TagCookie, strings.Repeat("c", 32))}
	b, whole := roomy(wire(l...))
	kept := bytes.Clone(whole)
	first, second := decoded(t, b), decoded(t, b)
	if !bytes.Equal(whole, kept) {
		t.Fatal("what was handed in is changed")
	}
	spoilTags(first)
	if !bytes.Equal(whole, kept) || !same(second, l) {
		t.Error("what was told is shared")
	}
	spoil(whole)
	if !same(second, l) {
		t.Error("what was handed in is kept")
	}
}

// Values of one answer share nothing with one another, not even by the room behind them.
func TestValuesShareNothing(t *testing.T) {
	l := []api.Tag{tag(7, "one"), tag(7, "two"), tag(7, ""), tag(7, "three")}
	took := decoded(t, wire(l...))
	values, others := tags.All(l, 7), tags.Without(l, 8)
	for i := range l {
		_ = append(took[i].Value, "overwritten"...)
		_ = append(values[i], "overwritten"...)
		_ = append(others[i].Value, "overwritten"...)
	}
	if !same(took, l) || !same(others, l) || asTexts(values) != "one|two||three" {
		t.Errorf("%v, %v, %q", took, others, values)
	}
}

func TestListsAreOnesOwn(t *testing.T) {
	shared, whole := roomy([]byte("value"))
	l := []api.Tag{{Type: 7, Value: shared}, tag(8, "other"), {Type: 7, Value: shared}}
	kept, want := bytes.Clone(whole), copied(l)
	found, _ := tags.Find(l, 7)
	values, others, ones := tags.All(l, 7), tags.Without(l, 8), tags.Without(l, 9)
	if !bytes.Equal(whole, kept) || !same(l, want) {
		t.Fatal("what was handed in is changed")
	}
	spoil(values[0])
	spoil(others[0].Value)
	spoil(ones[1].Value)
	if !bytes.Equal(whole, kept) || !same(l, want) || asTexts([][]byte{found, values[1], others[1].Value}) != "value|value|value" {
		t.Error("what was told is shared")
	}
	spoil(found)
	spoilTags(ones)
	if !bytes.Equal(whole, kept) || !same(l, want) {
		t.Error("what was told is shared")
	}
	found, _ = tags.Find(l, 7)
	ones = tags.Without(l, 9)
	spoilTags(l)
	if string(found) != "value" || string(values[1]) != "value" || string(others[1].Value) != "value" || !same(ones, want) {
		t.Error("what was handed in is kept")
	}
}

// What stands behind a list in its memory is left as it is.
func TestListsAreNotGrown(t *testing.T) {
	whole := []api.Tag{tag(7, "a"), tag(8, "b"), tag(9, "c"), tag(10, "d")}
	want := copied(whole)
	l := whole[:2]
	others := tags.Without(l, 7)
	_ = append(others, tag(11, "e"))
	encoded(t, l...)
	tags.All(l, 7)
	if !same(whole, want) {
		t.Error(whole)
	}
}
