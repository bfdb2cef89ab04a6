package opts_test

import (
	"bytes"
	"math"
	"math/rand"
	"strings"
	"testing"

	"concierge/api"
	"concierge/opts"
)

// wrongTypes are types that no option has, some of them with the lowest byte of one that may be.
var wrongTypes = []int{
	math.MinInt, -1 << 32, -0x10000, -256, -255, -1, 256, 257, 0x103, 0x10001, 1 << 32, 1<<32 + 3, math.MaxInt,
}

// wrongSizes are sizes that no number has, some of them with the lowest byte of one that may be.
var wrongSizes = []int{math.MinInt, -1 << 32, -4, -1, 0, 5, 6, 7, 8, 9, 16, 253, 256, 257, 260, 1<<32 + 1, 1 << 62, math.MaxInt}

// drawn are so many bytes, the same for the same seed.
func drawn(seed int64, size int) []byte {
	b := make([]byte, size)
	rand.New(rand.NewSource(seed)).Read(b)
	return b
}

// more are so many bytes that r draws.
func more(r *rand.Rand, size int) []byte {
	b := make([]byte, size)
	r.Read(b)
	return b
}

// join is the parts, one behind the other, in memory of its own.
func join(parts ...[]byte) []byte {
	return bytes.Join(parts, nil)
}

// option is one of that type and data.
func option(typ int, data string) api.Option {
	return api.Option{Type: typ, Data: []byte(data)}
}

// many are n options without data, of the types 0, 1 and so on.
func many(n int) []api.Option {
	l := make([]api.Option, n)
	for i := range l {
		l[i].Type = i % 256
	}
	return l
}

// wire is the bytes that the options have, written out by themselves, of any options.
func wire(l ...api.Option) []byte {
	var b []byte
	for _, o := range l {
		b = append(b, byte(o.Type), byte(2+len(o.Data)))
		b = append(b, o.Data...)
	}
	return b
}

// same tells whether both are the same options, in one order.
func same(a, b []api.Option) bool {
	if len(a) != len(b) {
		return false
	}
	for i := range a {
		if a[i].Type != b[i].Type || string(a[i].Data) != string(b[i].Data) {
			return false
		}
	}
	return true
}

// copied are the options in memory of their own.
func copied(l []api.Option) []api.Option {
	other := make([]api.Option, len(l))
	for i, o := range l {
		other[i] = api.Option{Type: o.Type, Data: bytes.Clone(o.Data)}
	}
	return other
}

// encoded is the options' bytes; it fails where there are none.
func encoded(t *testing.T, l ...api.Option) []byte {
	t.Helper()
	b, err := opts.Encode(l...)
	if err != api.OK {
		t.Fatalf("Encode of %d options: %d", len(l), err)
	}
	return b
}

// decoded is the options of the bytes; it fails where there are none.
func decoded(t *testing.T, b []byte) []api.Option {
	t.Helper()
	l, err := opts.Decode(b)
	if err != api.OK {
		t.Fatalf("Decode of %x: %d", b, err)
	}
	return l
}

// made is the option of that number; it fails where there is none.
func made(t *testing.T, typ, size, n int) api.Option {
	t.Helper()
	o, err := opts.Make(typ, size, n)
	if err != api.OK {
		t.Fatalf("Make(%d, %d, %d): %d", typ, size, n, err)
	}
	return o
}

// areBytes fails where the options' bytes are not those.
func areBytes(t *testing.T, what string, want []byte, l ...api.Option) {
	t.Helper()
	if got, err := opts.Encode(l...); !bytes.Equal(got, want) || err != api.OK {
		t.Errorf("Encode, %s: %x, %d, not %x", what, got, err, want)
	}
}

// noBytes fails where options are not refused with that error, and nothing beside it.
func noBytes(t *testing.T, what string, want api.Errno, l ...api.Option) {
	t.Helper()
	if b, got := opts.Encode(l...); got != want || len(b) != 0 {
		t.Errorf("Encode, %s: %x, %d, not %d", what, b, got, want)
	}
}

// areOptions fails where the bytes are not those options.
func areOptions(t *testing.T, what string, b []byte, want []api.Option) {
	t.Helper()
	if got, err := opts.Decode(b); !same(got, want) || err != api.OK {
		t.Errorf("Decode, %s: %v, %d, not %v", what, got, err, want)
	}
}

// noOptions fails where bytes are not refused with that error, and nothing beside it.
func noOptions(t *testing.T, what string, want api.Errno, b []byte) {
	t.Helper()
	if l, got := opts.Decode(b); got != want || len(l) != 0 {
		t.Errorf("Decode, %s: %v, %d, not %d", what, l, got, want)
	}
}

// isNumber fails where the option's data is not that number.
func isNumber(t *testing.T, o api.Option, want int) {
	t.Helper()
	if got, there := opts.Number(o); got != want || !there {
		t.Errorf("Number of %v: %d, %v, not %d", o, got, there, want)
	}
}

// noNumber fails where the option's data is told as a number.
func noNumber(t *testing.T, o api.Option) {
	t.Helper()
	if got, there := opts.Number(o); got != 0 || there {
		t.Errorf("Number of %d bytes: %d, %v", len(o.Data), got, there)
	}
}

// isMade fails where the option of a number is not that.
func isMade(t *testing.T, typ, size, n int, want api.Option) {
	t.Helper()
	if got, err := opts.Make(typ, size, n); got.Type != want.Type || !bytes.Equal(got.Data, want.Data) || err != api.OK {
		t.Errorf("Make(%d, %d, %d): %v, %d, not %v", typ, size, n, got, err, want)
	}
}

// notMade fails where an option is made that may not be.
func notMade(t *testing.T, typ, size, n int) {
	t.Helper()
	if got, err := opts.Make(typ, size, n); got.Type != 0 || len(got.Data) != 0 || err != api.ErrOpts {
		t.Errorf("Make(%d, %d, %d): %v, %d", typ, size, n, got, err)
	}
}

// row are options that may be, drawn: most at most, together at most so many bytes.
func row(r *rand.Rand, most, bytesMost int) []api.Option {
	var l []api.Option
	for range r.Intn(most + 1) {
		size := r.Intn(30)
		if r.Intn(8) == 0 {
			size = r.Intn(254)
		}
		bytesMost -= 2 + size
		if bytesMost < 0 {
			break
		}
		l = append(l, api.Option{Type: r.Intn(256), Data: more(r, size)})
	}
	return l
}

// spoil overwrites b and all the room behind it.
func spoil(b []byte) {
	b = b[:cap(b)]
	for i := range b {
		b[i] ^= 0xff
	}
}

// spoilOptions overwrites the options, their data, and all the room behind each.
func spoilOptions(l []api.Option) {
	l = l[:cap(l)]
	for i := range l {
		spoil(l[i].Data)
		l[i] = api.Option{Type: -7}
	}
}

// roomy is a copy of b with room behind it that is filled, and all of that.
func roomy(b []byte) (piece, whole []byte) {
	whole = append(bytes.Clone(b), bytes.Repeat([]byte{0xee}, 300)...)
	return whole[:len(b)], whole
}

// P8.1

func TestEncode(t *testing.T) {
	want := "\x01\x04\x05\xd4" + "\x05\x06abcd" + "\x07\x02" + "\x00\x03\x00" + "\xff\xff" + strings.Repeat("x", 253) + "\x01\x02"
	l := []api.Option{
		option(api.LcpMRU, "\x05\xd4"), option(api.LcpMagic, "abcd"), option(api.LcpPFC, ""),
		option(0, "\x00"), option(255, strings.Repeat("x", 253)), option(api.LcpMRU, ""),
	}
	areBytes(t, "of six", []byte(want), l...)
}

func TestEncodeOfNothing(t *testing.T) {
	for _, l := range [][]api.Option{nil, {}} {
		areBytes(t, "of none", nil, l...)
	}
	for _, data := range [][]byte{nil, {}} {
		areBytes(t, "of one without data", []byte{7, 2}, api.Option{Type: 7, Data: data})
	}
	areBytes(t, "of one of nothing", []byte{0, 2}, api.Option{})
}

func TestEncodeTypes(t *testing.T) {
	for typ := range 256 {
		areBytes(t, "a type that may be", []byte{byte(typ), 3, 'd'}, option(typ, "d"))
	}
	for _, typ := range wrongTypes {
		noBytes(t, "a wrong type", api.ErrOpts, option(typ, "d"))
		noBytes(t, "a wrong type without data", api.ErrOpts, option(typ, ""))
		noBytes(t, "a wrong type first", api.ErrOpts, option(typ, "d"), option(1, "d"))
		noBytes(t, "a wrong type last", api.ErrOpts, option(1, "d"), option(typ, "d"))
	}
}

func TestEncodeLengths(t *testing.T) {
	all := drawn(1, 254)
	for size := range 254 {
		want := join([]byte{3, byte(size + 2)}, all[:size])
		areBytes(t, "short enough", want, api.Option{Type: 3, Data: all[:size]})
	}
	for _, size := range []int{254, 255, 256, 257, 258, 509, 510, 511, 1485, 1486, 1487, 1488, 65536, 65536 + 4, 1 << 20} {
		long := api.Option{Type: 3, Data: make([]byte, size)}
		noBytes(t, "data that may not be", api.ErrOpts, long)
		noBytes(t, "data that may not be, last", api.ErrOpts, option(1, ""), long)
		noBytes(t, "data that may not be, first", api.ErrOpts, long, option(1, ""))
	}
}

// It is all the bytes together that are counted, heads too.
func TestEncodeTogether(t *testing.T) {
	full := api.Option{Type: 9, Data: drawn(2, 253)}
	five := []api.Option{full, full, full, full, full}
	rest := api.Option{Type: 8, Data: drawn(3, 211)}
	l := append(five, rest)
	if got := encoded(t, l...); len(got) != 1488 || !bytes.Equal(got, wire(l...)) {
		t.Errorf("six options: %d bytes", len(got))
	}
	noBytes(t, "a byte more", api.ErrLong, append(five[:5:5], api.Option{Type: 8, Data: drawn(3, 212)})...)
	noBytes(t, "an option without data more", api.ErrLong, append(l[:6:6], option(1, ""))...)
	noBytes(t, "six that are full", api.ErrLong, append(five[:5:5], full)...)
	areBytes(t, "two fewer, and one without data", wire(join6(five, 209)...), join6(five, 209)...)
	noBytes(t, "one fewer, and one without data", api.ErrLong, join6(five, 210)...)
}

// join6 is the five, one of so many bytes of data, and one of none.
func join6(five []api.Option, size int) []api.Option {
	return append(five[:5:5], api.Option{Type: 8, Data: drawn(3, size)}, option(1, ""))
}

func TestEncodeManyTogether(t *testing.T) {
	fill := many(64)
	size := 1488 - 64*2
	for i := range fill {
		fill[i].Data = drawn(int64(i), min(size, 30))
		size -= len(fill[i].Data)
	}
	if got := encoded(t, fill...); len(got) != 1488 || !bytes.Equal(got, wire(fill...)) {
		t.Errorf("64 options: %d bytes", len(got))
	}
	fill[63].Data = []byte{1}
	noBytes(t, "64 options and a byte", api.ErrLong, fill...)
	for i := range fill {
		fill[i] = api.Option{Type: 255, Data: make([]byte, 253)}
	}
	noBytes(t, "all that may be", api.ErrLong, fill...)
}

func TestEncodeMany(t *testing.T) {
	for n := range 65 {
		areBytes(t, "as many as may be", wire(many(n)...), many(n)...)
	}
	for _, n := range []int{65, 66, 128, 256, 320, 744, 745, 65536, 65600} {
		noBytes(t, "too many", api.ErrMany, many(n)...)
	}
}

// What the promise names first is told first.
func TestEncodeErrorsInOrder(t *testing.T) {
	full := api.Option{Type: 1, Data: make([]byte, 253)}
	six := []api.Option{full, full, full, full, full, full}
	for _, wrong := range []api.Option{option(-1, ""), option(256, "d"), {Type: 1, Data: make([]byte, 254)}, {Type: -1, Data: make([]byte, 1500)}} {
		noBytes(t, "too many, the first may not be", api.ErrMany, append([]api.Option{wrong}, many(64)...)...)
		noBytes(t, "too many, the last may not be", api.ErrMany, append(many(64), wrong)...)
		noBytes(t, "64, the last may not be", api.ErrOpts, append(many(63), wrong)...)
		noBytes(t, "too long behind one that may not be", api.ErrOpts, append([]api.Option{wrong}, six...)...)
		noBytes(t, "too long ahead of one that may not be", api.ErrOpts, append(six[:6:6], wrong)...)
	}
	noBytes(t, "too many and too long", api.ErrMany, append(many(59), six...)...)
}

// P8.2

func TestDecode(t *testing.T) {
	areOptions(t, "of the example", []byte{1, 4, 5, 212}, []api.Option{option(api.LcpMRU, "\x05\xd4")})
	b := "\x01\x04\x05\xd4" + "\x05\x06abcd" + "\x07\x02" + "\x00\x03\x00" + "\xff\xff" + strings.Repeat("x", 253) + "\x01\x02"
	want := []api.Option{
		option(api.LcpMRU, "\x05\xd4"), option(api.LcpMagic, "abcd"), option(api.LcpPFC, ""),
		option(0, "\x00"), option(255, strings.Repeat("x", 253)), option(api.LcpMRU, ""),
	}
	areOptions(t, "of six", []byte(b), want)
}

func TestDecodeOfNothing(t *testing.T) {
	areOptions(t, "of nil", nil, nil)
	areOptions(t, "of no bytes", []byte{}, nil)
	areOptions(t, "of no bytes, more behind", []byte{1, 2}[:0], nil)
}

// All heads that there are, with just the data that they tell of, a byte fewer, none, and an option behind.
func TestDecodeHeads(t *testing.T) {
	all := drawn(4, 253)
	for typ := range 256 {
		for length := range 256 {
			head := []byte{byte(typ), byte(length)}
			if length < 2 {
				noOptions(t, "a length below 2", api.ErrOpts, head)
				noOptions(t, "a length below 2, more behind", api.ErrOpts, join(head, all))
				continue
			}
			data := all[:length-2]
			want := []api.Option{{Type: typ, Data: data}, option(typ, "d")}
			areOptions(t, "just all", join(head, data), want[:1])
			areOptions(t, "an option behind", join(head, data, wire(want[1])), want)
			if length > 2 {
				noOptions(t, "a byte lacks", api.ErrOpts, join(head, data[1:]))
				noOptions(t, "all lacks", api.ErrOpts, head)
			}
		}
	}
}

// Bytes behind b in its memory are none of its own.
func TestDecodeOfAPiece(t *testing.T) {
	whole := []byte{1, 4, 5, 212, 3, 2}
	for size := range len(whole) + 1 {
		switch size {
		case 0, 4, 6:
			areOptions(t, "whole ones", whole[:size], []api.Option{option(1, "\x05\xd4"), option(3, "")}[:size/3])
		default:
			noOptions(t, "cut", api.ErrOpts, whole[:size])
		}
	}
}

func TestDecodeHeadsCut(t *testing.T) {
	for _, ahead := range [][]byte{nil, wire(option(1, "")), wire(option(1, "d"), option(2, "data")), wire(many(63)...), wire(many(64)...)} {
		for typ := range 256 {
			noOptions(t, "a head that is cut", api.ErrOpts, join(ahead, []byte{byte(typ)}))
		}
	}
}

// However bytes are cut, what is told is what the rule says, option by option.
func TestDecodeCut(t *testing.T) {
	l := []api.Option{option(api.LcpMRU, "\x05\xd4"), option(api.LcpPFC, ""), option(api.LcpMagic, strings.Repeat("\x02", 40))}
	b := wire(l...)
	whole := map[int]int{0: 0, 4: 1, 6: 2, 48: 3}
	for size := range len(b) + 1 {
		n, ok := whole[size]
		if ok {
			areOptions(t, "cut between options", b[:size], l[:n])
			continue
		}
		noOptions(t, "cut within an option", api.ErrOpts, b[:size])
	}
}

func TestDecodeLong(t *testing.T) {
	full := api.Option{Type: 9, Data: drawn(5, 253)}
	fill := []api.Option{full, full, full, full, full, {Type: 8, Data: drawn(6, 211)}}
	areOptions(t, "1488 bytes", wire(fill...), fill)
	for _, b := range [][]byte{
		append(wire(fill...), 0),                 // a head that is cut
		wire(append(fill, option(1, ""))...),     // options that may be
		wire(full, full, full, full, full, full), // options that may be
		bytes.Repeat([]byte{0xff}, 1489),         // fewer are left
		make([]byte, 1489),                       // a length below 2
		bytes.Repeat([]byte{3, 2}, 745),          // too many
		make([]byte, 65536),
	} {
		noOptions(t, "too long", api.ErrLong, b)
	}
	noOptions(t, "1488 bytes, a length below 2", api.ErrOpts, make([]byte, 1488))
	noOptions(t, "1488 bytes, fewer are left", api.ErrOpts, bytes.Repeat([]byte{0xff}, 1488))
	noOptions(t, "1488 bytes, too many", api.ErrMany, bytes.Repeat([]byte{3, 2}, 744))
}

func TestDecodeMany(t *testing.T) {
	for n := range 65 {
		areOptions(t, "as many as may be", wire(many(n)...), many(n))
	}
	for _, n := range []int{65, 66, 100, 128, 256, 320, 744} {
		noOptions(t, "too many", api.ErrMany, wire(many(n)...))
	}
	areOptions(t, "64, the last with data", join(wire(many(63)...), wire(option(9, "data"))), append(many(63), option(9, "data")))
	noOptions(t, "65, the last with data", api.ErrMany, join(wire(many(64)...), wire(option(9, "data"))))
}

// What comes first in the row is told, and of one option what the promise names first.
func TestDecodeErrorsInOrder(t *testing.T) {
	b64, b65 := wire(many(64)...), wire(many(65)...)
	for _, wrong := range [][]byte{{1}, {1, 0}, {1, 1}, {1, 3}, {1, 0, 7}, {1, 255}, {1, 255, 7}} {
		noOptions(t, "the 65th is none", api.ErrOpts, join(b64, wrong))
		noOptions(t, "the 66th is none", api.ErrMany, join(b65, wrong))
		noOptions(t, "the 64th is none", api.ErrOpts, join(wire(many(63)...), wrong))
	}
	noOptions(t, "a length below 2 ahead of too many", api.ErrOpts, join([]byte{1, 1}, b65))
	noOptions(t, "the second's below 2, ahead of too many", api.ErrOpts, join([]byte{1, 2, 1, 0}, b65))
}

// read is Decode written in another way: by places in b, from the end of each option to the next.
func read(b []byte) ([]api.Option, api.Errno) {
	if len(b) > 1488 {
		return nil, 2
	}
	var l []api.Option
	for at := 0; at < len(b); {
		if at+2 > len(b) || b[at+1] < 2 || at+int(b[at+1]) > len(b) {
			return nil, 80
		}
		if len(l) == 64 {
			return nil, 3
		}
		end := at + int(b[at+1])
		l = append(l, api.Option{Type: int(b[at]), Data: b[at+2 : end]})
		at = end
	}
	return l, 0
}

// Of any bytes: rows of options, with bytes changed, cut, and put in.
func TestDecodeOfAnyBytes(t *testing.T) {
	r := rand.New(rand.NewSource(7))
	told := map[api.Errno]int{}
	for range 30000 {
		b := wire(row(r, 70, 1600)...)
		for range r.Intn(3) {
			if len(b) > 0 {
				b[r.Intn(len(b))] = byte(r.Intn(4))
			}
		}
		switch r.Intn(6) {
		case 0:
			b = b[:r.Intn(len(b)+1)]
		case 1:
			at := r.Intn(len(b) + 1)
			b = join(b[:at], make([]byte, r.Intn(6)), b[at:])
		case 2:
			b = join(b, wire(many(r.Intn(70))...))
		case 3:
			b = more(r, r.Intn(12))
		}
		want, wantErr := read(b)
		got, err := opts.Decode(b)
		if !same(got, want) || err != wantErr || err != api.OK && len(got) != 0 {
			t.Fatalf("%x: %v, %d, not %v, %d", b, got, err, want, wantErr)
		}
		told[err]++
	}
	for _, err := range []api.Errno{api.OK, api.ErrLong, api.ErrOpts, api.ErrMany} {
		if told[err] < 100 {
			t.Errorf("error %d was told %d times alone", err, told[err])
		}
	}
}

// P8.3

func TestExampleOne(t *testing.T) {
	o := made(t, 1, 2, 1492)
	areBytes(t, "of what is made", []byte{1, 4, 5, 212}, o)
	isNumber(t, o, 1492)
}

func TestNumber(t *testing.T) {
	for data, want := range map[string]int{
		"\x00": 0, "\x01": 1, "\x7f": 127, "\x80": 128, "\xff": 255,
		"\x00\x00": 0, "\x00\x01": 1, "\x01\x00": 256, "\x05\xd4": 1492, "\x80\x00": 32768, "\xff\xff": 65535,
		"\x00\x00\x00": 0, "\x01\x02\x03": 0x010203, "\xff\xff\xff": 0xffffff, "\x80\x00\x00": 0x800000,
		"\x00\x00\x00\x00": 0, "\x01\x02\x03\x04": 0x01020304, "\x80\x00\x00\x00": 1 << 31, "\x7f\xff\xff\xff": 1<<31 - 1,
		"\xff\xff\xff\xff": 1<<32 - 1, "\x00\x00\x00\xff": 255,
	} {
		for _, typ := range []int{0, api.LcpMRU, 255, -1, 256, math.MaxInt} {
			isNumber(t, option(typ, data), want)
		}
	}
}

func TestNumberOfOtherSizes(t *testing.T) {
	noNumber(t, api.Option{})
	noNumber(t, api.Option{Type: 1, Data: []byte{}})
	for _, size := range []int{5, 6, 7, 8, 9, 16, 253, 254, 256, 257, 258, 260, 65536, 65537} {
		noNumber(t, api.Option{Type: 1, Data: make([]byte, size)})
		noNumber(t, api.Option{Type: 1, Data: bytes.Repeat([]byte{7}, size)})
	}
}

func TestMake(t *testing.T) {
	for n := range 256 {
		isMade(t, 8, 1, n, api.Option{Type: 8, Data: []byte{byte(n)}})
	}
	for n := range 65536 {
		isMade(t, 1, 2, n, api.Option{Type: 1, Data: []byte{byte(n / 256), byte(n % 256)}})
	}
	isMade(t, 0, 3, 0, option(0, "\x00\x00\x00"))
	isMade(t, 255, 3, 0x010203, option(255, "\x01\x02\x03"))
	isMade(t, 3, 3, 0xffffff, option(3, "\xff\xff\xff"))
	isMade(t, 5, 4, 0, option(5, "\x00\x00\x00\x00"))
	isMade(t, 5, 4, 1, option(5, "\x00\x00\x00\x01"))
	isMade(t, 5, 4, 0x01020304, option(5, "\x01\x02\x03\x04"))
	isMade(t, 5, 4, 1<<31, option(5, "\x80\x00\x00\x00"))
	isMade(t, 5, 4, 1<<32-1, option(5, "\xff\xff\xff\xff"))
}

func TestMakeTypes(t *testing.T) {
	for typ := range 256 {
		for size := 1; size <= 4; size++ {
			isMade(t, typ, size, 7, api.Option{Type: typ, Data: join(make([]byte, size-1), []byte{7})})
		}
	}
	for _, typ := range wrongTypes {
		for size := -1; size <= 6; size++ {
			notMade(t, typ, size, 7)
			notMade(t, typ, size, -1)
		}
	}
}

func TestMakeSizes(t *testing.T) {
	for _, size := range wrongSizes {
		for _, n := range []int{0, 1, 7, 255, -1, math.MaxInt, math.MinInt} {
			notMade(t, 1, size, n)
		}
	}
}

func TestMakeNumbersBeyond(t *testing.T) {
	for size := 1; size <= 4; size++ {
		beyond := 1 << (8 * size)
		isMade(t, 1, size, beyond-1, api.Option{Type: 1, Data: bytes.Repeat([]byte{255}, size)})
		for _, n := range []int{beyond, beyond + 1, 2*beyond - 1, 2 * beyond, 256 * beyond, 1 << 40, 1 << 62, math.MaxInt} {
			notMade(t, 1, size, n)
		}
		for _, n := range []int{-1, -2, -255, -256, 1 - beyond, -beyond, -beyond + 7, math.MinInt, math.MinInt + 1} {
			notMade(t, 1, size, n)
		}
	}
}

// P8.4

// anyList is a list that holds what may be and what may not.
func anyList() []api.Option {
	return []api.Option{
		option(3, "first"), option(5, ""), option(-1, "below"), option(3, "second"), option(1<<40, "beyond"), {Type: 7},
		option(3, ""), option(-1, "again"), option(0, "zero"), {Type: 256 + 3, Data: make([]byte, 70000)},
	}
}

// isFound fails where the first option of that type is not that one.
func isFound(t *testing.T, l []api.Option, typ int, data string) {
	t.Helper()
	if got, there := opts.Find(l, typ); got.Type != typ || string(got.Data) != data || !there {
		t.Errorf("Find of type %d: %v, %v, not %q", typ, got, there, data)
	}
}

// notFound fails where an option of that type is told.
func notFound(t *testing.T, l []api.Option, typ int) {
	t.Helper()
	if got, there := opts.Find(l, typ); got.Type != 0 || len(got.Data) != 0 || there {
		t.Errorf("Find of type %d: %v, %v", typ, got, there)
	}
}

func TestFind(t *testing.T) {
	l := anyList()
	for typ, data := range map[int]string{
		3: "first", 5: "", -1: "below", 1 << 40: "beyond", 7: "", 0: "zero", 256 + 3: string(make([]byte, 70000)),
	} {
		isFound(t, l, typ, data)
	}
	for _, typ := range []int{1, 2, 4, 8, 255, 256, 256 + 5, -2, math.MinInt, math.MaxInt} {
		notFound(t, l, typ)
	}
}

func TestFindTheFirst(t *testing.T) {
	isFound(t, []api.Option{option(9, "other"), option(7, ""), option(7, "second")}, 7, "")
	isFound(t, []api.Option{option(9, "other"), option(7, "last")}, 7, "last")
	isFound(t, []api.Option{{}}, 0, "")
	notFound(t, nil, 0)
	notFound(t, []api.Option{}, 0)
	notFound(t, []api.Option{option(9, "other")}[:0], 9)
}

func TestSame(t *testing.T) {
	l := anyList()
	other := copied(l)
	if !opts.Same(l, other) || !opts.Same(l, l) {
		t.Error("the same are not told so")
	}
	for i := range other {
		for _, o := range []api.Option{
			{Type: l[i].Type + 1, Data: l[i].Data}, {Type: l[i].Type + 256, Data: l[i].Data},
			{Type: l[i].Type, Data: append(bytes.Clone(l[i].Data), 0)}, {Type: l[i].Type, Data: []byte("firsT")},
		} {
			other[i] = o
			if opts.Same(l, other) || opts.Same(other, l) {
				t.Errorf("place %d: %v is not %v", i, o, l[i])
			}
		}
		other[i] = l[i]
	}
}

func TestSameOfOtherLengths(t *testing.T) {
	l := anyList()
	for a := range len(l) + 1 {
		for b := range len(l) + 1 {
			if got := opts.Same(l[:a], l[:b]); got != (a == b) {
				t.Errorf("%d and %d options: %v", a, b, got)
			}
		}
	}
	if opts.Same(nil, []api.Option{{}}) || opts.Same([]api.Option{{}}, nil) || opts.Same([]api.Option{{}}, []api.Option{{}, {}}) {
		t.Error("one of nothing is one")
	}
}

// nil and empty are the same, of options and of data.
func TestSameOfNothing(t *testing.T) {
	if !opts.Same(nil, nil) || !opts.Same(nil, []api.Option{}) || !opts.Same([]api.Option{}, nil) {
		t.Error("no options")
	}
	a, b := []api.Option{{Type: 7}}, []api.Option{{Type: 7, Data: []byte{}}}
	if !opts.Same(a, b) || !opts.Same(b, a) {
		t.Error("no data")
	}
}

// The same options in another order are others.
func TestSameInOrder(t *testing.T) {
	a, b, c := option(1, "a"), option(2, "b"), option(1, "b")
	if opts.Same([]api.Option{a, b}, []api.Option{b, a}) || opts.Same([]api.Option{a, c}, []api.Option{c, a}) {
		t.Error("another order")
	}
	if opts.Same([]api.Option{a, a, b}, []api.Option{a, b, b}) {
		t.Error("as many, but others")
	}
	if opts.Same([]api.Option{option(1, "ab"), option(2, "c")}, []api.Option{option(1, "a"), option(2, "bc")}) {
		t.Error("the same data together")
	}
}

func TestSameOfAny(t *testing.T) {
	r := rand.New(rand.NewSource(8))
	told := map[bool]int{}
	for range 20000 {
		a, b := smallRow(r), smallRow(r)
		got := opts.Same(a, b)
		if got != same(a, b) || got != opts.Same(b, a) {
			t.Fatalf("%v and %v: %v", a, b, got)
		}
		told[got]++
	}
	if told[true] < 1000 || told[false] < 1000 {
		t.Error(told)
	}
}

// smallRow are options of few types and data, so that two of them are often the same.
func smallRow(r *rand.Rand) []api.Option {
	var l []api.Option
	for range r.Intn(3) {
		l = append(l, option(r.Intn(2), strings.Repeat("d", r.Intn(2))))
	}
	return l
}

// P8.5

func TestOptionsThereAndBack(t *testing.T) {
	r := rand.New(rand.NewSource(9))
	for range 5000 {
		l := row(r, 64, 1488)
		areOptions(t, "what was encoded", encoded(t, l...), l)
	}
}

func TestEachHeadThereAndBack(t *testing.T) {
	all := drawn(10, 253)
	for typ := range 256 {
		for size := range 254 {
			l := []api.Option{{Type: typ, Data: all[:size]}, option(1, "")}
			if got := decoded(t, encoded(t, l...)); !same(got, l) {
				t.Fatalf("type %d, %d bytes: %v", typ, size, got)
			}
		}
	}
}

func TestBytesThereAndBack(t *testing.T) {
	r := rand.New(rand.NewSource(11))
	whole := 0
	for range 10000 {
		b := wire(row(r, 64, 1488)...)
		for range r.Intn(3) {
			if len(b) > 0 {
				b[r.Intn(len(b))] = byte(r.Intn(8))
			}
		}
		l, err := opts.Decode(b)
		if err != api.OK {
			continue
		}
		whole++
		areBytes(t, "what was decoded", b, l...)
		if !opts.Same(l, decoded(t, encoded(t, l...))) {
			t.Fatalf("%x: not the same", b)
		}
	}
	if whole < 3000 {
		t.Error("too few bytes of options:", whole)
	}
}

// P8.6

func TestNumbersThereAndBack(t *testing.T) {
	for n := range 65536 {
		for size := 2; size <= 4; size++ {
			isNumber(t, made(t, 1, size, n), n)
		}
	}
	for n := range 256 {
		isNumber(t, made(t, n, 1, n), n)
	}
	r := rand.New(rand.NewSource(12))
	for range 20000 {
		size := 1 + r.Intn(4)
		n := r.Intn(1 << (8 * size))
		o := made(t, r.Intn(256), size, n)
		isNumber(t, o, n)
		isNumber(t, decoded(t, encoded(t, o))[0], n)
	}
}

// Of what has a number, Make makes the same option again.
func TestMadeAgain(t *testing.T) {
	r := rand.New(rand.NewSource(13))
	for range 20000 {
		o := api.Option{Type: r.Intn(256), Data: more(r, 1+r.Intn(4))}
		n, there := opts.Number(o)
		if !there {
			t.Fatalf("%v has no number", o)
		}
		isMade(t, o.Type, len(o.Data), n, o)
	}
}

// P8.7

func TestEncodeIsOnesOwn(t *testing.T) {
	l := []api.Option{option(1, "isp"), {Type: 2}, option(3, strings.Repeat("u", 200))}
	want := wire(l...)
	first, second := encoded(t, l...), encoded(t, l...)
	spoil(first)
	if !bytes.Equal(second, want) || !bytes.Equal(wire(l...), want) {
		t.Error("what was told is shared")
	}
	spoilOptions(l)
	if !bytes.Equal(second, want) {
		t.Error("what was handed in is kept")
	}
}

// Data with room behind it: neither that nor the room is changed.
func TestEncodeOfRoomyIsOnesOwn(t *testing.T) {
	piece, whole := roomy(drawn(14, 20))
	kept := bytes.Clone(whole)
	b := encoded(t, api.Option{Type: 7, Data: piece}, api.Option{Type: 8, Data: piece})
	if !bytes.Equal(whole, kept) {
		t.Fatal("what was handed in is changed")
	}
	spoil(b)
	if !bytes.Equal(whole, kept) {
		t.Error("what was told is shared")
	}
}

func TestDecodeIsOnesOwn(t *testing.T) {
	l := []api.Option{option(1, "\x05\xd4"), option(5, "magic"), option(7, ""), option(9, strings.Repeat("c", 32))}
	b, whole := roomy(wire(l...))
	kept := bytes.Clone(whole)
	first, second := decoded(t, b), decoded(t, b)
	if !bytes.Equal(whole, kept) {
		t.Fatal("what was handed in is changed")
	}
	spoilOptions(first)
	if !bytes.Equal(whole, kept) || !same(second, l) {
		t.Error("what was told is shared")
	}
	spoil(whole)
	if !same(second, l) {
		t.Error("what was handed in is kept")
	}
}

// Data of one answer share nothing with one another, not even by the room behind them.
func TestDataShareNothing(t *testing.T) {
	l := []api.Option{option(7, "one"), option(7, "two"), option(7, ""), option(7, "three")}
	took := decoded(t, wire(l...))
	for i := range took {
		_ = append(took[i].Data, "overwritten"...)
	}
	if !same(took, l) {
		t.Error(took)
	}
	for i := range took {
		spoil(took[i].Data)
		took[i].Data = nil
		if !same(took[i+1:], l[i+1:]) {
			t.Error(took)
		}
	}
}

func TestFindIsOnesOwn(t *testing.T) {
	shared, whole := roomy([]byte("data"))
	l := []api.Option{option(8, "other"), {Type: 7, Data: shared}, {Type: 7, Data: shared}}
	kept, want := bytes.Clone(whole), copied(l)
	first, _ := opts.Find(l, 7)
	second, _ := opts.Find(l, 7)
	spoil(first.Data)
	if !bytes.Equal(whole, kept) || !same(l, want) || string(second.Data) != "data" {
		t.Error("what was told is shared")
	}
	spoilOptions(l)
	if string(second.Data) != "data" {
		t.Error("what was handed in is kept")
	}
}

func TestMakeIsOnesOwn(t *testing.T) {
	first, second := made(t, 1, 2, 1492), made(t, 1, 2, 1492)
	spoil(first.Data)
	isNumber(t, second, 1492)
	isMade(t, 1, 2, 1492, option(1, "\x05\xd4"))
}

// What is asked alone is left as it is, and so is the room behind it.
func TestNothingIsChanged(t *testing.T) {
	data, whole := roomy([]byte{5, 212})
	kept := bytes.Clone(whole)
	l := []api.Option{{Type: 1, Data: data}, option(2, "b"), option(3, "c")}
	want := copied(l)
	isNumber(t, l[0], 1492)
	opts.Same(l[:1], l[1:2])
	opts.Same(l, want)
	opts.Find(l[:2], 3)
	encoded(t, l[:2]...)
	if !bytes.Equal(whole, kept) || !same(l, want) {
		t.Error("what was handed in is changed")
	}
}
