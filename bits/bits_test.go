package bits_test

import (
	"bytes"
	"encoding/hex"
	"fmt"
	"math"
	"math/big"
	"slices"
	"strings"
	"sync"
	"testing"

	"tenancy/bits"
)

// dice is a row of bits by a rule that mixes them, the same each time (splitmix64).
type dice uint64

func (d *dice) bits() uint64 {
	*d += 0x9e3779b97f4a7c15
	x := uint64(*d)
	x = (x ^ x>>30) * 0xbf58476d1ce4e5b9
	x = (x ^ x>>27) * 0x94d049bb133111eb
	return x ^ x>>31
}

func (d *dice) bytes(n int) []byte {
	b := make([]byte, n)
	for i := range b {
		b[i] = byte(d.bits())
	}
	return b
}

// wrongSizes are of no number, neither put nor taken.
var wrongSizes = []int{math.MinInt, math.MinInt + 1, -1 << 32, -256, -9, -8, -7, -2, -1, 0, 9, 10, 16, 64, 255, 256, 257, 1<<32 + 1, 1 << 61, math.MaxInt - 1, math.MaxInt}

// values are numbers around each power of 2 and of either sign, and others that dice are thrown for.
func values() []int {
	l := []int{0, 258, 0x0102030405060708, -0x0102030405060708, math.MaxInt, math.MinInt}
	for i := range 63 {
		p := 1 << i
		l = append(l, p-1, p, p+1, -p, -p-1, 1-p)
	}
	throw := dice(1)
	for i := range 64 {
		l = append(l, int(throw.bits()>>i))
	}
	return l
}

// texts are of each length up to 255: of one letter, of all bytes, of several in a rune, of no rune.
func texts() []string {
	l := []string{"", "\x00", "\x00\x00", "\x01a", "\xff", "\xff\xfe\xfd", "what is lent", "ä, é, 漢", strings.Repeat("漢", 85), strings.Repeat("\x00", 255), strings.Repeat("\xff", 255)}
	throw := dice(2)
	for n := range 256 {
		l = append(l, string(throw.bytes(n)))
	}
	return l
}

// ahead are what may stand in front of what is put.
func ahead() [][]byte {
	throw := dice(3)
	return [][]byte{nil, {}, {0}, {7}, []byte("what is lent"), throw.bytes(255), throw.bytes(256), throw.bytes(1000)}
}

// inHex is the lowest n bytes of v as its sixteen digits have them.
func inHex(v, n int) []byte {
	digits := fmt.Sprintf("%016x", uint64(v))
	b, err := hex.DecodeString(digits[16-2*n:])
	if err != nil {
		panic(err)
	}
	return b
}

// modulo is v modulo 256 to the n, from 0 on.
func modulo(v, n int) int {
	m := new(big.Int).Lsh(big.NewInt(1), uint(8*n))
	return int(m.Mod(big.NewInt(int64(v)), m).Int64())
}

func TestPutExamples(t *testing.T) {
	for _, x := range []struct {
		v, n int
		want string
	}{
		{258, 2, "\x01\x02"},
		{258, 1, "\x02"}, {258, 3, "\x00\x01\x02"}, {0, 1, "\x00"}, {255, 1, "\xff"}, {256, 1, "\x00"}, {65535, 2, "\xff\xff"}, {65536, 2, "\x00\x00"}, {65536, 3, "\x01\x00\x00"},
		{-1, 1, "\xff"}, {-2, 2, "\xff\xfe"}, {-256, 2, "\xff\x00"}, {-1, 8, "\xff\xff\xff\xff\xff\xff\xff\xff"},
		{0x0102030405060708, 8, "\x01\x02\x03\x04\x05\x06\x07\x08"}, {0x0102030405060708, 7, "\x02\x03\x04\x05\x06\x07\x08"},
		{math.MaxInt, 8, "\x7f\xff\xff\xff\xff\xff\xff\xff"}, {math.MinInt, 8, "\x80\x00\x00\x00\x00\x00\x00\x00"}, {math.MinInt, 7, "\x00\x00\x00\x00\x00\x00\x00"},
	} {
		for _, b := range ahead() {
			if got, want := bits.Put(b, x.v, x.n), string(b)+x.want; string(got) != want {
				t.Errorf("Put of %d in %d behind %d bytes: %x, not %x", x.v, x.n, len(b), got, want)
			}
		}
	}
}

func TestPutIsTheLowestBytes(t *testing.T) {
	for _, v := range values() {
		for n := 1; n <= 8; n++ {
			if got, want := bits.Put([]byte("ab"), v, n), append([]byte("ab"), inHex(v, n)...); !bytes.Equal(got, want) {
				t.Errorf("Put of %d in %d: %x, not %x", v, n, got, want)
			}
		}
	}
}

// TestPutOfWrongSizes: b alone, whatever the number.
func TestPutOfWrongSizes(t *testing.T) {
	for _, n := range wrongSizes {
		for _, b := range ahead() {
			for _, v := range []int{0, 1, -1, 258, math.MaxInt, math.MinInt} {
				if got := bits.Put(b, v, n); !bytes.Equal(got, b) {
					t.Errorf("Put of %d in %d behind %d bytes: %x", v, n, len(b), got)
				}
			}
		}
	}
}

func TestTakeExamples(t *testing.T) {
	for _, x := range []struct {
		b       string
		n, want int
	}{
		{"\x01\x02", 2, 258}, {"\x01\x02", 1, 1}, {"\x01\x02\x03", 2, 258}, {"\x00", 1, 0}, {"\xff", 1, 255}, {"\x80", 1, 128}, {"\x00\x00\x07", 3, 7}, {"\x80\x00", 2, 1 << 15},
		{"\xff\xff\xff\xff", 4, 1<<32 - 1}, {"\x80\x00\x00\x00\x00\x00\x00", 7, 1 << 55}, {"\xff\xff\xff\xff\xff\xff\xff\xff", 7, 1<<56 - 1}, {"\x00\x00\x00\x00\x00\x00\x00\xff", 7, 0},
	} {
		if got, ok := bits.Take([]byte(x.b), x.n); got != x.want || !ok {
			t.Errorf("Take of %d of %x: %d %v, not %d", x.n, x.b, got, ok, x.want)
		}
	}
}

func TestTakeIsTheNumberOfTheFirstBytes(t *testing.T) {
	throw := dice(4)
	for range 300 {
		for n := 1; n <= 7; n++ {
			b := throw.bytes(n + int(throw.bits()%4))
			want := int(new(big.Int).SetBytes(b[:n]).Int64())
			if got, ok := bits.Take(b, n); got != want || !ok {
				t.Errorf("Take of %d of %x: %d %v, not %d", n, b, got, ok, want)
			}
		}
	}
}

// TestTakeOfWhatEndsTooSoon: spare room is none of b.
func TestTakeOfWhatEndsTooSoon(t *testing.T) {
	throw := dice(5)
	for n := 1; n <= 7; n++ {
		for size := range n {
			room := throw.bytes(20)
			for _, b := range [][]byte{room[:size], slices.Clip(room[:size]), slices.Clone(room[:size])} {
				if got, ok := bits.Take(b, n); got != 0 || ok {
					t.Errorf("Take of %d of %d bytes: %d %v", n, size, got, ok)
				}
			}
		}
		if got, ok := bits.Take(nil, n); got != 0 || ok {
			t.Errorf("Take of %d of nil: %d %v", n, got, ok)
		}
	}
}

// TestTakeOfWrongSizes: eight bytes are put, but not taken.
func TestTakeOfWrongSizes(t *testing.T) {
	for _, n := range append([]int{8}, wrongSizes...) {
		for _, b := range append(ahead(), []byte("\x00\x00\x00\x00\x00\x00\x00\x01"), []byte("12345678"), []byte("123456789")) {
			if got, ok := bits.Take(b, n); got != 0 || ok {
				t.Errorf("Take of %d of %d bytes: %d %v", n, len(b), got, ok)
			}
		}
	}
}

func TestTextExamples(t *testing.T) {
	long := strings.Repeat("x", 255)
	for _, x := range []struct{ s, want string }{
		{"", "\x00"}, {"a", "\x01a"}, {"ab", "\x02ab"}, {"\x00", "\x01\x00"}, {"漢", "\x03\xe6\xbc\xa2"}, {"\xff", "\x01\xff"}, {long[:127], "\x7f" + long[:127]}, {long[:128], "\x80" + long[:128]}, {long[:254], "\xfe" + long[:254]}, {long, "\xff" + long},
	} {
		for _, b := range ahead() {
			if got, want := bits.Text(b, x.s), string(b)+x.want; string(got) != want {
				t.Errorf("Text of %q behind %d bytes: %x, not %x", x.s, len(b), got, want)
			}
		}
	}
}

// TestTextTooLong: b alone, also where the length's lowest byte would be a good one.
func TestTextTooLong(t *testing.T) {
	for _, size := range []int{256, 257, 258, 300, 511, 512, 1 << 16, 1<<16 + 2} {
		for _, b := range ahead() {
			if got := bits.Text(b, strings.Repeat("x", size)); !bytes.Equal(got, b) {
				t.Errorf("Text of %d bytes behind %d: %.20x", size, len(b), got)
			}
		}
	}
	if got := bits.Text([]byte("b"), strings.Repeat("漢", 86)); string(got) != "b" {
		t.Errorf("Text of 86 runes of 3 bytes: %.20x", got)
	}
}

func TestTakeTextExamples(t *testing.T) {
	for _, x := range []struct {
		b, s string
		n    int
	}{
		{"\x00", "", 1}, {"\x00a", "", 1}, {"\x01a", "a", 2}, {"\x01ab", "a", 2}, {"\x02ab", "ab", 3}, {"\x01\x00", "\x00", 2}, {"\x02\x02\x02\x02", "\x02\x02", 3}, {"\x03\xe6\xbc\xa2\xff", "漢", 4},
	} {
		if s, n, ok := bits.TakeText([]byte(x.b)); s != x.s || n != x.n || !ok {
			t.Errorf("TakeText of %x: %q %d %v, not %q %d", x.b, s, n, ok, x.s, x.n)
		}
	}
}

// TestTakeTextOfWhatEndsTooSoon cuts each text everywhere, with what was cut away as spare room, too.
func TestTakeTextOfWhatEndsTooSoon(t *testing.T) {
	for _, s := range texts() {
		all := append([]byte{byte(len(s))}, s...)
		for size := range len(all) {
			for _, b := range [][]byte{all[:size], all[:size:size]} {
				if got, n, ok := bits.TakeText(b); got != "" || n != 0 || ok {
					t.Fatalf("TakeText of %d bytes of %d: %q %d %v", size, len(all), got, n, ok)
				}
			}
		}
	}
	if got, n, ok := bits.TakeText(nil); got != "" || n != 0 || ok {
		t.Errorf("TakeText of nil: %q %d %v", got, n, ok)
	}
}

func TestNumbersThatArePutAreTaken(t *testing.T) {
	for _, v := range values() {
		for n := 1; n <= 7; n++ {
			b := append(bits.Put(nil, v, n), "behind"...)
			if got, ok := bits.Take(b, n); got != modulo(v, n) || !ok {
				t.Errorf("%d in %d: %d %v, not %d", v, n, got, ok, modulo(v, n))
			}
			if v >= 0 && v < 1<<(8*n) && modulo(v, n) != v {
				t.Errorf("%d in %d is not itself", v, n)
			}
		}
	}
}

func TestTextsThatArePutAreTaken(t *testing.T) {
	for _, s := range texts() {
		b := bits.Text(nil, s)
		for _, behind := range []string{"", "\x00", "behind"} {
			if got, n, ok := bits.TakeText(append(slices.Clone(b), behind...)); got != s || n != 1+len(s) || !ok {
				t.Errorf("%q: %q %d %v", s, got, n, ok)
			}
		}
	}
}

// TestOneBehindTheOther puts numbers and texts on one list, and takes them from its front.
func TestOneBehindTheOther(t *testing.T) {
	var b []byte
	for i, s := range texts() {
		b = bits.Text(bits.Put(b, 1<<40+i, 1+i%7), s)
	}
	for i, s := range texts() {
		size := 1 + i%7
		v, ok := bits.Take(b, size)
		if v != modulo(1<<40+i, size) || !ok {
			t.Fatalf("number %d: %d %v", i, v, ok)
		}
		got, n, ok := bits.TakeText(b[size:])
		if got != s || !ok {
			t.Fatalf("text %d: %q %v", i, got, ok)
		}
		b = b[size+n:]
	}
	if len(b) != 0 {
		t.Errorf("%d bytes are left", len(b))
	}
}

// calls are all ways to hand a list in; those that tell a list tell it, the others its like.
func calls() map[string]func(b []byte) []byte {
	number := func(n int) func(b []byte) []byte {
		return func(b []byte) []byte {
			v, ok := bits.Take(b, n)
			return fmt.Append(nil, v, ok)
		}
	}
	return map[string]func(b []byte) []byte{
		"Put":            func(b []byte) []byte { return bits.Put(b, 258, 4) },
		"Put of 9 bytes": func(b []byte) []byte { return bits.Put(b, 258, 9) },
		"Put of none":    func(b []byte) []byte { return bits.Put(b, 258, 0) },
		"Text":           func(b []byte) []byte { return bits.Text(b, "text") },
		"Text of none":   func(b []byte) []byte { return bits.Text(b, "") },
		"Text too long":  func(b []byte) []byte { return bits.Text(b, strings.Repeat("x", 256)) },
		"Take":           number(2),
		"Take of none":   number(0),
		"Take of 8":      number(8),
		"TakeText": func(b []byte) []byte {
			s, n, ok := bits.TakeText(b)
			return fmt.Append(nil, s, n, ok)
		},
	}
}

// TestNothingHandedInIsChanged looks at the spare room, too, which changes no answer.
func TestNothingHandedInIsChanged(t *testing.T) {
	for name, call := range calls() {
		for _, b := range append(ahead(), []byte("\x03abc"), []byte("\x09abc")) {
			room := append(slices.Clone(b), "0123456789"...)
			was := slices.Clone(room)
			got := call(room[:len(b)])
			if !bytes.Equal(room, was) {
				t.Errorf("%s of %.20x: then %.20x", name, was, room)
			}
			if want := call(slices.Clip(slices.Clone(b))); !bytes.Equal(got, want) {
				t.Errorf("%s of %.20x: %x with spare room, %x without", name, b, got, want)
			}
		}
	}
}

// TestAnswersAreNewMemory: what is told and what was handed in may be changed, each without the other; so may what is told twice.
func TestAnswersAreNewMemory(t *testing.T) {
	fill := func(b []byte, x byte) {
		for i := range b[:cap(b)] {
			b[:cap(b)][i] = x
		}
	}
	for name, call := range calls() {
		for _, b := range append(ahead(), make([]byte, 0, 40), make([]byte, 5, 40), []byte("\x03abc")) {
			was := slices.Clone(b)
			one, two := call(b), call(b)
			want := slices.Clone(one)
			fill(one, 0xee)
			if !bytes.Equal(b, was) || !bytes.Equal(two, want) {
				t.Errorf("%s of %d bytes shares what it tells", name, len(was))
			}
			fill(b, 0xdd)
			if !bytes.Equal(two, want) {
				t.Errorf("%s of %d bytes keeps what it is handed", name, len(was))
			}
		}
	}
	b := []byte("\x03abcd")
	s, _, _ := bits.TakeText(b)
	fill(b, '!')
	if s != "abc" {
		t.Errorf("a text that was taken became %q", s)
	}
}

// TestNilIsAnEmptyList: of nothing, the same comes.
func TestNilIsAnEmptyList(t *testing.T) {
	for name, call := range calls() {
		want := call(nil)
		for _, b := range [][]byte{{}, []byte("spare")[:0]} {
			if got := call(b); !bytes.Equal(got, want) {
				t.Errorf("%s: %x of nil, %x of an empty list", name, want, got)
			}
		}
	}
}

// TestSameAgain: nothing is kept from call to call, nor from one that ended too soon; many may ask at once.
func TestSameAgain(t *testing.T) {
	var all sync.WaitGroup
	for name, call := range calls() {
		for _, b := range ahead() {
			want := call(b)
			all.Go(func() {
				for range 5 {
					if got := call(b); !bytes.Equal(got, want) {
						t.Errorf("%s of %d bytes: %.20x, then %.20x", name, len(b), want, got)
					}
				}
			})
		}
	}
	all.Wait()
}
