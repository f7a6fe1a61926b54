package crc_test

import (
	"bytes"
	"math/bits"
	"slices"
	"strings"
	"sync"
	"testing"

	"tenancy/crc"
)

// dice is a row of bits by a rule that mixes them, the same each time (splitmix64).
type dice uint64

func (d *dice) bits() uint64 {
	*d += 0x9e3779b97f4a7c15
	x := uint64(*d)
	x = (x ^ x>>30) * 0xbf58476d1ce4e5b9
	x = (x ^ x>>27) * 0x94d049bb133111eb
	return x ^ x>>31
}

// below is a number from 0 to n - 1.
func (d *dice) below(n int) int { return int(d.bits() % uint64(n)) }

func (d *dice) bytes(n int) []byte {
	b := make([]byte, n)
	for i := range b {
		b[i] = byte(d.bits())
	}
	return b
}

// period is how many bits go by until the sum of a single one comes again; behind it are lists in which two turned bits may hide each other.
const period = 1<<15 - 1

// lists are of none, of each byte alone, of one byte over and over, of what is asked and told, and of others that dice are thrown for: short ones of each length, and ones longer than the period.
func lists() [][]byte {
	l := [][]byte{nil, {}}
	for x := range 256 {
		l = append(l, []byte{byte(x)})
	}
	for _, x := range []byte{0, 1, 0x80, 0xa0, 0xff} {
		for _, n := range []int{2, 3, 8, 16, 17, 255, 256, 257} {
			l = append(l, bytes.Repeat([]byte{x}, n))
		}
	}
	l = append(l, []byte("what is lent"), []byte("\x01\x02\x00\x00\x00\x07\x00\x00\x00\x01\x03abc"), []byte("ä, é, 漢"))
	throw := dice(1)
	for n := range 90 {
		l = append(l, throw.bytes(n))
	}
	return append(l, throw.bytes(period/8), throw.bytes(period/8+1), throw.bytes(1<<13), throw.bytes(1<<16+3))
}

// rest is what division by x^16 + x^15 + x^2 + 1 leaves of b times x^16, as it is done on paper: nothing in it is turned but each byte (its lowest bit goes first) and what is left in the end.
func rest(b []byte) uint16 {
	const divisor = 1<<16 | 0x8005
	left := uint32(0)
	down := func(bit uint32) {
		left = left<<1 | bit
		if left&(1<<16) != 0 {
			left ^= divisor
		}
	}
	for _, x := range b {
		for i := range 8 {
			down(uint32(x>>i) & 1)
		}
	}
	for range 16 {
		down(0)
	}
	return bits.Reverse16(uint16(left))
}

func TestExamples(t *testing.T) {
	for _, x := range []struct {
		s    string
		want uint16
	}{
		{"123456789", 0xbb3d},
		{"", 0}, {"\x00", 0}, {"\x01", 0xc0c1}, {"\x80", 0xa001}, {"\x02", 0xc181}, {"\xff", 0x4040}, {"a", 0xe8c1},
		{"\x00\x01", 0xc0c1}, {"\x01\x00", 0x9001}, {"\x01\xc1", 0x00c0}, {"\x01\xc1\xc0", 0}, {"\x01\x80", 0x3000}, {"\xff\xff", 0xb001},
	} {
		if got := crc.Sum([]byte(x.s)); got != x.want {
			t.Errorf("Sum of %q: %04X, not %04X", x.s, got, x.want)
		}
	}
}

func TestSumIsWhatDivisionLeaves(t *testing.T) {
	for _, b := range lists() {
		if got, want := crc.Sum(b), rest(b); got != want {
			t.Errorf("Sum of %d bytes, %.20x: %04X, not %04X", len(b), b, got, want)
		}
	}
}

func TestSumOfAllTwoBytes(t *testing.T) {
	told := map[uint16]bool{}
	for x := range 1 << 16 {
		b := []byte{byte(x), byte(x >> 8)}
		got := crc.Sum(b)
		if want := rest(b); got != want {
			t.Fatalf("Sum of %x: %04X, not %04X", b, got, want)
		}
		told[got] = true
	}
	if len(told) != 1<<16 {
		t.Errorf("%d sums of two bytes: no two have one", len(told))
	}
}

// TestSumOfNone: nil and an empty list are one, whatever spare room is behind it.
func TestSumOfNone(t *testing.T) {
	for _, b := range [][]byte{nil, {}, []byte("spare")[:0], make([]byte, 0, 8)} {
		if got := crc.Sum(b); got != 0 {
			t.Errorf("Sum of none: %04X", got)
		}
	}
}

// TestBegunWithNought: 0s ahead are not seen, and 0s behind are.
func TestBegunWithNought(t *testing.T) {
	for _, b := range lists() {
		want := crc.Sum(b)
		for _, n := range []int{1, 2, 7, 300} {
			if got := crc.Sum(append(make([]byte, n), b...)); got != want {
				t.Errorf("%d 0s ahead of %d bytes, %.20x: %04X, not %04X", n, len(b), b, got, want)
			}
		}
		if want != 0 && crc.Sum(append(slices.Clone(b), 0)) == want {
			t.Errorf("a 0 behind %.20x is not seen", b)
		}
	}
}

// TestNotTurnedInTheEnd: a list with its sum behind it, low byte first, leaves 0; what is begun with 0 and not turned is added as bits are.
func TestNotTurnedInTheEnd(t *testing.T) {
	throw := dice(2)
	for _, b := range lists() {
		sum := crc.Sum(b)
		if got := crc.Sum(append(slices.Clone(b), byte(sum), byte(sum>>8))); got != 0 {
			t.Errorf("%.20x and its sum: %04X", b, got)
		}
		other := throw.bytes(len(b))
		both := slices.Clone(b)
		for i := range both {
			both[i] ^= other[i]
		}
		if got, want := crc.Sum(both), sum^crc.Sum(other); got != want {
			t.Errorf("%.20x with %.20x: %04X, not %04X", b, other, got, want)
		}
	}
}

// TestAByteThatIsTurnedIsSeen: each byte of a list, turned in each way.
func TestAByteThatIsTurnedIsSeen(t *testing.T) {
	for _, b := range lists() {
		if len(b) > 64 {
			continue
		}
		want := crc.Sum(b)
		c := slices.Clone(b)
		for i := range c {
			for x := 1; x < 256; x++ {
				c[i] = b[i] ^ byte(x)
				if crc.Sum(c) == want {
					t.Errorf("%.20x: byte %d turned by %02x is not seen", b, i, x)
				}
			}
			c[i] = b[i]
		}
	}
}

// TestAByteThatIsTurnedIsSeenInLongLists: the first, the last and some between, where the sums of single bits came again long ago.
func TestAByteThatIsTurnedIsSeenInLongLists(t *testing.T) {
	throw := dice(3)
	for _, n := range []int{period/8 + 1, 2*period/8 + 5, 1<<14 + 1} {
		b := throw.bytes(n)
		want := crc.Sum(b)
		for _, i := range []int{0, 1, throw.below(n), n - period/8, n - 1} {
			for _, x := range []int{1, 2, 4, 8, 16, 32, 64, 128, 255, 1 + throw.below(255)} {
				b[i] ^= byte(x)
				if crc.Sum(b) == want {
					t.Errorf("%d bytes: byte %d turned by %02x is not seen", n, i, x)
				}
				b[i] ^= byte(x)
			}
		}
	}
}

// TestATurnedSumIsSeen: whoever finds the sum behind a list sees a byte of it turned, too.
func TestATurnedSumIsSeen(t *testing.T) {
	right := func(b []byte) bool {
		n := len(b) - 2
		return crc.Sum(b[:n]) == uint16(b[n])<<8|uint16(b[n+1])
	}
	for _, s := range []string{"", "a", "what is lent", strings.Repeat("\x00", 9)} {
		sum := crc.Sum([]byte(s))
		b := append([]byte(s), byte(sum>>8), byte(sum))
		if !right(b) {
			t.Errorf("%q: not right as it is", s)
		}
		for i := range b {
			for x := 1; x < 256; x++ {
				b[i] ^= byte(x)
				if right(b) {
					t.Errorf("%q: byte %d turned by %02x is not seen", s, i, x)
				}
				b[i] ^= byte(x)
			}
		}
	}
}

// TestNothingHandedInIsChanged looks at the spare room, too, which is not asked for anything.
func TestNothingHandedInIsChanged(t *testing.T) {
	for _, b := range lists() {
		room := append(slices.Clone(b), 11, 12, 13)
		was := slices.Clone(room)
		got := crc.Sum(room[:len(b)])
		if !bytes.Equal(room, was) {
			t.Errorf("%.20x: then %.20x", was, room)
		}
		if want := crc.Sum(slices.Clip(slices.Clone(b))); got != want {
			t.Errorf("%.20x: %04X with spare room, %04X without", b, got, want)
		}
	}
}

// TestNothingIsKept: a list that is asked for again may have been changed, and what was asked between is forgotten.
func TestNothingIsKept(t *testing.T) {
	b := []byte("what is lent")
	one := crc.Sum(b)
	b[3] = '!'
	if crc.Sum(b) == one {
		t.Error("the list was kept")
	}
	b[3] = 't'
	var first []uint16
	for _, l := range lists() {
		first = append(first, crc.Sum(l))
	}
	for i, l := range lists() {
		if got := crc.Sum(l); got != first[i] {
			t.Errorf("%.20x: %04X, then %04X", l, first[i], got)
		}
	}
	if got := crc.Sum(b); got != one {
		t.Errorf("%04X, then %04X", one, got)
	}
}

func TestManyAtOnce(t *testing.T) {
	throw := dice(4)
	b := throw.bytes(500)
	want := rest(b)
	var all sync.WaitGroup
	for range 8 {
		all.Go(func() {
			for range 50 {
				if got := crc.Sum(b); got != want {
					t.Errorf("%04X, not %04X", got, want)
				}
			}
		})
	}
	all.Wait()
}
