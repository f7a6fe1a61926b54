package file_test

import (
	"fmt"
	"math"
	"slices"
	"strings"
	"sync"
	"testing"
	"unsafe"

	"tenancy/api"
	"tenancy/file"
)

// dice is a row of numbers by a rule that mixes them, the same each time (splitmix64).
type dice uint64

func (d *dice) below(n int) int {
	*d += 0x9e3779b97f4a7c15
	x := uint64(*d)
	x = (x ^ x>>30) * 0xbf58476d1ce4e5b9
	x = (x ^ x>>27) * 0x94d049bb133111eb
	return int((x ^ x>>31) % uint64(n))
}

// text is n bytes of all kinds.
func (d *dice) text(n int) string {
	b := make([]byte, n)
	for i := range b {
		b[i] = byte(d.below(256))
	}
	return string(b)
}

// most is how many bytes a file has room for, as the tests count on it.
const most = 24

func w(off int, b string) api.Write { return api.Write{Off: off, B: b} }

// full are texts of as many bytes as a file has room for, each of bytes of another kind.
func full() []string {
	return []string{strings.Repeat("x", most), strings.Repeat("\x00", most), strings.Repeat("\xff", most), strings.Repeat("漢", most/3), "abcdefghijklmnopqrstuvwx"}
}

// bodies are of each length that a file may have, of some beyond it, of noughts, of runes, of no runes.
func bodies() []string {
	throw := dice(1)
	l := append(full(), "", "a", "\x00", "\xff", "漢", "ab\x00x", strings.Repeat("\x00", 10), strings.Repeat("漢", 7), throw.text(25), throw.text(26), throw.text(48), throw.text(1000))
	for n := range most + 1 {
		l = append(l, throw.text(n), strings.Repeat("b", n))
	}
	return l
}

// goodWrites are of each Off and each length that may be together.
func goodWrites() []api.Write {
	throw := dice(2)
	l := []api.Write{w(3, "x"), w(0, "\x00"), w(5, "\x00\x00\x00"), w(1, "漢"), w(2, "\xff\xfe")}
	for _, b := range full() {
		l = append(l, w(0, b))
	}
	for off := range most {
		for n := 1; off+n <= most; n++ {
			l = append(l, w(off, throw.text(n)))
		}
	}
	return l
}

// farOffs are such that nothing written there has room, nor has it where it is added up beyond an int.
var farOffs = []int{math.MinInt, math.MinInt + 1, math.MinInt + 23, math.MinInt + 24, -1 << 62, -1<<32 + 1, -1 << 32, -1 << 31, -256, -255, -25, -24, -23, -2, -1, 24, 25, 26, 48, 255, 256, 257, 1 << 31, 1 << 32, 1<<32 + 1, 1 << 62, math.MaxInt - 25, math.MaxInt - 24, math.MaxInt - 23, math.MaxInt - 1, math.MaxInt}

// wrongWrites are too far, too long, of no bytes, or one byte beyond the room.
func wrongWrites() []api.Write {
	throw := dice(3)
	var l []api.Write
	for _, off := range farOffs {
		for _, n := range []int{0, 1, 2, 23, 24, 25, 256, 257} {
			l = append(l, w(off, throw.text(n)))
		}
	}
	for off := range most {
		l = append(l, w(off, ""))
		for _, more := range []int{1, 2, most, 256, 1 << 16} {
			l = append(l, w(off, throw.text(most-off+more)))
		}
	}
	return append(l, w(0, strings.Repeat("漢", 9)), w(22, "漢"), w(0, strings.Repeat("\x00", 25)))
}

func TestMayExamples(t *testing.T) {
	long := strings.Repeat("x", 24)
	for _, x := range []struct {
		w    api.Write
		want bool
	}{
		{w(0, "a"), true}, {w(3, "x"), true}, {w(23, "a"), true}, {w(0, long), true}, {w(1, long[:23]), true}, {w(22, "ab"), true}, {w(0, "\x00"), true},
		{w(0, strings.Repeat("漢", 8)), true}, {w(21, "漢"), true}, {w(0, strings.Repeat("\xff", 24)), true},
		{w(0, ""), false}, {w(23, ""), false}, {w(24, ""), false}, {w(-1, ""), false}, {w(-1, "a"), false}, {w(-1, "ab"), false}, {w(-1, long), false},
		{w(24, "a"), false}, {w(23, "ab"), false}, {w(1, long), false}, {w(0, long+"x"), false}, {w(-1, long+"x"), false}, {w(22, "漢"), false}, {w(0, strings.Repeat("漢", 9)), false},
		{api.Write{}, false},
	} {
		if got := file.May(x.w); got != x.want {
			t.Errorf("May of %d bytes from %d on: %v", len(x.w.B), x.w.Off, got)
		}
	}
}

// TestMayByPlaces: what is written may be, if each of its bytes stands at a place of the file.
func TestMayByPlaces(t *testing.T) {
	for off := -60; off <= 60; off++ {
		for n := range 60 {
			want := n > 0
			for j := off; j < off+n; j++ {
				want = want && j >= 0 && j < most
			}
			if got := file.May(w(off, strings.Repeat("a", n))); got != want {
				t.Errorf("May of %d bytes from %d on: %v", n, off, got)
			}
		}
	}
}

func TestMayOfGoodAndOfWrongOnes(t *testing.T) {
	for _, x := range goodWrites() {
		if !file.May(x) {
			t.Errorf("May of %d bytes from %d on: no", len(x.B), x.Off)
		}
	}
	for _, x := range wrongWrites() {
		if file.May(x) {
			t.Errorf("May of %d bytes from %d on: yes", len(x.B), x.Off)
		}
	}
}

func TestPutExamples(t *testing.T) {
	long := strings.Repeat("x", 24)
	for _, x := range []struct {
		body string
		w    api.Write
		want string
	}{
		{"ab", w(3, "x"), "ab\x00x"},
		{"", w(0, "a"), "a"}, {"", w(1, "a"), "\x00a"}, {"", w(0, long), long}, {"", w(23, "a"), strings.Repeat("\x00", 23) + "a"},
		{"abcdef", w(0, "x"), "xbcdef"}, {"abcdef", w(2, "xy"), "abxyef"}, {"abcdef", w(5, "x"), "abcdex"}, {"abcdef", w(4, "xy"), "abcdxy"}, {"abcdef", w(0, "uvwxyz"), "uvwxyz"},
		{"abc", w(2, "xy"), "abxy"}, {"abc", w(0, "wxyz"), "wxyz"}, {"abc", w(3, "d"), "abcd"}, {"abc", w(4, "d"), "abc\x00d"}, {"abc", w(6, "de"), "abc\x00\x00\x00de"},
		{"abc", w(1, "\x00"), "a\x00c"}, {"abc", w(2, "\x00\x00"), "ab\x00\x00"}, {"a\x00\x00", w(1, "b"), "ab\x00"},
		{"漢", w(1, "a"), "\xe6a\xa2"}, {"a", w(1, "漢"), "a漢"}, {"\xff", w(2, "\xfe"), "\xff\x00\xfe"},
		{long, w(0, "a"), "a" + long[1:]}, {long, w(23, "a"), long[1:] + "a"}, {long, w(0, strings.Repeat("y", 24)), strings.Repeat("y", 24)},
	} {
		if got := file.Put(x.body, x.w); got != x.want {
			t.Errorf("Put of %q from %d on in %q: %q, not %q", x.w.B, x.w.Off, x.body, got, x.want)
		}
	}
}

func TestPutOfWhatMayNotBe(t *testing.T) {
	for _, body := range bodies() {
		for _, x := range wrongWrites() {
			if got := file.Put(body, x); got != body {
				t.Errorf("Put of %d bytes from %d on in %q: %q", len(x.B), x.Off, body, got)
			}
		}
	}
}

// within says whether byte j is one that x writes, by places.
func within(x api.Write, j int) bool {
	return j >= x.Off && j < x.Off+len(x.B)
}

// good are those of l that may be, by places.
func good(l []api.Write) []api.Write {
	var kept []api.Write
	for _, x := range l {
		if x.Off >= 0 && x.Off < most && len(x.B) > 0 && len(x.B) <= most && x.Off+len(x.B) <= most {
			kept = append(kept, x)
		}
	}
	return kept
}

// byBytes is what All comes to: each byte is of the last that writes it, else of body, else a nought.
func byBytes(body string, l []api.Write) string {
	l = good(l)
	size := len(body)
	for _, x := range l {
		size = max(size, x.Off+len(x.B))
	}
	var s strings.Builder
	for j := range size {
		c := byte(0)
		if j < len(body) {
			c = body[j]
		}
		for _, x := range slices.Backward(l) {
			if within(x, j) {
				c = x.B[j-x.Off]
				break
			}
		}
		s.WriteByte(c)
	}
	return s.String()
}

func TestPutByteByByte(t *testing.T) {
	for _, body := range bodies() {
		for _, x := range goodWrites() {
			if got, want := file.Put(body, x), byBytes(body, []api.Write{x}); got != want {
				t.Fatalf("Put of %q from %d on in %q: %q, not %q", x.B, x.Off, body, got, want)
			}
		}
	}
}

// TestPutAgain: what is written is there; what is written again changes nothing.
func TestPutAgain(t *testing.T) {
	for _, body := range bodies() {
		for _, x := range goodWrites() {
			once := file.Put(body, x)
			if got := once[x.Off : x.Off+len(x.B)]; got != x.B {
				t.Fatalf("Put of %q from %d on in %q: there is %q", x.B, x.Off, body, got)
			}
			if twice := file.Put(once, x); twice != once {
				t.Fatalf("Put of %q from %d on in %q: %q, again %q", x.B, x.Off, body, once, twice)
			}
		}
	}
}

func TestAllExamples(t *testing.T) {
	for _, x := range []struct {
		body string
		l    []api.Write
		want string
	}{
		{"abc", nil, "abc"}, {"abc", []api.Write{}, "abc"}, {"", nil, ""}, {"", []api.Write{w(3, "")}, ""},
		{"ab", []api.Write{w(3, "x")}, "ab\x00x"},
		{"abc", []api.Write{w(1, "x"), w(1, "y")}, "ayc"}, {"abc", []api.Write{w(1, "y"), w(1, "x")}, "axc"},
		{"", []api.Write{w(0, "abc"), w(1, "x")}, "axc"}, {"", []api.Write{w(1, "x"), w(0, "abc")}, "abc"},
		{"", []api.Write{w(4, "e"), w(0, "a")}, "a\x00\x00\x00e"}, {"", []api.Write{w(4, "e"), w(6, "g"), w(2, "c")}, "\x00\x00c\x00e\x00g"},
		{"abcd", []api.Write{w(2, "xyz"), w(0, "uvw"), w(5, "f")}, "uvwyzf"},
		// One that may not be keeps none from what comes ahead of it or behind.
		{"abc", []api.Write{w(-1, "x"), w(0, "y")}, "ybc"}, {"abc", []api.Write{w(0, "y"), w(24, "x")}, "ybc"}, {"abc", []api.Write{w(0, "y"), w(1, ""), w(23, "xx"), w(math.MaxInt, "x"), w(3, "z")}, "ybcz"},
		{"abc", []api.Write{w(24, "x"), w(-1, "x"), w(0, "")}, "abc"},
	} {
		if got := file.All(x.body, x.l); got != x.want {
			t.Errorf("All of %v in %q: %q, not %q", x.l, x.body, got, x.want)
		}
	}
}

// lists are short and long ones, of writes that may be and of such as may not, mixed.
func lists() [][]api.Write {
	throw := dice(4)
	may, mayNot := goodWrites(), wrongWrites()
	l := [][]api.Write{nil, {}, may, mayNot, slices.Concat(mayNot, may), slices.Concat(may, mayNot)}
	for i := range 300 {
		var row []api.Write
		for range i % 13 {
			if throw.below(4) == 0 {
				row = append(row, mayNot[throw.below(len(mayNot))])
			} else {
				row = append(row, may[throw.below(len(may))])
			}
		}
		l = append(l, row)
	}
	return l
}

func TestAllByteByByte(t *testing.T) {
	for i, l := range lists() {
		for _, body := range bodies() {
			if got, want := file.All(body, l), byBytes(body, l); got != want {
				t.Fatalf("All of list %d in %q: %q, not %q", i, body, got, want)
			}
		}
	}
}

func TestAllIsPutOfEach(t *testing.T) {
	for i, l := range lists() {
		for _, body := range bodies() {
			want := body
			for _, x := range l {
				want = file.Put(want, x)
			}
			if got := file.All(body, l); got != want {
				t.Fatalf("All of list %d in %q: %q, not %q", i, body, got, want)
			}
		}
	}
}

// TestAllInParts: what is put in two goes is as what is put in one, wherever it is parted.
func TestAllInParts(t *testing.T) {
	for i, l := range lists()[6:] {
		want := file.All("a body", l)
		for k := range len(l) + 1 {
			if got := file.All(file.All("a body", l[:k]), l[k:]); got != want {
				t.Fatalf("All of list %d, parted at %d: %q, not %q", i, k, got, want)
			}
		}
	}
}

// TestWhatIsWrittenLaterStands: behind all others, it is there, and whole; what it does not write is as the others left it.
func TestWhatIsWrittenLaterStands(t *testing.T) {
	for i, l := range lists()[6:] {
		ahead := file.All("what was there ahead", l)
		for _, last := range goodWrites() {
			got := file.All("what was there ahead", append(slices.Clone(l), last))
			if got[last.Off:last.Off+len(last.B)] != last.B {
				t.Fatalf("list %d, then %q from %d on: %q", i, last.B, last.Off, got)
			}
			for j := range len(got) {
				if c := (ahead + strings.Repeat("\x00", most))[j]; !within(last, j) && got[j] != c {
					t.Fatalf("list %d, then %q from %d on: byte %d is %q, not %q", i, last.B, last.Off, j, got[j], c)
				}
			}
		}
	}
}

// TestNoLongerThanItsRoom: what may be written makes no body longer than MaxBody, and none shorter than it was.
func TestNoLongerThanItsRoom(t *testing.T) {
	if most != api.MaxBody {
		t.Fatalf("MaxBody is %d", api.MaxBody)
	}
	for i, l := range lists() {
		for _, body := range bodies() {
			if got := len(file.All(body, l)); got < len(body) || got > max(len(body), api.MaxBody) {
				t.Fatalf("All of list %d in %d bytes: %d bytes", i, len(body), got)
			}
		}
	}
}

// TestMuchAtOnce: a long body, and many writes, every other of which may not be.
func TestMuchAtOnce(t *testing.T) {
	throw := dice(5)
	body := throw.text(1 << 20)
	may, mayNot := goodWrites(), wrongWrites()
	var l []api.Write
	for range 1 << 14 {
		l = append(l, may[throw.below(len(may))], mayNot[throw.below(len(mayNot))])
	}
	if got, want := file.All(body, l), byBytes(body[:most], l)+body[most:]; got != want {
		t.Errorf("All of %d in %d bytes begins with %q, not %q", len(l), len(body), got[:most], want[:most])
	}
}

// calls are all ways to hand something in: what they tell, as a text.
func calls() map[string]func(body string, l []api.Write) string {
	each := func(f func(x api.Write) string) func(body string, l []api.Write) string {
		return func(_ string, l []api.Write) string {
			var s strings.Builder
			for _, x := range l {
				s.WriteString(f(x))
			}
			return s.String()
		}
	}
	return map[string]func(body string, l []api.Write) string{
		"May": each(func(x api.Write) string { return fmt.Sprint(file.May(x)) }),
		"Put": func(body string, l []api.Write) string {
			return each(func(x api.Write) string { return file.Put(body, x) })(body, l)
		},
		"All": file.All,
	}
}

// TestNothingHandedInIsChanged looks at the spare room, too, which changes no answer.
func TestNothingHandedInIsChanged(t *testing.T) {
	for name, call := range calls() {
		for i, l := range lists()[:60] {
			room := append(slices.Clone(l), w(0, "spare"), w(7, "room"), w(-1, ""))
			was := slices.Clone(room)
			got := call("body", room[:len(l)])
			if !slices.Equal(room, was) {
				t.Errorf("%s of list %d changes it", name, i)
			}
			if want := call("body", slices.Clip(slices.Clone(l))); got != want {
				t.Errorf("%s of list %d: %q with spare room, %q without", name, i, got, want)
			}
		}
	}
}

// TestAnswersAreNewMemory: what is told stays as it is when the memory of what was handed in is written over.
func TestAnswersAreNewMemory(t *testing.T) {
	for i, l := range append(lists()[:40], []api.Write{w(0, strings.Repeat("z", 24))}) {
		for _, body := range bodies() {
			want := byBytes(body, l)
			old, held := lent(body), make([]api.Write, len(l))
			var texts [][]byte
			for k, x := range l {
				b := lent(x.B)
				texts, held[k] = append(texts, b), w(x.Off, inPlace(b))
			}
			got := file.All(inPlace(old), held)
			clear(old)
			for _, b := range texts {
				clear(b)
			}
			clear(held)
			if got != want {
				t.Fatalf("All of list %d in %q keeps what it is handed", i, body)
			}
		}
	}
}

// TestPutIsNewMemory: also where nothing is put, and where all of it is put over.
func TestPutIsNewMemory(t *testing.T) {
	for _, x := range append(goodWrites(), wrongWrites()...) {
		for _, body := range bodies() {
			want := byBytes(body, []api.Write{x})
			old, b := lent(body), lent(x.B)
			got := file.Put(inPlace(old), w(x.Off, inPlace(b)))
			clear(old)
			clear(b)
			if got != want {
				t.Fatalf("Put of %d bytes from %d on in %q keeps what it is handed", len(x.B), x.Off, body)
			}
		}
	}
}

// lent is s in bytes that are written over later, as those of a string can't be.
func lent(s string) []byte { return append(make([]byte, 0, len(s)+8), s...) }

// inPlace is b's own memory as a string.
func inPlace(b []byte) string { return unsafe.String(unsafe.SliceData(b), len(b)) }

// TestNilIsAnEmptyList: of no writes, body.
func TestNilIsAnEmptyList(t *testing.T) {
	spare := []api.Write{w(0, "spare"), w(3, "room")}
	for _, body := range bodies() {
		for _, l := range [][]api.Write{nil, {}, spare[:0]} {
			if got := file.All(body, l); got != body {
				t.Errorf("All of none in %q: %q", body, got)
			}
		}
	}
}

// TestSameAgain: nothing is kept from call to call, nor from one that may not be; many may ask at once.
func TestSameAgain(t *testing.T) {
	var all sync.WaitGroup
	for name, call := range calls() {
		for i, l := range lists()[:40] {
			want := call("a body", l)
			all.Go(func() {
				for range 5 {
					if got := call("a body", l); got != want {
						t.Errorf("%s of list %d: %q, then %q", name, i, want, got)
					}
				}
			})
		}
	}
	all.Wait()
}
