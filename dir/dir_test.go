package dir_test

import (
	"fmt"
	"slices"
	"strings"
	"sync"
	"testing"

	"tenancy/api"
	"tenancy/dir"
)

// dice is a row of numbers by a rule that mixes them, the same each time (splitmix64).
type dice uint64

func (d *dice) below(n int) int {
	*d += 0x9e3779b97f4a7c15
	x := uint64(*d)
	x = (x ^ x>>30) * 0xbf58476d1ce4e5b9
	x = (x ^ x>>27) * 0x94d049bb133111eb
	return int((x ^ x>>31) % uint64(n))
}

// text is n bytes of all kinds.
func (d *dice) text(n int) string {
	b := make([]byte, n)
	for i := range b {
		b[i] = byte(d.below(256))
	}
	return string(b)
}

// signs are the bytes that a name may be of, as the tests count on it: 33 to 126, each written out.
const signs = "!\"#$%&'()*+,-./0123456789:;<=>?@ABCDEFGHIJKLMNOPQRSTUVWXYZ[\\]^_`abcdefghijklmnopqrstuvwxyz{|}~"

// most is how many bytes a name may have, as the tests count on it.
const most = 8

// name is n signs.
func (d *dice) name(n int) string {
	b := make([]byte, n)
	for i := range b {
		b[i] = signs[d.below(len(signs))]
	}
	return string(b)
}

// goodNames are of each sign and of each length, some that are the beginning of another, some unlike by the case of a letter alone.
func goodNames() []string {
	l := []string{"a", "A", "aa", "ab", "abc", "abcdefg", "abcdefgh", "abcdefgH", "bcdefgh", "12345678", "!~", "/", "..", "!!!!!!!!", "~~~~~~~~", "%00", "\\x00"}
	for i := range len(signs) {
		l = append(l, signs[i:i+1])
	}
	throw := dice(1)
	for n := 1; n <= most; n++ {
		for range 20 {
			l = append(l, throw.name(n))
		}
	}
	return l
}

// wrongNames have no byte, too many, or one that is no sign: at each place of a name of each length.
func wrongNames() []string {
	l := []string{"", " ", "  ", "a b", " a", "a ", "a\x00", "\x00a", "\x00", "a\n", "\t", "\x1f", "\x7f", "\x80", "\xff", "é", "ä", "漢", "漢a", "a\u00a0", "a\u0301", "\u200b", "\u2028", "\uff21", "\U0001f4c4", "\xe6\xbc", "123456789", "abcdefgh\x00", "abcdefgh ", "漢漢漢"}
	throw := dice(2)
	for n := 1; n <= most; n++ {
		for place := range n {
			for c := range 256 {
				if strings.IndexByte(signs, byte(c)) < 0 {
					b := []byte(throw.name(n))
					b[place] = byte(c)
					l = append(l, string(b))
				}
			}
		}
	}
	for _, n := range []int{9, 10, 16, 17, 24, 25, 255, 256, 257, 258, 264, 265, 1<<16 + 1, 1<<16 + 8, 1 << 20} {
		l = append(l, throw.name(n), strings.Repeat("a", n), strings.Repeat("\x00", n))
	}
	return l
}

// byRule says whether name may be: without its signs nothing is left of it.
func byRule(name string) bool {
	return len(name) > 0 && len(name) <= most && strings.Trim(name, signs) == ""
}

func TestMayExamples(t *testing.T) {
	for _, s := range []string{"a", "!", "~", "z", "Z", "0", "a.txt", "12345678", "!~", "/", "\"", "\\"} {
		if !dir.May(s) {
			t.Errorf("May of %q: no", s)
		}
	}
	for _, s := range []string{"", " ", "\x1f", "\x20", "\x7f", "\x80", "a b", "é", "漢", "a\x00", "123456789"} {
		if dir.May(s) {
			t.Errorf("May of %q: yes", s)
		}
	}
}

func TestMayOfEachByte(t *testing.T) {
	for c := range 256 {
		s := string([]byte{byte(c)})
		if got, want := dir.May(s), c >= 33 && c <= 126; got != want {
			t.Errorf("May of byte %d: %v", c, got)
		}
		for d := range 256 {
			two := s + string([]byte{byte(d)})
			if got, want := dir.May(two), c >= 33 && c <= 126 && d >= 33 && d <= 126; got != want {
				t.Errorf("May of bytes %d, %d: %v", c, d, got)
			}
		}
	}
}

func TestMayOfEachLength(t *testing.T) {
	if most != api.MaxName {
		t.Fatalf("MaxName is %d", api.MaxName)
	}
	for n := range 600 {
		for _, s := range []string{"a", "!", "~"} {
			if got, want := dir.May(strings.Repeat(s, n)), n >= 1 && n <= most; got != want {
				t.Errorf("May of %d times %q: %v", n, s, got)
			}
		}
	}
}

func TestMayOfGoodAndOfWrongOnes(t *testing.T) {
	for _, s := range goodNames() {
		if !dir.May(s) {
			t.Errorf("May of %q: no", s)
		}
	}
	for _, s := range wrongNames() {
		if dir.May(s) {
			t.Errorf("May of %d bytes, %.20q: yes", len(s), s)
		}
	}
}

func TestMayOfAllKinds(t *testing.T) {
	throw := dice(3)
	for range 100000 {
		s := throw.text(throw.below(12))
		if throw.below(2) == 0 {
			s = throw.name(throw.below(12))
		}
		if got, want := dir.May(s), byRule(s); got != want {
			t.Fatalf("May of %q: %v", s, got)
		}
	}
}

// named are files of these names; what else they have is unlike, and has no part in any answer.
func named(names ...string) []api.File {
	var l []api.File
	for i, s := range names {
		f := api.File{Name: s, Ver: i % 3, Body: strings.Repeat("a", i%2)}
		if i%5 == 4 {
			f.Ver, f.Body = -1, "漢 beyond what a body has room for"
		}
		l = append(l, f)
	}
	return l
}

func TestFindExamples(t *testing.T) {
	long := named("", "b", "a", "", "ab", "a", "A", "abcdefgh")
	for _, x := range []struct {
		l    []api.File
		name string
		want int
	}{
		{nil, "a", 0}, {[]api.File{}, "a", 0}, {nil, "", 0},
		{named("a"), "a", 1}, {named("a"), "b", 0}, {named("a", "b"), "b", 2}, {named("b", "b", "b"), "b", 1}, {named("", "a"), "a", 2},
		{long, "a", 3}, {long, "b", 2}, {long, "ab", 5}, {long, "A", 7}, {long, "abcdefgh", 8},
		{long, "B", 0}, {long, "abc", 0}, {long, "bc", 0}, {long, "abcdefg", 0}, {long, "bcdefgh", 0},
		// A name that may not be is none's, though there stands one.
		{long, "", 0}, {named(""), "", 0}, {named(" "), " ", 0}, {named("a b"), "a b", 0}, {named("123456789"), "123456789", 0}, {named("漢"), "漢", 0}, {named("a\x00"), "a\x00", 0}, {named("a"), "a\x00", 0}, {named("a\x00"), "a", 0},
		{named("12345678"), "123456789", 0}, {named("123456789"), "12345678", 0},
		// One that stands ahead of it and may not be keeps none from being found.
		{named(" ", "123456789", "\x00", "a"), "a", 4},
	} {
		if n, ok := dir.Find(x.l, x.name); n != x.want || ok != (x.want > 0) {
			t.Errorf("Find of %q in %v: %d %v, not %d", x.name, x.l, n, ok, x.want)
		}
	}
}

func TestRoomExamples(t *testing.T) {
	for _, x := range []struct {
		l    []api.File
		want int
	}{
		{nil, 0}, {[]api.File{}, 0},
		{named(""), 1}, {named("a"), 0}, {named("a", ""), 2}, {named("", "a"), 1}, {named("", ""), 1}, {named("a", "", "b", ""), 2},
		{make([]api.File, api.MaxFile), 1}, {named("a", "b", "c", "d", "e", "f"), 0}, {named("a", "b", "c", "d", "e", ""), 6},
		// A name that may not be is a name.
		{named(" "), 0}, {named("\x00"), 0}, {named("123456789", "漢", ""), 3},
		// What has no name is room, whatever else stands there.
		{[]api.File{{Ver: 7, Body: "b"}}, 1}, {[]api.File{{Name: "a"}, {Ver: -1}}, 2}, {[]api.File{{Name: "a"}, {Body: "b"}, {}}, 2},
	} {
		if n, ok := dir.Room(x.l); n != x.want || ok != (x.want > 0) {
			t.Errorf("Room of %v: %d %v, not %d", x.l, n, ok, x.want)
		}
	}
}

// lists are all lists of up to six of these names, the shorter ones first.
func lists(names ...string) [][]string {
	l := [][]string{nil}
	for i := 0; len(l[i]) < api.MaxFile; i++ {
		for _, s := range names {
			l = append(l, append(slices.Clone(l[i]), s))
		}
	}
	return l
}

// fromTheBack is the number of the first of l that is s, found by going on from the last to the first; 0: none.
func fromTheBack(l []string, s string) int {
	n := 0
	for i, x := range slices.Backward(l) {
		if x == s {
			n = i + 1
		}
	}
	return n
}

func TestFindAndRoomOfAllLists(t *testing.T) {
	for _, l := range lists("", "a", "b", " ") {
		files := named(l...)
		for _, s := range []string{"a", "b", "c", "", " ", "ab"} {
			want := 0
			if s != "" && s != " " {
				want = fromTheBack(l, s)
			}
			if n, ok := dir.Find(files, s); n != want || ok != (want > 0) {
				t.Fatalf("Find of %q in %q: %d %v, not %d", s, l, n, ok, want)
			}
		}
		want := fromTheBack(l, "")
		if n, ok := dir.Room(files); n != want || ok != (want > 0) {
			t.Fatalf("Room of %q: %d %v, not %d", l, n, ok, want)
		}
	}
}

// TestFindOfEachName: among all that may be, each is found where it first stands; among all that may not be, none is.
func TestFindOfEachName(t *testing.T) {
	may, mayNot := goodNames(), wrongNames()
	files := named(slices.Concat(mayNot, may, may)...)
	for _, s := range may {
		want := len(mayNot) + slices.Index(may, s) + 1
		if n, ok := dir.Find(files, s); n != want || !ok {
			t.Fatalf("Find of %q: %d %v, not %d", s, n, ok, want)
		}
	}
	for _, s := range mayNot {
		if n, ok := dir.Find(files, s); n != 0 || ok {
			t.Fatalf("Find of %d bytes, %.20q: %d %v", len(s), s, n, ok)
		}
	}
}

// TestFindAmongMany: where much stands ahead of it, and where much stands and none is it.
func TestFindAmongMany(t *testing.T) {
	const many = 1 << 17
	files := make([]api.File, many)
	for i := range files {
		files[i].Name = "ahead"
	}
	files[many-2].Name, files[many-1].Name = "behind", ""
	for s, want := range map[string]int{"ahead": 1, "behind": many - 1, "none": 0, "": 0} {
		if n, ok := dir.Find(files, s); n != want || ok != (want > 0) {
			t.Errorf("Find of %q: %d %v, not %d", s, n, ok, want)
		}
	}
	if n, ok := dir.Room(files); n != many || !ok {
		t.Errorf("Room: %d %v", n, ok)
	}
	if n, ok := dir.Room(files[:many-1]); n != 0 || ok {
		t.Errorf("Room where there is none: %d %v", n, ok)
	}
}

// TestEachNameIsOneFiles: whoever takes room for a name that is not found, and gives some back, has each name once, and no room that is lost.
func TestEachNameIsOneFiles(t *testing.T) {
	throw := dice(4)
	names := []string{"a", "b", "ab", "A", "12345678", "!", "~", "c", "", " ", "123456789"}
	files, held := make([]api.File, api.MaxFile), map[string]int{}
	for range 20000 {
		s := names[throw.below(len(names))]
		n, ok := dir.Find(files, s)
		if n != held[s] || ok != (n > 0) {
			t.Fatalf("Find of %q: %d %v, not %d", s, n, ok, held[s])
		}
		room, free := dir.Room(files)
		if free != (len(held) < api.MaxFile) {
			t.Fatalf("Room: %d %v where %d are named", room, free, len(held))
		}
		switch {
		case ok && throw.below(3) == 0:
			files[n-1] = api.File{}
			delete(held, s)
		case !ok && free && dir.May(s):
			files[room-1] = api.File{Name: s, Ver: 1}
			held[s] = room
		}
		count := map[string]int{}
		for i, f := range files {
			if f.Name == "" {
				continue
			}
			if count[f.Name]++; count[f.Name] > 1 || held[f.Name] != i+1 {
				t.Fatalf("%q is %d's, and %d's: %v", f.Name, held[f.Name], i+1, files)
			}
		}
	}
}

// calls are all ways to hand something in: what they tell, as a text.
func calls() map[string]func(l []api.File, name string) string {
	return map[string]func(l []api.File, name string) string{
		"May":  func(_ []api.File, name string) string { return fmt.Sprint(dir.May(name)) },
		"Find": func(l []api.File, name string) string { return fmt.Sprint(dir.Find(l, name)) },
		"Room": func(l []api.File, _ string) string { return fmt.Sprint(dir.Room(l)) },
	}
}

// someLists are short ones, and long ones of all kinds of names.
func someLists() [][]string {
	l := append(lists("", "a", "b")[:200], goodNames(), wrongNames(), append(goodNames(), ""))
	return append(l, []string{"a", "b", "c", "d", "e", "f"}, []string{"123456789", " "})
}

// TestNothingHandedInIsChanged looks at the spare room, too, in which nothing is found.
func TestNothingHandedInIsChanged(t *testing.T) {
	for name, call := range calls() {
		for i, l := range someLists() {
			for _, s := range []string{"a", "spare", "f", "", " ", "123456789"} {
				files := named(l...)
				room := append(slices.Clone(files), named("spare", "", "a", "f", " ")...)
				was := slices.Clone(room)
				got := call(room[:len(l)], s)
				if !slices.Equal(room, was) {
					t.Fatalf("%s of list %d, %q changes it", name, i, s)
				}
				if want := call(slices.Clip(files), s); got != want {
					t.Fatalf("%s of list %d, %q: %q with spare room, %q without", name, i, s, got, want)
				}
			}
		}
	}
}

// TestNilIsAnEmptyList: in both there is nothing, and no room.
func TestNilIsAnEmptyList(t *testing.T) {
	spare := named("a", "", "b")
	for _, l := range [][]api.File{nil, {}, spare[:0]} {
		for _, s := range append(goodNames(), wrongNames()...) {
			if n, ok := dir.Find(l, s); n != 0 || ok {
				t.Fatalf("Find of %.20q of nothing: %d %v", s, n, ok)
			}
		}
		if n, ok := dir.Room(l); n != 0 || ok {
			t.Errorf("Room of nothing: %d %v", n, ok)
		}
	}
}

// TestSameAgain: nothing is kept from call to call, nor from one that told no; many may ask at once.
func TestSameAgain(t *testing.T) {
	var all sync.WaitGroup
	for name, call := range calls() {
		for i, l := range someLists() {
			files := named(l...)
			for _, s := range []string{"a", "f", "none", "", "123456789"} {
				want := call(files, s)
				all.Go(func() {
					for range 3 {
						if got := call(files, s); got != want {
							t.Errorf("%s of list %d, %q: %q, then %q", name, i, s, want, got)
						}
					}
				})
			}
		}
	}
	all.Wait()
}
