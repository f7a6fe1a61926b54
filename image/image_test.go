package image_test

import (
	"fmt"
	"slices"
	"strings"
	"testing"

	"tenancy/api"
	"tenancy/image"
	"tenancy/state"
)

func TestLimits(t *testing.T) {
	if files != api.MaxFile || clients != api.MaxCli || most != api.MaxNum || sector != api.Sector || api.MaxName != 8 || api.MaxBody != 24 {
		t.Fatalf("%d %d %d %d %d %d", api.MaxFile, api.MaxCli, api.MaxNum, api.Sector, api.MaxName, api.MaxBody)
	}
}

func TestPutOfANewOne(t *testing.T) {
	if l := image.Put(state.New()); !slices.Equal(l, slices.Repeat([]string{strings.Repeat("\x00", 32)}, 9)) {
		t.Errorf("%q", l)
	}
}

// TestPutExample: all that is put, written out.
func TestPutExample(t *testing.T) {
	s := some()
	s.Marks[0], s.Marks[2] = api.Mark{Seq: most, Err: api.EFull, File: 6, Ver: 65535}, api.Mark{Seq: 65536, Err: api.EArg, Ver: most - 1}
	noughts := func(n int) string { return strings.Repeat("\x00", n) }
	want := "\x00\x00\x01\x02" +
		"\x40\x00\x00\x00\x03\x06\x00\x00\xff\xff" +
		"\x00\x00\x00\x03\x02\x04\x00\x00\x00\x05" +
		"\x00\x01\x00\x00\x01\x00\x3f\xff\xff\xff" +
		"\x02ab" + noughts(6) + "\x00\x00\x00\x07" + "\x03xyz" + noughts(21) +
		noughts(38) +
		"\x01!" + noughts(7) + "\x00\x00\x00\x01" + noughts(25) +
		"\x01~" + noughts(7) + "\x00\x00\x01\x00" + "\x02" + noughts(24) +
		noughts(38) +
		"\x0812345678" + "\x40\x00\x00\x00" + "\x18\xff" + noughts(23) +
		noughts(26)
	if l := image.Put(s); !slices.Equal(l, cut(want, sector)) || len(l) != sectors {
		t.Errorf("%q", l)
	}
}

func TestPutLaysEachThingAtItsPlace(t *testing.T) {
	for _, s := range states() {
		if l := image.Put(s); !slices.Equal(l, cut(laid(s), sector)) {
			t.Fatalf("Put of %v: %q", s, l)
		}
	}
}

func TestPutOfWhatMayNotBe(t *testing.T) {
	for what, s := range wrongStates() {
		if l := image.Put(s); len(l) != 0 {
			t.Errorf("%s: %q", what, l)
		}
	}
}

func TestWhatIsPutIsTaken(t *testing.T) {
	for _, s := range states() {
		if got, ok := image.Take(image.Put(s)); !ok || !alike(got, s) || !state.May(got) {
			t.Fatalf("%v: then %v %v", s, got, ok)
		}
	}
}

// mustTake holds what Take tells of b, cut, against what stands at each place.
func mustTake(t *testing.T, b string) bool {
	t.Helper()
	l := cut(b, sector)
	want, is := lifted(b)
	got, ok := image.Take(l)
	if ok != is || !alike(got, want) {
		t.Fatalf("Take of %q: %v %v, not %v %v", l, got, ok, want, is)
	}
	if ok && !slices.Equal(image.Put(got), l) {
		t.Fatalf("Take of %q: %v, which is not put so", l, got)
	}
	return ok
}

// TestTakeOfEachByteTurned: each byte, to each other one.
func TestTakeOfEachByteTurned(t *testing.T) {
	for _, s := range []api.State{blank(), full(), some()} {
		good, wrong := 0, 0
		for at := range whole {
			b := []byte(laid(s))
			for by := range 256 {
				b[at] = byte(by)
				if mustTake(t, string(b)) {
					good++
				} else {
					wrong++
				}
			}
		}
		if good < 1000 || wrong < 1000 {
			t.Errorf("%v: %d good ones and %d wrong ones are few", s, good, wrong)
		}
	}
}

// TestTakeOfMixed: images in which some bytes were turned, most of them where lengths stand and behind texts.
func TestTakeOfMixed(t *testing.T) {
	throw, good, wrong := dice(2), 0, 0
	for range 30000 {
		b := []byte(laid(throw.state()))
		for range 1 + throw.below(4) {
			at := throw.below(whole)
			if throw.below(3) == 0 {
				at = fileAt + fileSize*throw.below(files) + []int{0, 8, 9, bodyAt, bodyAt + 24}[throw.below(5)]
			}
			b[at] = byte([]int{0, 1, 3, 8, 9, 24, 25, '!', '~', throw.below(256)}[throw.below(10)])
		}
		if mustTake(t, string(b)) {
			good++
		} else {
			wrong++
		}
	}
	if good < 1000 || wrong < 1000 {
		t.Errorf("%d good ones and %d wrong ones are few", good, wrong)
	}
}

// TestTakeOfLongTexts: a length that goes on over what is behind, up to the end of it all and beyond.
func TestTakeOfLongTexts(t *testing.T) {
	for i := range files {
		for _, at := range []int{fileAt + fileSize*i, fileAt + fileSize*i + bodyAt} {
			for _, fill := range []byte{0, 'x'} {
				for size := range 256 {
					b := []byte(laid(blank()))
					for k := at + 1; k < whole; k++ {
						b[k] = fill
					}
					b[at] = byte(size)
					mustTake(t, string(b))
				}
			}
		}
	}
}

// TestTakeOfTwoOfAName: no two files may be named alike, wherever they are.
func TestTakeOfTwoOfAName(t *testing.T) {
	for i := range files {
		for j := range files {
			s := full()
			s.Files[i].Name = s.Files[j].Name
			if mustTake(t, laid(s)) != (i == j) {
				t.Errorf("files %d and %d", i, j)
			}
		}
	}
}

func mustBeNone(t *testing.T, what string, l []string) {
	t.Helper()
	if got, ok := image.Take(l); ok || got.Files != nil || got.Marks != nil || got.Epoch != 0 {
		t.Errorf("%s: %v %v", what, got, ok)
	}
}

// TestTakeOfOtherCuts: the same bytes, but not in sectors, or not as many.
func TestTakeOfOtherCuts(t *testing.T) {
	for _, s := range []api.State{blank(), full(), some()} {
		b := laid(s)
		for size := 1; size <= whole; size++ {
			if size != sector {
				mustBeNone(t, fmt.Sprint("cut by ", size), cut(b, size))
			}
		}
		l := cut(b, sector)
		for n := range l {
			mustBeNone(t, fmt.Sprint("the first ", n), l[:n])
			mustBeNone(t, fmt.Sprint("the last ", n), l[sectors-n:])
			mustBeNone(t, fmt.Sprint("without ", n), slices.Delete(slices.Clone(l), n, n+1))
			for _, x := range []string{"", "\x00", strings.Repeat("\x00", sector), l[n]} {
				mustBeNone(t, fmt.Sprintf("with %q ahead of %d", x, n), slices.Insert(slices.Clone(l), n, x))
				mustBeNone(t, fmt.Sprintf("with %q behind", x), append(slices.Clone(l), x))
			}
			for _, x := range []string{"", l[n][1:], l[n][:sector-1], l[n] + "\x00", "\x00" + l[n], l[n] + l[n]} {
				w := slices.Clone(l)
				w[n] = x
				mustBeNone(t, fmt.Sprintf("%q as %d", x, n), w)
			}
		}
		for n := range sectors - 1 {
			for size := range sector {
				w := slices.Clone(l)
				both := w[n] + w[n+1]
				w[n], w[n+1] = both[:size], both[size:]
				mustBeNone(t, fmt.Sprint("cut at ", size, " of ", n), w)
			}
		}
	}
	mustBeNone(t, "nil", nil)
	mustBeNone(t, "an empty list", []string{})
}

// TestTakeOfMisplaced: the sectors of a full one in another order.
func TestTakeOfMisplaced(t *testing.T) {
	for i := range sectors {
		for j := range i {
			l := cut(laid(full()), sector)
			l[i], l[j] = l[j], l[i]
			mustTake(t, strings.Join(l, ""))
		}
	}
}

// TestTakeOfFarTooMuch: what no memory has room for is not joined.
func TestTakeOfFarTooMuch(t *testing.T) {
	long := strings.Repeat("\x00", 1<<26)
	mustBeNone(t, "many long ones", slices.Repeat([]string{long}, 1<<22))
	mustBeNone(t, "nine long ones", slices.Repeat([]string{long}, sectors))
	mustBeNone(t, "many", slices.Repeat([]string{long[:sector]}, 1<<22))
}

func TestDiffExamples(t *testing.T) {
	for _, x := range []struct {
		a, b []string
		want []api.Put
	}{
		{[]string{"a", "b", "c"}, []string{"a", "x", "y"}, []api.Put{{At: 1, B: "x"}, {At: 2, B: "y"}}},
		{[]string{"a", "b", "c"}, []string{"a", "b", "c"}, nil},
		{[]string{"a", "b", "c"}, []string{"c", "b", "a"}, []api.Put{{At: 0, B: "c"}, {At: 2, B: "a"}}},
		{[]string{"a"}, []string{""}, []api.Put{{At: 0}}},
		{[]string{""}, []string{"\x00"}, []api.Put{{At: 0, B: "\x00"}}},
		{[]string{"a", "a", "a"}, []string{"b", "b", "b"}, []api.Put{{At: 0, B: "b"}, {At: 1, B: "b"}, {At: 2, B: "b"}}},
		{nil, nil, nil}, {nil, []string{}, nil}, {[]string{}, nil, nil},
		// Not as many.
		{nil, []string{"a"}, nil}, {[]string{"a"}, nil, nil}, {[]string{"a"}, []string{"b", "c"}, nil}, {[]string{"a", "b"}, []string{"c"}, nil}, {[]string{"a"}, []string{"a", ""}, nil}, {[]string{"x", ""}, []string{"a"}, nil},
	} {
		if got := image.Diff(x.a, x.b); !slices.Equal(got, x.want) {
			t.Errorf("Diff of %q and %q: %v, not %v", x.a, x.b, got, x.want)
		}
	}
}

// put is a with l put.
func put(a []string, l []api.Put) []string {
	a = slices.Clone(a)
	for _, p := range l {
		a[p.At] = p.B
	}
	return a
}

// mustDiffer holds Diff of a and b against each number, told or not.
func mustDiffer(t *testing.T, a, b []string) int {
	t.Helper()
	got := image.Diff(a, b)
	told := map[int]string{}
	for k, p := range got {
		told[p.At] = p.B
		if k > 0 && got[k-1].At >= p.At {
			t.Fatalf("Diff of %q and %q: not by number: %v", a, b, got)
		}
	}
	n := 0
	for i := range b {
		x, is := told[i]
		if is != (a[i] != b[i]) || is && x != b[i] {
			t.Fatalf("Diff of %q and %q: %v, wrong at %d", a, b, got, i)
		}
		if is {
			n++
		}
	}
	if n != len(got) || !slices.Equal(put(a, got), b) {
		t.Fatalf("Diff of %q and %q: %v", a, b, got)
	}
	return n
}

// TestDiffOfShortLists: of all lists of up to four of three texts, one with another one.
func TestDiffOfShortLists(t *testing.T) {
	lists := [][]string{nil}
	for from := 0; len(lists[from]) < 4; from++ {
		for _, x := range []string{"", "a", "ab"} {
			lists = append(lists, append(slices.Clone(lists[from]), x))
		}
	}
	for _, a := range lists {
		for _, b := range lists {
			if len(a) == len(b) {
				mustDiffer(t, a, b)
			} else if got := image.Diff(a, b); len(got) != 0 {
				t.Fatalf("Diff of %q and %q: %v", a, b, got)
			}
		}
	}
}

// TestDiffOfImages: with what is unlike put, the one state's is the other one's.
func TestDiffOfImages(t *testing.T) {
	seen := map[int]int{}
	l := states()
	for i, a := range l {
		for _, b := range l[max(0, i-20) : i+1] {
			was, now := image.Put(a), image.Put(b)
			seen[mustDiffer(t, was, now)]++
			if got, ok := image.Take(put(was, image.Diff(was, now))); !ok || !alike(got, b) {
				t.Fatalf("%v to %v: %v", a, b, got)
			}
		}
		turned := a
		turned.Epoch = (a.Epoch + 1) % most
		if n := mustDiffer(t, image.Put(a), image.Put(turned)); n != 1 {
			t.Fatalf("of another Epoch %d are unlike", n)
		}
	}
	if seen[0] < len(l) || len(seen) < 4 {
		t.Errorf("so many are unlike: %v", seen)
	}
}

// TestDiffOfLongLists: of more than a byte or two could count.
func TestDiffOfLongLists(t *testing.T) {
	throw := dice(3)
	for _, n := range []int{1, 9, 255, 256, 257, 70000} {
		a := make([]string, n)
		b := make([]string, n)
		for i := range a {
			a[i], b[i] = throw.text(throw.below(2), 0, 1), throw.text(throw.below(2), 0, 1)
		}
		mustDiffer(t, a, b)
	}
}
