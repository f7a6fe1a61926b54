package state_test

import (
	"math"
	"slices"
	"strings"
	"testing"

	"tenancy/api"
	"tenancy/mark"
	"tenancy/state"
)

// The kinds of act.
const (
	open = iota
	flush
	gone
)

// act is a call of Open, Flush or Gone.
type act struct {
	kind, client, seq, file int
	name                    string
	l                       []api.Write
}

func (x act) do(s api.State) (api.State, api.Mark) {
	switch x.kind {
	case open:
		return state.Open(s, x.client, x.seq, x.name)
	case flush:
		return state.Flush(s, x.client, x.seq, x.file, x.l)
	}
	return state.Gone(s, x.client, x.seq, x.file)
}

// want is what do is to tell, by the words of the chapter; where any of it is beyond the limits, nothing new.
func (x act) want(s api.State) (api.State, api.Mark) {
	s = copied(s)
	if faults(s) > 0 || x.client < 1 || x.client > clients || x.seq < 1 || x.seq > most {
		return s, api.Mark{}
	}
	m := x.wantOpened(s)
	if x.kind != open {
		m = x.wantOfFile(s)
	}
	m.Seq = x.seq
	if was := &s.Marks[x.client-1]; was.Seq < x.seq {
		*was = m
	}
	return s, m
}

// wantOpened has s changed as Open is to, and is what it is to tell but for its number.
func (x act) wantOpened(s api.State) api.Mark {
	if x.kind != open {
		return api.Mark{}
	}
	at, room := 0, 0
	for i, f := range slices.Backward(s.Files) {
		switch f.Name {
		case x.name:
			at = i + 1
		case "":
			room = i + 1
		}
	}
	switch {
	case slices.Contains(wrongNames, x.name):
		return api.Mark{Err: api.EArg}
	case at > 0:
		return api.Mark{File: at, Ver: s.Files[at-1].Ver}
	case room == 0:
		return api.Mark{Err: api.EFull}
	}
	s.Files[room-1] = of(x.name, 1, "")
	return api.Mark{File: room, Ver: 1}
}

// wantOfFile has s changed as Flush or Gone is to, and is what it is to tell but for its number.
func (x act) wantOfFile(s api.State) api.Mark {
	for i, f := range s.Files {
		switch {
		case i+1 != x.file || f.Name == "":
		case x.kind == gone:
			s.Files[i] = api.File{}
			return api.Mark{File: x.file}
		case !writable(x.l):
			return api.Mark{Err: api.EArg}
		default:
			ver := f.Ver + 1
			if ver > most {
				ver = most
			}
			s.Files[i] = of(f.Name, ver, written(f.Body, x.l))
			return api.Mark{File: x.file, Ver: ver}
		}
	}
	return api.Mark{Err: api.ENone}
}

// writable says whether l may be written at once.
func writable(l []api.Write) bool {
	fit := 0
	for _, w := range l {
		for n := 1; n <= body; n++ {
			if w.Off >= 0 && w.Off <= body-n && len(w.B) == n {
				fit++
			}
		}
	}
	return fit == len(l) && fit > 0 && fit <= dirty
}

// written is b with l written to it: at each place the byte that was written there last.
func written(b string, l []api.Write) string {
	var now []byte
	for place := range body {
		c, is := byte(0), false
		if place < len(b) {
			c, is = b[place], true
		}
		for _, w := range l {
			end := w.Off + len(w.B)
			is = is || place < end
			if place >= w.Off && place < end {
				c = w.B[place-w.Off]
			}
		}
		if is {
			now = append(now, c)
		}
	}
	return string(now)
}

func write(off int, b string) api.Write { return api.Write{Off: off, B: b} }

// goodWrites are lists that may be written at once.
func goodWrites() [][]api.Write {
	x, long := write(2, "x"), strings.Repeat("l", body)
	return [][]api.Write{
		{x}, {write(0, "y")}, {write(body-1, "z")}, {write(0, long)}, {write(1, long[1:])}, {write(3, "\x00")},
		{x, write(1, "yyy")}, {write(1, "yyy"), x}, {x, x, x, x, x}, {write(0, "a"), write(4, "b"), write(3, "c"), write(3, "dd"), write(20, "e\x00")},
	}
}

// wrongWrites are lists that may not be written: for one of them, wherever it stands, or for how many they are.
func wrongWrites() (l [][]api.Write) {
	x, long := write(2, "x"), strings.Repeat("l", body)
	for _, w := range []api.Write{{}, write(3, ""), write(-1, "w"), write(body, "w"), write(body-1, "ww"), write(0, long+"w"), write(1, long), write(math.MaxInt, "w"), write(math.MinInt, "w"), write(1<<32, "w"), write(0, strings.Repeat("w", 257))} {
		l = append(l, []api.Write{w}, []api.Write{w, x}, []api.Write{x, w}, []api.Write{x, x, w, x, x})
	}
	for _, n := range []int{0, 6, 7, 8, 255, 256, 257, 261} {
		l = append(l, slices.Repeat([]api.Write{x}, n), make([]api.Write, n))
	}
	return l
}

// acts are calls with all that they may be asked, of client 1 under 9, and then of others and under others.
func acts() []act {
	var l []act
	for _, name := range slices.Concat(goodNames, wrongNames, []string{"bb", "d", "e", "f"}) {
		l = append(l, act{kind: open, client: 1, seq: 9, name: name})
	}
	for _, n := range numbers {
		l = append(l, act{kind: gone, client: 1, seq: 9, file: n})
		for _, w := range slices.Concat(goodWrites(), wrongWrites()) {
			l = append(l, act{kind: flush, client: 1, seq: 9, file: n, l: w})
		}
	}
	for _, n := range numbers {
		for _, x := range plainActs() {
			for _, seq := range []int{0, 1, 2, 5, 6, 9, most, most + 1} {
				x.client, x.seq = n, seq
				l = append(l, x)
			}
			for client := range clients + 2 {
				x.client, x.seq = client, n
				l = append(l, x)
			}
		}
	}
	return l
}

// plainActs are one or two of each kind, of no client yet.
func plainActs() []act {
	w := goodWrites()[0]
	return []act{{kind: open, name: "a"}, {kind: open, name: "new"}, {kind: open, name: " "}, {kind: flush, file: 1, l: w}, {kind: flush, file: 2, l: w}, {kind: flush, file: 4}, {kind: gone, file: 1}, {kind: gone, file: 2}, {kind: gone, file: 7}}
}

func TestExample(t *testing.T) {
	s, m := state.Open(state.New(), 1, 1, "a")
	want := state.New()
	want.Files[0], want.Marks[0] = of("a", 1, ""), under(1, api.OK, 1, 1)
	if m != under(1, api.OK, 1, 1) || !alike(s, want) || !state.May(s) {
		t.Errorf("Open: %v %v", s, m)
	}
}

func TestOpenExamples(t *testing.T) {
	for _, x := range []struct {
		s    api.State
		name string
		m    api.Mark
	}{
		// There already: nothing but the mark is new.
		{full(), "a", api.Mark{File: 1, Ver: 1}}, {full(), "bb", api.Mark{File: 2, Ver: 7}}, {full(), "12345678", api.Mark{File: 3, Ver: most}}, {full(), "f", api.Mark{File: 6, Ver: 3}}, {some(), "e", api.Mark{File: 5, Ver: 2}},
		// New, at the first place that there is.
		{some(), "b", api.Mark{File: 2, Ver: 1}}, {some(), "bb", api.Mark{File: 2, Ver: 1}}, {some(), "A", api.Mark{File: 2, Ver: 1}}, {state.New(), "~~~~~~~~", api.Mark{File: 1, Ver: 1}},
		{full(), "A", api.Mark{Err: api.EFull}}, {full(), "b", api.Mark{Err: api.EFull}}, {full(), "1234567", api.Mark{Err: api.EFull}},
		// It may not be so named: that is told ahead of that there is no room.
		{full(), "", api.Mark{Err: api.EArg}}, {some(), "", api.Mark{Err: api.EArg}}, {state.New(), "", api.Mark{Err: api.EArg}}, {full(), "a b", api.Mark{Err: api.EArg}}, {some(), "123456789", api.Mark{Err: api.EArg}}, {some(), "\x7f", api.Mark{Err: api.EArg}},
	} {
		want := copied(x.s)
		x.m.Seq = 8
		if want.Marks[2] = x.m; x.m.Err == api.OK && want.Files[x.m.File-1].Name != x.name {
			want.Files[x.m.File-1] = of(x.name, 1, "")
		}
		if s, m := state.Open(x.s, 3, 8, x.name); m != x.m || !alike(s, want) {
			t.Errorf("Open of %q in %v: %v %v", x.name, x.s, s, m)
		}
	}
}

// TestEachNameIsOneFiles: opened again, also by another one, and when others have gone or come, it is the same file as it was.
func TestEachNameIsOneFiles(t *testing.T) {
	s, seq := state.New(), 0
	opened := func(name string) api.Mark {
		var m api.Mark
		seq++
		s, m = state.Open(s, 1+seq%clients, seq, name)
		return m
	}
	for i, name := range []string{"a", "b", "c", "d", "e", "f"} {
		if m := opened(name); m.File != i+1 {
			t.Fatalf("Open of %q: %v", name, m)
		}
	}
	s, _ = state.Gone(s, 1, 100, 2)
	s, _ = state.Gone(s, 2, 100, 5)
	s, _ = state.Flush(s, 3, 100, 6, goodWrites()[0])
	seq = 100
	for _, x := range []struct {
		name      string
		file, ver int
	}{{"a", 1, 1}, {"f", 6, 2}, {"e", 2, 1}, {"c", 3, 1}, {"b", 5, 1}, {"e", 2, 1}, {"g", 0, 0}} {
		if m := opened(x.name); m.File != x.file || m.Ver != x.ver {
			t.Errorf("Open of %q: %v", x.name, m)
		}
	}
}

func TestFlushExamples(t *testing.T) {
	y := write(0, "y")
	for _, x := range []struct {
		file int
		l    []api.Write
		m    api.Mark
		body string
	}{
		{1, []api.Write{y}, api.Mark{File: 1, Ver: 2}, "y"}, {1, []api.Write{write(3, "y")}, api.Mark{File: 1, Ver: 2}, "x\x00\x00y"},
		{5, []api.Write{write(1, "yy"), write(2, "zz")}, api.Mark{File: 5, Ver: 3}, "ayzzdef"}, {5, []api.Write{write(2, "zz"), write(1, "yy")}, api.Mark{File: 5, Ver: 3}, "ayyzdef"},
		{1, []api.Write{write(0, "a"), write(1, "b"), write(2, "c"), write(3, "d"), write(4, "e")}, api.Mark{File: 1, Ver: 2}, "abcde"},
		// The last change that is counted, and one behind it.
		{4, []api.Write{y}, api.Mark{File: 4, Ver: most}, "y"}, {3, []api.Write{write(body-1, "y")}, api.Mark{File: 3, Ver: most}, strings.Repeat("\xff", body-1) + "y"},
		{0, []api.Write{y}, api.Mark{Err: api.ENone}, ""}, {7, []api.Write{y}, api.Mark{Err: api.ENone}, ""}, {2, []api.Write{y}, api.Mark{Err: api.ENone}, ""}, {-1, []api.Write{y}, api.Mark{Err: api.ENone}, ""},
		{1, nil, api.Mark{Err: api.EArg}, ""}, {1, []api.Write{write(0, "")}, api.Mark{Err: api.EArg}, ""}, {1, []api.Write{y, write(24, "y")}, api.Mark{Err: api.EArg}, ""}, {1, []api.Write{write(-1, "y"), y}, api.Mark{Err: api.EArg}, ""}, {1, slices.Repeat([]api.Write{y}, 6), api.Mark{Err: api.EArg}, ""},
		// That there is no file is told ahead of that they may not be written.
		{2, nil, api.Mark{Err: api.ENone}, ""}, {6, []api.Write{write(0, "")}, api.Mark{Err: api.ENone}, ""}, {7, make([]api.Write, 6), api.Mark{Err: api.ENone}, ""},
	} {
		s := some()
		s.Files[2] = full().Files[2]
		want := copied(s)
		x.m.Seq = 8
		if want.Marks[2] = x.m; x.m.Err == api.OK {
			want.Files[x.file-1].Body, want.Files[x.file-1].Ver = x.body, x.m.Ver
		}
		if got, m := state.Flush(s, 3, 8, x.file, x.l); m != x.m || !alike(got, want) {
			t.Errorf("Flush of %v to %d: %v %v", x.l, x.file, got, m)
		}
	}
}

func TestGoneExamples(t *testing.T) {
	for _, s := range []api.State{full(), some(), state.New()} {
		for _, file := range numbers {
			want, told := copied(s), under(most, api.ENone, 0, 0)
			if file >= 1 && file <= files && s.Files[file-1].Name != "" {
				want.Files[file-1], told = api.File{}, under(most, api.OK, file, 0)
			}
			want.Marks[0] = told
			if got, m := state.Gone(s, 1, most, file); m != told || !alike(got, want) {
				t.Errorf("Gone of %d in %v: %v %v", file, s, got, m)
			}
		}
	}
}

// TestMarkThatIsNotNewer: what is asked is done and told, but the mark that is there stays.
func TestMarkThatIsNotNewer(t *testing.T) {
	for seq := 1; seq <= 7; seq++ {
		newer := seq > 5
		s, m := state.Gone(full(), 1, seq, 2)
		if m != under(seq, api.OK, 2, 0) || s.Files[1] != (api.File{}) || (s.Marks[0] == m) != newer || (s.Marks[0] == full().Marks[0]) == newer {
			t.Errorf("Gone under %d: %v %v", seq, s, m)
		}
		s, m = state.Flush(full(), 1, seq, 1, []api.Write{write(0, "y")})
		if m != under(seq, api.OK, 1, 2) || s.Files[0] != of("a", 2, "y") || (s.Marks[0] == m) != newer || (s.Marks[0] == full().Marks[0]) == newer {
			t.Errorf("Flush under %d: %v %v", seq, s, m)
		}
		s, m = state.Open(some(), 1, seq, "b")
		if m != under(seq, api.OK, 2, 1) || s.Files[1] != of("b", 1, "") || (s.Marks[0] == m) != newer || (s.Marks[0] == some().Marks[0]) == newer {
			t.Errorf("Open under %d: %v %v", seq, s, m)
		}
		s, m = state.Open(some(), 1, seq, "")
		if m != under(seq, api.EArg, 0, 0) || (s.Marks[0] == m) != newer || (s.Marks[0] == some().Marks[0]) == newer {
			t.Errorf("Open of no name under %d: %v %v", seq, s, m)
		}
	}
}

// TestOfAllActs: what comes of each call, in states of all kinds, by the test's own rule.
func TestOfAllActs(t *testing.T) {
	states := []api.State{state.New(), full(), some()}
	for i := range files {
		s := full()
		s.Files[i] = api.File{}
		states = append(states, s)
		s = state.New()
		s.Files[i], s.Epoch = of("a", most-1, "abc"), most
		states = append(states, s)
	}
	all := acts()
	for _, s := range states {
		for _, x := range all {
			want, told := x.want(s)
			got, m := x.do(s)
			if m != told || !alike(got, want) {
				t.Fatalf("%v in %v: %v %v, not %v %v", x, s, got, m, want, told)
			}
			if !state.May(got) {
				t.Fatalf("%v in %v: %v may not be", x, s, got)
			}
		}
	}
}

// TestBeyondTheLimits: to a state that may not be nothing is done, nor for a client or under a number that may not be, and nothing is told.
func TestBeyondTheLimits(t *testing.T) {
	wrong := wrongStates()
	for _, x := range plainActs() {
		x.client, x.seq = 1, 9
		for _, s := range wrong {
			if got, m := x.do(s); m != (api.Mark{}) || !alike(got, s) {
				t.Errorf("%v in %v: %v %v", x, s, got, m)
			}
		}
		for _, n := range numbers {
			for _, by := range [][2]int{{n, 9}, {n, 0}, {n, most + 1}, {1, n}, {3, n}, {0, n}, {4, n}, {-1, n}} {
				x.client, x.seq = by[0], by[1]
				got, m := x.do(some())
				may := x.client >= 1 && x.client <= 3 && x.seq >= 1 && x.seq <= most
				if may && m.Seq != x.seq || !may && (m != (api.Mark{}) || !alike(got, some())) {
					t.Errorf("%v: %v %v", x, got, m)
				}
			}
		}
	}
}

// random is an act of all kinds, mostly such as may be.
func random(throw *dice) act {
	x := act{kind: throw.below(3), client: 1 + throw.below(clients), seq: 1 + throw.below(60), file: throw.below(files + 2), name: one(throw, goodNames[:9])}
	for range 1 + throw.below(dirty) {
		w := write(throw.below(body), throw.text(1+throw.below(4)))
		if w.Off+len(w.B) <= body || throw.below(8) == 0 {
			x.l = append(x.l, w)
		}
	}
	switch throw.below(12) {
	case 0:
		x.l = one(throw, wrongWrites())
	case 1:
		x.name = one(throw, wrongNames)
	case 2:
		x.client, x.seq, x.file = one(throw, numbers), one(throw, numbers), one(throw, numbers)
	}
	return x
}

// TestRuns: whatever is asked, one behind the other, comes to what the test's own rule says; what comes of it may be.
func TestRuns(t *testing.T) {
	for run := range 300 {
		throw := dice(run)
		s := one(&throw, []func() api.State{state.New, state.New, full, some})()
		for range 150 {
			x := random(&throw)
			want, told := x.want(s)
			got, m := x.do(s)
			if m != told || !alike(got, want) || !state.Same(got, want) {
				t.Fatalf("%v in %v: %v %v, not %v %v", x, s, got, m, want, told)
			}
			if !state.May(got) || state.Same(got, s) != alike(got, s) {
				t.Fatalf("%v in %v: %v", x, s, got)
			}
			if s = got; throw.below(20) == 0 {
				s = state.Boot(s)
				want.Epoch++
			}
			if !alike(s, want) {
				t.Fatalf("Boot: %v, not %v", s, want)
			}
		}
	}
}

// TestWhatWasDoneIsToldAgain: by its mark, until the same client asks something else, whatever others ask and though it is begun once more.
func TestWhatWasDoneIsToldAgain(t *testing.T) {
	for run := range 200 {
		throw := dice(1000 + run)
		s, last := state.New(), map[int]api.Mark{}
		for range 100 {
			x := random(&throw)
			x.client = 1 + throw.below(clients)
			x.seq = last[x.client].Seq + 1 + throw.below(3)
			if s, last[x.client] = x.do(s); throw.below(10) == 0 {
				s = state.Boot(s)
			}
			for c, m := range last {
				if got, ok := mark.Is(s.Marks, c, m.Seq); got != m || !ok || m.Seq < 1 {
					t.Fatalf("%d was told %v; its mark: %v %v", c, m, got, ok)
				}
			}
		}
	}
}
