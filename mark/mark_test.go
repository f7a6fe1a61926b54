package mark_test

import (
	"fmt"
	"math"
	"slices"
	"sync"
	"testing"

	"tenancy/api"
	"tenancy/mark"
)

// dice is a row of numbers by a rule that mixes them, the same each time (splitmix64).
type dice uint64

func (d *dice) below(n int) int {
	*d += 0x9e3779b97f4a7c15
	x := uint64(*d)
	x = (x ^ x>>30) * 0xbf58476d1ce4e5b9
	x = (x ^ x>>27) * 0x94d049bb133111eb
	return int((x ^ x>>31) % uint64(n))
}

// mark is one of all kinds under seq: what it was told has no part in what is answered of it.
func (d *dice) mark(seq int) api.Mark {
	far := []int{0, 1, -1, 2, 6, 7, api.MaxNum, api.MaxNum + 1, math.MaxInt, math.MinInt}
	return api.Mark{Seq: seq, Err: api.Errno(far[d.below(len(far))]), File: far[d.below(len(far))], Ver: far[d.below(len(far))]}
}

// under are marks under these numbers, each of which was told something unlike.
func under(seqs ...int) []api.Mark {
	var l []api.Mark
	for i, seq := range seqs {
		l = append(l, api.Mark{Seq: seq, Err: api.Errno(10*i + 1), File: 10*i + 2, Ver: 10*i + 3})
	}
	return l
}

// edges are numbers of clients, and numbers under which something is done, around which an answer turns, and the farthest.
var edges = []int{math.MinInt, math.MinInt + 1, -1 << 32, -3, -2, -1, 0, 1, 2, 3, 4, 5, 1<<32 + 1, 1<<32 + 2, math.MaxInt - 1, math.MaxInt}

// lists are all lists of up to three marks under these numbers, the shorter ones first.
func lists(seqs ...int) [][]int {
	l := [][]int{nil}
	for i := 0; len(l[i]) < api.MaxCli; i++ {
		for _, seq := range seqs {
			l = append(l, append(slices.Clone(l[i]), seq))
		}
	}
	return l
}

func TestExample(t *testing.T) {
	m := api.Mark{Seq: 1, Err: api.EFull, File: 2, Ver: 3}
	l := mark.Put(mark.New(api.MaxCli), 2, m)
	if got, ok := mark.Is(l, 2, 1); got != m || !ok {
		t.Errorf("Put, Is: %v %v", got, ok)
	}
	if want := []api.Mark{{}, m, {}}; !slices.Equal(l, want) {
		t.Errorf("Put: %v", l)
	}
}

func TestNewIsNoughts(t *testing.T) {
	for n := range 600 {
		if l := mark.New(n); len(l) != n {
			t.Fatalf("New(%d): %d", n, len(l))
		}
	}
	for _, n := range []int{0, 1, 2, api.MaxCli, 4, 255, 256, 257, 1<<16 + 1, 1<<20 + 3} {
		l := mark.New(n)
		if len(l) != n {
			t.Errorf("New(%d): %d", n, len(l))
		}
		for i, m := range l {
			if m != (api.Mark{}) {
				t.Fatalf("New(%d): %v is %d's", n, m, i+1)
			}
		}
	}
}

func TestNewBelowNoughtIsNone(t *testing.T) {
	for _, n := range []int{-1, -2, -3, -255, -256, -1 << 16, -1 << 31, -1<<31 - 1, -1 << 32, -1<<32 + 3, -1 << 40, -1 << 58, -1<<58 + 3, -1<<59 + 3, math.MinInt + 3, math.MinInt + 1, math.MinInt} {
		if l := mark.New(n); len(l) != 0 {
			t.Errorf("New(%d): %d", n, len(l))
		}
	}
}

// TestNewBeyondTheLimitsEnds: that many nothing has memory for; that nothing panics is promised all the same.
func TestNewBeyondTheLimitsEnds(t *testing.T) {
	for _, n := range []int{1<<31 - 1, 1 << 31, 1 << 32, 1 << 40, 1 << 45, 1 << 50, 1 << 58, 1<<58 + 1, 1<<59 + 1, 1<<62 + 1, math.MaxInt - 1, math.MaxInt} {
		if l := mark.New(n); len(l) != 0 {
			t.Errorf("New(%d): %d", n, len(l))
		}
	}
}

// TestNewIsNewMemory: what is written into one is in no other.
func TestNewIsNewMemory(t *testing.T) {
	a, b := mark.New(3), mark.New(3)
	a[1].Seq = 7
	c := mark.New(3)
	for _, l := range [][]api.Mark{b, c} {
		if !slices.Equal(l, make([]api.Mark, 3)) {
			t.Errorf("New(3) behind one that was written into: %v", l)
		}
	}
}

func TestIsExamples(t *testing.T) {
	l := under(5, 0, 2, -3, 5)
	for _, x := range []struct {
		client, seq int
		ok          bool
	}{
		{1, 5, true}, {3, 2, true}, {5, 5, true},
		// Done once, but not last; not done yet; another one's.
		{1, 4, false}, {1, 1, false}, {1, 6, false}, {1, 2, false}, {3, 5, false}, {3, 3, false}, {2, 5, false}, {2, 1, false}, {4, 3, false}, {4, 1, false},
		// Not above 0, though it stands there.
		{2, 0, false}, {4, -3, false}, {1, 0, false}, {1, -5, false}, {3, -2, false},
		// No such client.
		{0, 5, false}, {0, 0, false}, {6, 5, false}, {6, 0, false}, {-1, 5, false}, {-2, 0, false}, {-5, 5, false},
		{math.MinInt, 5, false}, {math.MaxInt, 5, false}, {1<<32 + 1, 5, false}, {-1<<32 + 1, 5, false},
		{1, math.MinInt, false}, {1, math.MaxInt, false}, {1, 1<<32 + 5, false},
	} {
		var want api.Mark
		if x.ok {
			want = l[x.client-1]
		}
		if m, ok := mark.Is(l, x.client, x.seq); m != want || ok != x.ok {
			t.Errorf("Is of %d, %d: %v %v", x.client, x.seq, m, ok)
		}
	}
}

// found is the mark that Is is to tell, found by going through all of them: at most one is client's.
func found(l []api.Mark, client, seq int) (m api.Mark, ok bool) {
	for i := range l {
		if i+1 == client && l[i].Seq == seq && seq >= 1 {
			m, ok = l[i], true
		}
	}
	return m, ok
}

// put is what Put is to tell, and whether m is in it: each mark but client's is as it was.
func put(l []api.Mark, client int, m api.Mark) (want []api.Mark, in bool) {
	for i, was := range l {
		if i+1 == client && was.Seq < m.Seq {
			was, in = m, true
		}
		want = append(want, was)
	}
	return want, in
}

func TestIsOfAllLists(t *testing.T) {
	for _, seqs := range lists(math.MinInt, -1, 0, 1, 2, 1<<32+1, math.MaxInt) {
		l := under(seqs...)
		for _, client := range edges {
			for _, seq := range edges {
				want, is := found(l, client, seq)
				if m, ok := mark.Is(l, client, seq); m != want || ok != is {
					t.Fatalf("Is of %d, %d in %v: %v %v", client, seq, l, m, ok)
				}
			}
		}
	}
}

func TestPutExamples(t *testing.T) {
	l := under(5, 0, 2, -3)
	for _, x := range []struct {
		client, seq int
		in          bool
	}{
		{1, 6, true}, {1, 7, true}, {1, math.MaxInt, true}, {2, 1, true}, {2, 9, true}, {3, 3, true}, {3, 5, true},
		// Not above its: as it, or below it.
		{1, 5, false}, {1, 4, false}, {1, 1, false}, {1, 0, false}, {1, -6, false}, {1, math.MinInt, false}, {2, 0, false}, {2, -1, false}, {3, 2, false}, {3, 1, false},
		// Above its, though it is not above 0.
		{4, -2, true}, {4, 0, true}, {4, -3, false}, {4, -4, false}, {4, math.MinInt, false},
		// No such client.
		{0, 9, false}, {5, 9, false}, {-1, 9, false}, {-4, 9, false}, {math.MinInt, 9, false}, {math.MinInt + 1, 9, false}, {math.MaxInt, 9, false}, {1<<32 + 1, 9, false}, {-1<<32 + 1, 9, false},
	} {
		m := api.Mark{Seq: x.seq, Err: api.ENone, File: 6, Ver: 8}
		want := under(5, 0, 2, -3)
		if x.in {
			want[x.client-1] = m
		}
		if got := mark.Put(l, x.client, m); !slices.Equal(got, want) {
			t.Errorf("Put of %d's %v: %v", x.client, m, got)
		}
	}
}

func TestPutToAllLists(t *testing.T) {
	for _, seqs := range lists(math.MinInt, -1, 0, 1, 2, 1<<32+1, math.MaxInt) {
		l := under(seqs...)
		for _, client := range edges {
			for _, seq := range edges {
				m := api.Mark{Seq: seq, Err: -1, File: -2, Ver: -3}
				want, in := put(l, client, m)
				got := mark.Put(l, client, m)
				if !slices.Equal(got, want) {
					t.Fatalf("Put of %d's %v to %v: %v", client, m, l, got)
				}
				if told, ok := mark.Is(got, client, seq); in && seq > 0 && (told != m || !ok) {
					t.Fatalf("Is of %d, %d behind Put of it: %v %v", client, seq, told, ok)
				}
			}
		}
	}
}

// TestPutOfTheSameNumberKeepsWhatWasTold: whatever else is unlike, and though it is newer by that.
func TestPutOfTheSameNumberKeepsWhatWasTold(t *testing.T) {
	for seq := range 5 {
		l := []api.Mark{{}, {Seq: seq, Err: api.ENone, File: 1, Ver: 4}}
		for _, m := range []api.Mark{{Seq: seq}, {Seq: seq, Err: api.EFull, File: 1, Ver: 4}, {Seq: seq, Err: api.ENone, File: 2, Ver: 4}, {Seq: seq, Err: api.ENone, File: 1, Ver: 5}, {Seq: seq, Err: 99, File: 99, Ver: 99}} {
			if got := mark.Put(l, 2, m); !slices.Equal(got, l) {
				t.Errorf("Put of %v to %v: %v", m, l, got)
			}
		}
	}
}

// TestOfAllKinds: of a mark its Seq alone has a part in what is answered; all of it is told and put.
func TestOfAllKinds(t *testing.T) {
	throw := dice(1)
	for range 100000 {
		var l []api.Mark
		for range throw.below(6) {
			l = append(l, throw.mark(throw.below(8)-1))
		}
		client, m := throw.below(8)-1, throw.mark(throw.below(9)-1)
		if want, _ := put(l, client, m); !slices.Equal(mark.Put(l, client, m), want) {
			t.Fatalf("Put of %d's %v to %v: %v", client, m, l, mark.Put(l, client, m))
		}
		want, is := found(l, client, m.Seq)
		if got, ok := mark.Is(l, client, m.Seq); got != want || ok != is {
			t.Fatalf("Is of %d, %d in %v: %v %v", client, m.Seq, l, got, ok)
		}
	}
}

// TestManyClients: more than the limits of a server let there be, and each has a mark of its own.
func TestManyClients(t *testing.T) {
	const many = 1<<16 + 3
	l := mark.New(many)
	for _, client := range []int{1, 2, 255, 256, 257, 1 << 16, many - 1, many} {
		l = mark.Put(l, client, api.Mark{Seq: client, Ver: -client})
	}
	if got := mark.Put(l, many+1, api.Mark{Seq: 1}); !slices.Equal(got, l) {
		t.Errorf("Put of one more: %d", len(got))
	}
	count := 0
	for client := range many + 2 {
		m, ok := mark.Is(l, client, client)
		if !ok {
			continue
		}
		if count++; m != (api.Mark{Seq: client, Ver: -client}) {
			t.Errorf("Is of %d: %v", client, m)
		}
	}
	if count != 8 {
		t.Errorf("%d have one", count)
	}
}

// TestWhatWasDoneLastIsKnown: whatever is put of whom, each one's newest is known, and nothing that was done ahead of it.
func TestWhatWasDoneLastIsKnown(t *testing.T) {
	throw := dice(2)
	for range 200 {
		clients := 1 + throw.below(api.MaxCli+2)
		l, last := mark.New(clients), map[int]api.Mark{}
		for range 200 {
			client := throw.below(clients+2) - throw.below(2)
			m := throw.mark(throw.below(1 + last[client].Seq + 3))
			l = mark.Put(l, client, m)
			if client >= 1 && client <= clients && m.Seq > last[client].Seq {
				last[client] = m
			}
			if len(l) != clients {
				t.Fatalf("%d marks of %d clients", len(l), clients)
			}
			for c := -1; c <= clients+1; c++ {
				for seq := last[c].Seq - 3; seq <= last[c].Seq+3; seq++ {
					want, is := last[c], seq > 0 && seq == last[c].Seq
					if !is {
						want = api.Mark{}
					}
					if got, ok := mark.Is(l, c, seq); got != want || ok != is {
						t.Fatalf("Is of %d, %d: %v %v, not %v", c, seq, got, ok, want)
					}
				}
			}
		}
	}
}

// calls are all ways to hand a list in: what they tell, as a text.
func calls() map[string]func(l []api.Mark, client int, m api.Mark) string {
	return map[string]func(l []api.Mark, client int, m api.Mark) string{
		"Is":  func(l []api.Mark, client int, m api.Mark) string { return fmt.Sprint(mark.Is(l, client, m.Seq)) },
		"Put": func(l []api.Mark, client int, m api.Mark) string { return fmt.Sprint(mark.Put(l, client, m)) },
	}
}

// TestNothingHandedInIsChanged looks at the spare room, too, in which nobody's mark stands.
func TestNothingHandedInIsChanged(t *testing.T) {
	for name, call := range calls() {
		for _, seqs := range lists(0, 1, 2, 5) {
			l := under(seqs...)
			room := append(slices.Clone(l), under(1, 0, 7, 2)...)
			was := slices.Clone(room)
			for _, client := range edges {
				for _, seq := range edges {
					m := api.Mark{Seq: seq, File: 3, Ver: 9}
					got := call(room[:len(l)], client, m)
					if !slices.Equal(room, was) {
						t.Fatalf("%s of %v, %d, %v changes it: %v", name, l, client, m, room)
					}
					if want := call(slices.Clip(l), client, m); got != want {
						t.Fatalf("%s of %v, %d, %v: %q with spare room, %q without", name, l, client, m, got, want)
					}
				}
			}
		}
	}
}

// TestPutIsNewMemory: what is written over what was handed in, or into what was told, is in the other by no way, also where nothing was put.
func TestPutIsNewMemory(t *testing.T) {
	for _, seqs := range lists(0, 1, 5) {
		for _, client := range edges {
			for _, seq := range []int{-1, 0, 1, 2, 5, 6} {
				m := api.Mark{Seq: seq, File: 3, Ver: 9}
				room := append(under(seqs...), under(7, 7, 7)...)
				l := room[:len(seqs)]
				want, _ := put(l, client, m)
				got := mark.Put(l, client, m)
				for i := range room {
					room[i] = api.Mark{Seq: -9, Err: -9, File: -9, Ver: -9}
				}
				if !slices.Equal(got, want) {
					t.Fatalf("Put of %d's %v to what is written over then: %v, not %v", client, m, got, want)
				}
				was := slices.Clone(room)
				all := got[:cap(got)]
				for i := range all {
					all[i] = api.Mark{Seq: -8}
				}
				if !slices.Equal(room, was) {
					t.Fatalf("what is written into what Put tells of %d's %v is in what was handed in", client, m)
				}
			}
		}
	}
}

// TestNilIsAnEmptyList: in both there is no client.
func TestNilIsAnEmptyList(t *testing.T) {
	spare := under(1, 2, 3)
	for _, l := range [][]api.Mark{nil, {}, spare[:0], mark.New(0), mark.New(-1)} {
		for _, client := range edges {
			for _, seq := range edges {
				if m, ok := mark.Is(l, client, seq); m != (api.Mark{}) || ok {
					t.Errorf("Is of %d, %d in nothing: %v %v", client, seq, m, ok)
				}
				if got := mark.Put(l, client, api.Mark{Seq: seq, Ver: 1}); len(got) != 0 {
					t.Errorf("Put of %d's %d to nothing: %v", client, seq, got)
				}
			}
		}
	}
}

// TestSameAgain: nothing is kept from call to call, nor from one that told no; many may ask at once.
func TestSameAgain(t *testing.T) {
	var all sync.WaitGroup
	for name, call := range calls() {
		for _, seqs := range lists(0, 1, 2) {
			l := under(seqs...)
			for client := range 5 {
				for seq := range 4 {
					m := api.Mark{Seq: seq, Ver: 5}
					want := call(l, client, m)
					all.Go(func() {
						for range 3 {
							if got := call(l, client, m); got != want {
								t.Errorf("%s of %v, %d, %v: %q, then %q", name, l, client, m, want, got)
							}
						}
					})
				}
			}
		}
	}
	for n := range 50 {
		all.Go(func() {
			if l := mark.New(n); len(l) != n {
				t.Errorf("New(%d): %d", n, len(l))
			}
		})
	}
	all.Wait()
}
