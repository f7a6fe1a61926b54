package state_test

import (
	"slices"
	"strings"
	"testing"

	"tenancy/api"
	"tenancy/state"
)

func TestLimits(t *testing.T) {
	if files != api.MaxFile || clients != api.MaxCli || most != api.MaxNum || body != api.MaxBody || dirty != api.MaxDirty {
		t.Fatalf("%d %d %d %d %d", api.MaxFile, api.MaxCli, api.MaxNum, api.MaxBody, api.MaxDirty)
	}
}

func TestNew(t *testing.T) {
	s := state.New()
	if !slices.Equal(s.Files, make([]api.File, files)) || !slices.Equal(s.Marks, make([]api.Mark, clients)) || s.Epoch != 0 || !state.May(s) {
		t.Errorf("New: %v", s)
	}
	s.Files[2].Name, s.Marks[1].Seq = "a", 1
	if x := state.New(); !slices.Equal(x.Files, make([]api.File, files)) || !slices.Equal(x.Marks, make([]api.Mark, clients)) {
		t.Errorf("New behind one that was written into: %v", x)
	}
}

func TestMayOfEachThing(t *testing.T) {
	for _, s := range []api.State{state.New(), full(), some()} {
		if !state.May(s) {
			t.Errorf("May of %v: no", s)
		}
	}
	for _, x := range turns() {
		s := full()
		if x.do(&s); state.May(s) != x.may {
			t.Errorf("%s: %v", x.what, !x.may)
		}
	}
	for i, s := range wrongStates() {
		if state.May(s) {
			t.Errorf("%d: May of %v: yes", i, s)
		}
	}
}

// TestMayOfOneFile: the same where all else is nought.
func TestMayOfOneFile(t *testing.T) {
	for i := range files {
		for _, f := range []api.File{{}, of("a", 1, ""), of("~", most, "b"), of("12345678", 1, strings.Repeat("b", body))} {
			s := state.New()
			if s.Files[i] = f; !state.May(s) {
				t.Errorf("May with %v at %d: no", f, i)
			}
		}
		for _, f := range []api.File{of("a", 0, ""), of("a", -1, ""), of("a", most+1, ""), of("a", 1, strings.Repeat("b", body+1)), of("", 1, ""), of("", -1, ""), of("", 0, "b"), of("", 0, "\x00"), of("", 1, "b"), of(" ", 1, ""), of("123456789", 1, "")} {
			s := state.New()
			if s.Files[i] = f; state.May(s) {
				t.Errorf("May with %v at %d: yes", f, i)
			}
		}
		for j := range i {
			s := state.New()
			if s.Files[i], s.Files[j] = of("a", 1, ""), of("a", 2, "b"); state.May(s) {
				t.Errorf("May with the same name at %d and %d: yes", i, j)
			}
		}
	}
}

// TestMayOfMixed: states of which nothing, one thing, or more is not as it may be.
func TestMayOfMixed(t *testing.T) {
	throw, seen, all := dice(1), map[int]int{}, append(turnsOfNumbers(), turnsOfFiles()...)
	for range 40000 {
		s := one(&throw, []func() api.State{full, some, state.New})()
		for range throw.below(6) {
			if x := one(&throw, all); x.may || throw.below(3) == 0 {
				x.do(&s)
			}
		}
		n := faults(s)
		seen[min(n, 3)]++
		if state.May(s) != (n == 0) {
			t.Fatalf("May of %v, with %d faults: %v", s, n, n > 0)
		}
	}
	for n := range 4 {
		if seen[n] < 1000 {
			t.Errorf("%d states with %d faults are few", seen[n], n)
		}
	}
}

func TestBoot(t *testing.T) {
	for _, x := range [][2]int{{0, 1}, {1, 2}, {4, 5}, {255, 256}, {1<<16 - 1, 1 << 16}, {most - 2, most - 1}, {most - 1, most}, {most, most}} {
		for _, s := range []api.State{state.New(), full(), some()} {
			s.Epoch = x[0]
			want := copied(s)
			want.Epoch = x[1]
			got := state.Boot(s)
			if !alike(got, want) || !state.May(got) {
				t.Errorf("Boot of %v: %v", s, got)
			}
		}
	}
}

// TestBootOfAnyState ends, and leaves all but Epoch.
func TestBootOfAnyState(t *testing.T) {
	for _, s := range wrongStates() {
		got := state.Boot(s)
		if got.Epoch = s.Epoch; !alike(got, s) {
			t.Errorf("Boot of %v: %v", s, got)
		}
	}
}

func TestSameOfEachThing(t *testing.T) {
	all := []api.State{state.New(), full(), some(), {}, {Epoch: 1}, {Epoch: -1}}
	for _, x := range turns() {
		s := full()
		x.do(&s)
		all = append(all, s)
	}
	for i, a := range all {
		if !state.Same(a, a) || !state.Same(a, copied(a)) || !state.Same(copied(a), a) {
			t.Fatalf("Same of %v and itself: no", a)
		}
		// Some that are ahead of it are like it in all but one thing.
		for _, b := range slices.Concat(all[:4], all[max(0, i-40):i]) {
			if want := alike(a, b); state.Same(a, b) != want || state.Same(b, a) != want {
				t.Fatalf("Same of %v and %v: %v", a, b, !want)
			}
		}
	}
}

// TestSameByOneThing: one thing alone that is unlike, at whichever place, is seen; also in states that may not be.
func TestSameByOneThing(t *testing.T) {
	odd := func() api.State {
		return api.State{Files: make([]api.File, 9), Marks: make([]api.Mark, 7), Epoch: -7}
	}
	var all []func(s *api.State)
	for i := range files {
		all = append(all, func(s *api.State) { s.Files[i].Name += "q" }, func(s *api.State) { s.Files[i].Name = "Q" + s.Files[i].Name }, func(s *api.State) { s.Files[i].Ver++ }, func(s *api.State) { s.Files[i].Ver += 1 << 32 }, func(s *api.State) { s.Files[i].Body += "\x00" }, func(s *api.State) { s.Files[i].Body = "z" + s.Files[i].Body })
	}
	for i := range clients {
		all = append(all, func(s *api.State) { s.Marks[i].Seq++ }, func(s *api.State) { s.Marks[i].Err++ }, func(s *api.State) { s.Marks[i].File++ }, func(s *api.State) { s.Marks[i].Ver++ }, func(s *api.State) { s.Marks[i].Seq -= 1 << 32 })
	}
	all = append(all, func(s *api.State) { s.Epoch++ }, func(s *api.State) { s.Epoch += 1 << 32 }, func(s *api.State) { s.Files = append(s.Files, api.File{}) }, func(s *api.State) { s.Marks = append(s.Marks, api.Mark{}) }, func(s *api.State) { s.Files = s.Files[1:] }, func(s *api.State) { s.Marks = s.Marks[:2] }, func(s *api.State) { s.Files = nil }, func(s *api.State) { s.Marks = nil })
	for _, s := range []func() api.State{full, some, state.New, odd} {
		for i, do := range all {
			x := s()
			if do(&x); state.Same(x, s()) || state.Same(s(), x) {
				t.Errorf("%d: Same of %v and %v: yes", i, s(), x)
			}
		}
	}
}

// TestNilIsAnEmptyList: in both there is nothing.
func TestNilIsAnEmptyList(t *testing.T) {
	a, b := api.State{Epoch: 1}, api.State{Files: make([]api.File, 0, 3), Marks: make([]api.Mark, 0, 3), Epoch: 1}
	if !state.Same(a, b) || !state.Same(b, a) {
		t.Error("Same: no")
	}
	for _, s := range []api.State{a, b} {
		if state.May(s) || !state.Same(state.Boot(s), api.State{Epoch: 2}) {
			t.Errorf("May, Boot of %v", s)
		}
		for _, x := range acts() {
			if got, m := x.do(s); !state.Same(got, a) || m != (api.Mark{}) {
				t.Errorf("%v of nothing: %v %v", x, got, m)
			}
		}
	}
	for _, l := range [][]api.Write{nil, {}, make([]api.Write, 0, 3)} {
		if _, m := state.Flush(full(), 1, 9, 1, l); m != under(9, api.EArg, 0, 0) {
			t.Errorf("Flush of nothing: %v", m)
		}
	}
}
