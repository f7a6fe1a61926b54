package state_test

import (
	"fmt"
	"slices"
	"sync"
	"testing"

	"tenancy/api"
	"tenancy/state"
)

// someActs are one or more of each thing that may come of them.
func someActs() []act {
	good, wrong := goodWrites(), wrongWrites()
	return []act{
		{kind: open, client: 1, seq: 9, name: "a"}, {kind: open, client: 2, seq: 9, name: "new"}, {kind: open, client: 3, seq: 9, name: " "}, {kind: open, client: 4, seq: 9, name: "a"}, {kind: open, client: 1, seq: 1, name: "new"},
		{kind: flush, client: 1, seq: 9, file: 1, l: good[0]}, {kind: flush, client: 1, seq: 9, file: 4, l: good[9]}, {kind: flush, client: 1, seq: 9, file: 2, l: good[0]}, {kind: flush, client: 1, seq: 9, file: 1, l: wrong[2]}, {kind: flush, client: 0, seq: 9, file: 1, l: good[0]}, {kind: flush, client: 1, seq: 1, file: 4, l: good[6]},
		{kind: gone, client: 3, seq: 9, file: 1}, {kind: gone, client: 1, seq: 9, file: 7}, {kind: gone, client: 1, seq: 0, file: 1}, {kind: gone, client: 1, seq: 5, file: 4},
	}
}

// calls are all ways to hand a state in: what they tell, as a text.
func calls() map[string]func(s api.State) string {
	l := map[string]func(s api.State) string{
		"May":  func(s api.State) string { return fmt.Sprint(state.May(s)) },
		"Boot": func(s api.State) string { return text(state.Boot(s)) },
		"Same": func(s api.State) string {
			return fmt.Sprint(state.Same(s, s), state.Same(s, full()), state.Same(full(), s))
		},
	}
	for _, x := range someActs() {
		l[fmt.Sprint("act ", x)] = func(s api.State) string {
			got, m := x.do(s)
			return fmt.Sprint(text(got), m)
		}
	}
	return l
}

// allKinds are states that may be, and such as may not be.
func allKinds() []api.State {
	wrong := full()
	wrong.Epoch = -1
	return []api.State{full(), some(), state.New(), wrong, {}}
}

// inRoom is s in lists that have spare room, in which something stands, and all of these.
func inRoom(s api.State) (api.State, []api.File, []api.Mark) {
	a, b := slices.Concat(s.Files, full().Files), slices.Concat(s.Marks, full().Marks)
	s.Files, s.Marks = a[:len(s.Files)], b[:len(s.Marks)]
	return s, a, b
}

func TestNothingHandedInIsChanged(t *testing.T) {
	for name, call := range calls() {
		for _, was := range allKinds() {
			s, a, b := inRoom(was)
			wasA, wasB := slices.Clone(a), slices.Clone(b)
			got := call(s)
			if !slices.Equal(a, wasA) || !slices.Equal(b, wasB) {
				t.Errorf("%s of %v changes it: %v %v", name, was, a, b)
			}
			if want := call(copied(was)); got != want {
				t.Errorf("%s of %v: %q with spare room, %q without", name, was, got, want)
			}
		}
	}
	for _, l := range slices.Concat(goodWrites(), wrongWrites()) {
		room := append(slices.Clone(l), write(5, "room"), write(6, "room"))
		was := slices.Clone(room)
		_, m := state.Flush(full(), 1, 9, 1, room[:len(l)])
		if _, want := state.Flush(full(), 1, 9, 1, slices.Clip(l)); !slices.Equal(room, was) || m != want {
			t.Errorf("Flush of %v: %v, changes it: %v", l, m, room)
		}
	}
}

// ways are all calls that tell a state.
func ways() []func(s api.State) api.State {
	l := []func(s api.State) api.State{state.Boot}
	for _, x := range someActs() {
		l = append(l, func(s api.State) api.State {
			got, _ := x.do(s)
			return got
		})
	}
	return l
}

// overwrite writes over all of both lists.
func overwrite(a []api.File, b []api.Mark, by string) {
	for i := range a {
		a[i] = of(by, -9, by)
	}
	for i := range b {
		b[i] = under(-9, -9, -9, len(by))
	}
}

// TestNewMemory: what is written over what was handed in, or into what was told, is in the other by no way, also where nothing was done.
func TestNewMemory(t *testing.T) {
	for i, way := range ways() {
		for _, was := range allKinds() {
			want := text(way(was))
			s, a, b := inRoom(was)
			got := way(s)
			overwrite(a, b, "over")
			if text(got) != want {
				t.Fatalf("%d: what was told is %v when what was handed in is written over, not %s", i, got, want)
			}
			wasA, wasB := slices.Clone(a), slices.Clone(b)
			overwrite(got.Files[:cap(got.Files)], got.Marks[:cap(got.Marks)], "into")
			if !slices.Equal(a, wasA) || !slices.Equal(b, wasB) {
				t.Fatalf("%d: what is written into what was told is in what was handed in: %v %v", i, a, b)
			}
		}
	}
}

// TestSameAgain: nothing is kept from call to call; many may ask at once.
func TestSameAgain(t *testing.T) {
	var all sync.WaitGroup
	for name, call := range calls() {
		for _, s := range allKinds() {
			want := call(s)
			all.Go(func() {
				for range 5 {
					if got := call(s); got != want {
						t.Errorf("%s of %v: %q, then %q", name, s, want, got)
					}
				}
			})
		}
	}
	all.Wait()
}
