package line_test

import (
	"fmt"
	"slices"
	"sync"
	"testing"

	"tenancy/api"
	"tenancy/line"
)

// ways are all calls that tell a list of who waits, those by which nobody goes or comes among them.
func ways() map[string]func(l []api.Wait) []api.Wait {
	all := map[string]func(l []api.Wait) []api.Wait{}
	for client := range 6 {
		for file := range 4 {
			w := of(client, 50, file, wrote)
			all[fmt.Sprint("Put of ", w)] = func(l []api.Wait) []api.Wait {
				got, _ := line.Put(l, w)
				return got
			}
		}
		all[fmt.Sprint("Drop of ", client)] = func(l []api.Wait) []api.Wait { return line.Drop(l, client) }
	}
	return all
}

// calls are all ways to hand a list in: what they tell, as a text.
func calls() map[string]func(l []api.Wait) string {
	all := map[string]func(l []api.Wait) string{
		"Put says": func(l []api.Wait) string {
			_, ok := line.Put(l, of(2, 50, 1, wrote))
			_, and := line.Put(l, of(9, 50, 1, wrote))
			return fmt.Sprint(ok, and)
		},
		"Ahead": func(l []api.Wait) string {
			return fmt.Sprint(line.Ahead(l, 1, 1), line.Ahead(l, 2, 1), line.Ahead(l, 2, 2), line.Ahead(l, 9, 3))
		},
	}
	for name, way := range ways() {
		all[name] = func(l []api.Wait) string { return fmt.Sprint(way(l)) }
	}
	return all
}

// someLists are short and long ones, some such as no call tells.
func someLists() [][]api.Wait {
	a, b, c, d := of(2, 5, 1, reads), of(1, 9, 2, wrote), of(3, 7, 1, wrote), of(4, 1, 3, reads)
	throw := dice(5)
	return [][]api.Wait{
		nil, {a}, {b}, {a, b}, {c, a}, {a, b, c}, {c, b, d}, {a, b, c, d}, {d, c, b, a},
		{a, a}, {a, b, a}, {a, of(2, 5, 2, reads), of(2, 6, 1, wrote)}, {d, c, b, a, of(5, 5, 5, 1)}, {of(5, 5, 5, 1), a, b, c, d, of(5, 5, 1, 1)},
		throw.odd(3), throw.odd(9), throw.odd(30),
	}
}

// inRoom is l in a list that has spare room, in which others wait, and all of that.
func inRoom(l []api.Wait) (in, room []api.Wait) {
	room = slices.Concat(l, []api.Wait{of(2, 1, 1, reads), of(1, 2, 2, wrote), of(9, 3, 3, reads), of(-1, -2, -3, -4)})
	return room[:len(l)], room
}

func TestNothingHandedInIsChanged(t *testing.T) {
	for name, call := range calls() {
		for _, l := range someLists() {
			in, room := inRoom(l)
			was := slices.Clone(room)
			got := call(in)
			if !slices.Equal(room, was) {
				t.Errorf("%s of %v changes it: %v", name, l, room)
			}
			if want := call(slices.Clip(slices.Clone(l))); got != want {
				t.Errorf("%s of %v: %q with spare room, %q without", name, l, got, want)
			}
		}
	}
}

// TestNewMemory: what is written over what was handed in, or into what was told, is in the other by no way, also where nobody came or went.
func TestNewMemory(t *testing.T) {
	for name, way := range ways() {
		for _, l := range someLists() {
			want := way(l)
			in, room := inRoom(l)
			got := way(in)
			for i := range room {
				room[i] = of(-9, -9, -9, -9)
			}
			if !slices.Equal(got, want) {
				t.Fatalf("%s of %v: %v when that is written over, not %v", name, l, got, want)
			}
			got = got[:cap(got)]
			for i := range got {
				got[i] = of(-8, -8, -8, -8)
			}
			if slices.Contains(room, of(-8, -8, -8, -8)) {
				t.Fatalf("%s of %v: what is written into what was told is in what was handed in", name, l)
			}
			if again := way(l); !slices.Equal(again, want) {
				t.Fatalf("%s of %v behind one that was written into: %v, not %v", name, l, again, want)
			}
		}
	}
}

// TestNilIsAnEmptyList: in both nobody waits.
func TestNilIsAnEmptyList(t *testing.T) {
	spare := []api.Wait{of(2, 5, 1, reads)}
	for _, l := range [][]api.Wait{nil, {}, spare[:0]} {
		if line.Ahead(l, 1, 1) || line.Ahead(l, 0, 0) || len(line.Drop(l, 2)) != 0 {
			t.Errorf("somebody waits in %v", l)
		}
		if got, ok := line.Put(l, of(3, 5, 1, reads)); !ok || !slices.Equal(got, []api.Wait{of(3, 5, 1, reads)}) {
			t.Errorf("Put: %v, %v", got, ok)
		}
	}
}

// TestSameAgain: nothing is kept from call to call; many may ask at once.
func TestSameAgain(t *testing.T) {
	var all sync.WaitGroup
	for name, call := range calls() {
		for _, l := range someLists() {
			want := call(l)
			all.Go(func() {
				for range 5 {
					if got := call(l); got != want {
						t.Errorf("%s of %v: %q, then %q", name, l, want, got)
					}
				}
			})
		}
	}
	all.Wait()
}
