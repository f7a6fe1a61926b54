package image_test

import (
	"fmt"
	"slices"
	"strings"
	"sync"
	"testing"

	"tenancy/api"
	"tenancy/image"
)

// kinds are states that may be, and such as may not be.
func kinds() []api.State {
	wrong := full()
	wrong.Files[3].Ver = 0
	return []api.State{blank(), full(), some(), wrong, {}}
}

// images are lists that are images, and such as are none.
func images() [][]string {
	l := [][]string{nil, {"a", "b"}, {""}}
	for _, s := range []api.State{blank(), full(), some()} {
		b := cut(laid(s), sector)
		l = append(l, b, b[:4], append(slices.Clone(b), "\x00"))
	}
	return l
}

// inRoom is l in a list that has spare room, in which something stands, and all of that.
func inRoom[T any](l []T, behind ...T) (part, room []T) {
	room = slices.Concat(l, behind)
	return room[:len(l)], room
}

func TestNothingHandedInIsChanged(t *testing.T) {
	for _, was := range kinds() {
		s := was
		a, roomA := inRoom(was.Files, full().Files...)
		b, roomB := inRoom(was.Marks, full().Marks...)
		s.Files, s.Marks = a, b
		wasA, wasB := slices.Clone(roomA), slices.Clone(roomB)
		got := image.Put(s)
		if !slices.Equal(roomA, wasA) || !slices.Equal(roomB, wasB) {
			t.Errorf("Put of %v changes it: %v %v", was, roomA, roomB)
		}
		if want := image.Put(was); !slices.Equal(got, want) {
			t.Errorf("Put of %v: %q with spare room, %q without", was, got, want)
		}
	}
	for _, x := range images() {
		for _, y := range images() {
			a, roomA := inRoom(x, "spare", "room")
			b, roomB := inRoom(y, "spare", "room")
			wasA, wasB := slices.Clone(roomA), slices.Clone(roomB)
			l := image.Diff(a, b)
			s, ok := image.Take(a)
			if !slices.Equal(roomA, wasA) || !slices.Equal(roomB, wasB) {
				t.Errorf("%q, %q: changed to %q, %q", x, y, roomA, roomB)
			}
			want, is := image.Take(slices.Clip(slices.Clone(x)))
			if !slices.Equal(l, image.Diff(slices.Clone(x), slices.Clone(y))) || ok != is || !alike(s, want) {
				t.Errorf("%q, %q: with spare room %v, %v %v", x, y, l, s, ok)
			}
		}
	}
}

// TestNewMemory: what is written over what was handed in, or into what was told, is in the other by no way, nor in what is told next.
func TestNewMemory(t *testing.T) {
	for _, s := range kinds()[:3] {
		want := cut(laid(s), sector)
		l := image.Put(s)
		got, _ := image.Take(l)
		turned := slices.Clone(want)
		turned[1], turned[8] = "x", "y"
		diff := image.Diff(l, turned)
		again, _ := image.Take(l)
		for _, room := range [][]string{l[:cap(l)], turned} {
			for i := range room {
				room[i] = "over"
			}
		}
		if !alike(got, s) || !alike(again, s) || !slices.Equal(diff, []api.Put{{At: 1, B: "x"}, {At: 8, B: "y"}}) {
			t.Fatalf("written over what was handed in: %v %v %v", got, again, diff)
		}
		for i := range got.Files[:cap(got.Files)] {
			got.Files[:cap(got.Files)][i] = api.File{Name: "over"}
		}
		for i := range got.Marks[:cap(got.Marks)] {
			got.Marks[:cap(got.Marks)][i] = api.Mark{Seq: -9}
		}
		if next, ok := image.Take(want); !alike(again, s) || !ok || !alike(next, s) {
			t.Fatalf("written into what was told: %v, then %v", again, next)
		}
		if l := image.Put(s); !slices.Equal(l, want) {
			t.Fatalf("Put of %v is then %q", s, l)
		}
	}
}

// TestNilIsAnEmptyList: the one is told and taken as the other.
func TestNilIsAnEmptyList(t *testing.T) {
	for _, l := range [][]string{nil, {}, make([]string, 0, 9)} {
		mustBeNone(t, "of nothing", l)
		for _, x := range [][]string{nil, {}, make([]string, 0, 9), {"a"}, cut(laid(full()), sector)} {
			if a, b := image.Diff(l, x), image.Diff(x, l); len(a)+len(b) != 0 {
				t.Errorf("Diff of nothing and %q: %v %v", x, a, b)
			}
		}
	}
	for _, s := range []api.State{{}, {Files: []api.File{}, Marks: []api.Mark{}}, {Files: []api.File{}, Epoch: 1}} {
		if l := image.Put(s); len(l) != 0 {
			t.Errorf("Put of %v: %q", s, l)
		}
	}
}

// calls is all that may be asked of s and l, as one text.
func calls(s api.State, l []string) string {
	got, ok := image.Take(l)
	return strings.Join(image.Put(s), "|") + fmt.Sprint(got, ok, image.Diff(l, image.Put(s)), image.Diff(image.Put(s), l))
}

// TestSameAgain: nothing is kept from call to call, nor from one that told no; many may ask at once.
func TestSameAgain(t *testing.T) {
	var all sync.WaitGroup
	for _, s := range kinds() {
		for _, l := range images() {
			want := calls(s, l)
			all.Go(func() {
				for range 5 {
					if got := calls(s, l); got != want {
						t.Errorf("%v, %q: %q, then %q", s, l, want, got)
					}
				}
			})
		}
	}
	all.Wait()
}
