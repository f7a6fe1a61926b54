package sess_test

import (
	"slices"
	"sync"
	"testing"

	"tenancy/api"
	"tenancy/sess"
)

// inRoom is b in lists that have spare room, in which others are known, and all of those.
func inRoom(b book) (in, room book) {
	room = b.with(page{1, api.Tell{Kind: 1, Seq: 5, Body: "spare"}, api.Mark{Seq: 6, Ver: 1}}).with(page{9, api.Tell{Kind: 1, Seq: 1, Body: "room"}, api.Mark{Seq: 9, Ver: 2}})
	return book{b.epoch, room.seen[:len(b.seen)], room.told[:len(b.told)], room.marks[:len(b.marks)]}, room
}

// TestNothingHandedInIsChanged: and nothing that stands in spare room is read.
func TestNothingHandedInIsChanged(t *testing.T) {
	for _, b := range someBooks() {
		for _, a := range someAsks() {
			in, room := inRoom(b)
			was := room.clone()
			writes := append(slices.Clone(a.Writes), api.Write{Off: 1, B: "spare"})
			wasWrites := slices.Clone(writes)
			x := a
			x.Writes = writes[:len(a.Writes)]
			got := in.judge(x)
			if !room.same(was) || !slices.Equal(writes, wasWrites) {
				t.Fatalf("%+v, asked %+v: changed to %+v, %v", b, a, room, writes)
			}
			if want := b.want(a); got != want {
				t.Fatalf("%+v, asked %+v: %v with spare room, not %v", b, a, got, want)
			}
			o := api.Out{Is: true, Ask: x, Last: a.Seq}
			sess.Due(o, 12)
			if !slices.Equal(writes, wasWrites) {
				t.Fatalf("Due of %+v changes it", o)
			}
		}
	}
}

// TestWhatIsToldStays: though what was handed in is written over then; and what is told next is by what stands there then.
func TestWhatIsToldStays(t *testing.T) {
	told := 0
	for _, b := range someBooks() {
		for _, a := range someAsks() {
			x, want := b.clone(), b.want(a)
			got := x.judge(a)
			for i := range x.seen {
				x.seen[i] = 0
			}
			clear(x.told)
			clear(x.marks)
			if got != want {
				t.Fatalf("%+v, asked %+v: %v when that is written over, not %v", b, a, got, want)
			}
			mustJudge(t, x, a, x.want(a))
			mustJudge(t, b, a, want)
			if want.kind == again {
				told++
			}
		}
	}
	if told < 8 {
		t.Errorf("%d are told again", told)
	}
}

// TestNilIsAnEmptyList: in both there is no client.
func TestNilIsAnEmptyList(t *testing.T) {
	seen, told, marks := []int{1}, []api.Tell{{Kind: 1, Seq: 1}}, []api.Mark{{Seq: 1}}
	for _, a := range someAsks() {
		for _, x := range [][]int{nil, {}, seen[:0]} {
			for _, y := range [][]api.Tell{nil, {}, told[:0]} {
				for _, z := range [][]api.Mark{nil, {}, marks[:0]} {
					mustJudge(t, book{a.Epoch, x, y, z}, a, verdict{kind: old})
					mustJudge(t, book{a.Epoch + 1, x, y, z}, a, verdict{kind: old})
				}
				mustJudge(t, book{a.Epoch, x, y, marks}, a, verdict{kind: old})
			}
			mustJudge(t, book{a.Epoch, x, told, marks}, a, verdict{kind: old})
		}
		for _, writes := range [][]api.Write{nil, {}} {
			b := bookOf(3, page{told: told[0]}, page{mark: marks[0]})
			want := b.want(a)
			a.Writes = writes
			mustJudge(t, b, a, want)
		}
	}
}

// TestSameAgain: nothing is kept from call to call, nor from one that told no; many may ask at once.
func TestSameAgain(t *testing.T) {
	var all sync.WaitGroup
	for _, b := range someBooks() {
		all.Go(func() {
			for range 5 {
				for _, a := range someAsks() {
					if got, want := b.judge(a), b.want(a); got != want {
						t.Errorf("%+v, asked %+v: %v, not %v", b, a, got, want)
					}
					if o := (api.Out{Is: true, Ask: a, Last: a.Seq}); sess.Due(o, 15) != isDue(a.Seq, 15) {
						t.Errorf("Due of %+v: not %v", o, isDue(a.Seq, 15))
					}
				}
			}
		})
	}
	all.Wait()
}
