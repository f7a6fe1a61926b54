package msg_test

import (
	"bytes"
	"fmt"
	"slices"
	"strings"
	"sync"
	"testing"

	"tenancy/api"
	"tenancy/msg"
)

// kinds are asks that may be, and such as may not.
func kinds() []api.Ask {
	l := append(someAsks(), api.Ask{})
	for _, a := range someAsks() {
		a.Writes = append(fullWrites(), write(9, "more"))
		l = append(l, a)
		a.Mode, a.Writes = 3, a.Writes[:1]
		l = append(l, a)
	}
	return l
}

// bytesOfKinds are messages, and such as are none.
func bytesOfKinds() [][]byte {
	l := [][]byte{nil, []byte("x"), []byte("what is no message, though it is as long as one")}
	for _, b := range someBytes() {
		turned := slices.Clone(b)
		turned[len(b)/2] ^= 0x40
		l = append(l, b, turned, b[:len(b)/2], append(slices.Clone(b), 0))
	}
	return l
}

// inRoom is l in a list that has spare room, in which something stands, and all of that.
func inRoom[T any](l []T, behind ...T) (part, room []T) {
	room = slices.Concat(l, behind)
	return room[:len(l)], room
}

// asksOf is all that is told of a, and of it and b, as one text.
func asksOf(a, b api.Ask) string {
	return fmt.Sprintf("%v %x %v %v", msg.MayAsk(a), msg.PutAsk(a), msg.SameAsk(a, b), msg.SameAsk(b, a))
}

// takesOf is all that is told of b, as one text.
func takesOf(b []byte) string {
	a, isAsk := msg.TakeAsk(b)
	x, isTell := msg.TakeTell(b)
	return fmt.Sprintf("%#v %v %#v %v", a, isAsk, x, isTell)
}

func TestNothingHandedInIsChanged(t *testing.T) {
	for _, a := range kinds() {
		for _, other := range kinds() {
			want := asksOf(a, other)
			x, y := a, other
			var roomX, roomY []api.Write
			x.Writes, roomX = inRoom(a.Writes, write(1, "spare"), write(2, "room"))
			y.Writes, roomY = inRoom(other.Writes, write(3, "other"), write(4, "room"))
			wasX, wasY := slices.Clone(roomX), slices.Clone(roomY)
			got := asksOf(x, y)
			if !slices.Equal(roomX, wasX) || !slices.Equal(roomY, wasY) {
				t.Errorf("%v, %v: changed to %v, %v", a, other, roomX, roomY)
			}
			if got != want {
				t.Errorf("%v, %v: %s with spare room, %s without", a, other, got, want)
			}
		}
	}
	for _, b := range bytesOfKinds() {
		want := takesOf(slices.Clip(slices.Clone(b)))
		in, room := inRoom(b, []byte("spare room")...)
		was := slices.Clone(room)
		if got := takesOf(in); got != want || !bytes.Equal(room, was) {
			t.Errorf("%x: %s, %x with spare room, %s without", b, got, room, want)
		}
	}
}

// TestSpareRoomIsNotRead: what ends too soon is none, though all of it stands in the spare room.
func TestSpareRoomIsNotRead(t *testing.T) {
	for _, b := range someBytes() {
		for size := range b {
			mustBeNone(t, fmt.Sprint("the first ", size), b[:size])
		}
	}
}

// TestNewMemory: what is written over what was handed in, or into what was told, is in the other by no way, nor in what is told next.
func TestNewMemory(t *testing.T) {
	for _, a := range someAsks() {
		in := a
		in.Writes = slices.Clone(a.Writes)
		put := msg.PutAsk(in)
		for i := range in.Writes {
			in.Writes[i] = write(7, "over")
		}
		if !bytes.Equal(put, laidAsk(a)) {
			t.Fatalf("PutAsk of %v is %x when that is written over", a, put)
		}
		b := slices.Clone(put)
		got, _ := msg.TakeAsk(b)
		again, _ := msg.TakeAsk(b)
		clear(b[:cap(b)])
		clear(put[:cap(put)])
		if !alike(got, a) || !alike(again, a) || !bytes.Equal(msg.PutAsk(a), laidAsk(a)) {
			t.Fatalf("%v is %v, %v when the bytes are written over", a, got, again)
		}
		clear(got.Writes[:cap(got.Writes)])
		if next, ok := msg.TakeAsk(laidAsk(a)); !alike(again, a) || !ok || !alike(next, a) {
			t.Fatalf("%v is %v, then %v when what was taken is written into", a, again, next)
		}
	}
	for _, x := range someTells() {
		put := msg.PutTell(x)
		b := slices.Clone(put)
		got, _ := msg.TakeTell(b)
		clear(b[:cap(b)])
		clear(put[:cap(put)])
		if got != x || !bytes.Equal(msg.PutTell(x), laidTell(x)) {
			t.Fatalf("%v is %v when the bytes are written over", x, got)
		}
	}
}

// TestNilIsAnEmptyList: the one is put and taken as the other.
func TestNilIsAnEmptyList(t *testing.T) {
	for _, none := range [][]api.Write{nil, {}, fullWrites()[:0]} {
		for _, a := range someAsks() {
			a.Writes = none
			if may := mustMayAsk(t, a); may != (a.Kind != api.AskFlush) {
				t.Errorf("MayAsk of %v: %v", a, may)
			}
		}
	}
	for _, b := range [][]byte{nil, {}, laidAsk(someAsks()[0])[:0]} {
		mustBeNone(t, "nothing", b)
	}
}

// TestTextsOfTheirOwn: what is taken stays, though the bytes that it was taken of become others'.
func TestTextsOfTheirOwn(t *testing.T) {
	b := make([]byte, 0, 200)
	var asks []api.Ask
	var tells []api.Tell
	for round := range 3 {
		for i, a := range someAsks() {
			a.Seq = 1000*round + i + 1
			b = append(b[:0], laidAsk(a)...)
			got, _ := msg.TakeAsk(b)
			asks = append(asks, got)
		}
		for _, x := range someTells() {
			b = append(b[:0], laidTell(x)...)
			got, _ := msg.TakeTell(b)
			tells = append(tells, got)
		}
	}
	b = append(b[:0], strings.Repeat("z", 200)...)
	for i, got := range asks {
		want := someAsks()[i%len(someAsks())]
		want.Seq = i/len(someAsks())*1000 + i%len(someAsks()) + 1
		if !alike(got, want) {
			t.Errorf("%v, not %v", got, want)
		}
	}
	for i, got := range tells {
		if want := someTells()[i%len(someTells())]; got != want {
			t.Errorf("%v, not %v", got, want)
		}
	}
}

// TestSameAgain: nothing is kept from call to call, nor from one that told no; many may ask at once.
func TestSameAgain(t *testing.T) {
	var all sync.WaitGroup
	again := func(call func() string) {
		want := call()
		all.Go(func() {
			for range 5 {
				if got := call(); got != want {
					t.Errorf("%s, then %s", want, got)
				}
			}
		})
	}
	for _, a := range kinds() {
		again(func() string { return asksOf(a, someAsks()[7]) })
	}
	for _, b := range bytesOfKinds() {
		again(func() string { return takesOf(b) })
	}
	for _, x := range append(someTells(), api.Tell{}) {
		again(func() string { return fmt.Sprintf("%v %x", msg.MayTell(x), msg.PutTell(x)) })
	}
	all.Wait()
}
