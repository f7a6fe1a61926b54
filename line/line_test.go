package line_test

import (
	"math"
	"slices"
	"testing"

	"tenancy/api"
	"tenancy/line"
)

func TestExample(t *testing.T) {
	l, ok := line.Put(nil, of(1, 7, 2, wrote))
	if !ok || !line.Ahead(l, 3, 2) {
		t.Errorf("Put, Ahead of another one: %v of %v", line.Ahead(l, 3, 2), l)
	}
}

func TestPutExamples(t *testing.T) {
	a, b, c, d := of(2, 5, 1, reads), of(1, 9, 4, wrote), of(3, 7, 1, wrote), of(4, 1, 6, reads)
	full, three := []api.Wait{a, b, c, d}, []api.Wait{a, b, c}
	for i, x := range []struct {
		l    []api.Wait
		w    api.Wait
		want []api.Wait
		ok   bool
	}{
		// Behind, as long as there is room.
		{nil, a, []api.Wait{a}, true},
		{[]api.Wait{a}, b, []api.Wait{a, b}, true},
		{[]api.Wait{a, b}, c, three, true},
		{three, d, full, true},
		{full, of(5, 1, 1, reads), full, false},
		{full, of(5, 99, 4, wrote), full, false},
		{full, of(0, 0, 0, 0), full, false},
		// By the order in which they came, not by their numbers, files or modes.
		{[]api.Wait{c}, of(1, 1, 1, wrote), []api.Wait{c, of(1, 1, 1, wrote)}, true},
		{[]api.Wait{d}, of(1, 0, 1, reads), []api.Wait{d, of(1, 0, 1, reads)}, true},
		// For the same file: in the place, all of it as it is asked now, whichever is the greater.
		{three, of(2, 6, 1, wrote), []api.Wait{of(2, 6, 1, wrote), b, c}, true},
		{three, of(1, 8, 4, reads), []api.Wait{a, of(1, 8, 4, reads), c}, true},
		{three, of(3, 7, 1, reads), []api.Wait{a, b, of(3, 7, 1, reads)}, true},
		{three, of(3, 0, 1, 0), []api.Wait{a, b, of(3, 0, 1, 0)}, true},
		{three, b, three, true},
		{full, of(2, 6, 1, wrote), []api.Wait{of(2, 6, 1, wrote), b, c, d}, true},
		{full, of(4, 6, 6, wrote), []api.Wait{a, b, c, of(4, 6, 6, wrote)}, true},
		// For another one: that goes, it comes behind all, though others wait for that file.
		{three, of(2, 6, 4, reads), []api.Wait{b, c, of(2, 6, 4, reads)}, true},
		{three, of(1, 10, 1, wrote), []api.Wait{a, c, of(1, 10, 1, wrote)}, true},
		{three, of(3, 8, 2, wrote), []api.Wait{a, b, of(3, 8, 2, wrote)}, true},
		{three, of(3, 7, 4, wrote), []api.Wait{a, b, of(3, 7, 4, wrote)}, true},
		{[]api.Wait{a}, of(2, 5, 2, reads), []api.Wait{of(2, 5, 2, reads)}, true},
		// Its own takes no room from it: there are MaxLine, but not of other clients.
		{full, of(2, 6, 4, reads), []api.Wait{b, c, d, of(2, 6, 4, reads)}, true},
		{full, of(1, 6, 5, reads), []api.Wait{a, c, d, of(1, 6, 5, reads)}, true},
		{full, of(4, 2, 1, reads), []api.Wait{a, b, c, of(4, 2, 1, reads)}, true},
		// Such as are like one of them in the lowest bytes, or stand far.
		{three, of(1<<32+2, 5, 1, reads), []api.Wait{a, b, c, of(1<<32+2, 5, 1, reads)}, true},
		{three, of(2, 5, 1<<32+1, reads), []api.Wait{b, c, of(2, 5, 1<<32+1, reads)}, true},
		{three, of(math.MinInt, -1, most, -1), []api.Wait{a, b, c, of(math.MinInt, -1, most, -1)}, true},
		{full, of(1<<32+2, 5, 1, reads), full, false},
		{full, of(-2, 5, 1, reads), full, false},
		// One whose things are all nought is one, too.
		{nil, of(0, 0, 0, 0), []api.Wait{of(0, 0, 0, 0)}, true},
		{[]api.Wait{of(0, 0, 0, 0)}, of(0, 1, 0, 0), []api.Wait{of(0, 1, 0, 0)}, true},
	} {
		if got, ok := line.Put(x.l, x.w); ok != x.ok || !slices.Equal(got, x.want) {
			t.Errorf("%d: Put of %v to %v: %v, %v, not %v, %v", i, x.w, x.l, got, ok, x.want, x.ok)
		}
	}
}

// TestAllLists takes all lists there may be of five clients and two files, and all calls around these.
func TestAllLists(t *testing.T) {
	lists := all()
	if want := 1 + 5*2 + 5*4*4 + 5*4*3*8 + 5*4*3*2*16; len(lists) != want {
		t.Fatalf("%d lists, not %d", len(lists), want)
	}
	for _, l := range lists {
		for client := range 7 {
			for file := range 4 {
				w, b := of(client, 5, file, wrote), bookOf(l)
				want := b.put(w)
				if got, ok := line.Put(l, w); ok != want || !slices.Equal(got, b.list()) {
					t.Fatalf("Put of %v to %v: %v, %v, not %v, %v", w, l, got, ok, b.list(), want)
				}
				if got, want := line.Ahead(l, client, file), bookOf(l).ahead(client, file); got != want {
					t.Fatalf("Ahead in %v of %d, %d: %v", l, client, file, got)
				}
			}
			b := bookOf(l)
			delete(b.of, client)
			if got := line.Drop(l, client); !slices.Equal(got, b.list()) {
				t.Fatalf("Drop of %d from %v: %v, not %v", client, l, got, b.list())
			}
		}
	}
}

func TestDropExamples(t *testing.T) {
	a, b, c := of(2, 5, 1, reads), of(1, 9, 4, wrote), of(3, 7, 1, wrote)
	l := []api.Wait{a, b, c}
	for client, want := range map[int][]api.Wait{
		2: {b, c}, 1: {a, c}, 3: {a, b},
		// None such: neither by a file, nor by a number under which it was asked, nor by the lowest bytes.
		4: l, 5: l, 9: l, 7: l, 0: l, -1: l, 1<<32 + 1: l, 1<<8 + 2: l, math.MinInt: l, most: l,
	} {
		if got := line.Drop(l, client); !slices.Equal(got, want) {
			t.Errorf("Drop of %d: %v, not %v", client, got, want)
		}
	}
	if got := line.Drop(l[:1], 2); len(got) != 0 {
		t.Errorf("Drop of the one that there is: %v", got)
	}
	if got := line.Drop([]api.Wait{{}}, 1); !slices.Equal(got, []api.Wait{{}}) {
		t.Errorf("Drop of another one than client 0: %v", got)
	}
}

func TestAheadExamples(t *testing.T) {
	l := []api.Wait{of(2, 5, 1, reads), of(1, 9, 4, wrote), of(3, 7, 1, wrote), of(4, 1, 1, reads)}
	for _, x := range []struct {
		client, file int
		want         bool
	}{
		// Who came first; who waits behind one, behind two; whom the others stand behind.
		{2, 1, false}, {3, 1, true}, {4, 1, true}, {1, 4, false},
		// Who does not wait for it, or for nothing: at all, also behind what it does wait for.
		{1, 1, true}, {5, 1, true}, {0, 1, true}, {-1, 1, true}, {2, 4, true}, {3, 4, true}, {9, 4, true},
		// Who waits for it alone has itself ahead of nobody; nobody waits for these.
		{1, 2, false}, {2, 2, false}, {3, 5, false}, {9, 9, false}, {1, 0, false}, {0, 0, false}, {1, -1, false}, {1, 7, false},
		// In the lowest bytes alone it is the same.
		{1<<32 + 2, 1, true}, {1<<8 + 2, 1, true}, {1<<32 + 1, 4, true}, {3, 1<<32 + 1, false}, {3, 1<<8 + 4, false}, {math.MinInt, 4, true}, {most, most, false},
	} {
		if got := line.Ahead(l, x.client, x.file); got != x.want {
			t.Errorf("Ahead of %d, %d: %v", x.client, x.file, got)
		}
	}
	// What one waits for is looked for by its file, though that is number 0.
	if l := []api.Wait{of(1, 1, 1, 1), {}}; !line.Ahead(l, 1, 0) || line.Ahead(l, 0, 0) || !line.Ahead(l, 0, 1) {
		t.Error("Ahead where client 0 waits for file 0")
	}
}

// TestModesAndNumbersHaveNoPart: who waits is known by client and file; how, and under which number, turns nothing.
func TestModesAndNumbersHaveNoPart(t *testing.T) {
	throw := dice(1)
	plain := func(l []api.Wait) []api.Wait {
		l = slices.Clone(l)
		for i := range l {
			l[i].Seq, l[i].Mode = 0, 0
		}
		return l
	}
	for _, l := range all() {
		for i := range l {
			l[i].Seq, l[i].Mode = throw.of(someSeqs), throw.of(someModes)
		}
		w := of(throw.below(7), throw.of(someSeqs), throw.below(4), throw.of(someModes))
		got, ok := line.Put(l, w)
		want, may := line.Put(plain(l), of(w.Client, 0, w.File, 0))
		if ok != may || !slices.Equal(plain(got), want) || ok && !slices.Contains(got, w) {
			t.Fatalf("Put of %v to %v: %v, %v", w, l, got, ok)
		}
		if line.Ahead(l, w.Client, w.File) != line.Ahead(plain(l), w.Client, w.File) || !slices.Equal(plain(line.Drop(l, w.Client)), line.Drop(plain(l), w.Client)) {
			t.Fatalf("Ahead or Drop of %v in %v", w, l)
		}
	}
}

// TestRuns: lists as they come of calls of all kinds, held against a book of who came when.
func TestRuns(t *testing.T) {
	throw := dice(2)
	put, none := 0, 0
	for range 300 {
		var l []api.Wait
		b := bookOf(nil)
		clients, files := someClients[throw.below(5):], someFiles[throw.below(9):]
		for range 200 {
			w := throw.wait()
			w.Client, w.File = throw.of(clients), throw.of(files)
			if throw.below(4) == 0 {
				delete(b.of, w.Client)
				l = line.Drop(l, w.Client)
			} else {
				want := b.put(w)
				got, ok := line.Put(l, w)
				if ok != want {
					t.Fatalf("Put of %v to %v: %v", w, l, ok)
				}
				if l = got; ok {
					put++
				} else {
					none++
				}
			}
			if !slices.Equal(l, b.list()) || len(l) > room {
				t.Fatalf("behind %v: %v, not %v", w, l, b.list())
			}
			client, file := throw.of(clients), throw.of(files)
			if got, want := line.Ahead(l, client, file), b.ahead(client, file); got != want {
				t.Fatalf("Ahead in %v of %d, %d: %v", l, client, file, got)
			}
		}
	}
	if put < 1000 || none < 1000 {
		t.Errorf("%d were put, %d were not", put, none)
	}
}

// TestWhoCameFirstIsFirst: who asks again and again, all by turns, is let in the order in which they asked first; of those that wait for a file just one has nobody ahead.
func TestWhoCameFirstIsFirst(t *testing.T) {
	throw := dice(3)
	let, passed := 0, 0
	for range 300 {
		var l []api.Wait
		came := map[int][]int{} // by file: who waits, first come first
		want := map[int]int{}   // by client: what it waits for
		for range 200 {
			client := 1 + throw.below(5)
			file, waits := want[client]
			if !waits {
				file = 1 + throw.below(2)
			}
			got, ok := line.Put(l, of(client, throw.below(99), file, 1+throw.below(2)))
			if l = got; !ok {
				continue
			}
			if !waits {
				want[client], came[file] = file, append(came[file], client)
			}
			if line.Ahead(l, client, file) != (came[file][0] != client) {
				t.Fatalf("Ahead of %d, who asks for %d, in %v: %v came", client, file, l, came[file])
			}
			if alone := slices.DeleteFunc(slices.Clone(came[file]), func(x int) bool { return line.Ahead(l, x, file) }); !slices.Equal(alone, came[file][:1]) {
				t.Fatalf("nobody is ahead of %v for %d in %v: %v came", alone, file, l, came[file])
			}
			if line.Ahead(l, client, file) {
				passed++
			} else if throw.below(3) == 0 {
				l = line.Drop(l, client)
				delete(want, client)
				came[file] = came[file][1:]
				let++
			}
		}
	}
	if let < 1000 || passed < 1000 {
		t.Errorf("%d were let, %d asked behind others", let, passed)
	}
}

// TestWhateverIsHandedIn: each call ends, none panics, also of lists such as no call tells: a client waits once behind a Put that says yes, never behind a Drop; behind a no it is as it was.
func TestWhateverIsHandedIn(t *testing.T) {
	throw := dice(4)
	for n := range 5000 {
		l, w := throw.odd(n%40), throw.wait()
		got, ok := line.Put(l, w)
		if !ok && !slices.Equal(got, l) {
			t.Fatalf("Put of %v to %v says no: %v", w, l, got)
		}
		his := slices.DeleteFunc(slices.Clone(got), func(x api.Wait) bool { return x.Client != w.Client })
		if ok && !slices.Equal(his, []api.Wait{w}) {
			t.Fatalf("Put of %v to %v: %v", w, l, got)
		}
		others := line.Drop(l, w.Client)
		if slices.ContainsFunc(others, func(x api.Wait) bool { return x.Client == w.Client }) {
			t.Fatalf("Drop of %d from %v: %v", w.Client, l, others)
		}
		if ok && !slices.Equal(line.Drop(got, w.Client), others) {
			t.Fatalf("Put of %v to %v: %v, the others were %v", w, l, got, others)
		}
		if !ok && len(others) < room {
			t.Fatalf("Put of %v to %v, with %d others: no", w, l, len(others))
		}
		line.Ahead(l, w.Client, w.File)
	}
	long := slices.Repeat([]api.Wait{of(1, 1, 1, 1), of(2, 1, 2, 1)}, 50000)
	if got, ok := line.Put(long, of(3, 1, 1, 1)); ok || !slices.Equal(got, long) || len(line.Drop(long, 1)) != 50000 || line.Ahead(long, 1, 1) || !line.Ahead(long, 1, 2) {
		t.Errorf("%d that wait", len(long))
	}
}
