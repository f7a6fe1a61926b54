package desk_test

import (
	"slices"
	"testing"

	"tenancy/api"
	"tenancy/desk"
	"tenancy/lease"
)

func TestExample(t *testing.T) {
	x, ok, calls, e := desk.Ask(api.Desk{}, 5, wait(1, 7, 2, reads))
	if !ok || len(calls) != 0 || e != api.OK || !same(x, of(leases(held(1, 2, reads, 65)), nil)) {
		t.Errorf("Ask of a free one: %v, %v, %v, %d", x, ok, calls, e)
	}
}

// TestAskGrants: what nobody holds against it, and nobody came for ahead, is granted till Term behind now.
func TestAskGrants(t *testing.T) {
	a, b, c := held(1, 2, reads, 50), held(3, 2, reads, 60), held(2, 4, wrote, 55)
	l := leases(a, b, c)
	for i, x := range []struct {
		now  int
		w    api.Wait
		want []api.Lease
	}{
		// Free ones, to read and to write, in their places; from the first moment on.
		{0, wait(1, 9, 1, reads), leases(held(1, 1, reads, 60), a, b, c)},
		{49, wait(3, 9, 1, wrote), leases(held(3, 1, wrote, 109), a, b, c)},
		{7, wait(1, 9, 6, wrote), leases(a, b, c, held(1, 6, wrote, 67))},
		// To read, beside others who read.
		{5, wait(2, 9, 2, reads), leases(a, held(2, 2, reads, 65), b, c)},
		// What is one's own is not against it: for longer, to write, or to read what is held to write, and is so still.
		{6, wait(2, 9, 4, wrote), leases(a, b, held(2, 4, wrote, 66))},
		{6, wait(2, 9, 4, reads), leases(a, b, held(2, 4, wrote, 66))},
		{6, wait(1, 9, 2, reads), leases(held(1, 2, reads, 66), b, c)},
		{59, wait(3, 9, 2, wrote), leases(held(3, 2, wrote, 119))},
		// What is over goes, of any file, and is against nobody from its end on.
		{50, wait(1, 9, 1, reads), leases(held(1, 1, reads, 110), b, c)},
		{55, wait(1, 9, 4, wrote), leases(b, held(1, 4, wrote, 115))},
		{56, wait(1, 9, 5, reads), leases(b, held(1, 5, reads, 116))},
		{60, wait(2, 9, 2, wrote), leases(held(2, 2, wrote, 120))},
		{99, wait(2, 9, 3, wrote), leases(held(2, 3, wrote, 159))},
		// Behind its end it is a new one, in the mode that is asked for.
		{55, wait(2, 9, 4, reads), leases(b, held(2, 4, reads, 115))},
		// The end is no later than the greatest int.
		{most - 61, wait(2, 9, 2, wrote), leases(held(2, 2, wrote, most-1))},
		{most - 60, wait(2, 9, 2, wrote), leases(held(2, 2, wrote, most))},
		{most - 59, wait(2, 9, 2, wrote), leases(held(2, 2, wrote, most))},
		{most - 1, wait(2, 9, 2, reads), leases(held(2, 2, reads, most))},
		{most, wait(2, 9, 2, reads), leases(held(2, 2, reads, most))},
	} {
		if got := ask(of(l, nil), x.now, x.w); !got.is(asked{x: of(x.want, nil), ok: true}) {
			t.Errorf("%d: Ask of %v at %d: %v", i, x.w, x.now, got)
		}
	}
	long := leases(held(1, 2, reads, 500))
	if got := ask(of(long, nil), 5, wait(1, 9, 2, wrote)); !got.is(asked{x: of(leases(held(1, 2, wrote, 500)), nil), ok: true}) {
		t.Errorf("Ask of what is held for longer: %v", got)
	}
}

// TestAskKeepsWaiting: what others hold against it is not granted: it waits, and they are called, rising.
func TestAskKeepsWaiting(t *testing.T) {
	a, b, c := held(1, 2, reads, 50), held(3, 2, reads, 60), held(2, 4, wrote, 55)
	l := leases(a, b, c)
	for i, x := range []struct {
		now   int
		w     api.Wait
		left  []api.Lease
		calls []int
	}{
		{0, wait(2, 9, 2, wrote), l, []int{1, 3}},
		{49, wait(2, 9, 2, wrote), l, []int{1, 3}},
		{50, wait(2, 9, 2, wrote), leases(b, c), []int{3}},
		{59, wait(2, 9, 2, wrote), leases(b), []int{3}},
		// It keeps what it has, as it is, and calls the others.
		{5, wait(1, 9, 2, wrote), l, []int{3}},
		{5, wait(3, 9, 2, wrote), l, []int{1}},
		// What is held to write is against all others, in each mode.
		{5, wait(1, 9, 4, reads), l, []int{2}},
		{54, wait(3, 9, 4, wrote), leases(b, c), []int{2}},
	} {
		if got := ask(of(l, nil), x.now, x.w); !got.is(asked{x: of(x.left, waits(x.w)), calls: x.calls}) {
			t.Errorf("%d: Ask of %v at %d: %v", i, x.w, x.now, got)
		}
	}
	all := leases(held(1, 6, reads, 9), held(2, 6, reads, 9), held(3, 6, reads, 9))
	if got := ask(of(all, nil), 8, wait(5, 9, 6, wrote)); !slices.Equal(got.calls, []int{1, 2, 3}) || got.ok {
		t.Errorf("Ask of what three hold: %v", got)
	}
}

// TestAskInTheLine: who came ahead for a file keeps it from all others, though nobody holds it; a wait goes with what is granted, or in the place of one for the same file.
func TestAskInTheLine(t *testing.T) {
	a, b, c := wait(2, 5, 1, reads), wait(1, 6, 1, wrote), wait(3, 7, 4, reads)
	l := waits(a, b, c)
	for i, x := range []struct {
		leases []api.Lease
		w      api.Wait
		want   asked
	}{
		// Another one is ahead: also to read beside who would read; also for whom does not wait for it yet, who goes behind all.
		{nil, wait(1, 9, 1, reads), asked{x: of(nil, waits(a, wait(1, 9, 1, reads), c))}},
		{nil, b, asked{x: of(nil, l)}},
		{nil, wait(3, 9, 1, reads), asked{x: of(nil, waits(a, b, wait(3, 9, 1, reads)))}},
		{nil, wait(4, 9, 4, reads), asked{x: of(nil, waits(a, b, c, wait(4, 9, 4, reads)))}},
		{nil, wait(1, 9, 4, wrote), asked{x: of(nil, waits(a, c, wait(1, 9, 4, wrote)))}},
		{nil, wait(2, 9, 4, wrote), asked{x: of(nil, waits(b, c, wait(2, 9, 4, wrote)))}},
		// One's own lease is no way past who is ahead.
		{leases(held(1, 1, wrote, 50)), wait(1, 9, 1, wrote), asked{x: of(leases(held(1, 1, wrote, 50)), waits(a, wait(1, 9, 1, wrote), c))}},
		{leases(held(3, 1, reads, 50)), wait(3, 9, 1, reads), asked{x: of(leases(held(3, 1, reads, 50)), waits(a, b, wait(3, 9, 1, reads)))}},
		// The first for a file is let have it, in the mode that it asks for now, and waits no more.
		{nil, wait(2, 9, 1, reads), asked{x: of(leases(held(2, 1, reads, 65)), waits(b, c)), ok: true}},
		{nil, wait(2, 9, 1, wrote), asked{x: of(leases(held(2, 1, wrote, 65)), waits(b, c)), ok: true}},
		{nil, wait(3, 9, 4, wrote), asked{x: of(leases(held(3, 4, wrote, 65)), waits(a, b)), ok: true}},
		// So is who asks for one for which nobody waits; what it waited for before that goes.
		{nil, wait(1, 9, 2, wrote), asked{x: of(leases(held(1, 2, wrote, 65)), waits(a, c)), ok: true}},
		{nil, wait(2, 9, 6, reads), asked{x: of(leases(held(2, 6, reads, 65)), waits(b, c)), ok: true}},
		// It is first, but another one holds it: it waits in its place, as it asks for it now.
		{leases(held(1, 1, reads, 50)), wait(2, 9, 1, wrote), asked{x: of(leases(held(1, 1, reads, 50)), waits(wait(2, 9, 1, wrote), b, c)), calls: []int{1}}},
		{leases(held(1, 1, reads, 50)), wait(2, 9, 1, reads), asked{x: of(leases(held(1, 1, reads, 50), held(2, 1, reads, 65)), waits(b, c)), ok: true}},
		// It is not first, and another one holds it: both keep it from it, who holds it is called.
		{leases(held(2, 1, wrote, 50)), wait(1, 9, 1, reads), asked{x: of(leases(held(2, 1, wrote, 50)), waits(a, wait(1, 9, 1, reads), c)), calls: []int{2}}},
	} {
		if got := ask(of(x.leases, l), 5, x.w); !got.is(x.want) {
			t.Errorf("%d: Ask of %v beside %v: %v", i, x.w, x.leases, got)
		}
	}
}

// TestAskOfAFullLine: where four others wait it is told so, and nobody is called; what is over goes all the same, and what may be granted needs no room.
func TestAskOfAFullLine(t *testing.T) {
	a, b := held(1, 1, wrote, 9), held(1, 2, reads, 3)
	l := waits(wait(5, 1, 1, reads), wait(6, 1, 1, wrote), wait(7, 1, 3, reads), wait(8, 1, 1, reads))
	for i, x := range []struct {
		now  int
		w    api.Wait
		want asked
	}{
		{2, wait(2, 9, 1, reads), asked{x: of(leases(a, b), l), e: api.EFull}},
		{3, wait(2, 9, 1, reads), asked{x: of(leases(a), l), e: api.EFull}},
		{9, wait(2, 9, 1, reads), asked{x: of(nil, l), e: api.EFull}},
		{3, wait(2, 9, 3, wrote), asked{x: of(leases(a), l), e: api.EFull}},
		{3, wait(1, 9, 1, wrote), asked{x: of(leases(a), l), e: api.EFull}},
		{3, wait(2, 9, 2, wrote), asked{x: of(leases(a, held(2, 2, wrote, 63)), l), ok: true}},
		{2, wait(3, 9, 2, reads), asked{x: of(leases(a, b, held(3, 2, reads, 62)), l), ok: true}},
	} {
		if got := ask(of(leases(a, b), l), x.now, x.w); !got.is(x.want) {
			t.Errorf("%d: Ask of %v at %d: %v", i, x.w, x.now, got)
		}
	}
	// Its own takes no room from it.
	own := waits(l[0], wait(2, 8, 1, reads), l[2], l[3])
	if got := ask(of(leases(a, b), own), 5, wait(2, 9, 1, wrote)); !got.is(asked{x: of(leases(a), waits(l[0], wait(2, 9, 1, wrote), l[2], l[3])), calls: []int{1}}) {
		t.Errorf("Ask of one that waits for it: %v", got)
	}
	if got := ask(of(leases(a, b), own), 5, wait(2, 9, 3, wrote)); !got.is(asked{x: of(leases(a), waits(l[0], l[2], l[3], wait(2, 9, 3, wrote)))}) {
		t.Errorf("Ask of one that waits for another file: %v", got)
	}
}

// TestAskOfAllKinds takes all ways in which file 1 may be held, all lines of three clients and two files, and a call of each client.
func TestAskOfAllKinds(t *testing.T) {
	throw := dice(1)
	others := ways1(2, 100)
	ok, called, behind := 0, 0, 0
	for _, one := range ways1(1, 100) {
		for _, l := range lines() {
			d := of(slices.Concat(one, others[throw.below(len(others))]), l)
			for client := 1; client <= clients; client++ {
				w := wait(client, 50+client, 1+throw.below(3), reads+throw.below(2))
				want, got := bookOf(d).ask(100, w), ask(d, 100, w)
				if !got.is(want) {
					t.Fatalf("Ask of %v in %v: %v, not %v", w, d, got, want)
				}
				switch {
				case want.ok:
					ok++
				case len(want.calls) > 0:
					called++
				default:
					behind++
				}
			}
		}
	}
	if min(ok, called, behind) < 10000 {
		t.Errorf("%d granted, %d called, %d behind others", ok, called, behind)
	}
}

func TestAskOfFullLinesOfAllKinds(t *testing.T) {
	throw := dice(2)
	full, ok := 0, 0
	for _, one := range ways1(1, 70) {
		for client := 1; client <= clients; client++ {
			for place := range room + 1 {
				for range 4 {
					d := of(one, throw.fullOf(client, place))
					w := wait(client, throw.below(99), 1+throw.below(3), reads+throw.below(2))
					want, got := bookOf(d).ask(70, w), ask(d, 70, w)
					if !got.is(want) {
						t.Fatalf("Ask of %v in %v: %v, not %v", w, d, got, want)
					}
					if want.e == api.EFull {
						full++
					} else if want.ok {
						ok++
					}
				}
			}
		}
	}
	if min(full, ok) < 1000 {
		t.Errorf("%d without room, %d granted", full, ok)
	}
}

func TestGiveExamples(t *testing.T) {
	a, b, c := held(1, 2, reads, 50), held(3, 2, reads, 60), held(2, 4, wrote, 55)
	l, line := leases(a, b, c), waits(wait(1, 5, 2, wrote), wait(2, 6, 4, reads), wait(3, 7, 2, reads))
	for _, x := range []struct {
		client, file int
		want         []api.Lease
	}{
		{1, 2, leases(b, c)}, {3, 2, leases(a, c)}, {2, 4, leases(a, b)},
		// Another one's, of another file, none such, in the lowest bytes alone.
		{2, 2, l}, {1, 4, l}, {3, 4, l}, {1, 1, l}, {4, 2, l}, {0, 2, l}, {1, 0, l}, {0, 0, l}, {-1, -2, l}, {1, 7, l}, {1<<32 + 1, 2, l}, {1, 1<<32 + 2, l}, {most, most, l},
	} {
		// Who waits does so still, also for what it gives back.
		if got := desk.Give(of(l, line), x.client, x.file); !same(got, of(x.want, line)) {
			t.Errorf("Give of %d, %d: %v", x.client, x.file, got)
		}
	}
	// Nothing else goes: it knows no time.
	if got := desk.Give(of(leases(held(1, 1, reads, 0), held(1, 2, wrote, 0)), nil), 1, 2); !same(got, of(leases(held(1, 1, reads, 0)), nil)) {
		t.Errorf("Give: %v", got)
	}
}

func TestGiveOfAllKinds(t *testing.T) {
	throw := dice(3)
	others, all := ways1(2, 100), lines()
	for _, one := range ways1(1, 100) {
		d := of(slices.Concat(one, others[throw.below(len(others))]), all[throw.below(len(all))])
		for client := range clients + 1 {
			for file := range 4 {
				want := bookOf(d)
				want.held[file][client] = terms{}
				if got := desk.Give(d, client, file); !same(got, want.desk()) {
					t.Fatalf("Give of %d, %d in %v: %v", client, file, d, got)
				}
			}
		}
	}
}

// TestRunLets: who may be let is, first come first, each as Ask would; what is over goes, whoever waits.
func TestRunLets(t *testing.T) {
	for name, x := range map[string]struct {
		leases []api.Lease
		line   []api.Wait
		want   ran
	}{
		"nothing": {nil, nil, ran{}},
		"nobody waits": {
			leases(held(1, 1, reads, 4), held(2, 1, wrote, 5), held(1, 2, wrote, 6)), nil,
			ran{x: of(leases(held(1, 2, wrote, 6)), nil)},
		},
		"what is free, in the order of the line": {
			nil, waits(wait(3, 9, 2, wrote), wait(1, 8, 5, reads), wait(2, 7, 1, wrote)),
			ran{x: of(leases(held(2, 1, wrote, 65), held(3, 2, wrote, 65), held(1, 5, reads, 65)), nil), let: waits(wait(3, 9, 2, wrote), wait(1, 8, 5, reads), wait(2, 7, 1, wrote))},
		},
		"two to read, not who would write behind them": {
			nil, waits(wait(2, 9, 1, reads), wait(1, 8, 1, reads), wait(3, 7, 1, wrote)),
			ran{of(leases(held(1, 1, reads, 65), held(2, 1, reads, 65)), waits(wait(3, 7, 1, wrote))), waits(wait(2, 9, 1, reads), wait(1, 8, 1, reads)), [][2]int{{1, 1}, {1, 2}}},
		},
		"who would write, and nobody behind": {
			nil, waits(wait(2, 9, 1, wrote), wait(1, 8, 1, reads), wait(3, 7, 1, reads)),
			ran{of(leases(held(2, 1, wrote, 65)), waits(wait(1, 8, 1, reads), wait(3, 7, 1, reads))), waits(wait(2, 9, 1, wrote)), [][2]int{{1, 2}}},
		},
		"one to read, not past who would write": {
			nil, waits(wait(2, 9, 1, reads), wait(1, 8, 1, wrote), wait(3, 7, 1, reads)),
			ran{of(leases(held(2, 1, reads, 65)), waits(wait(1, 8, 1, wrote), wait(3, 7, 1, reads))), waits(wait(2, 9, 1, reads)), [][2]int{{1, 2}}},
		},
		"nobody past the first, who has to wait": {
			leases(held(3, 1, reads, 6)), waits(wait(2, 9, 1, wrote), wait(1, 8, 1, reads)),
			ran{of(leases(held(3, 1, reads, 6)), waits(wait(2, 9, 1, wrote), wait(1, 8, 1, reads))), nil, [][2]int{{1, 3}}},
		},
		"who waits for another file passes": {
			leases(held(3, 1, reads, 6)), waits(wait(2, 9, 1, wrote), wait(1, 8, 2, wrote)),
			ran{of(leases(held(3, 1, reads, 6), held(1, 2, wrote, 65)), waits(wait(2, 9, 1, wrote))), waits(wait(1, 8, 2, wrote)), [][2]int{{1, 3}}},
		},
		"what is over keeps it from nobody": {
			leases(held(3, 1, wrote, 5), held(1, 3, reads, 5)), waits(wait(2, 9, 1, wrote)),
			ran{x: of(leases(held(2, 1, wrote, 65)), nil), let: waits(wait(2, 9, 1, wrote))},
		},
		"who reads, to write, when it is alone": {
			leases(held(1, 1, reads, 50), held(3, 1, reads, 5)), waits(wait(1, 9, 1, wrote)),
			ran{x: of(leases(held(1, 1, wrote, 65)), nil), let: waits(wait(1, 9, 1, wrote))},
		},
		"who writes, to read: it writes still": {
			leases(held(1, 1, wrote, 50)), waits(wait(1, 9, 1, reads), wait(2, 8, 1, reads)),
			ran{of(leases(held(1, 1, wrote, 65)), waits(wait(2, 8, 1, reads))), waits(wait(1, 9, 1, reads)), [][2]int{{1, 1}}},
		},
	} {
		if got := run(of(x.leases, x.line), 5); !got.is(x.want) {
			t.Errorf("%s: %v, not %v", name, got, x.want)
		}
	}
	for now, until := range map[int]int{0: 60, most - 61: most - 1, most - 60: most, most - 59: most, most - 1: most} {
		if got := run(of(nil, waits(wait(1, 9, 1, reads))), now); !got.is(ran{x: of(leases(held(1, 1, reads, until)), nil), let: waits(wait(1, 9, 1, reads))}) {
			t.Errorf("Run at %d: %v", now, got)
		}
	}
	// At the end of all time what is granted is over, and against nobody.
	if got := run(of(nil, waits(wait(1, 9, 1, wrote), wait(2, 8, 1, wrote))), most); !slices.Equal(got.let, waits(wait(1, 9, 1, wrote), wait(2, 8, 1, wrote))) || len(got.calls) > 0 || len(got.x.Line) > 0 {
		t.Errorf("Run at the end of all time: %v", got)
	}
}

// TestRunCalls: of each that waits still, in its order, the file with each who holds it against it, rising, each pair once.
func TestRunCalls(t *testing.T) {
	for name, x := range map[string]struct {
		leases []api.Lease
		line   []api.Wait
		calls  [][2]int
	}{
		"by the line, not by file or client": {
			leases(held(3, 1, wrote, 9), held(1, 4, wrote, 9), held(1, 6, reads, 9), held(2, 6, reads, 9)), waits(wait(3, 9, 6, wrote), wait(2, 8, 4, reads), wait(1, 7, 1, reads)),
			[][2]int{{6, 1}, {6, 2}, {4, 1}, {1, 3}},
		},
		"once, though two wait": {
			leases(held(3, 1, wrote, 9)), waits(wait(2, 9, 1, reads), wait(1, 8, 1, wrote)),
			[][2]int{{1, 3}},
		},
		"once, though others stand between": {
			leases(held(3, 1, wrote, 9), held(3, 2, wrote, 9)), waits(wait(2, 9, 1, reads), wait(5, 8, 2, wrote), wait(1, 8, 1, wrote)),
			[][2]int{{1, 3}, {2, 3}},
		},
		"one client of two files, two of one": {
			leases(held(3, 1, wrote, 9), held(1, 2, reads, 9), held(3, 2, reads, 9)), waits(wait(1, 9, 1, reads), wait(2, 8, 2, wrote)),
			[][2]int{{1, 3}, {2, 1}, {2, 3}},
		},
		"two who read and would write: each the other": {
			leases(held(1, 1, reads, 9), held(2, 1, reads, 9)), waits(wait(2, 9, 1, wrote), wait(1, 8, 1, wrote)),
			[][2]int{{1, 1}, {1, 2}},
		},
		"nobody for who would read beside who reads, though it waits": {
			leases(held(1, 1, reads, 9), held(3, 1, reads, 9)), waits(wait(1, 9, 1, wrote), wait(2, 8, 1, reads)),
			[][2]int{{1, 3}},
		},
	} {
		d := of(x.leases, x.line)
		if got := run(d, 5); !got.is(ran{x: d, calls: x.calls}) {
			t.Errorf("%s: %v, not %v", name, got, x.calls)
		}
	}
}

// TestRunOfAllKinds takes all ways in which file 1 may be held, and all lines of three clients and two files.
func TestRunOfAllKinds(t *testing.T) {
	throw := dice(4)
	others := ways1(2, 100)
	let, called := [clients + 1]int{}, [5]int{}
	for _, one := range ways1(1, 100) {
		for _, l := range lines() {
			d := of(slices.Concat(one, others[throw.below(len(others))]), l)
			want, got := bookOf(d).run(100), run(d, 100)
			if !got.is(want) {
				t.Fatalf("Run of %v: %v, not %v", d, got, want)
			}
			let[len(want.let)]++
			called[min(len(want.calls), 4)]++
		}
	}
	if slices.Min(let[:]) < 1000 || slices.Min(called[:4]) < 1000 {
		t.Errorf("by how many were let: %v; by how many were called: %v", let, called)
	}
}

// TestRunAsAskWould: who is let is told so by Ask at the moment, whoever it lets first; who waits still would be told to.
func TestRunAsAskWould(t *testing.T) {
	throw := dice(5)
	others, all := ways1(2, 100), lines()
	for _, one := range ways1(1, 100) {
		for range 40 {
			d := of(slices.Concat(one, others[throw.below(len(others))]), all[throw.below(len(all))])
			got := run(d, 100)
			for _, w := range got.let {
				i := slices.IndexFunc(d.Line, func(x api.Wait) bool { return ask(d, 100, x).ok })
				if i < 0 || d.Line[i] != w {
					t.Fatalf("Run lets %v, Ask says otherwise in %v", w, d)
				}
				d = ask(d, 100, w).x
			}
			if slices.ContainsFunc(d.Line, func(x api.Wait) bool { return ask(d, 100, x).ok }) || len(got.let) > 0 && !same(got.x, d) {
				t.Fatalf("Run lets %v alone, then is %v, not %v", got.let, got.x, d)
			}
			if again := run(got.x, 100); len(again.let) > 0 || !same(again.x, got.x) || !slices.Equal(again.calls, got.calls) {
				t.Fatalf("Run behind Run of %v: %v", got.x, again)
			}
		}
	}
}

// TestNumbersHaveNoPart: the number under which it is asked is told as it is, and turns nothing.
func TestNumbersHaveNoPart(t *testing.T) {
	throw, all := dice(6), lines()
	for _, one := range ways1(1, 100) {
		d := of(one, slices.Clone(all[throw.below(len(all))]))
		w := wait(1+throw.below(3), 0, 1+throw.below(2), reads+throw.below(2))
		plain, runs := ask(d, 100, w), run(d, 100)
		seqs := map[int]int{w.Client: throw.of(someNumbers...)}
		for i, x := range d.Line {
			if x.Client != w.Client {
				seqs[x.Client] = throw.of(someNumbers...)
			}
			d.Line[i].Seq = seqs[x.Client]
		}
		w.Seq = seqs[w.Client]
		for _, l := range [][]api.Wait{plain.x.Line, runs.x.Line, runs.let} {
			for i := range l {
				l[i].Seq = seqs[l[i].Client]
			}
		}
		if a, b := ask(d, 100, w), run(d, 100); !a.is(plain) || !b.is(runs) {
			t.Fatalf("Ask of %v, Run of %v: %v, %v", w, d, a, b)
		}
	}
}

// TestWhateverIsHandedIn: each call ends, none panics, also of desks such as no call tells, and of long ones.
func TestWhateverIsHandedIn(t *testing.T) {
	throw := dice(7)
	for n := range 6000 {
		d := of(throw.oddLeases(throw.below(1+n%25)), throw.oddWaits(throw.below(1+n%12)))
		now, w := throw.odd(), throw.oddWaits(1)[0]
		x, ok, calls, e := desk.Ask(d, now, w)
		if ok && (e != api.OK || len(calls) > 0) || e != api.OK && (e != api.EFull || len(calls) > 0 || !same(x, of(lease.Prune(d.Leases, now), d.Line))) {
			t.Fatalf("Ask of %v at %d of %v: %v, %v, %v, %d", w, now, d, x, ok, calls, e)
		}
		if x := desk.Give(d, w.Client, w.File); len(x.Leases) > len(d.Leases) || !slices.Equal(x.Line, d.Line) {
			t.Fatalf("Give of %v: %v", d, x)
		}
		if got := run(d, now); len(got.x.Line)+len(got.let) > len(d.Line) {
			t.Fatalf("Run of %v at %d: %v", d, now, got)
		}
	}
	long := of(slices.Repeat(leases(held(1, 1, reads, 9), held(2, 1, wrote, 9)), 50000), slices.Repeat(waits(wait(3, 1, 1, wrote)), 9))
	if got := ask(long, 5, wait(4, 1, 1, wrote)); got.e != api.EFull || !same(got.x, long) {
		t.Errorf("Ask of a desk of %d leases: %d", len(long.Leases), got.e)
	}
	if got := run(long, 5); !same(got.x, long) || !slices.Equal(got.calls, [][2]int{{1, 1}, {1, 2}}) {
		t.Errorf("Run of a desk of %d leases: %v", len(long.Leases), got.calls)
	}
	if got := run(of(nil, slices.Repeat(waits(wait(1, 1, 1, wrote), wait(2, 1, 1, wrote)), 50000)), 5); len(got.let) != 1 || len(got.x.Line) != 50000 {
		t.Errorf("Run of a line of 100000: %v", got.let)
	}
}
