package sess_test

import (
	"math/big"
	"slices"
	"testing"

	"tenancy/api"
	"tenancy/sess"
)

func TestExample(t *testing.T) {
	kind, got := sess.Judge(3, []int{0}, []api.Tell{{}}, []api.Mark{{}}, api.Ask{Kind: api.AskOpen, From: 1, Epoch: 2, Seq: 1, Name: "a"})
	if kind != api.Stale || got != (api.Tell{}) {
		t.Errorf("Judge of another epoch: %d %v", kind, got)
	}
}

// TestNumbersOfTheApi: the tests count on these.
func TestNumbersOfTheApi(t *testing.T) {
	if api.Stale != stale || api.Old != old || api.Again != again || api.Fresh != fresh || api.Retry != retry || api.MaxCli != clients || api.TellDone != 1 {
		t.Error("they are others")
	}
}

// mustJudge fails where b judges a in another way.
func mustJudge(t *testing.T, b book, a api.Ask, want verdict) {
	t.Helper()
	if got := b.judge(a); got != want {
		t.Fatalf("%+v, asked %+v: %v, not %v", b, a, got, want)
	}
}

func TestJudgeExamples(t *testing.T) {
	done := api.Tell{Kind: api.TellDone, To: 1, Epoch: 3, Seq: 5, Err: api.ENone, File: 2, Mode: api.Wrote, Ver: 7, Body: "body"}
	his := api.Tell{Kind: api.TellDone, To: 2, Epoch: 3, Seq: 4, Err: api.EFull, File: 6, Ver: 9}
	b := bookOf(3,
		page{5, done, api.Mark{Seq: 5, Err: api.EArg, File: 4, Ver: 8}}, // told since it was begun: what was told stands, not the mark
		page{4, api.Tell{}, api.Mark{Seq: 4, Err: api.EFull, File: 6, Ver: 9}},
		page{9, api.Tell{Kind: api.TellDone, To: 3, Epoch: 3, Seq: 7}, api.Mark{Seq: 6}}, // 9 was seen, and is told nothing yet
	)
	for _, x := range []struct {
		from, epoch, seq int
		want             verdict
	}{
		// Of another epoch, whatever its number.
		{1, 2, 5, verdict{kind: stale}}, {1, 4, 5, verdict{kind: stale}}, {1, 2, 4, verdict{kind: stale}}, {1, 4, 6, verdict{kind: stale}}, {2, 0, 4, verdict{kind: stale}}, {3, -3, 9, verdict{kind: stale}}, {3, 1<<32 + 3, 9, verdict{kind: stale}}, {3, 1<<8 + 3, 10, verdict{kind: stale}}, {1, least, 1, verdict{kind: stale}}, {1, most, most, verdict{kind: stale}},
		// Below what was seen.
		{1, 3, 4, verdict{kind: old}}, {1, 3, 1, verdict{kind: old}}, {2, 3, 3, verdict{kind: old}}, {3, 3, 8, verdict{kind: old}},
		// Below it, though it was told, or done last.
		{3, 3, 7, verdict{kind: old}}, {3, 3, 6, verdict{kind: old}},
		// Told as done; done last.
		{1, 3, 5, verdict{again, done}}, {2, 3, 4, verdict{again, his}},
		// New; or asked again, and not done yet.
		{1, 3, 6, verdict{kind: fresh}}, {1, 3, most, verdict{kind: fresh}}, {1, 3, 1<<32 + 5, verdict{kind: fresh}}, {2, 3, 5, verdict{kind: fresh}}, {3, 3, 10, verdict{kind: fresh}}, {3, 3, 9, verdict{kind: fresh}},
		// No such client, also of another epoch.
		{0, 3, 5, verdict{kind: old}}, {4, 3, 5, verdict{kind: old}}, {-1, 3, 5, verdict{kind: old}}, {-2, 3, 5, verdict{kind: old}}, {least, 3, 9, verdict{kind: old}}, {most, 3, 9, verdict{kind: old}}, {1<<32 + 1, 3, 5, verdict{kind: old}}, {1<<8 + 1, 3, 6, verdict{kind: old}}, {0, 2, 5, verdict{kind: old}}, {4, 4, 5, verdict{kind: old}}, {4, 3, 10, verdict{kind: old}},
		// Its number is not above 0, also of another epoch.
		{1, 3, 0, verdict{kind: old}}, {1, 3, -1, verdict{kind: old}}, {1, 3, -5, verdict{kind: old}}, {1, 3, least, verdict{kind: old}}, {1, 2, 0, verdict{kind: old}}, {2, 4, -1, verdict{kind: old}}, {0, 2, 0, verdict{kind: old}},
	} {
		mustJudge(t, b, api.Ask{Kind: api.AskGone, From: x.from, Epoch: x.epoch, Seq: x.seq, File: 1}, x.want)
	}
}

// TestBehindABegin: nothing was told since, what was seen is what was done last; that is told again by its mark, in the epoch of now.
func TestBehindABegin(t *testing.T) {
	b := bookOf(8, page{seen: 2, mark: api.Mark{Seq: 2, File: 3, Ver: 4}}, page{}, page{seen: 6, mark: api.Mark{Seq: 6, Err: api.ENone}})
	mustJudge(t, b, api.Ask{From: 1, Epoch: 7, Seq: 2}, verdict{kind: stale})
	mustJudge(t, b, api.Ask{From: 1, Epoch: 8, Seq: 2}, verdict{again, api.Tell{Kind: api.TellDone, To: 1, Epoch: 8, Seq: 2, File: 3, Ver: 4}})
	mustJudge(t, b, api.Ask{From: 1, Epoch: 8, Seq: 1}, verdict{kind: old})
	mustJudge(t, b, api.Ask{From: 1, Epoch: 8, Seq: 3}, verdict{kind: fresh})
	mustJudge(t, b, api.Ask{From: 2, Epoch: 8, Seq: 1}, verdict{kind: fresh})
	mustJudge(t, b, api.Ask{From: 3, Epoch: 8, Seq: 6}, verdict{again, api.Tell{Kind: api.TellDone, To: 3, Epoch: 8, Seq: 6, Err: api.ENone}})
	mustJudge(t, b, api.Ask{From: 3, Epoch: 8, Seq: 9}, verdict{kind: fresh})
}

// TestNothingStandsForNothing: what is nought, or below, is told or done for nobody, though the number asked under is as it.
func TestNothingStandsForNothing(t *testing.T) {
	for _, seq := range []int{0, -1, -7, least} {
		b := bookOf(1, page{seq, api.Tell{Kind: 1, Seq: seq, Body: "x"}, api.Mark{Seq: seq, Ver: 5}}, page{least, api.Tell{}, api.Mark{}})
		for from := range 3 {
			for _, epoch := range []int{0, 1} {
				mustJudge(t, b, api.Ask{From: from, Epoch: epoch, Seq: seq}, verdict{kind: old})
			}
		}
		mustJudge(t, b, api.Ask{From: 1, Epoch: 1, Seq: 1}, verdict{kind: fresh})
		mustJudge(t, b, api.Ask{From: 1, Epoch: 0, Seq: 1}, verdict{kind: stale})
		mustJudge(t, b, api.Ask{From: 2, Epoch: 1, Seq: 1}, verdict{kind: fresh})
	}
}

// mustBeMany fails where few were judged in one of the ways.
func mustBeMany(t *testing.T, count [5]int) {
	t.Helper()
	for kind, n := range count[1:] {
		if n < 1000 {
			t.Errorf("%d are judged as %d", n, kind+1)
		}
	}
}

// TestAllOfSmallNumbers: each client of three, by each epoch, number, what was seen, told and done near them, with others beside.
func TestAllOfSmallNumbers(t *testing.T) {
	throw, count := dice(1), [5]int{}
	for at := range clients {
		for seen := -1; seen <= 4; seen++ {
			for told := -1; told <= 4; told++ {
				for marked := -1; marked <= 4; marked++ {
					l := []page{throw.near(), throw.near(), throw.near()}
					l[at] = throw.page(seen, told, marked)
					b := bookOf(throw.below(3), l...)
					for from := -1; from <= clients+2; from++ {
						for epoch := -1; epoch <= 3; epoch++ {
							for seq := -1; seq <= 5; seq++ {
								a := throw.ask()
								a.From, a.Epoch, a.Seq = from, epoch, seq
								want := b.want(a)
								mustJudge(t, b, a, want)
								count[want.kind]++
							}
						}
					}
				}
			}
		}
	}
	mustBeMany(t, count)
}

// TestListsThatAreNotAsMany: whoever asks, though it stands in all of them.
func TestListsThatAreNotAsMany(t *testing.T) {
	seen := []int{1, 1, 1, 1}
	told := slices.Repeat([]api.Tell{{Kind: 1, Seq: 1}}, 4)
	marks := slices.Repeat([]api.Mark{{Seq: 1}}, 4)
	for i := range 5 {
		for j := range 5 {
			for k := range 5 {
				b := book{3, seen[:i], told[:j], marks[:k]}
				for from := -1; from <= 6; from++ {
					for seq := range 3 {
						for _, epoch := range []int{2, 3} {
							a := api.Ask{From: from, Epoch: epoch, Seq: seq}
							want := b.want(a)
							if i == j && j == k && from >= 1 && from <= i && seq > 0 {
								if want.kind == old {
									t.Fatal("such are judged by what they ask")
								}
							} else if want != (verdict{kind: old}) {
								t.Fatal("such are Old")
							}
							mustJudge(t, b, a, want)
						}
					}
				}
			}
		}
	}
}

// TestOfAllKinds: numbers of all kinds, the farthest too; nothing that no case names has a part in it, and what was told is told just so.
func TestOfAllKinds(t *testing.T) {
	throw, count := dice(2), [5]int{}
	for range 300000 {
		b, a := throw.odd(), throw.ask()
		if throw.below(3) > 0 {
			a.Epoch = b.epoch
		}
		if i := a.From - 1; throw.below(2) == 0 && i >= 0 && i < min(len(b.seen), len(b.told), len(b.marks)) {
			a.Seq = throw.of(b.seen[i], b.told[i].Seq, b.marks[i].Seq)
		}
		want := b.want(a)
		mustJudge(t, b, a, want)
		count[want.kind]++
	}
	mustBeMany(t, count)
}

// TestEachThingOfAMark: its Err, File and Ver are told, each in its place; a mark has no Mode and no Body.
func TestEachThingOfAMark(t *testing.T) {
	for _, m := range []api.Mark{{Seq: 2}, {Seq: 2, Err: api.EHush}, {Seq: 2, File: 6}, {Seq: 2, Ver: api.MaxNum}, {Seq: 2, Err: -1, File: -2, Ver: -3}, {Seq: 2, Err: most, File: least, Ver: most}} {
		for from := range clients {
			l := []page{{mark: api.Mark{Seq: 2, Err: 1, File: 1, Ver: 1}}, {mark: api.Mark{Seq: 2, Err: 2, File: 2, Ver: 2}}, {mark: api.Mark{Seq: 2, Err: 3, File: 3, Ver: 3}}}
			l[from].mark = m
			for _, epoch := range []int{0, 1, api.MaxNum, -4, most, least} {
				mustJudge(t, bookOf(epoch, l...), api.Ask{From: from + 1, Epoch: epoch, Seq: 2}, verdict{again, api.Tell{Kind: api.TellDone, To: from + 1, Epoch: epoch, Seq: 2, Err: m.Err, File: m.File, Ver: m.Ver}})
			}
		}
	}
}

// TestOthersHaveNoPart: whatever is known of other clients, one is judged alike.
func TestOthersHaveNoPart(t *testing.T) {
	throw := dice(3)
	for range 20000 {
		p, a := throw.near(), throw.ask()
		epoch := throw.below(2)
		a.From, a.Epoch, a.Seq = 1, throw.below(2), throw.below(6)
		want := bookOf(epoch, p).judge(a)
		b := book{epoch: epoch}
		for range throw.below(4) {
			b = b.with(throw.near())
			a.From++
		}
		b = b.with(p)
		for range throw.below(4) {
			b = b.with(throw.near())
		}
		// To whom it is told by a mark is the one thing that turns with its place.
		if want.kind == again && want.t != p.told {
			want.t.To = a.From
		}
		mustJudge(t, b, a, want)
	}
}

// TestManyClients: more than a server has, each judged by what is its own.
func TestManyClients(t *testing.T) {
	const many = 1<<16 + 3
	b := book{3, make([]int, many), make([]api.Tell, many), make([]api.Mark, many)}
	some := []int{1, 2, 255, 256, 257, 1 << 16, many - 1, many}
	for _, from := range some {
		b.seen[from-1], b.marks[from-1] = from, api.Mark{Seq: from, Ver: -from}
	}
	for _, from := range append(some, 3, 258, many+1, many+2, 1<<32+1) {
		for _, seq := range []int{1, from, from + 1} {
			mustJudge(t, b, api.Ask{From: from, Epoch: 3, Seq: seq}, b.want(api.Ask{From: from, Epoch: 3, Seq: seq}))
		}
	}
}

// isDue says by numbers that know no end whether it is Retry or more from last to now.
func isDue(last, now int) bool {
	from := new(big.Int).Add(big.NewInt(int64(last)), big.NewInt(retry))
	return from.Cmp(big.NewInt(int64(now))) <= 0
}

// ticks are some around each at which an answer may turn, and the farthest.
func ticks() []int {
	var l []int
	for i := -25; i <= 25; i++ {
		for _, at := range []int{0, 100, -1 << 31, 1 << 31, 1 << 32, api.MaxTime, 1 << 62, -1 << 62} {
			l = append(l, at+i)
		}
		l = append(l, most-25-i, least+25+i)
	}
	return l
}

func TestDueExamples(t *testing.T) {
	for _, x := range []struct {
		last, now int
		due       bool
	}{
		{5, 15, true}, {5, 16, true}, {5, 99, true}, {5, 14, false}, {5, 6, false}, {5, 5, false}, {5, 4, false}, {5, -5, false}, {5, -99, false},
		{0, 10, true}, {0, 9, false}, {0, -10, false}, {-5, 5, true}, {-5, 4, false}, {-20, -10, true}, {-20, -11, false}, {15, 5, false},
		{api.MaxTime, api.MaxTime + 10, true}, {api.MaxTime - 10, api.MaxTime, true}, {api.MaxTime - 9, api.MaxTime, false},
		{most - 10, most, true}, {most - 9, most, false}, {most, most, false}, {most - 3, 0, false}, {most, least, false}, {most, least + 8, false}, {most - 9, least, false},
		{least, most, true}, {least, 0, true}, {least, least + 10, true}, {least, least + 9, false}, {least, least, false}, {0, most, true}, {0, least, false}, {-1, most, true}, {1, least, false}, {least + 5, least, false},
	} {
		if got := sess.Due(api.Out{Is: true, Last: x.last}, x.now); got != x.due {
			t.Errorf("Due of %d at %d: %v", x.last, x.now, got)
		}
	}
}

func TestDueOfAllTicks(t *testing.T) {
	l, due := ticks(), 0
	for _, last := range l {
		for _, now := range l {
			want := isDue(last, now)
			if got := sess.Due(api.Out{Is: true, Last: last}, now); got != want {
				t.Fatalf("Due of %d at %d: %v", last, now, got)
			}
			if sess.Due(api.Out{Last: last}, now) {
				t.Fatalf("Due of nothing, %d at %d", last, now)
			}
			if want {
				due++
			}
		}
	}
	if due < 10000 || len(l)*len(l)-due < 10000 {
		t.Errorf("%d of %d are due", due, len(l)*len(l))
	}
}

// TestDueByLastAlone: neither what was asked nor when first has a part in it.
func TestDueByLastAlone(t *testing.T) {
	throw := dice(4)
	for range 50000 {
		o := api.Out{Is: throw.below(4) > 0, Ask: throw.ask(), First: throw.of(throw.far(), throw.below(40)), Last: throw.of(throw.far(), throw.below(40))}
		now := throw.of(throw.far(), throw.below(60))
		if got := sess.Due(o, now); got != (o.Is && isDue(o.Last, now)) {
			t.Fatalf("Due of %+v at %d: %v", o, now, got)
		}
	}
}
