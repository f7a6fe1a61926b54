package msg_test

import (
	"math"
	"strings"
	"testing"

	"tenancy/api"
	"tenancy/msg"
)

// mustMayAsk holds MayAsk and PutAsk of a against the tables.
func mustMayAsk(t *testing.T, a api.Ask) bool {
	t.Helper()
	may := mayAsk(a)
	if got := msg.MayAsk(a); got != may {
		t.Fatalf("MayAsk of %v: %v", a, got)
	}
	if b := msg.PutAsk(a); !may && len(b) != 0 || may && string(b) != string(laidAsk(a)) {
		t.Fatalf("PutAsk of %v: %x", a, b)
	}
	return may
}

// mustMayTell holds MayTell and PutTell of x against the ranges.
func mustMayTell(t *testing.T, x api.Tell) bool {
	t.Helper()
	may := mayTell(x)
	if got := msg.MayTell(x); got != may {
		t.Fatalf("MayTell of %v: %v", x, got)
	}
	if b := msg.PutTell(x); !may && len(b) != 0 || may && string(b) != string(laidTell(x)) {
		t.Fatalf("PutTell of %v: %x", x, b)
	}
	return may
}

// small are numbers that stand in a byte, around the edges of these; what of the others is put in a byte would be another one's.
func small(edges ...int) []int {
	return append(edges, math.MinInt, -257, -256, -255, -1, 0, 1, 255, 256, 257, 1<<32+1, math.MaxInt)
}

// great are numbers that stand in four bytes, around the edges.
func great() []int {
	return []int{math.MinInt, -1 << 32, 1 - 1<<32, -1, 0, 1, 2, 1000, most - 1, most, most + 1, 1 << 31, 1<<32 - 1, 1 << 32, 1<<32 + 1, math.MaxInt}
}

// names are such as may be and such as may not.
func names() []string {
	return []string{"", "a", "!", "~", "12345678", "123456789", " ", "a b", "\x7f", "\x00", "\xff", "a\x80", "é", strings.Repeat("n", 255), strings.Repeat("n", 257), strings.Repeat("n", 264)}
}

// lists are writes that may be and such as may not.
func lists() [][]api.Write {
	good, wrong := write(3, "ok"), write(23, "xx")
	return [][]api.Write{
		nil, {}, {good}, {good, good}, fullWrites(), append(fullWrites(), good), append(fullWrites(), fullWrites()...),
		{write(0, "x")}, {write(23, "x")}, {write(0, strings.Repeat("x", 24))}, {write(12, strings.Repeat("x", 12))},
		{write(24, "x")}, {wrong}, {write(0, "")}, {write(5, "")}, {write(-1, "x")}, {write(-1, "xx")}, {write(0, strings.Repeat("x", 25))}, {write(1, strings.Repeat("x", 24))},
		{write(256, "x")}, {write(-256, "x")}, {write(math.MaxInt, "x")}, {write(math.MinInt, "x")}, {write(0, strings.Repeat("x", 257))},
		{good, wrong}, {wrong, good}, {good, good, good, good, wrong}, {good, good, good, good, good, wrong},
		make([]api.Write, 5), make([]api.Write, 256), make([]api.Write, 257),
	}
}

func TestLimits(t *testing.T) {
	if api.MaxCli != clients || api.MaxFile != files || api.MaxBody != room || api.MaxDirty != dirty || api.MaxNum != most || api.MaxName != 8 || api.EHush != 7 || api.Wrote != 2 {
		t.Fatalf("%d %d %d %d %d %d", api.MaxCli, api.MaxFile, api.MaxBody, api.MaxDirty, api.MaxNum, api.MaxName)
	}
}

// TestMayAskByItsHead: each kind, client, epoch and number around the edges, in an ask that is good for the rest.
func TestMayAskByItsHead(t *testing.T) {
	may := 0
	for _, a := range append(someAsks(), api.Ask{}) {
		for _, kind := range append(small(2, 3, 4, 5, 6, 7), a.Kind) {
			for _, from := range small(2, 3, 4, 5) {
				for _, epoch := range great() {
					for _, seq := range great() {
						x := a
						x.Kind, x.From, x.Epoch, x.Seq = kind, from, epoch, seq
						// All are asked where just one thing is turned; of the others some.
						if turned(a, x) > 1 && (kind+from+epoch+seq)%5 != 0 {
							continue
						}
						if mustMayAsk(t, x) {
							may++
						}
					}
				}
			}
		}
	}
	if may < 500 {
		t.Errorf("%d good ones are few", may)
	}
}

// turned is how many things of its head are others in b.
func turned(a, b api.Ask) int {
	n := 0
	for _, same := range []bool{a.Kind == b.Kind, a.From == b.From, a.Epoch == b.Epoch, a.Seq == b.Seq} {
		if !same {
			n++
		}
	}
	return n
}

// TestMayAskByItsRest: each kind with all names, files, modes and writes around the edges.
func TestMayAskByItsRest(t *testing.T) {
	may := map[int]int{}
	for _, kind := range small(2, 3, 4, 5, 6) {
		for _, name := range names() {
			for _, file := range small(2, 5, 6, 7) {
				for _, mode := range small(2, 3) {
					for _, l := range lists() {
						if mustMayAsk(t, api.Ask{Kind: kind, From: 2, Epoch: 7, Seq: 8, Name: name, File: file, Mode: mode, Writes: l}) {
							may[kind]++
						}
					}
				}
			}
		}
	}
	for kind := 1; kind <= 5; kind++ {
		if may[kind] < 8 {
			t.Errorf("%d good ones of kind %d are few", may[kind], kind)
		}
	}
	if len(may) != 5 {
		t.Errorf("kinds %v", may)
	}
}

// TestMayAskByNames: each byte, wherever it stands in a name.
func TestMayAskByNames(t *testing.T) {
	for by := range 256 {
		for size := 1; size <= 9; size++ {
			for at := range size {
				b := []byte(strings.Repeat("n", size))
				b[at] = byte(by)
				mustMayAsk(t, api.Ask{Kind: api.AskOpen, From: 1, Seq: 1, Name: string(b)})
			}
		}
	}
}

// TestMayAskByWrites: each place and length, of the first and of the last write.
func TestMayAskByWrites(t *testing.T) {
	for _, kind := range []int{api.AskFlush, api.AskGive} {
		for off := -2; off <= room+2; off++ {
			for size := range room + 3 {
				for at := range dirty {
					l := fullWrites()
					l[at] = write(off, strings.Repeat("\x00", size))
					for _, l := range [][]api.Write{l, l[:at+1]} {
						mustMayAsk(t, api.Ask{Kind: kind, From: 1, Seq: 1, File: 1, Writes: l})
					}
				}
			}
		}
	}
}

// TestMayTellByItsHead: each kind, client, epoch and number around the edges, in a tell that is good for the rest.
func TestMayTellByItsHead(t *testing.T) {
	may := 0
	for _, x := range append(someTells(), api.Tell{}) {
		for _, kind := range small(2, 3, 4, 5) {
			for _, to := range small(2, 3, 4) {
				for _, epoch := range great() {
					for _, seq := range great() {
						x.Kind, x.To, x.Epoch, x.Seq = kind, to, epoch, seq
						if mustMayTell(t, x) {
							may++
						}
					}
				}
			}
		}
	}
	if may < 500 {
		t.Errorf("%d good ones are few", may)
	}
}

// TestMayTellByItsRest: each kind with each thing behind its epoch around the edges: all of two things at a time, and a nought or something of the others.
func TestMayTellByItsRest(t *testing.T) {
	may := map[int]int{}
	for _, x := range append(someTells(), api.Tell{To: 2, Epoch: 3}, api.Tell{To: 2, Seq: 3, File: 1}) {
		for _, kind := range []int{0, 1, 2, 3, 4} {
			x.Kind = kind
			turns := tellTurns()
			for i, first := range turns {
				for _, second := range turns[:i] {
					for _, y := range second(x) {
						for _, z := range first(y) {
							if mustMayTell(t, z) {
								may[kind]++
							}
						}
					}
				}
			}
		}
	}
	if may[1] < 1000 || may[2] < 100 || may[3] < 50 || len(may) != 3 {
		t.Errorf("good ones: %v", may)
	}
}

// tellTurns are the ways to turn one thing of a tell: each tells it with that at each edge.
func tellTurns() []func(x api.Tell) []api.Tell {
	at := func(edges []int, turn func(x *api.Tell, n int)) func(x api.Tell) []api.Tell {
		return func(x api.Tell) []api.Tell {
			var l []api.Tell
			for _, n := range edges {
				turn(&x, n)
				l = append(l, x)
			}
			return l
		}
	}
	return []func(x api.Tell) []api.Tell{
		at(great(), func(x *api.Tell, n int) { x.Seq = n }),
		at(small(2, 3, 4, 5, 6, 7, 8, 9), func(x *api.Tell, n int) { x.Err = api.Errno(n) }),
		at(small(2, 5, 6, 7), func(x *api.Tell, n int) { x.File = n }),
		at(small(2, 3), func(x *api.Tell, n int) { x.Mode = n }),
		at(great(), func(x *api.Tell, n int) { x.Ver = n }),
		at([]int{0, 1, 2, 23, 24, 25, 255, 256, 257, 280}, func(x *api.Tell, n int) { x.Body = strings.Repeat("b", n) }),
	}
}

// TestMayTellByBodies: any byte may stand in a body.
func TestMayTellByBodies(t *testing.T) {
	for by := range 256 {
		for _, size := range []int{1, 24, 25} {
			if may := mustMayTell(t, api.Tell{Kind: api.TellDone, To: 1, Seq: 1, Body: strings.Repeat(string([]byte{byte(by)}), size)}); may != (size <= 24) {
				t.Errorf("%d bytes %d", size, by)
			}
		}
	}
}
