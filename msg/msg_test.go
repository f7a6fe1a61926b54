package msg_test

import (
	"bytes"
	"encoding/hex"
	"fmt"
	"slices"
	"strings"
	"testing"

	"tenancy/api"
	"tenancy/msg"
)

// TestAskExamples: all that is put, written out.
func TestAskExamples(t *testing.T) {
	asks := someAsks()
	for i, want := range map[int]string{
		0: "01 01 00000000 00000001 0161 00 00 00 2ce2",
		1: "01 03 40000000 40000000 083132333435363738 00 00 00 f1bd",
		2: "02 02 01020304 05060708 00 06 01 00 ec97",
		3: "02 02 00000005 00000009 00 01 02 00 71b7",
		4: "03 02 00000005 00000102 00 01 00 01 17 0178 4f40",
		5: "03 01 00000001 00000002 00 06 00 05 00 0161 01 0100 02 02fffe 15 0378797a 00 18313233343536373839303132333435363738393031323334 65a6",
		6: "04 02 00000005 00000009 00 01 00 00 17b0",
		7: "04 02 00000005 00000009 00 01 00 01 02 027879 9ee8",
		9: "05 03 0000ffff 00010000 00 04 00 00 c021",
	} {
		b := written(t, want)
		if got := msg.PutAsk(asks[i]); !bytes.Equal(got, b) {
			t.Errorf("PutAsk of %v: %x, not %x", asks[i], got, b)
		}
		if got, ok := msg.TakeAsk(b); !ok || !alike(got, asks[i]) {
			t.Errorf("TakeAsk of %x: %v %v, not %v", b, got, ok, asks[i])
		}
	}
}

func TestTellExamples(t *testing.T) {
	tells := someTells()
	for i, want := range []string{
		"01 01 00000000 00000001 00 00 00 00000000 00 fc0d",
		"01 03 40000000 40000000 07 06 02 40000000 18313233343536373839303132333435363738393031323334 59a4",
		"01 02 01020304 05060708 06 03 01 090a0b0c 0200ff f7c8",
		"02 02 00000003 00000000 00 01 00 00000000 00 db15",
		"02 01 00000000 00000000 00 06 00 00000000 00 2896",
		"03 02 00000000 00000000 00 00 00 00000000 00 2451",
		"03 03 40000000 00000000 00 00 00 00000000 00 4431",
	} {
		b := written(t, want)
		if got := msg.PutTell(tells[i]); !bytes.Equal(got, b) {
			t.Errorf("PutTell of %v: %x, not %x", tells[i], got, b)
		}
		if got, ok := msg.TakeTell(b); !ok || got != tells[i] {
			t.Errorf("TakeTell of %x: %v %v, not %v", b, got, ok, tells[i])
		}
	}
}

// written is the bytes that s writes out.
func written(t *testing.T, s string) []byte {
	t.Helper()
	b, err := hex.DecodeString(strings.ReplaceAll(s, " ", ""))
	if err != nil {
		t.Fatal(err)
	}
	return b
}

// mustTake holds what TakeAsk and TakeTell say of b against what stands at each place; it says whether b is either.
func mustTake(t *testing.T, b []byte) bool {
	t.Helper()
	wantAsk, isAsk := liftedAsk(b)
	a, ok := msg.TakeAsk(b)
	if ok != isAsk || !alike(a, wantAsk) {
		t.Fatalf("TakeAsk of %x: %v %v, not %v %v", b, a, ok, wantAsk, isAsk)
	}
	if ok && !bytes.Equal(msg.PutAsk(a), b) {
		t.Fatalf("TakeAsk of %x: %v, which is not put so", b, a)
	}
	wantTell, isTell := liftedTell(b)
	x, ok := msg.TakeTell(b)
	if ok != isTell || x != wantTell {
		t.Fatalf("TakeTell of %x: %v %v, not %v %v", b, x, ok, wantTell, isTell)
	}
	if ok && !bytes.Equal(msg.PutTell(x), b) {
		t.Fatalf("TakeTell of %x: %v, which is not put so", b, x)
	}
	return isAsk || isTell
}

// mustBeNone holds that b is nothing that is asked or told.
func mustBeNone(t *testing.T, what string, b []byte) {
	t.Helper()
	if a, ok := msg.TakeAsk(b); ok || !alike(a, api.Ask{}) || a.Writes != nil {
		t.Fatalf("%s: TakeAsk of %x: %v %v", what, b, a, ok)
	}
	if x, ok := msg.TakeTell(b); ok || x != (api.Tell{}) {
		t.Fatalf("%s: TakeTell of %x: %v %v", what, b, x, ok)
	}
}

// someBytes are someAsks and someTells, laid.
func someBytes() [][]byte {
	var l [][]byte
	for _, a := range someAsks() {
		l = append(l, laidAsk(a))
	}
	for _, x := range someTells() {
		l = append(l, laidTell(x))
	}
	return l
}

func TestWhatIsPutIsTaken(t *testing.T) {
	for _, b := range someBytes() {
		if !mustTake(t, b) {
			t.Fatalf("%x is none", b)
		}
	}
	throw := dice(1)
	for range 20000 {
		a, x := throw.ask(), throw.tell()
		if !mustMayAsk(t, a) || !mustMayTell(t, x) {
			t.Fatalf("%v or %v may not be", a, x)
		}
		if got, ok := msg.TakeAsk(msg.PutAsk(a)); !ok || !alike(got, a) || !msg.SameAsk(got, a) {
			t.Fatalf("%v: then %v %v", a, got, ok)
		}
		if got, ok := msg.TakeTell(msg.PutTell(x)); !ok || got != x {
			t.Fatalf("%v: then %v %v", x, got, ok)
		}
	}
}

// TestTakeOfWhatMayNotBe: what may not be asked or told, laid as if it might, with its right sum.
func TestTakeOfWhatMayNotBe(t *testing.T) {
	good, wrong := 0, 0
	take := func(b []byte) {
		if mustTake(t, b) {
			good++
		} else {
			wrong++
		}
	}
	for _, kind := range []int{0, 1, 2, 3, 4, 5, 6, 255} {
		for _, name := range names() {
			for _, file := range []int{0, 1, 6, 7, 255} {
				for _, mode := range []int{0, 1, 2, 3, 255} {
					for _, l := range lists() {
						take(laidAsk(api.Ask{Kind: kind, From: 2, Epoch: 7, Seq: 8, Name: name, File: file, Mode: mode, Writes: l}))
					}
				}
			}
		}
	}
	for _, x := range append(someTells(), api.Tell{To: 2, Epoch: 3}, api.Tell{To: 2, Seq: 3, File: 1}) {
		for kind := range 5 {
			x.Kind = kind
			for _, turn := range tellTurns() {
				for _, y := range turn(x) {
					take(laidTell(y))
				}
			}
		}
	}
	if good < 400 || wrong < 10000 {
		t.Errorf("%d good ones and %d wrong ones are few", good, wrong)
	}
}

// TestTakeOfEachByteTurnedAndSummed: each byte, to each other one, with the sum of that.
func TestTakeOfEachByteTurnedAndSummed(t *testing.T) {
	good, wrong := 0, 0
	for _, x := range someBytes() {
		for at := range len(x) - 2 {
			b := open(x)
			for by := range 256 {
				b[at] = byte(by)
				if mustTake(t, sealed(b)) {
					good++
				} else {
					wrong++
				}
			}
		}
	}
	if good < 10000 || wrong < 10000 {
		t.Errorf("%d good ones and %d wrong ones are few", good, wrong)
	}
}

// TestTakeOfMixed: some bytes turned, put in and left out, with the sum of that.
func TestTakeOfMixed(t *testing.T) {
	throw, good, wrong := dice(2), 0, 0
	for range 100000 {
		b := open(laidAsk(throw.ask()))
		if throw.below(3) == 0 {
			b = open(laidTell(throw.tell()))
		}
		for range 1 + throw.below(3) {
			at := throw.below(len(b))
			by := byte([]int{0, 1, 2, 3, 4, 5, 6, 7, 8, 23, 24, 25, '!', '~', throw.below(256)}[throw.below(15)])
			switch throw.below(4) {
			case 0:
				b = slices.Insert(b, at, by)
			case 1:
				if len(b) > 1 {
					b = slices.Delete(b, at, at+1)
				}
			default:
				b[at] = by
			}
		}
		if mustTake(t, sealed(b)) {
			good++
		} else {
			wrong++
		}
	}
	if good < 1000 || wrong < 1000 {
		t.Errorf("%d good ones and %d wrong ones are few", good, wrong)
	}
}

// TestTakeOfOtherLengths: what ends too soon, and what goes on, with a sum of that and with the one that it had.
func TestTakeOfOtherLengths(t *testing.T) {
	for _, b := range someBytes() {
		for size := range b {
			mustBeNone(t, fmt.Sprint("the first ", size), b[:size])
			mustBeNone(t, fmt.Sprint("the last ", size), b[len(b)-size:])
			mustTake(t, sealed(b[:size]))
			if size < len(b)-2 {
				mustBeNone(t, fmt.Sprint("the first ", size, " and a sum"), sealed(b[:size]))
				mustBeNone(t, fmt.Sprint("the first ", size, " and its sum"), append(b[:size:size], b[len(b)-2:]...))
			}
		}
		for by := range 256 {
			more := []byte{byte(by)}
			mustBeNone(t, "one behind", slices.Concat(b, more))
			mustBeNone(t, "one ahead", slices.Concat(more, b))
			mustBeNone(t, "one ahead of its sum", slices.Concat(open(b), more, b[len(b)-2:]))
			mustBeNone(t, "one and a sum", sealed(slices.Concat(open(b), more)))
			mustBeNone(t, "one and a sum behind its sum", sealed(slices.Concat(b, more)))
		}
		for _, x := range someBytes() {
			mustBeNone(t, "two", slices.Concat(b, x))
		}
		mustBeNone(t, "summed twice", sealed(b))
		mustBeNone(t, "without its sum", open(b))
	}
}

// TestTakeOfLengthsInIt: how long a name, a body, a write is said to be, and how many these, with more or fewer bytes behind.
func TestTakeOfLengthsInIt(t *testing.T) {
	name, body, count := 10, 17, 13
	for n := range 256 {
		for _, fill := range []string{"\x00", "\x01", "x"} {
			for _, behind := range []int{n - 1, n, n + 1, n + 3, n + 30, 3 * n} {
				for _, at := range []int{name, body, count} {
					for kind := 1; kind <= 5; kind++ {
						b := make([]byte, at+1)
						b[0], b[1], b[9], b[at] = byte(kind), 2, 8, byte(n)
						if at == count {
							b[11] = 1
						}
						b = append(b, strings.Repeat(fill, max(behind, 0))...)
						mustTake(t, sealed(b))
					}
				}
			}
		}
	}
}

// TestTakeOfShortOnes: all of up to two bytes, and these with the sum of them.
func TestTakeOfShortOnes(t *testing.T) {
	mustBeNone(t, "nothing", nil)
	mustBeNone(t, "the sum of nothing", sealed(nil))
	for i := range 256 {
		one := []byte{byte(i)}
		mustBeNone(t, "one", one)
		mustBeNone(t, "one and a sum", sealed(one))
		for j := range 256 {
			two := []byte{byte(i), byte(j)}
			mustBeNone(t, "two", two)
			mustBeNone(t, "two and a sum", sealed(two))
		}
	}
}

// TestTakeOfEachSum: of all sums one is right.
func TestTakeOfEachSum(t *testing.T) {
	for _, x := range [][]byte{laidAsk(someAsks()[7]), laidTell(someTells()[2])} {
		b, good := slices.Clone(x), 0
		for sum := range 1 << 16 {
			b[len(b)-2], b[len(b)-1] = byte(sum>>8), byte(sum)
			if bytes.Equal(b, x) {
				mustTake(t, b)
				good++
			} else {
				mustBeNone(t, "another sum", b)
			}
		}
		if good != 1 {
			t.Errorf("%d good ones", good)
		}
	}
}

// TestTakeOfNumbers: each number goes its way whole, each bit of it; one above MaxNum goes no way.
func TestTakeOfNumbers(t *testing.T) {
	for bit := range 32 {
		for _, n := range []int{1 << bit, 1<<bit - 1, 1<<bit + 1, most - 1<<bit, 1<<32 - 1<<bit} {
			if n < 0 || n >= 1<<32 {
				continue
			}
			a, x := someAsks()[7], someTells()[2]
			for _, b := range [][]byte{
				laidAsk(api.Ask{Kind: a.Kind, From: a.From, Epoch: n, Seq: a.Seq, File: a.File, Writes: a.Writes}),
				laidAsk(api.Ask{Kind: a.Kind, From: a.From, Epoch: a.Epoch, Seq: n, File: a.File, Writes: a.Writes}),
				laidTell(api.Tell{Kind: x.Kind, To: x.To, Epoch: n, Seq: x.Seq, Err: x.Err, File: x.File, Mode: x.Mode, Ver: x.Ver, Body: x.Body}),
				laidTell(api.Tell{Kind: x.Kind, To: x.To, Epoch: x.Epoch, Seq: n, Err: x.Err, File: x.File, Mode: x.Mode, Ver: x.Ver, Body: x.Body}),
				laidTell(api.Tell{Kind: x.Kind, To: x.To, Epoch: x.Epoch, Seq: x.Seq, Err: x.Err, File: x.File, Mode: x.Mode, Ver: n, Body: x.Body}),
				laidTell(api.Tell{Kind: api.TellEpoch, To: x.To, Epoch: n}),
			} {
				if good := mustTake(t, b); good && n > most || !good && n > 0 && n <= most {
					t.Errorf("%x of %d: %v", b, n, good)
				}
			}
		}
	}
}

// TestFarTooMuch: it ends, however much is handed in.
func TestFarTooMuch(t *testing.T) {
	long := strings.Repeat("n", 1<<26)
	many := make([]api.Write, 1<<22)
	for i := range many {
		many[i] = write(0, "x")
	}
	for _, a := range someAsks() {
		named, written, one := a, a, a
		named.Name, written.Writes, one.Writes = long, many, writes(write(0, long))
		for _, x := range []api.Ask{named, written, one} {
			if msg.MayAsk(x) || len(msg.PutAsk(x)) != 0 || !msg.SameAsk(x, x) || msg.SameAsk(x, a) {
				t.Errorf("of kind %d", x.Kind)
			}
		}
	}
	for _, x := range someTells() {
		x.Body = long
		if msg.MayTell(x) || len(msg.PutTell(x)) != 0 {
			t.Errorf("of kind %d", x.Kind)
		}
	}
	for _, b := range someBytes() {
		b = append(b, long...)
		if _, ok := msg.TakeAsk(b); ok {
			t.Errorf("TakeAsk of %x and much else", b[:20])
		}
		if _, ok := msg.TakeTell(b); ok {
			t.Errorf("TakeTell of %x and much else", b[:20])
		}
	}
	mustBeNone(t, "noughts", make([]byte, 1<<20))
}
