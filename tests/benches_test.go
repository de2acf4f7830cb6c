package tests

import (
	"math"
	"strconv"
	"strings"
	"testing"

	"loop.example/polarisedlight/impl"
)

// piecesAsWanted fails the test unless a text is told to be a bench, with its pieces, just if it is one.
func piecesAsWanted(t *testing.T, s string) {
	t.Helper()
	parts, ok := wantParts(s)
	want := len(parts)
	if !ok {
		want = -1
	}
	if valid, pieces := impl.BenchValid(s), impl.BenchPieces(s); valid != ok || pieces != want {
		t.Errorf("BenchValid and BenchPieces of %.60q are %v and %d, not %v and %d", s, valid, pieces, ok, want)
	}
}

// Promises 62 and 63.
func TestBenchValidJoinedWithTheEmptyOne(t *testing.T) {
	for _, s := range benchTexts() {
		if !wantBench(s) {
			t.Fatalf("%q is tested as a bench and is none", s)
		}
		piecesAsWanted(t, s)
		ahead, ok := impl.BenchJoin("", s)
		asTold(t, "BenchJoin with the empty bench ahead", s, ahead, ok, s, true)
		behind, ok := impl.BenchJoin(s, "")
		asTold(t, "BenchJoin with the empty bench behind", s, behind, ok, s, true)
	}
}

// Promises 62 and 63: texts that are no benches are told so by each function.
func TestNoBench(t *testing.T) {
	for _, s := range noneTexts() {
		if wantBench(s) {
			t.Fatalf("%q is tested as no bench and is one", s)
		}
		short := strconv.Quote(s[:min(len(s), 60)])
		piecesAsWanted(t, s)
		for _, other := range []string{"", "r1:0", s} {
			joined, ok := impl.BenchJoin(s, other)
			asTold(t, "BenchJoin", short, joined, ok, "", false)
			joined, ok = impl.BenchJoin(other, s)
			asTold(t, "behind, BenchJoin", short, joined, ok, "", false)
		}
		back, ok := impl.BenchBack(s)
		asTold(t, "BenchBack", short, back, ok, "", false)
		turned, ok := impl.BenchTurned(s, 1, 1)
		asTold(t, "BenchTurned", short, turned, ok, "", false)
		m, ok := impl.BenchMat(s)
		asTold(t, "BenchMat", short, m, ok, impl.Mat{}, false)
		table, ok := impl.BenchTable(s)
		asTold(t, "BenchTable", short, table, ok, impl.Table{}, false)
		v, ok := impl.BenchRun(s, dark)
		asTold(t, "BenchRun", short, v, ok, impl.Jones{}, false)
		four, ok := impl.BenchRead(s, noLight)
		asTold(t, "BenchRead", short, four, ok, impl.Stokes{}, false)
	}
}

// Promises 62 and 63: the empty bench.
func TestEmptyBench(t *testing.T) {
	if !impl.BenchValid("") || impl.BenchPieces("") != 0 {
		t.Errorf("BenchValid and BenchPieces of the empty text are %v and %d", impl.BenchValid(""), impl.BenchPieces(""))
	}
	joined, ok := impl.BenchJoin("", "")
	asTold(t, "BenchJoin", "two empty benches", joined, ok, "", true)
	back, ok := impl.BenchBack("")
	asTold(t, "BenchBack", "the empty bench", back, ok, "", true)
	turned, ok := impl.BenchTurned("", 2, -3)
	asTold(t, "BenchTurned", "the empty bench", turned, ok, "r2:3 r2:-3", true)
	m, ok := impl.BenchMat("")
	asTold(t, "BenchMat", "the empty bench", m, ok, unitMat, true)
	table, ok := impl.BenchTable("")
	asTold(t, "BenchTable", "the empty bench", table, ok, unitTable, true)
}

// Promise 62: texts one byte away from benches.
func TestBenchValidOneByteAway(t *testing.T) {
	const bytes = "rwfadxR0123459-+: ,\t\n\x00\x80\xc3\xff"
	for _, s := range []string{
		"", "r1:0", "r-1:2", "w1:0:3", "f10:-1", "a0:1", "a9:10", "d1:2", "d99:100", "r100:-100", "r1:0 f0:1", "w-10:9:0 a1:1 d0:1",
		elevenPieces(), twelvePieces(),
	} {
		for i := range len(s) + 1 {
			for _, b := range []byte(bytes) {
				piecesAsWanted(t, s[:i]+string([]byte{b})+s[i:])
				if i < len(s) {
					piecesAsWanted(t, s[:i]+string([]byte{b})+s[i+1:])
				}
			}
			if i < len(s) {
				piecesAsWanted(t, s[:i]+s[i+1:])
				piecesAsWanted(t, s[:i])
				piecesAsWanted(t, s[i:])
			}
		}
	}
}

// Promise 62: all numbers in their ranges, and around them.
func TestBenchValidRanges(t *testing.T) {
	for p := -103; p <= 103; p++ {
		for q := -103; q <= 103; q++ {
			numbers := strconv.Itoa(p) + ":" + strconv.Itoa(q)
			want := isDirection(p, q)
			if impl.BenchValid("r"+numbers) != want || impl.BenchValid("f"+numbers) != want || impl.BenchValid("w"+numbers+":1") != want {
				t.Errorf("BenchValid of pieces of the direction %s is not %v", numbers, want)
			}
			want = 0 <= p && p <= q && 1 <= q && q <= 100
			if impl.BenchValid("a"+numbers) != want || impl.BenchValid("d"+numbers) != want {
				t.Errorf("BenchValid of the absorber and the fader of %s is not %v", numbers, want)
			}
		}
	}
	for _, k := range append(noPhases(), 0, 1, 2, 3) {
		if s, want := "w2:1:"+strconv.Itoa(k), 0 <= k && k <= 3; impl.BenchValid(s) != want {
			t.Errorf("BenchValid of %q is not %v", s, want)
		}
	}
	for _, s := range noShares() {
		numbers := strconv.Itoa(s[0]) + ":" + strconv.Itoa(s[1])
		if impl.BenchValid("a"+numbers) || impl.BenchValid("d"+numbers) {
			t.Errorf("BenchValid of the absorber or the fader of %s holds", numbers)
		}
	}
	for _, d := range noDirections() {
		numbers := strconv.Itoa(d[0]) + ":" + strconv.Itoa(d[1])
		if impl.BenchValid("r"+numbers) || impl.BenchValid("f"+numbers) || impl.BenchValid("w"+numbers+":1") {
			t.Errorf("BenchValid of a piece of the direction %s holds", numbers)
		}
	}
}

// Promise 62: each character, in each place of a bench, alone and as an end of it.
func TestBenchValidEachCharacter(t *testing.T) {
	for c := range rune(0x3100) {
		for _, s := range []string{string(c), string(c) + "1:0", "r" + string(c) + ":1", "r1:" + string(c), "r1" + string(c) + "1", "r1:1" + string(c), "r1:1" + string(c) + "f1:1", string(c) + "r1:1", "r" + string(c) + "1:1"} {
			piecesAsWanted(t, s)
		}
	}
}

// Promise 63.
func TestBenchPiecesWithOneMore(t *testing.T) {
	for _, s := range benchTexts() {
		pieces := impl.BenchPieces(s)
		if pieces < 0 || pieces > impl.PiecesMax {
			t.Errorf("BenchPieces of %q is %d", s, pieces)
		}
		for _, more := range []string{s + " r1:0", "r2:1 " + s} {
			if s == "" {
				more = strings.TrimSpace(more)
			}
			want := pieces + 1
			if pieces == 12 {
				want = -1
			}
			if got := impl.BenchPieces(more); got != want {
				t.Errorf("BenchPieces of %q is %d, not %d", more, got, want)
			}
		}
	}
	if impl.PiecesMax != 12 {
		t.Errorf("PiecesMax is %d", impl.PiecesMax)
	}
}

// Promise 63: pieces are counted up to the greatest number, and beyond there is no bench.
func TestBenchPiecesNumbers(t *testing.T) {
	for _, piece := range pieceTexts() {
		for n := 1; n <= 14; n++ {
			s, want := strings.Repeat(piece+" ", n), n
			if n > 12 {
				want = -1
			}
			if got := impl.BenchPieces(s[:len(s)-1]); got != want {
				t.Errorf("BenchPieces of %d times %q is %d, not %d", n, piece, got, want)
			}
			if got := impl.BenchPieces(s); got != -1 {
				t.Errorf("BenchPieces of %d times %q and a space is %d", n, piece, got)
			}
		}
	}
}

// Promise 68.
func TestBenchBackLeadsBack(t *testing.T) {
	for _, s := range benchTexts() {
		back, ok := impl.BenchBack(s)
		asTold(t, "BenchBack", s, back, ok, wantBack(s), true)
		again, againOk := impl.BenchBack(back)
		asTold(t, "twice, BenchBack", s, again, againOk, s, true)
		if impl.BenchPieces(back) != impl.BenchPieces(s) {
			t.Errorf("BenchBack of %q has %d pieces", s, impl.BenchPieces(back))
		}
	}
}

// Promise 68: benches with told pieces; numbers are not in lowest terms.
func TestBenchBackTexts(t *testing.T) {
	for _, c := range [][2]string{
		{"r1:0", "r1:0"},
		{"a2:4 d50:100", "d50:100 a2:4"},
		{"w1:0:1 f1:1 r-2:-4", "r-2:-4 f1:1 w1:0:1"},
		{"f1:1 f1:1 r1:0", "r1:0 f1:1 f1:1"},
		{elevenPieces(), "f0:-1 d2:2 a3:4 r-1:2 f1:1 w3:-1:2 d1:3 a1:2 w1:0:1 r2:1 r1:0"},
		{twelvePieces(), "a99:100 f0:-1 d2:2 a3:4 r-1:2 f1:1 w3:-1:2 d1:3 a1:2 w1:0:1 r2:1 r1:0"},
	} {
		back, ok := impl.BenchBack(c[0])
		asTold(t, "BenchBack", c[0], back, ok, c[1], true)
	}
}

// Promise 69.
func TestBenchJoinRunsOneAfterTheOther(t *testing.T) {
	between, compared := jones(one, one), 0
	for _, a := range benchTexts() {
		for _, b := range benchTexts() {
			pair := [2]string{a, b}
			joined, ok := impl.BenchJoin(a, b)
			want, wantOk := wantJoin(a, b)
			asTold(t, "BenchJoin", pair, joined, ok, want, wantOk)
			if !ok {
				continue
			}
			if impl.BenchPieces(joined) != impl.BenchPieces(a)+impl.BenchPieces(b) {
				t.Errorf("BenchJoin of %q has %d pieces", pair, impl.BenchPieces(joined))
			}
			first, firstOk := impl.BenchRun(a, between)
			second, secondOk := impl.BenchRun(b, first)
			made, madeOk := impl.BenchRun(joined, between)
			if madeOk != (firstOk && secondOk) || made != second {
				t.Errorf("BenchJoin of %q makes %v, %v of 1 and 1, and one after the other %v, %v", pair, made, madeOk, second, secondOk)
			}
			if madeOk {
				compared++
			}
		}
	}
	if compared < 1000 {
		t.Errorf("just %d benches were compared", compared)
	}
}

// Promise 69: benches that are too long once they are joined, and texts that are benches just together.
func TestBenchJoinTexts(t *testing.T) {
	repeated := func(n int) string { return strings.TrimSpace(strings.Repeat("a1:2 ", n)) }
	for n := range 15 {
		for m := range 15 {
			want, wantOk := repeated(n+m), n+m <= 12
			if !wantOk {
				want = ""
			}
			joined, ok := impl.BenchJoin(repeated(n), repeated(m))
			asTold(t, "BenchJoin of as many pieces", [2]int{n, m}, joined, ok, want, wantOk)
		}
	}
	for _, c := range [][3]string{
		{"r2:1", "f1:0", "r2:1 f1:0"},
		{"f1:0", "r2:1", "f1:0 r2:1"},
		{"a2:4 d0:1", "w1:0:3 r-1:0", "a2:4 d0:1 w1:0:3 r-1:0"},
		{elevenPieces(), "r2:1", elevenPieces() + " r2:1"},
		{"r2:1", elevenPieces(), "r2:1 " + elevenPieces()},
		{elevenPieces(), "r2:1 r2:1", ""},
		{twelvePieces(), "r2:1", ""},
		{"r2:1", twelvePieces(), ""},
		{twelvePieces(), twelvePieces(), ""},
		{"r1:0 ", "f1:0", ""},
		{"r1:0", " f1:0", ""},
		{"r1:", "0", ""},
		{"r", "1:0", ""},
		{"", " ", ""},
		{" ", "", ""},
		{" ", " ", ""},
		{"r1:0", "\x00", ""},
	} {
		joined, ok := impl.BenchJoin(c[0], c[1])
		asTold(t, "BenchJoin", c[:2], joined, ok, c[2], c[2] != "")
	}
}

// Promise 70.
func TestBenchTurnedAndBack(t *testing.T) {
	compared := 0
	for _, s := range benchTexts() {
		for _, d := range append([][2]int{{1, 0}, {0, 1}, {1, 1}, {2, 1}, {-2, 1}, {2, -1}, {-1, -3}, {100, -100}, {100, 99}, {0, -7}, {-7, 0}}, noDirections()...) {
			of := []any{s, d}
			p, q := strconv.Itoa(d[0]), strconv.Itoa(d[1])
			want, wantOk := wantJoin("r"+p+":"+strings.TrimPrefix("-"+q, "--"), s, "r"+p+":"+q)
			if q == "0" {
				want, wantOk = wantJoin("r"+p+":0", s, "r"+p+":0")
			}
			turned, ok := impl.BenchTurned(s, d[0], d[1])
			asTold(t, "BenchTurned", of, turned, ok, want, wantOk)
			if !ok {
				continue
			}
			if impl.BenchPieces(turned) != impl.BenchPieces(s)+2 {
				t.Errorf("BenchTurned of %v has %d pieces", of, impl.BenchPieces(turned))
			}
			again, againOk := impl.BenchTurned(turned, d[0], -d[1])
			if againOk != (impl.BenchPieces(s) <= 8) {
				t.Errorf("BenchTurned again of %v is told %v", of, againOk)
			}
			m, mOk := impl.BenchMat(s)
			other, otherOk := impl.BenchMat(again)
			if mOk && againOk && otherOk {
				compared++
				asTold(t, "turned again by p and -q, BenchMat", of, other, otherOk, m, mOk)
			}
		}
	}
	if compared < 500 {
		t.Errorf("just %d benches were compared", compared)
	}
}

// Promise 70: benches turned by told directions, by none, and benches that are too long once they are turned.
func TestBenchTurnedTexts(t *testing.T) {
	ten := strings.TrimSuffix(elevenPieces(), " f0:-1")
	cases := []struct {
		s    string
		p, q int
		want string
	}{
		{"f1:0", 1, 1, "r1:-1 f1:0 r1:1"},
		{"f1:0", 1, -1, "r1:1 f1:0 r1:-1"},
		{"f1:0", -1, 1, "r-1:-1 f1:0 r-1:1"},
		{"f1:0", 5, 0, "r5:0 f1:0 r5:0"},
		{"f1:0", 0, 5, "r0:-5 f1:0 r0:5"},
		{"f1:0", 0, -5, "r0:5 f1:0 r0:-5"},
		{"d2:4 w1:0:3", 100, -100, "r100:100 d2:4 w1:0:3 r100:-100"},
		{"d2:4 w1:0:3", -100, 100, "r-100:-100 d2:4 w1:0:3 r-100:100"},
		{"", 4, 2, "r4:-2 r4:2"},
		{ten, 2, 1, "r2:-1 " + ten + " r2:1"},
		{elevenPieces(), 2, 1, ""},
		{twelvePieces(), 2, 1, ""},
		{"f1:0", 0, 0, ""},
		{"f1:0", 101, 0, ""},
		{"f1:0", 1, 101, ""},
		{"f1:0", 1, -101, ""},
		{"f1:0", -101, 1, ""},
		{"", 0, 0, ""},
		{"", 1, math.MinInt, ""},
		{"", math.MinInt, 1, ""},
		{"", 1, math.MaxInt, ""},
		{"", 1 << 32, 1, ""},
		{" ", 1, 1, ""},
		{"r1:0 ", 1, 1, ""},
	}
	for _, c := range cases {
		turned, ok := impl.BenchTurned(c.s, c.p, c.q)
		asTold(t, "BenchTurned", []any{c.s, c.p, c.q}, turned, ok, c.want, c.want != "")
	}
}
