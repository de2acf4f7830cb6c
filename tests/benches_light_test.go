package tests

import (
	"strings"
	"testing"

	"loop.example/polarisedlight/impl"
)

// Promise 64.
func TestBenchMatRunsAndIsLossless(t *testing.T) {
	for _, s := range benchTexts() {
		m, ok := impl.BenchMat(s)
		want, wantOk := wantBenchMat(s)
		asTold(t, "BenchMat", s, m, ok, want, wantOk)
		if !ok {
			continue
		}
		run, runOk := impl.BenchRun(s, oneHand)
		if v, vOk := impl.MatApply(m, oneHand); vOk && runOk && v != run {
			t.Errorf("BenchMat of %q makes %v of 1 and i, and BenchRun %v", s, v, run)
		}
		if _, told := wantMatTimes(m, wantAdjoint(m)); told && !strings.ContainsAny(s, "fa") {
			losslessOf(t, "BenchMat", s, m)
		}
	}
}

// Promise 64: matrices told in numbers; light goes from the left to the right, so the last piece is the first one in the product.
func TestBenchMatNumbers(t *testing.T) {
	cases := []struct {
		s    string
		want impl.Mat
	}{
		{"", unitMat},
		{"r2:1", matOver([8]int{3, 0, -4, 0, 4, 0, 3, 0}, 5)},
		{"r2:-1", matOver([8]int{3, 0, 4, 0, -4, 0, 3, 0}, 5)},
		{"r0:1", matOver([8]int{-1, 0, 0, 0, 0, 0, -1, 0}, 1)},
		{"r2:1 r2:-1", unitMat},
		{"w1:0:0", unitMat},
		{"w1:0:1", matOver([8]int{1, 0, 0, 0, 0, 0, 0, 1}, 1)},
		{"w1:0:2", matOver([8]int{1, 0, 0, 0, 0, 0, -1, 0}, 1)},
		{"w1:0:3", matOver([8]int{1, 0, 0, 0, 0, 0, 0, -1}, 1)},
		{"w1:1:1", matOver([8]int{0, 1, 0, 0, 0, 0, 1, 0}, 1)},
		{"f1:0", matOver([8]int{1, 0, 0, 0, 0, 0, 0, 0}, 1)},
		{"f1:1", matOver([8]int{0, 0, 0, 0, 0, 0, 1, 0}, 1)},
		{"f2:1", matOver([8]int{9, 0, 12, 0, 12, 0, 16, 0}, 25)},
		{"f2:-1", matOver([8]int{9, 0, -12, 0, -12, 0, 16, 0}, 25)},
		{"a1:3", matOver([8]int{1, 0, 0, 0, 0, 0, 1, 0}, 3)},
		{"a2:4", matOver([8]int{1, 0, 0, 0, 0, 0, 1, 0}, 2)},
		{"a0:7", noMat},
		{"a5:5", unitMat},
		{"a99:100", matOver([8]int{99, 0, 0, 0, 0, 0, 99, 0}, 100)},
		{"f1:0 r2:1", matOver([8]int{3, 0, 0, 0, 4, 0, 0, 0}, 5)},
		{"r2:1 f1:0", matOver([8]int{3, 0, -4, 0, 0, 0, 0, 0}, 5)},
		{"w1:0:1 r1:1", matOver([8]int{0, 0, 0, -1, 1, 0, 0, 0}, 1)},
		{"r1:1 w1:0:1", matOver([8]int{0, 0, -1, 0, 0, 1, 0, 0}, 1)},
		{"w1:0:1 f2:1", matOver([8]int{9, 0, 0, 12, 12, 0, 0, 16}, 25)},
		{"f2:1 w1:0:1", matOver([8]int{9, 0, 12, 0, 0, 12, 0, 16}, 25)},
		{"f1:0 r2:1 a1:2", matOver([8]int{3, 0, 0, 0, 4, 0, 0, 0}, 10)},
		{"f1:0 r2:1 f1:0 r2:1", matOver([8]int{9, 0, 0, 0, 12, 0, 0, 0}, 25)},
		{rotatorsOf(99, -99, 97, -97, 93, -93), unitMat},
		{"a0:1 " + rotatorsOf(99, 97, 93), noMat},
		{rotatorsOf(99, 97) + " a0:1 r100:93", noMat},
		{"r1:0", unitMat},
		{"r1:0 r1:0 r1:0 r1:0 r1:0 r1:0 r1:0 r1:0 r1:0 r1:0 r1:0 r2:1", matOver([8]int{3, 0, -4, 0, 4, 0, 3, 0}, 5)},
	}
	for _, c := range cases {
		m, ok := impl.BenchMat(c.s)
		asTold(t, "BenchMat", c.s, m, ok, c.want, true)
	}
}

// Promise 64: benches with a fader, also with one that changes nothing or stands behind no light, and benches of which a product from the first piece on is none, though the product of all is not.
func TestBenchMatFails(t *testing.T) {
	for _, s := range []string{
		"d1:1", "d0:1", "d1:2", "d100:100", "r1:0 d1:1", "d1:1 r1:0", "a0:1 d1:1", "d0:1 a0:1", "f1:0 d1:2 f0:1", "r1:0 r1:0 r1:0 r1:0 r1:0 r1:0 r1:0 r1:0 r1:0 r1:0 r1:0 d1:1",
		rotatorsOf(99, 97, 93), rotatorsOf(99, 97, 93, -93, -97, -99), rotatorsOf(99, 97, 93) + " a0:1", "w100:99:1 w100:97:1 a0:1", "f100:99 f100:97 a0:1",
		"a1:99 a1:98 a1:97 a1:95 a1:89", "a1:100 a1:100 a1:100 a1:100 a1:100 a0:1",
	} {
		m, ok := impl.BenchMat(s)
		asTold(t, "BenchMat", s, m, ok, impl.Mat{}, false)
	}
}

// Promise 65.
func TestBenchTableIsThatOfTheMatrix(t *testing.T) {
	compared := 0
	for _, s := range benchTexts() {
		table, ok := impl.BenchTable(s)
		want, wantOk := wantBenchTable(s)
		asTold(t, "BenchTable", s, table, ok, want, wantOk)
		m, mOk := impl.BenchMat(s)
		if of, ofOk := impl.TableOf(m); ok && mOk && ofOk {
			compared++
			asTold(t, "TableOf of BenchMat", s, of, ofOk, table, ok)
		}
		if _, energyOk := impl.TableEnergy(table); energyOk && !impl.TableKeeps(table) {
			t.Errorf("BenchTable of %q makes energy", s)
		}
	}
	if compared < 50 {
		t.Errorf("just %d tables were compared", compared)
	}
}

// Promise 65: tables told in numbers.
func TestBenchTableNumbers(t *testing.T) {
	half, third, quarter := frac(1, 0, 2), frac(1, 0, 3), frac(1, 0, 4)
	cases := []struct {
		s    string
		want impl.Table
	}{
		{"", unitTable},
		{"d1:2", tableOnDiagonal(one, half, half, half)},
		{"d2:4", tableOnDiagonal(one, half, half, half)},
		{"d0:9", tableOnDiagonal(one, zero, zero, zero)},
		{"d9:9", unitTable},
		{"d1:2 d2:3", tableOnDiagonal(one, third, third, third)},
		{"a1:2", tableOnDiagonal(quarter, quarter, quarter, quarter)},
		{"a0:1", noTable},
		{"w1:0:1", tableOver([16]int{1, 0, 0, 0, 0, 1, 0, 0, 0, 0, 0, 1, 0, 0, -1, 0}, 1)},
		{"w1:0:3", tableOver([16]int{1, 0, 0, 0, 0, 1, 0, 0, 0, 0, 0, -1, 0, 0, 1, 0}, 1)},
		{"r2:1", tableOver([16]int{25, 0, 0, 0, 0, -7, -24, 0, 0, 24, -7, 0, 0, 0, 0, 25}, 25)},
		{"f1:0", tableOver([16]int{1, 1, 0, 0, 1, 1, 0, 0, 0, 0, 0, 0, 0, 0, 0, 0}, 2)},
		{"f1:0 d1:2", tableOver([16]int{2, 2, 0, 0, 1, 1, 0, 0, 0, 0, 0, 0, 0, 0, 0, 0}, 4)},
		{"d1:2 f1:0", tableOver([16]int{2, 1, 0, 0, 2, 1, 0, 0, 0, 0, 0, 0, 0, 0, 0, 0}, 4)},
		{"f1:0 r2:1", tableOver([16]int{25, 25, 0, 0, -7, -7, 0, 0, 24, 24, 0, 0, 0, 0, 0, 0}, 50)},
		{"r2:1 f1:0", tableOver([16]int{25, -7, -24, 0, 25, -7, -24, 0, 0, 0, 0, 0, 0, 0, 0, 0}, 50)},
		{"a0:1 " + rotatorsOf(99, 97), noTable},
		{"r10:9 r10:-9 r10:7 r10:-7 r10:3 r10:-3", unitTable},
	}
	for _, c := range cases {
		table, ok := impl.BenchTable(c.s)
		asTold(t, "BenchTable", c.s, table, ok, c.want, true)
	}
}

// Promise 65: benches of which the table of a piece, or a product from the first piece on, is none, though the product of all would be told.
func TestBenchTableFails(t *testing.T) {
	for _, s := range []string{
		"w100:99:1", "f100:99", "a0:1 w100:99:1", "w100:99:3 a0:1", "a0:1 f100:99", "w100:99:1 w100:99:3", "a0:1 d0:1 f100:99",
		rotatorsOf(99, -99), rotatorsOf(99, 97), rotatorsOf(99, 97, -97, -99), rotatorsOf(99, 97) + " a0:1", "r10:9 r10:7 r10:3 r10:-3 r10:-7 r10:-9", "d1:100 d1:100 d1:100 d1:100 d1:100 d0:1", "a1:100 a1:100 a1:100 a0:1",
	} {
		table, ok := impl.BenchTable(s)
		asTold(t, "BenchTable", s, table, ok, impl.Table{}, false)
	}
}

// Promise 66.
func TestBenchRunMakesNoPower(t *testing.T) {
	compared := 0
	for _, s := range benchTexts() {
		for _, v := range validVectors() {
			of := []any{s, v}
			w, ok := impl.BenchRun(s, v)
			want, wantOk := wantBenchRun(s, v)
			asTold(t, "BenchRun", of, w, ok, want, wantOk)
			before, beforeOk := impl.JonesPower(v)
			after, afterOk := impl.JonesPower(w)
			if order, _ := impl.FracCompare(after, before); ok && beforeOk && afterOk && order > 0 {
				t.Errorf("BenchRun of %v has the power %v, and the vector %v", of, after, before)
			}
			four, fourOk := impl.StokesOf(v)
			read, readOk := impl.BenchRead(s, four)
			if made, madeOk := impl.StokesOf(w); ok && fourOk && readOk && madeOk {
				compared++
				asTold(t, "BenchRead of the four numbers", of, read, readOk, made, madeOk)
			}
		}
	}
	if compared < 1000 {
		t.Errorf("just %d vectors were compared", compared)
	}
}

// Promise 66: vectors that are none, for the empty bench, for one that leaves no light, and for one with a fader.
func TestBenchRunOfNone(t *testing.T) {
	for _, v := range noneVectors() {
		for _, s := range []string{"", "r1:0", "a0:1", "a1:1", "w1:0:0", "f1:0", "f0:1", "d1:1", twelvePieces()} {
			w, ok := impl.BenchRun(s, v)
			asTold(t, "BenchRun", []any{s, v}, w, ok, impl.Jones{}, false)
		}
	}
}

// Promise 66: vectors told in numbers, also where BenchMat fails.
func TestBenchRunNumbers(t *testing.T) {
	const m = partMax
	cases := []struct {
		s       string
		v, want impl.Jones
	}{
		{"", oneHand, oneHand},
		{"", dark, dark},
		{"", jones(frac(m, -m, 1), frac(1, 0, m)), jones(frac(m, -m, 1), frac(1, 0, m))},
		{"r1:1", alongX, alongY},
		{"r1:-1", alongX, jones(zero, frac(-1, 0, 1))},
		{"r2:1", alongX, jones(frac(3, 0, 5), frac(4, 0, 5))},
		{"w1:0:1", oneHand, jones(one, frac(-1, 0, 1))},
		{"w1:1:1", oneHand, jones(frac(0, 1, 1), frac(0, 1, 1))},
		{"f1:0", oneHand, alongX},
		{"f1:0 f0:1", oneHand, alongX},
		{"f1:0 f1:1", oneHand, dark},
		{"f1:0 r2:1", oneHand, jones(frac(3, 0, 5), frac(4, 0, 5))},
		{"r2:1 f1:0", oneHand, jones(frac(3, -4, 5), zero)},
		{"a2:6", jones(frac(3, 3, 1), frac(m, 0, 1)), jones(frac(1, 1, 1), frac(m, 0, 3))},
		{"a1:1", jones(frac(m, 0, 1), frac(1, 0, m)), jones(frac(m, 0, 1), frac(1, 0, m))},
		{"a0:100", jones(frac(m, 0, 1), frac(1, 0, m)), dark},
		{"f1:0 a1:2 r1:1 w1:0:1", jones(frac(4, 2, 1), one), jones(zero, frac(-1, 2, 1))},
		{"a0:1 " + rotatorsOf(99, 97, 93), jones(frac(m, m, 1), frac(1, 0, m)), dark},
		{rotatorsOf(99, 97, 93), dark, dark},
		{rotatorsOf(99, -99, 97, -97, 93, -93), oneHand, oneHand},
		{"f1:1 f100:99 f100:97", alongX, dark},
	}
	for _, c := range cases {
		w, ok := impl.BenchRun(c.s, c.v)
		asTold(t, "BenchRun", []any{c.s, c.v}, w, ok, c.want, true)
	}
}

// Promise 66: benches with a fader, and vectors on the way that are none, though what the matrix of the bench makes, or no light at all, would be told.
func TestBenchRunFails(t *testing.T) {
	const m = partMax
	least := jones(frac(1, 0, m), zero)
	cases := []struct {
		s string
		v impl.Jones
	}{
		{"d1:1", alongX}, {"d1:1", dark}, {"d0:1", dark}, {"r1:0 d1:2", alongX}, {"d1:2 r1:0", alongX}, {"a0:1 d1:1", alongX}, {"d1:1 a0:1", dark},
		{rotatorsOf(99, 97, 93), alongX}, {rotatorsOf(99, 97, 93, -93, -97, -99), alongX}, {rotatorsOf(99, 97, 93) + " a0:1", alongX},
		{"a1:2", least}, {"a1:2 a0:1", least}, {"r2:1 r2:-1", least}, {"r2:1 r2:-1", jones(zero, frac(0, 1, m))}, {"w2:1:1 w2:1:3", least}, {"f2:1 a0:1", least},
		{"r3:1 r3:-1", jones(frac(m, 0, 1), frac(-m, 0, 1))},
	}
	for _, c := range cases {
		w, ok := impl.BenchRun(c.s, c.v)
		asTold(t, "BenchRun", []any{c.s, c.v}, w, ok, impl.Jones{}, false)
	}
}

// Promise 67.
func TestBenchReadMakesLightAndNoMore(t *testing.T) {
	compared := 0
	for i, s := range benchTexts() {
		for k, v := range validStokes() {
			// All pairs would take long; each bench still meets a third of all four numbers.
			if (i+k)%3 != 0 {
				continue
			}
			of := []any{s, v}
			w, ok := impl.BenchRead(s, v)
			want, wantOk := wantBenchRead(s, v)
			asTold(t, "BenchRead", of, w, ok, want, wantOk)
			if !ok || !impl.StokesLight(v) {
				continue
			}
			compared++
			if squaresTold(w) && !impl.StokesLight(w) {
				t.Errorf("BenchRead of %v is %v, which is no light", of, w)
			}
			if order, orderOk := impl.FracCompare(w.S[0], v.S[0]); !orderOk || order > 0 {
				t.Errorf("BenchRead of %v is %v, which is more", of, w)
			}
		}
	}
	if compared < 500 {
		t.Errorf("just %d lights were compared", compared)
	}
}

// Promise 67: four numbers that are none or not real, for the empty bench and for one that leaves no light.
func TestBenchReadOfNone(t *testing.T) {
	for _, v := range noneStokes() {
		for _, s := range []string{"", "r1:0", "a0:1", "d0:1", "d1:1", twelvePieces()} {
			w, ok := impl.BenchRead(s, v)
			asTold(t, "BenchRead", []any{s, v}, w, ok, impl.Stokes{}, false)
		}
	}
}

// Promise 67: four numbers told in numbers, also where BenchTable fails, and those that are no light.
func TestBenchReadNumbers(t *testing.T) {
	const m = partMax
	hand := stokesOver(2, 0, 0, -2, 1)
	cases := []struct {
		s       string
		v, want impl.Stokes
	}{
		{"", hand, hand},
		{"", noLight, noLight},
		{"", stokesOver(-m, m, 1, -m, 1), stokesOver(-m, m, 1, -m, 1)},
		{"d0:1", hand, stokesOver(2, 0, 0, 0, 1)},
		{"d0:1", stokesOver(7, 2, -3, 6, 1), stokesOver(7, 0, 0, 0, 1)},
		{"d1:3", stokesOver(7, 3, -3, 6, 1), stokesOver(7, 1, -1, 2, 1)},
		{"d2:6", stokesOver(7, 3, -3, 6, 1), stokesOver(7, 1, -1, 2, 1)},
		{"d1:1", stokesOver(7, 3, -3, 6, 1), stokesOver(7, 3, -3, 6, 1)},
		{"f1:0", hand, stokesOver(1, 1, 0, 0, 1)},
		{"f1:0 d1:2", stokesOver(2, 2, 0, 0, 1), stokesOver(2, 1, 0, 0, 1)},
		{"d1:2 f1:0", stokesOver(2, 2, 0, 0, 1), stokesOver(3, 3, 0, 0, 2)},
		{"a1:2", stokesOver(4, 0, 4, 0, 1), stokesOver(1, 0, 1, 0, 1)},
		{"a0:1", stokesOver(m, m, 1, -m, 1), noLight},
		{"r1:1", stokesOver(2, 2, 0, 0, 1), stokesOver(2, -2, 0, 0, 1)},
		{"r2:1", stokesOver(2, 2, 0, 0, 1), stokesOver(50, -14, 48, 0, 25)},
		{"w1:0:1", stokesOver(2, 0, 2, 0, 1), hand},
		{"f1:0 r2:1", stokesOver(2, 0, 0, 0, 1), stokesOver(25, -7, 24, 0, 25)},
		{"r2:1 f1:0", stokesOver(2, 2, 0, 0, 1), stokesOver(18, 18, 0, 0, 25)},
		{"d0:1", stokesOver(-3, 5, 1, 2, 1), stokesOver(-3, 0, 0, 0, 1)},
		{rotatorsOf(99, 97, 93), stokesOver(5, 0, 0, 4, 1), stokesOver(5, 0, 0, 4, 1)},
		{"r10:9 r10:-9 r10:7 r10:-7 r10:3 r10:-3", stokesOver(3, 1, 2, 2, 1), stokesOver(3, 1, 2, 2, 1)},
		{"a0:1 " + rotatorsOf(99, 97), stokesOver(3, 1, 2, 2, 1), noLight},
	}
	for _, c := range cases {
		w, ok := impl.BenchRead(c.s, c.v)
		asTold(t, "BenchRead", []any{c.s, c.v}, w, ok, c.want, true)
	}
}

// Promise 67: pieces without a told table, whatever they meet, and four numbers on the way that are none, though those that the bench makes would be told.
func TestBenchReadFails(t *testing.T) {
	pure := stokesOver(1, 1, 0, 0, 1)
	least := stokesOver(1, 1, 0, 0, partMax)
	cases := []struct {
		s string
		v impl.Stokes
	}{
		{"w100:99:1", pure}, {"w100:99:1", noLight}, {"a0:1 w100:99:1", noLight}, {"f100:99", noLight}, {"w100:99:1 a0:1", noLight},
		{rotatorsOf(99, -99), pure}, {rotatorsOf(99, 97), pure}, {rotatorsOf(99, 97) + " a0:1", pure}, {"r10:9 r10:7 r10:3 r10:-3 r10:-7 r10:-9", pure},
		{"a1:2", least}, {"a1:2 a0:1", least}, {"d1:2", least}, {"d1:2 d0:1", least}, {"r2:1 r2:-1", least}, {"f2:1 a0:1", least},
	}
	for _, c := range cases {
		w, ok := impl.BenchRead(c.s, c.v)
		asTold(t, "BenchRead", []any{c.s, c.v}, w, ok, impl.Stokes{}, false)
	}
}
