package tests

import (
	"math/big"
	"regexp"
	"strconv"
	"strings"

	"loop.example/polarisedlight/impl"
)

// part is a piece of a bench as a pattern reads it, without the program.
type part struct {
	letter string
	n      []int
}

var piecePattern = regexp.MustCompile(`\A([rwfad])((?:0|-?[1-9][0-9]*)(?::(?:0|-?[1-9][0-9]*))+)\z`)

// rotatorsOf returns the rotators of the direction 100 and q for each number q. Those of three different ones, one after the other, have fractions that are none.
func rotatorsOf(list ...int) string {
	var pieces []string
	for _, q := range list {
		pieces = append(pieces, "r100:"+strconv.Itoa(q))
	}
	return strings.Join(pieces, " ")
}

// elevenPieces and twelvePieces are benches with pieces of all letters; no two pieces are the same.
func elevenPieces() string {
	return "r1:0 r2:1 w1:0:1 a1:2 d1:3 w3:-1:2 f1:1 r-1:2 a3:4 d2:2 f0:-1"
}

func twelvePieces() string {
	return elevenPieces() + " a99:100"
}

// pieceTexts returns a piece of each letter with numbers within their ranges and at their ends.
func pieceTexts() []string {
	return []string{
		"r1:0", "r0:1", "r0:-1", "r-1:0", "r1:1", "r2:1", "r-2:1", "r2:-1", "r100:100", "r-100:-100", "r100:99", "r-100:97", "r3:7", "r10:20",
		"w1:0:0", "w1:0:1", "w1:0:2", "w1:0:3", "w0:1:1", "w0:-100:3", "w1:1:1", "w2:1:1", "w2:-1:2", "w-3:1:3", "w100:99:0", "w100:99:1", "w-100:100:2",
		"f1:0", "f0:1", "f1:1", "f2:1", "f-2:1", "f1:-1", "f100:99", "f-100:0", "f0:100",
		"a0:1", "a1:1", "a1:2", "a2:4", "a2:3", "a0:100", "a1:100", "a99:100", "a100:100", "a10:20",
		"d0:1", "d1:1", "d1:2", "d2:4", "d2:3", "d0:100", "d1:100", "d99:100", "d100:100",
	}
}

// benchTexts returns benches: the empty one, each piece alone, and many with more pieces, up to the greatest number.
func benchTexts() []string {
	list := append([]string{""}, pieceTexts()...)
	return append(list,
		"f1:0 r2:1", "r2:1 f1:0", "w1:0:1 f1:1", "w1:0:1 r1:1", "r1:1 w1:0:1", "f1:0 f1:1 f0:1", "f1:0 f0:1", "r2:1 r2:1 r2:1 r2:1",
		"f1:0 d1:2", "d1:2 f1:0", "d1:2 d2:3 d3:4", "a1:2 a2:3 a3:4", "a0:5 r2:1", "r2:1 a0:5", "w1:1:1 w1:1:1 w1:1:1 w1:1:1", "w2:1:1 w1:2:3", "w2:1:2 w3:1:2",
		"r1:1 r1:1", "f1:0 a1:2 w1:1:1 r3:1", "r3:1 w1:1:1 a1:2 f1:0", "d1:1 r2:1", "r2:1 d0:1 r2:-1", "d1:3 w1:1:3 a1:3", "a1:100 a1:100 a1:100", "a1:100 a1:100 a1:100 a1:100 a1:100",
		"d1:100 d1:100 d1:100 d1:100 d1:100 d1:100", rotatorsOf(99, 97), rotatorsOf(99, -99, 97, -97, 93, -93), rotatorsOf(99, 97, 93), rotatorsOf(99, 97, 93, -93, -97, -99),
		"a0:1 "+rotatorsOf(99, 97, 93), rotatorsOf(99, 97, 93)+" a0:1", "a0:1 w100:99:1", "f100:99 f100:97", "f1:0 f100:99 f0:1", "w100:99:1 w100:99:3", "f3:1 f3:1 f3:1",
		elevenPieces(), twelvePieces(), strings.TrimSpace(strings.Repeat("r1:0 ", 12)), strings.TrimSpace(strings.Repeat("w1:1:1 ", 12)), strings.TrimSpace(strings.Repeat("f2:1 ", 12)),
	)
}

// noneTexts returns texts that are no benches.
func noneTexts() []string {
	var list []string
	for _, s := range []string{"r2:1", "w1:0:1 f1:1", "a1:2 d1:2"} {
		list = append(list, " "+s, s+" ", "  "+s, s+"  ", " "+s+" ", s+"\n", "\n"+s, s+"\t", s+"\x00", "\x00"+s, "\ufeff"+s, s+"\xff", "\xff"+s, s+":", ":"+s, s+",", s+" r", s+" r1", s+" r1:")
	}
	list = append(list,
		" ", "  ", ":", "::", "-", "r", "w", "f", "a", "d", "x", "1", "0", "r:", "r:1", "r1", "r1:", "r::1", "r1::1", "r1:0:", "r1 :0", "r1: 0", "r 1:0", "1:0", ":1:0",
		"r1:0  f1:0", "r1:0   f1:0", "r1:0 \tf1:0", "r1:0\tf1:0", "r1:0\nf1:0", "r1:0\u00a0f1:0", "r1:0\u3000f1:0", "r1:0,f1:0", "r1:0f1:0", "r1:0 f1:0 ", " r1:0 f1:0", "r1:0 1:0", "r1:0 :1:0", "r1:0 f",
		"R1:0", "W1:0:1", "F1:0", "A1:2", "D1:2", "x1:0", "rr1:0", "rw1:0", "r1:r0", "r1:0r", "-r1:0", "r1;0", "r1/0", "r1.0", "r1:0.0", "r1e0:1", "r0x1:0", "r1_0:0", "r1:1_0", "\u0001r1:0",
		"r1:0:0", "r1:0:1", "r1:0:0:0", "w1:0", "w1", "w1:0:1:1", "f1:0:0", "f1", "a1:2:3", "a1", "d1:2:3", "d1", "a1:1:1", "d1:1:1",
		"r01:0", "r1:00", "r00:1", "r-01:0", "r1:-01", "r001:2", "w01:0:1", "w1:00:1", "w1:0:01", "w1:0:00", "f1:01", "f00:1", "a01:2", "a1:02", "a00:1", "d01:2", "d1:02", "d00:1", "r0100:1",
		"r-0:1", "r1:-0", "r-0:-1", "w-0:1:1", "w1:-0:1", "w1:0:-0", "f-0:1", "f1:-0", "a-0:1", "a-0:100", "d-0:1", "d-0:100", "r1:-00", "r-00:1",
		"r+1:0", "r1:+0", "r1:+1", "w1:0:+1", "f+1:1", "a+1:2", "a1:+2", "d+1:2", "d1:+2", "r--1:0", "r-+1:0", "r+-1:0", "r1-:0", "r1:1-", "r1:-", "r-:1", "r1:1-1", "r\u22121:1", "r\u20101:1",
		"r101:0", "r0:101", "r-101:0", "r0:-101", "r101:101", "r1000:1", "r1:1000", "r0:0", "f101:0", "f0:101", "f-101:1", "f1:-101", "f0:0", "w101:0:1", "w0:101:1", "w-101:0:1", "w0:-101:1", "w0:0:0", "w0:0:1", "w0:0:3",
		"w1:0:-1", "w1:0:4", "w1:0:5", "w1:0:7", "w1:0:-4", "w1:0:100", "w101:0:4",
		"a-1:1", "a2:1", "a-1:2", "a3:2", "a-1:100", "a101:100", "a0:0", "a1:0", "a0:101", "a1:101", "a100:101", "a101:101", "a102:101", "a0:-1", "a1:-1", "a-1:-1", "a-1:-2", "a-2:-1", "a-1:0", "a0:200",
		"d-1:1", "d2:1", "d-1:2", "d3:2", "d-1:100", "d101:100", "d0:0", "d1:0", "d0:101", "d1:101", "d100:101", "d101:101", "d102:101", "d0:-1", "d1:-1", "d-1:-1", "d-1:-2", "d-2:-1", "d-1:0", "d0:200",
		"r\u0661:0", "r1:\u0660", "r\uff11:0", "r1\uff1a0", "r1:\u00b2", "\u0433"+"1:0", "\uff521:0", "w1:0:\u0661", "a1:\u0662", "r1:0 \u00e9", "r1:0\u0301", "r1:0 \ufffd", "\ufffd1:0", "r\ufffd:0", "r1\ufffd:0", "r1:0\ufffd",
		"\x801:0", "r\x80:0", "r1:\x80", "r1:0\x80", "r1\xc3:0", "\xc0\xb2"+"1:0", "r1:0\xc0\xa0"+"f1:0", "r1\xc0\xba"+"0", "r1:\xc0\xb1", "\xed\xa0\x80", "r1:0\xe2\x82", "r1:0\xf0\x9f\x98 f1:0", "\xff\xfe", "\x00", "r\x001:0", "r1:\x000", "r1:0\x00f1:0",
		twelvePieces()+" r1:0", "r1:0 "+twelvePieces(), elevenPieces()+" r1:0 r1:0", strings.TrimSpace(strings.Repeat("r1:0 ", 13)), strings.TrimSpace(strings.Repeat("a1:2 ", 24)), strings.Repeat("r1:0 ", 12), strings.Repeat("r1:0 ", 20000),
		twelvePieces()+" ", " "+twelvePieces(), twelvePieces()+" x", strings.Repeat(" ", 12), strings.Repeat("r", 20000), "r"+strings.Repeat("1:", 20000)+"1",
	)
	return append(list, greatTexts()...)
}

// greatTexts returns texts with numbers that are too great for an int, some of which would be in their ranges without the bits that an int has not.
func greatTexts() []string {
	numbers := []string{
		"4294967296", "4294967297", "-4294967295", "2147483648", "9223372036854775807", "9223372036854775808", "-9223372036854775808", "-9223372036854775809", "18446744073709551615", "18446744073709551616", "18446744073709551617", "-18446744073709551615", "18446744073709551716",
		"36893488147419103233", "340282366920938463463374607431768211457", "100000000000000000000", "10000000000000000000001", "1" + strings.Repeat("0", 400), strings.Repeat("9", 5000), "0" + strings.Repeat("0", 400) + "1",
	}
	var list []string
	for _, n := range numbers {
		list = append(list, "r"+n+":1", "r1:"+n, "w"+n+":1:1", "w1:"+n+":1", "w1:1:"+n, "f"+n+":1", "f1:"+n, "a"+n+":1", "a1:"+n, "a"+n+":"+n, "d"+n+":1", "d1:"+n, "d"+n+":"+n)
	}
	return list
}

// withinParts reports whether the numbers of a piece are in their ranges.
func withinParts(p part) bool {
	switch p.letter {
	case "r", "f":
		return len(p.n) == 2 && isDirection(p.n[0], p.n[1])
	case "w":
		return len(p.n) == 3 && isDirection(p.n[0], p.n[1]) && 0 <= p.n[2] && p.n[2] <= 3
	default:
		return len(p.n) == 2 && 0 <= p.n[0] && p.n[0] <= p.n[1] && 1 <= p.n[1] && p.n[1] <= 100
	}
}

// wantParts returns the pieces of a text by a pattern, and whether it is a bench.
func wantParts(s string) ([]part, bool) {
	if s == "" {
		return nil, true
	}
	var parts []part
	for _, text := range strings.Split(s, " ") {
		found := piecePattern.FindStringSubmatch(text)
		if found == nil {
			return nil, false
		}
		p := part{letter: found[1]}
		for _, digits := range strings.Split(found[2], ":") {
			n, ok := new(big.Int).SetString(digits, 10)
			if !ok || n.CmpAbs(big.NewInt(1000)) > 0 {
				return nil, false
			}
			p.n = append(p.n, int(n.Int64()))
		}
		if !withinParts(p) {
			return nil, false
		}
		parts = append(parts, p)
	}
	return parts, len(parts) <= 12
}

// wantBench reports whether a text is a bench.
func wantBench(s string) bool {
	_, ok := wantParts(s)
	return ok
}

// wantBack returns a bench with its pieces in the opposite order.
func wantBack(s string) string {
	var back []string
	for _, text := range strings.Fields(s) {
		back = append([]string{text}, back...)
	}
	return strings.Join(back, " ")
}

// wantJoin returns the text of some benches one behind the other, and whether all of them and this are benches.
func wantJoin(benches ...string) (string, bool) {
	var texts []string
	for _, s := range benches {
		if !wantBench(s) {
			return "", false
		}
		texts = append(texts, strings.Fields(s)...)
	}
	if len(texts) > 12 {
		return "", false
	}
	return strings.Join(texts, " "), true
}

// wantPartMat returns the matrix of a piece, if it has one.
func wantPartMat(p part) (impl.Mat, bool) {
	switch p.letter {
	case "r":
		return wantRotator(p.n[0], p.n[1])
	case "w":
		return wantPlate(p.n[0], p.n[1], p.n[2])
	case "f":
		return wantFilter(p.n[0], p.n[1])
	case "a":
		return matOver([8]int{p.n[0], 0, 0, 0, 0, 0, p.n[0], 0}, p.n[1]), true
	default:
		return impl.Mat{}, false
	}
}

// wantPartTable returns the table of a piece, if it is told.
func wantPartTable(p part) (impl.Table, bool) {
	if p.letter == "d" {
		c, _ := numbersOver(p.n[0], 0, p.n[1]).frac()
		return tableOnDiagonal(one, c, c, c), true
	}
	m, ok := wantPartMat(p)
	if !ok {
		return impl.Table{}, false
	}
	return wantTableOf(m)
}

// wantThrough returns what the pieces of a text make of something, if it is a bench and each piece has something that makes it of what is ahead.
func wantThrough[T, E any](s string, begun T, of func(p part) (E, bool), by func(e E, made T) (T, bool)) (T, bool) {
	var none T
	parts, ok := wantParts(s)
	if !ok {
		return none, false
	}
	for _, p := range parts {
		e, eOk := of(p)
		if !eOk {
			return none, false
		}
		if begun, ok = by(e, begun); !ok {
			return none, false
		}
	}
	return begun, true
}

func wantBenchMat(s string) (impl.Mat, bool) {
	return wantThrough(s, unitMat, wantPartMat, wantMatTimes)
}

func wantBenchTable(s string) (impl.Table, bool) {
	return wantThrough(s, unitTable, wantPartTable, wantTableTimes)
}

// wantBenchRun is told for valid vectors.
func wantBenchRun(s string, v impl.Jones) (impl.Jones, bool) {
	return wantThrough(s, v, wantPartMat, wantMatApply)
}

// wantBenchRead is told for valid four numbers.
func wantBenchRead(s string, v impl.Stokes) (impl.Stokes, bool) {
	return wantThrough(s, v, wantPartTable, wantTableApply)
}
