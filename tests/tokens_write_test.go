package tests

import (
	"strconv"
	"strings"
	"testing"

	"loop.example/heddle/impl"
)

func checkTold(t *testing.T, x impl.Token, want string) {
	t.Helper()
	if got := impl.TokenText(x); got != want {
		t.Errorf("TokenText(%s) is %.80q, not %.80q", shortly(x), got, want)
	}
}

func TestTokenTextOfKinds(t *testing.T) {
	for kind := -100; kind <= 300; kind++ {
		if kind >= 1 && kind <= 4 {
			continue
		}
		checkTold(t, impl.Token{Kind: kind}, fixedKinds[kind])
		// Other fields are not looked at.
		checkTold(t, impl.Token{Kind: kind, From: 9, To: 3, Line: -1, Num: 77, Text: "@"}, fixedKinds[kind])
	}
	for _, kind := range []int{leastInt, leastInt + 1, mostInt, mostInt - 1, -mostInt, 1 << 32, 1<<32 + 10, 6, 79, 60, 32, 39, 51, 9, 8, 0} {
		checkTold(t, impl.Token{Kind: kind, Text: "a", Num: 1}, "")
	}
}

func TestTokenTextOfNames(t *testing.T) {
	most := strings.Repeat("a", 40)
	for _, name := range []string{"a", "_", "Z9", "and1", "iff", "i", "END", most, most[1:]} {
		checkTold(t, impl.Token{Kind: 1, Text: name, Num: 5, From: 3, To: 2, Line: 9}, name)
	}
	for _, text := range []string{
		"", " ", "a ", " a", "a b", "a\n", "1a", "1", "a.b", "a-b", "a--b", "--", "@", "a@", "é", "a\x00", "\"a\"", ".", "1.5", most + "a", most + " ", most + "-- b",
	} {
		checkTold(t, impl.Token{Kind: 1, Text: text, Num: 5}, "")
	}
	for kind, word := range fixedKinds {
		checkTold(t, impl.Token{Kind: 1, Text: word}, "")
		if kind >= 10 && kind <= 31 {
			checkTold(t, impl.Token{Kind: 1, Text: word + "_"}, word+"_")
		}
	}
}

func TestTokenTextOfFloats(t *testing.T) {
	most := "1." + strings.Repeat("5", 38)
	whole := strings.Repeat("9", 40)
	for _, text := range []string{"1.5", "0.0", "1e5", "1e+5", "0e-0", "9223372036854775808", most, most[1:][1:] + ".0", whole} {
		checkTold(t, impl.Token{Kind: 3, Text: text, Num: 5}, text)
	}
	for _, text := range []string{
		"", "1", "0", "9223372036854775807", "0x1", "0xffffffffffffffff", "1.", ".5", "1.5 ", " 1.5", "1.5\n", "1.5.5", "1.5--", "01.5", "00.5", "1e", "1e+", "1ex", "1e5x",
		"-1.5", "+1.5", "1.5e", "a", "inf", "nan", "1,5", "1.5e5.5", "\"1.5\"", "1E5", most + "5", whole + "9", "12",
	} {
		checkTold(t, impl.Token{Kind: 3, Text: text, Num: 5}, "")
	}
}

func TestTokenTextOfInts(t *testing.T) {
	for _, n := range edgeInts() {
		want := strconv.FormatInt(n, 10)
		if n < 0 {
			want = "0x" + strconv.FormatUint(uint64(n), 16)
			if len(want) != 18 {
				t.Fatal(want)
			}
		}
		checkTold(t, impl.Token{Kind: 2, Num: n, Text: "@"}, want)
		checkAlone(t, want, impl.Token{Kind: 2, Num: n})
	}
}

func TestTokenTextOfStrings(t *testing.T) {
	most := strings.Repeat("\n", 4000)
	for _, text := range []string{"", "a", "\"", "\\", "\n\t\r\x00\x7f\x80\xff", "é", most} {
		checkTold(t, impl.Token{Kind: 4, Text: text, Num: 5}, impl.Quote(text))
		checkAlone(t, impl.TokenText(impl.Token{Kind: 4, Text: text}), impl.Token{Kind: 4, Text: text})
	}
	checkTold(t, impl.Token{Kind: 4, Text: most + "a"}, "")
}

// TestToldAndScanned: what is told token by token, with blanks between, is scanned to the same Kinds, Nums and Texts again.
func TestToldAndScanned(t *testing.T) {
	told := 0
	for _, text := range someRows(20000) {
		s := impl.Scan(text)
		var b strings.Builder
		tooLong := false
		for _, x := range s.Tokens {
			b.WriteString(impl.TokenText(x) + " ")
			tooLong = tooLong || x.Kind != 4 && len(x.Text) > 40
		}
		if tooLong {
			continue
		}
		again := impl.Scan(b.String())
		if s.Ok && (!again.Ok || len(again.Tokens) != len(s.Tokens)) {
			t.Errorf("%q told %q: %v", text, b.String(), again)
			continue
		}
		for i, x := range s.Tokens {
			y := again.Tokens[i]
			if x.Kind != y.Kind || x.Num != y.Num || x.Text != y.Text || x.Line != y.Line {
				t.Errorf("%q told %q: %v, not %v", text, b.String(), y, x)
			}
			told++
		}
	}
	if told < 10000 {
		t.Error("only so many tokens: ", told)
	}
}

func TestQuoteEveryByte(t *testing.T) {
	all := ""
	for b := range 256 {
		want := string([]byte{byte(b)})
		switch {
		case b == 10:
			want = `\n`
		case b == 9:
			want = `\t`
		case b == 34 || b == 92:
			want = `\` + want
		case b < 16:
			want = `\x0` + strconv.FormatInt(int64(b), 16)
		case b < 32 || b > 126:
			want = `\x` + strconv.FormatInt(int64(b), 16)
		}
		if got := impl.Quote(string([]byte{byte(b)})); got != `"`+want+`"` {
			t.Errorf("Quote of byte %d is %s, not %s", b, got, want)
		}
		all += want
	}
	bytes := make([]byte, 256)
	for b := range bytes {
		bytes[b] = byte(b)
	}
	if got := impl.Quote(string(bytes)); got != `"`+all+`"` {
		t.Error(got)
	}
	checkAlone(t, impl.Quote(string(bytes)), impl.Token{Kind: 4, Text: string(bytes)})
}

func TestQuoteLength(t *testing.T) {
	for _, one := range []string{"a", "\n", "\xff", "\""} {
		most := strings.Repeat(one, 4000)
		if got, want := impl.Quote(most), (len(impl.Quote(one))-2)*4000+2; len(got) != want {
			t.Errorf("4000 of %q: %d bytes, not %d", one, len(got), want)
		}
		if got := impl.Quote(most + "a"); got != "" {
			t.Errorf("4001 of %q: %d bytes", one, len(got))
		}
	}
	if got := impl.Quote(""); got != `""` {
		t.Error(got)
	}
	if got := impl.Quote(strings.Repeat("é", 2000) + "a"); got != "" {
		t.Error("bytes are counted, not letters")
	}
}
