package tests

import (
	"strings"
	"testing"

	"loop.example/heddle/impl"
)

func TestIntTokens(t *testing.T) {
	for text, num := range map[string]int64{
		"0": 0, "1": 1, "9": 9, "10": 10, "1234567890": 1234567890, "9223372036854775807": mostInt,
		"0x0": 0, "0x1": 1, "0xf": 15, "0x000000000000000f": 15, "0x7fffffffffffffff": mostInt,
		"0x8000000000000000": leastInt, "0xffffffffffffffff": -1, "0xfffffffffffffffe": -2, "0x0123456789abcdef": 0x0123456789abcdef,
	} {
		checkAlone(t, text, impl.Token{Kind: 2, Num: num})
	}
	for text, want := range map[string][]int{
		"00": {2, 2}, "01": {2, 2}, "000": {2, 2, 2}, "0 0": {2, 2}, "00x1": {2, 2}, "10x1": {2, 1}, "0X1": {2, 1}, "0a": {2, 1}, "12abc": {2, 1},
		"12if": {2, 20}, "1_0": {2, 1}, "0x1g": {2, 1}, "0x1F": {2, 1}, "0x1x": {2, 1}, "0x1.5": {2, 48, 2}, "0x1p5": {2, 1}, "0x1e5": {2}, "0x1e+5": {2, 61, 2},
		"0x1111111111111111g": {2, 1}, "0x1111111111111111.": {2, 48}, "0x0x0": {2, 1}, "-1": {62, 2}, "+1": {61, 2}, "1E5": {2, 1}, "1\n2": {2, 7, 2},
	} {
		checkKinds(t, text, want...)
	}
}

func TestHexFaults(t *testing.T) {
	for text, at := range map[string]int{
		"0x": 2, "0xg": 2, "0xF": 2, "0x ": 2, "0x\n": 2, "0x.": 2, "0xx": 2, "0x\"": 2, "a 0x": 4, "a 0x-": 4, "00x": 3,
		"0x00000000000000000": 18, "0xfffffffffffffffff": 18, "0x1111111111111111a": 18, "0x11111111111111111111": 18,
		"\n0x11111111111111111": 19, "--\n0xG": 5,
	} {
		checkFault(t, text, at)
	}
}

func TestFloatTokens(t *testing.T) {
	for _, text := range []string{
		"0.0", "0.5", "1.5", "12.50", "1e5", "1e+5", "1e-5", "0e0", "1e00", "1.5e3", "1.5e+3", "1.5e-003", "0.0e0", "9223372036854775807.0",
		"9223372036854775808", "9223372036854775810", "10000000000000000000", "99999999999999999999999", strings.Repeat("1", 1201), "1e999999999999999999999",
	} {
		checkAlone(t, text, impl.Token{Kind: 3, Text: text})
	}
	for text, want := range map[string][]int{
		"1.": {2, 48}, "1.x": {2, 48, 1}, "1.e5": {2, 48, 1}, "1. 5": {2, 48, 2}, "1..2": {2, 72, 2}, "1...": {2, 49}, "1....5": {2, 49, 48, 2}, "1...5": {2, 49, 2},
		".5": {48, 2}, "..5": {72, 2}, "1.5.": {3, 48}, "1.5.5": {3, 48, 2}, "1.5..5": {3, 72, 2}, "1.5...": {3, 49}, "1e5.5": {3, 48, 2}, "1e5e5": {3, 1},
		"1e5x": {3, 1}, "1.5x": {3, 1}, "00.5": {2, 3}, "01.5": {2, 3}, "00e5": {2, 3}, "1.50": {3}, "1.0x5": {3, 1}, "9223372036854775808.x": {3, 48, 1},
		"9223372036854775808..": {3, 72}, "1e5-5": {3, 62, 2}, "1e5+5": {3, 61, 2}, "1-5": {2, 62, 2}, "1e5--5": {3}, "1.5E5": {3, 1}, "a.1.5": {1, 48, 3},
	} {
		checkKinds(t, text, want...)
	}
}

func TestFloatFaults(t *testing.T) {
	for text, at := range map[string]int{
		"1e": 2, "1e+": 3, "1e-": 3, "1ex": 2, "1e+x": 3, "1e-x": 3, "1e++5": 3, "1e--5": 3, "1e 5": 2, "1e\n": 2, "1e.5": 2, "1ee5": 2, "0e": 2, "0ex": 2, "12else": 3,
		"1elif": 2, "1.5e": 4, "1.5ex": 4, "1.5e+": 5, "1.5e+ 1": 5, "1e@": 2, "9223372036854775808e": 20, "9223372036854775808ex": 20, "\n 1ex": 4, "1e-\"": 3,
	} {
		checkFault(t, text, at)
	}
}

func TestStringTokens(t *testing.T) {
	for text, told := range map[string]string{
		`""`: "", `"a"`: "a", `" "`: " ", `"\n"`: "\n", `"\t"`: "\t", `"\""`: "\"", `"\\"`: "\\", `"\x00"`: "\x00", `"\x41"`: "A", `"\xff"`: "\xff", `"\xa0"`: "\xa0",
		`"\\n"`: "\\n", `"\x410"`: "A0", `"\\x41"`: "\\x41", `"a\nb\tc\"d\\e\x66g"`: "a\nb\tc\"d\\efg", "\"\r\"": "\r", "\"\t\"": "\t", "\"\x00\"": "\x00",
		"\"\x80\xff\"": "\x80\xff", "\"é\"": "é", "\"\x7f\"": "\x7f", `"--;'@"`: "--;'@",
	} {
		checkAlone(t, text, impl.Token{Kind: 4, Text: told})
	}
	for text, want := range map[string][]int{`""""`: {4, 4}, `"a"b"c"`: {4, 1, 4}, `"\\""a"`: {4, 4}, `a"b"`: {1, 4}, `1"b"`: {2, 4}, "\"a\"\n\"b\"": {4, 7, 4}} {
		checkKinds(t, text, want...)
	}
	long := strings.Repeat("a", 4001)
	checkAlone(t, "\""+long+"\"", impl.Token{Kind: 4, Text: long})
}

// TestEveryByteInString: any byte stands for itself but for three.
func TestEveryByteInString(t *testing.T) {
	for b := range 256 {
		one := string([]byte{byte(b)})
		switch one {
		case "\"":
			checkFault(t, "\"\"\"", 3)
		case "\\":
			checkFault(t, "\"\\\"", 3)
		case "\n":
			checkFault(t, "\"\n\"", 1)
		default:
			checkAlone(t, "\""+one+"\"", impl.Token{Kind: 4, Text: one})
		}
	}
}

func TestStringFaults(t *testing.T) {
	for text, at := range map[string]int{
		`"`: 1, `"a`: 2, `"a\`: 3, `"a\n`: 4, `"a\x`: 4, `"a\x4`: 5, `"a\x41`: 6, `"a\"`: 4, `"\\\"`: 5,
		"\"a\nb\"": 2, "\"\n": 1, "\"a\\\n\"": 3, "\"a\\x\n\"": 4, "\"a\\x4\n\"": 5,
		`"\x4g"`: 4, `"\xg4"`: 3, `"\x4G"`: 4, `"\x4A"`: 4, `"\xA4"`: 3, `"\x4"`: 4, `"\x"`: 3, `"\x "`: 3,
		`"\q"`: 2, `"\N"`: 2, `"\ "`: 2, `"\0"`: 2, `"\'"`: 2, "\"\\\x80\"": 2, "\"\\\r\"": 2, "a \"b": 4, "\n\"b": 3, "-- r\n\"b\\q": 8, "\"a\"\"": 4,
	} {
		checkFault(t, text, at)
	}
}

// TestBytesThatStand: each byte alone, and behind and ahead of others.
func TestBytesThatStand(t *testing.T) {
	starts := "abcdefghijklmnopqrstuvwxyzABCDEFGHIJKLMNOPQRSTUVWXYZ_0123456789(){}[],=.#+-*/%&|~<>;\n \t\r"
	for b := range 256 {
		one := string([]byte{byte(b)})
		if strings.Contains(starts, one) {
			if !impl.Scan(one).Ok {
				t.Errorf("%q is refused", one)
			}
			continue
		}
		if one == "\"" {
			continue
		}
		for _, ahead := range []string{"", "a", "12", "1.5", "0x1", ".", "..", "~", "<", "-", "if ", "\"a\"", "\n", "-- r\n", "  \t\r", "e"} {
			checkFault(t, ahead+one, len(ahead))
			checkFault(t, ahead+one+" a", len(ahead))
			checkFault(t, ahead+one+"\"@", len(ahead))
		}
		checkScanned(t, "--"+one, impl.Scanned{Ok: true})
	}
}
