package tests

import (
	"fmt"
	"strings"
	"testing"

	"loop.example/heddle/impl"
)

// P5: each builtin with what it is for, with missing and with wrong arguments.
func TestStepBuiltins(t *testing.T) {
	const things = "proto main regs=12\nline 4; table 0; fn 1 f; one 2 task r1; "
	const f = "\nproto f\ngive 0"
	for do, want := range map[string]string{
		"print": "gives", "print nil 1.5": "gives", "print r0 r1 r2 print": "gives",
		"read": "gives one", "read 7": "gives one",
		"type": "gives nil", "type nil": "gives nil", "type true": "gives bool", "type 1": "gives int", "type 1.0": "gives float", `type ""`: "gives str", "type r0": "gives table",
		"type r1": "gives fn", "type r2": "gives task", "type print": "gives fn", "type 1 2.0": "gives int",
		"text": "gives nil", "text 1.5": "gives 3p-1", `text "s"`: "gives s", "text r0": "gives table", "text r1": "gives fn", "text r2": "gives task", "text print": "gives builtin", "text 1 2": "gives 1",
		"setkind": "error 12", "setkind nil": "error 12", "setkind 1 r0": "error 12", "setkind r1": "error 12", "setkind r0": "gives table", "setkind r0 nil": "gives table", "setkind r0 r0": "gives table",
		"setkind r0 1": "error 12", "setkind r0 false": "error 12", "setkind r0 r1": "error 12", "setkind r0 r2": "error 12",
		"kind": "gives nil", "kind 1": "gives nil", `kind ""`: "gives nil", "kind r1": "gives nil", "kind r0": "gives nil",
		"rawget": "error 12", "rawget nil 1": "error 12", "rawget r0": "gives nil", "rawget r0 1": "gives nil", `rawget "s" 1`: "error 12",
		"rawset": "error 12", "rawset 1 1 1": "error 12", "rawset r0": "error 5", "rawset r0 nil 1": "error 5", "rawset r0 1": "gives", "rawset r0 1 2": "gives", "rawset r0 1 2 3": "gives",
		"task": "error 12", "task nil": "error 12", "task print": "error 12", "task r0": "error 12", "task r2": "error 12", "task r1": "gives task", "task r1 7": "gives task",
		"resume": "error 12", "resume nil": "error 12", "resume r1": "error 12", "resume r2": "gives true", "resume r2 1 2": "gives true",
		"yield": "error 10", "yield 1": "error 10",
		"status": "error 12", "status r0": "error 12", "status r2": "gives new", "status r2 1": "gives new",
		"giveup": "error 12", "giveup r1": "error 12", "giveup r2": "gives true", "giveup r2 1": "gives true",
		"collect": "gives 3", "collect 1 r0": "gives 3", "cells": "gives 3", "cells nil": "gives 3",
	} {
		in := plenty()
		in.Lines = []string{"one", "two"}
		text := things + "do 3 " + do + "; return 3" + f
		told := stepsTold(ranCode(t, text, stepsOf(text), in))
		if strings.HasPrefix(want, "error") {
			want += " at main:4"
		}
		if told[len(told)-1] != want {
			t.Errorf("%s: %s, want %s", do, told[len(told)-1], want)
		}
	}
}

// P5: kinds as they are set and told; what is raw asks no handler.
func TestStepKindBuiltins(t *testing.T) {
	checkGives(t, `table 0; table 1; one 2 setkind r0 r1; binary 3 eq 2 0; one 4 kind r0; binary 4 eq ~4 1; one 5 setkind r0; one 5 kind r0; give 6 r3 r4 r5`, "gives true true nil")
	checkGives(t, `table 0; table 1; const 2 "index"; const 3 type; raw 1 2 3; const 2 "setindex"; const 3 7; raw 1 2 3; one 2 setkind r0 ~1; const 1 "k"; index 2 0 1; one 3 rawget r0 "k"; do 4 rawset r0 "k" 5; one 4 rawget r0 "k"; one 5 rawget r0; give 6 r2 r3 r4 r5`,
		"gives table nil 5 nil")
}

// P5: BRead gives one line after the other, then nil.
func TestStepRead(t *testing.T) {
	in := plenty()
	in.Lines = []string{"a", "", "c"}
	text := "one 0 read; one 1 read; one 2 read; one 3 read; one 4 read; give 5 r0 r1 r2 r3 r4"
	checkShown(t, text, saysOf(ranCode(t, text, stepsOf(text), in)), []string{"gives a  c nil nil"})
	checkGives(t, "one 0 read; give 1 r0", "gives nil")
}

// P5: BPrint tells MaxStr bytes; with one more it is ErrLong, and there is no record.
func TestStepLongTexts(t *testing.T) {
	code := func(length int, more string) impl.Code {
		c := stepsOf(`line 2; const 0 "LONG"; do 1 print r0 ` + more + `; return 1`)
		for i, v := range c.Protos[0].Consts {
			if v.Str == "LONG" {
				c.Protos[0].Consts[i] = vStr(strings.Repeat("x", length))
			}
		}
		return c
	}
	for _, x := range []struct {
		length int
		more   string
		fits   bool
	}{{4000, "", true}, {3999, `""`, true}, {4000, `""`, false}, {3998, "7", true}, {3999, "7", false}, {3992, "nil nil", true}, {3993, "nil nil", false}} {
		r := ranCode(t, fmt.Sprint(x.length, x.more), code(x.length, x.more), plenty())
		if x.fits && (r.Code != 0 || len(r.Recs) != 2 || len(r.Recs[1].Text) != 4000) || !x.fits && (r.Error != "error 4" || len(r.Recs) != 2) {
			t.Errorf("%d %s: %s", x.length, x.more, shortly(r))
		}
	}
	c := code(2000, "")
	c.Protos[0].Ins = insOf("line 2; const 0 0; binary 1 12 0 0; unary 1 22 1; list 2; add 2 1; return 2")
	if r := ranCode(t, "join", c, plenty()); r.Code != 0 || r.Vals[0] != "4000" {
		t.Errorf("%+v", r)
	}
	c.Protos[0].Consts[0].Str += "x"
	if r := ranCode(t, "join", c, plenty()); r.Error != "error 4" {
		t.Errorf("%+v", r)
	}
}

// P5: what a builtin throws is thrown by the instruction that calls it, with the line at hand there; the place is as it was.
func TestStepBuiltinsThrow(t *testing.T) {
	checkSteps(t, `at 1; const 0 "kept"; try @h 1; at 2; const 1 setkind; list 2; call 3 1 2; endtry; give 1; h: say 3 r0 r2; give 3`,
		"throw 0.0:2 error 12", "catch 0.0:1 error 12", "print 0.0:1 kept main:2", "gives")
	checkSteps(t, "proto main\nline 1; fn 0 f; do 1 r0; return 1\nproto f\nline 2; do 0 rawget; return 0",
		"line 0.0:1", "call 0.1:0 f", "line 0.1:2", "throw 0.1:2 error 12", "back 0.1:0 error", "error 12 at f:2 main:1")
}
