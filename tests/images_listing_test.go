package tests

import (
	"strings"
	"testing"

	"loop.example/heddle/impl"
)

// everyOpListed: the listing of everyOp, written out.
const everyOpListed = `
0:0 line 1 0 0 0
0:1 at 0 0 0 0
0:2 tick 0 0 0 0
0:3 const 0 0 0 0
0:4 move 1 0 0 0
0:5 box 2 -2 0 0
0:6 get 1 2 0 0
0:7 put 2 -2 0 0
0:8 fn 1 1 0 0
0:9 table 3 0 0 0
0:10 raw 3 0 0 0
0:11 list 4 0 0 0
0:12 rawall 3 0 4 0
0:13 index 5 3 0 0
0:14 set 3 -1 -6 0
0:15 unary 0 21 1 0
0:16 binary 5 12 0 1
0:17 if -6 18 0 0
0:18 unless 0 19 0 0
0:19 add 4 1 0 0
0:20 join 4 4 0 0
0:21 pick 5 4 250 0
0:22 copy 6 4 0 0
0:23 call 6 5 -7 0
0:24 first 5 -7 0 0
0:25 try 52 5 0 0
0:26 scope 5 0 0 0
0:27 keep 6 0 0 0
0:28 list 7 0 0 0
0:29 defer -6 -8 0 0
0:30 leave 0 0 0 0
0:31 endtry 0 0 0 0
0:32 const 5 0 0 0
0:33 move 6 5 0 0
0:34 move 7 5 0 0
0:35 for 5 0 0 0
0:36 fortest 5 39 0 0
0:37 tick 0 0 0 0
0:38 fornext 5 36 0 0
0:39 drop 5 0 0 0
0:40 drop 6 0 0 0
0:41 drop 7 0 0 0
0:42 move 5 3 0 0
0:43 each 5 0 0 0
0:44 eachnext 5 48 7 0
0:45 line 2 0 0 0
0:46 drop 7 0 0 0
0:47 jump 44 0 0 0
0:48 drop 5 0 0 0
0:49 drop 6 0 0 0
0:50 list 5 0 0 0
0:51 return -6 0 0 0
0:52 throw 6 0 0 0
1:0 upget 0 0 0 0
1:1 upput 0 -1 0 0
1:2 list 0 0 0 0
1:3 return 0 0 0 0
`

// P5: a line for each instruction, the numbers of protos and instructions from 0, all fields.
func TestListing(t *testing.T) {
	if got := impl.Listing(everyOp()); got != strings.TrimPrefix(everyOpListed, "\n") {
		t.Errorf("every Op:\n%s", got)
	}
	if got, want := impl.Listing(shownCode()), "0:0 const 0 3 0 0\n0:1 box 1 -1 0 0\n0:2 fn 0 1 0 0\n0:3 list 2 0 0 0\n0:4 add 2 -1 0 0\n0:5 return -3 0 0 0\n"+
		"1:0 fn 2 2 0 0\n1:1 throw -1 0 0 0\n2:0 jump 0 0 0 0\n"; got != want {
		t.Errorf("shown:\n%s", got)
	}
	if got, want := impl.Listing(codeOf(250, "line 100000; binary 249 18 -250 -1; set -1 -250 249; jump 0")), "0:0 line 100000 0 0 0\n0:1 binary 249 18 -250 -1\n0:2 set -1 -250 249 0\n0:3 jump 0 0 0 0\n"; got != want {
		t.Errorf("fields:\n%s", got)
	}
	lines := strings.SplitAfter(impl.Listing(fullCode()), "\n")
	if len(lines) != 6001 || lines[0] != "0:0 tick 0 0 0 0\n" || lines[27] != "0:27 fn 0 1 0 0\n" || lines[5999] != "199:28 jump 0 0 0 0\n" || lines[6000] != "" {
		t.Error(len(lines), "lines of the fullest code")
	}
}
