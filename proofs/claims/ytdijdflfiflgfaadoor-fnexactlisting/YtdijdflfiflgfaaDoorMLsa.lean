import Derived.Test.YtdijdflfiflgfaaDoorMVca
import Derived.BigQuiet
import Derived.Deep.QuietTactic
import Derived.OpenVars
import Derived.Lib.LaidTab
import Derived.Shelf.Strconv.Itoa3
import Derived.Shelf.LaysM
import Derived.Shelf.Strings.Builder1
import Derived.Shelf.Strings.BuilderK
set_option maxRecDepth 100000
set_option maxHeartbeats 4000000
namespace Go.Proofs.YtdijdflfiflgfaaDoor
open Go.Shelf
def renI : Go.Shelf.Ren:=⟨fun | 129=>89 | 246=>57 | 283=>77 | 284=>78 | 285=>79 | 286=>80 | 317=>88 | 318=>90 | 319=>91 | 320=>92 | 337=>94 | 338=>95 | n=>n,fun | 0=>0 | 2=>2 | 3=>3 | 4=>4 | 5=>5 | 9=>9 | 20=>20 | 37=>37 | 46=>156 | 51=>154 | 53=>140 | 171=>139 | 173=>143 | 212=>153 | 213=>155 | 232=>160 | 233=>161 | n=>n,fun | 17=>3 | 18=>4 | 19=>5 | n=>n⟩
theorem laysI : Go.Proofs.LaysM.n246 Tryd.prog renI:={
  mixed:=by kernel_rfl
  f129:=Tryd.func89.trans (congrArg some (by kernel_rfl))
  f246:=Tryd.func57.trans (congrArg some (by kernel_rfl))
  f283:=Tryd.func77.trans (congrArg some (by kernel_rfl))
  f284:=Tryd.func78.trans (congrArg some (by kernel_rfl))
  f285:=Tryd.func79.trans (congrArg some (by kernel_rfl))
  f286:=Tryd.func80.trans (congrArg some (by kernel_rfl))
  f317:=Tryd.func88.trans (congrArg some (by kernel_rfl))
  f318:=Tryd.func90.trans (congrArg some (by kernel_rfl))
  f319:=Tryd.func91.trans (congrArg some (by kernel_rfl))
  f320:=Tryd.func92.trans (congrArg some (by kernel_rfl))
  f337:=Tryd.func94.trans (congrArg some (by kernel_rfl))
  f338:=Tryd.func95.trans (congrArg some (by kernel_rfl))
  t0:=Tryd.underlying0
  a0:=Tryd.isAgg0
  z0:=Tryd.sizeOf0
  v0:=Tryd.zeroValue0
  t2:=Tryd.underlying2
  a2:=Tryd.isAgg2
  z2:=Tryd.sizeOf2
  v2:=Tryd.zeroValue2
  t3:=Tryd.underlying3
  a3:=Tryd.isAgg3
  z3:=Tryd.sizeOf3
  v3:=Tryd.zeroValue3
  t4:=Tryd.underlying4
  a4:=Tryd.isAgg4
  z4:=Tryd.sizeOf4
  v4:=Tryd.zeroValue4
  t5:=Tryd.underlying5
  a5:=Tryd.isAgg5
  z5:=Tryd.sizeOf5
  v5:=Tryd.zeroValue5
  t9:=Tryd.underlying9
  a9:=Tryd.isAgg9
  z9:=Tryd.sizeOf9
  v9:=Tryd.zeroValue9
  t20:=Tryd.underlying20
  a20:=Tryd.isAgg20
  z20:=Tryd.sizeOf20
  v20:=Tryd.zeroValue20
  t37:=Tryd.underlying37
  a37:=Tryd.isAgg37
  z37:=Tryd.sizeOf37
  v37:=Tryd.zeroValue37
  t46:=Tryd.underlying156
  a46:=Tryd.isAgg156
  z46:=Tryd.sizeOf156
  v46:=Tryd.zeroValue156
  t51:=Tryd.underlying154
  a51:=Tryd.isAgg154
  z51:=Tryd.sizeOf154
  v51:=Tryd.zeroValue154
  t53:=Tryd.underlying140
  a53:=Tryd.isAgg140
  z53:=Tryd.sizeOf140
  v53:=Tryd.zeroValue140
  t171:=Tryd.underlying139
  a171:=Tryd.isAgg139
  z171:=Tryd.sizeOf139
  v171:=Tryd.zeroValue139
  t173:=Tryd.underlying143
  a173:=Tryd.isAgg143
  z173:=Tryd.sizeOf143
  v173:=Tryd.zeroValue143
  t212:=Tryd.underlying153
  a212:=Tryd.isAgg153
  z212:=Tryd.sizeOf153
  v212:=Tryd.zeroValue153
  t213:=Tryd.underlying155
  a213:=Tryd.isAgg155
  z213:=Tryd.sizeOf155
  t232:=Tryd.underlying160
  a232:=Tryd.isAgg160
  z232:=Tryd.sizeOf160
  v232:=Tryd.zeroValue160
  t233:=Tryd.underlying161
  a233:=Tryd.isAgg161
  z233:=Tryd.sizeOf161
  v233:=Tryd.zeroValue161
  g17:=by kernel_rfl
  g18:=by kernel_rfl
  g19:=by kernel_rfl
  i0:=by kernel_rfl
  i2:=by kernel_rfl
  i3:=by kernel_rfl
  i4:=by kernel_rfl
  i5:=by kernel_rfl
  i9:=by kernel_rfl
  i20:=by kernel_rfl
  i37:=by kernel_rfl
  i46:=by kernel_rfl
  i51:=by kernel_rfl
  i53:=by kernel_rfl
  i171:=by kernel_rfl
  i173:=by kernel_rfl
  i212:=by kernel_rfl
  i232:=by kernel_rfl
  i233:=by kernel_rfl
  m17:=by kernel_rfl
  m18:=by kernel_rfl
  m19:=by kernel_rfl }
open Go.RowKit Go.Sort Go.Lib in
theorem format10 (n : Int) (h0 : -9223372036854775808 ≤ n) (h1 : n ≤ 9223372036854775807) (w : World) (htab : Lib.TabIs Tryd.prog w "internal/strconv.uint64pow10" .u64 Lib.pow10Tab) :
    Calls Tryd.prog 57 #[.int .i64 n,.int .i64 10] w fun e w'=>e = .returned (.string ⟨(Lib.itoa n).toArray⟩) ∧ ∃ k os,w' = grow (w.drewN k) os:=Any.internal_strconv_FormatInt_10 laysI n h0 h1 w htab
set_option linter.unusedVariables false
set_option maxRecDepth 100000
open Go.ChangeShapes Go.WideShapes Go.ChangeAt Go.RowKit
def Pw (w : World) : Prop:=Lib.TabIs Tryd.prog w "internal/strconv.uint64pow10" .u64 Lib.pow10Tab
theorem below_grow (w : World) (k : Nat) (os : Array Obj) : Below w.heap.size w (Go.Sort.grow (w.drewN k) os) :=
  ⟨rfl,rfl,rfl,by simp [Go.Sort.grow],fun j hj=>by simp [Go.Sort.grow,Array.getElem?_append_left hj]⟩
theorem impl_itoa0 (n : Int) (h0 : -9223372036854775808 ≤ n) (h1 : n ≤ 9223372036854775807) (w : World) (hp : Pw w) :
    Calls Tryd.prog 34 #[.int .i64 n] w fun e w'=>e = .returned (.string (itx n)) ∧ Below w.heap.size w w':=by
  have HC : Hid (Calls Tryd.prog 57 #[.int .i64 n,.int .i64 10] w fun e w'=>e = .returned (.string (itx n)) ∧ Below w.heap.size w w'):=by
    refine (format10 n h0 h1 w hp).mono ?_
    rintro e w' ⟨rfl,k,os,rfl⟩
    exact ⟨rfl,below_grow w k os⟩
  clear hp h0 h1
  generalize itx n = T at *
  go_enter Tryd.func34,Tryd.ntmps34
  go_wp2_with fail
  refine (show Calls Tryd.prog 57 #[.int .i64 n,.int .i64 10] w fun e w'=>e = .returned (.string T) ∧ Below w.heap.size w w' from HC).mono ?_
  rintro e w2 ⟨rfl,hg⟩
  clear HC
  go_wp2_with fail
  go_ret
  exact ⟨rfl,hg⟩
theorem impl_itoa (n : Int) (h0 : -9223372036854775808 ≤ n) (h1 : n ≤ 9223372036854775807) (w : World) (hp : Pw w) :
    Calls Tryd.prog 17 #[.int .i64 n] w fun e w'=>e = .returned (.string (itx n)) ∧ Below w.heap.size w w':=by
  have HC : Hid (Calls Tryd.prog 34 #[.int .i64 n] w fun e w'=>e = .returned (.string (itx n)) ∧ Below w.heap.size w w'):=impl_itoa0 n h0 h1 w hp
  clear hp h0 h1
  generalize itx n = T at *
  go_enter Tryd.func17,Tryd.ntmps17
  go_wp2_with fail
  refine (show Calls Tryd.prog 34 #[.int .i64 n] w fun e w'=>e = .returned (.string T) ∧ Below w.heap.size w w' from HC).mono ?_
  rintro e w2 ⟨rfl,hg⟩
  clear HC
  go_wp2_with fail
  go_ret
  exact ⟨rfl,hg⟩
def renB : Go.Shelf.Ren:=⟨fun | 166=>16 | 169=>19 | 240=>33 | 276=>56 | n=>n,fun | 0=>0 | 3=>3 | 4=>4 | 5=>5 | 9=>9 | 20=>20 | 37=>37 | 70=>51 | 72=>53 | 75=>55 | 80=>61 | 127=>84 | 164=>111 | n=>n,fun | n=>n⟩
theorem lays166 : Go.Proofs.Lays.n166 Tryd.prog renB:={
  mixed:=by kernel_rfl
  f166:=Tryd.func16.trans (congrArg some (by kernel_rfl))
  f240:=Tryd.func33.trans (congrArg some (by kernel_rfl))
  f276:=Tryd.func56.trans (congrArg some (by kernel_rfl))
  t0:=Tryd.underlying0
  a0:=Tryd.isAgg0
  z0:=Tryd.sizeOf0
  v0:=Tryd.zeroValue0
  t3:=Tryd.underlying3
  a3:=Tryd.isAgg3
  z3:=Tryd.sizeOf3
  v3:=Tryd.zeroValue3
  t4:=Tryd.underlying4
  a4:=Tryd.isAgg4
  z4:=Tryd.sizeOf4
  v4:=Tryd.zeroValue4
  t9:=Tryd.underlying9
  a9:=Tryd.isAgg9
  z9:=Tryd.sizeOf9
  v9:=Tryd.zeroValue9
  t20:=Tryd.underlying20
  a20:=Tryd.isAgg20
  z20:=Tryd.sizeOf20
  v20:=Tryd.zeroValue20
  t37:=Tryd.underlying37
  a37:=Tryd.isAgg37
  z37:=Tryd.sizeOf37
  v37:=Tryd.zeroValue37
  t70:=Tryd.underlying51
  a70:=Tryd.isAgg51
  z70:=Tryd.sizeOf51
  v70:=Tryd.zeroValue51
  t72:=Tryd.underlying53
  a72:=Tryd.isAgg53
  z72:=Tryd.sizeOf53
  v72:=Tryd.zeroValue53
  t75:=Tryd.underlying55
  a75:=Tryd.isAgg55
  z75:=Tryd.sizeOf55
  v75:=Tryd.zeroValue55
  t164:=Tryd.underlying111
  a164:=Tryd.isAgg111
  z164:=Tryd.sizeOf111
  v164:=Tryd.zeroValue111 }
theorem lays169 : Go.Proofs.Lays.n169 Tryd.prog renB:={
  mixed:=by kernel_rfl
  f169:=Tryd.func19.trans (congrArg some (by kernel_rfl))
  t0:=Tryd.underlying0
  a0:=Tryd.isAgg0
  z0:=Tryd.sizeOf0
  v0:=Tryd.zeroValue0
  t3:=Tryd.underlying3
  a3:=Tryd.isAgg3
  z3:=Tryd.sizeOf3
  v3:=Tryd.zeroValue3
  t9:=Tryd.underlying9
  a9:=Tryd.isAgg9
  z9:=Tryd.sizeOf9
  v9:=Tryd.zeroValue9
  t37:=Tryd.underlying37
  a37:=Tryd.isAgg37
  z37:=Tryd.sizeOf37
  v37:=Tryd.zeroValue37
  t70:=Tryd.underlying51
  a70:=Tryd.isAgg51
  z70:=Tryd.sizeOf51
  v70:=Tryd.zeroValue51
  t72:=Tryd.underlying53
  a72:=Tryd.isAgg53
  z72:=Tryd.sizeOf53
  v72:=Tryd.zeroValue53
  t127:=Tryd.underlying84
  a127:=Tryd.isAgg84
  z127:=Tryd.sizeOf84
  v127:=Tryd.zeroValue84 }
theorem extraB : Builder.Extra Tryd.prog renB:={
  sizeBuilder:=by kernel_rfl
  liesBuilder:=by kernel_rfl
  t5:=Tryd.underlying5
  a5:=Tryd.isAgg5
  z5:=Tryd.sizeOf5
  v5:=Tryd.zeroValue5
  infoByte:=by kernel_rfl
  cellsByte:=by kernel_rfl
  sizeByte:=by kernel_rfl
  neB5:=by decide }
open Go.RowKit in
theorem bldString (B b : Nat) (bs : List Value) (s : ByteArray) (w : World) (h : Lib.IsBuilderF 53 5 B b bs w) (hlen : bs.length + s.size ≤ 140737488355328) (hBw : B ≤ w.heap.size) :
    Calls Tryd.prog 16 #[.pointer (some ⟨b,0,none⟩),.string s] w fun e w'=>e = .returned (.tuple #[.int .i64 s.size,.nilIface]) ∧ (Lib.BuilderAtF 53 5 B b (.pointer (some ⟨b,0,none⟩)) (bs ++ Lib.strCells s) w' ∧ Below B w w' ∧ Lib.OthersKept 5 (some b) w w'):=Any.Builder_WriteString_k lays166 extraB B b bs s w h hlen hBw
open Go.RowKit in
theorem bldText (B b : Nat) (l : List UInt8) (w : World) (h : Lib.IsBuilderF 53 5 B b (Lib.byteCells l) w) (hBw : B ≤ w.heap.size) :
    Calls Tryd.prog 19 #[.pointer (some ⟨b,0,none⟩)] w fun e w'=>e = .returned (.string ⟨l.toArray⟩) ∧ (Lib.IsBuilderF 53 5 B b (Lib.byteCells l) w' ∧ Below B w w' ∧ Lib.OthersKept 5 (some b) w w'):=Any.Builder_String_any_k lays169 extraB B b l w h hBw
end Go.Proofs.YtdijdflfiflgfaaDoor
