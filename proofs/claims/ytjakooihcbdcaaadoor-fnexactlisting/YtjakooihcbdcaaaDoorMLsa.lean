import Derived.Test.YtjakooihcbdcaaaDoorMVca
import Derived.BigQuiet
import Derived.Deep.QuietTactic
import Derived.OpenVars
import Derived.Lib.LaidTab
import Derived.Shelf.Strconv.Itoa3
import Derived.Shelf.LaysM
import Derived.Shelf.Strings.Builder1
import Derived.Shelf.Strings.BuilderK
set_option maxRecDepth 100000
set_option maxHeartbeats 4000000
namespace Go.Proofs.YtjakooihcbdcaaaDoor
open Go.Shelf
def renI : Go.Shelf.Ren:=⟨fun | 129=>91 | 246=>77 | 283=>85 | 284=>86 | 285=>87 | 286=>88 | 317=>90 | 318=>92 | 319=>93 | 320=>94 | 337=>95 | 338=>96 | n=>n,fun | 0=>0 | 2=>2 | 3=>3 | 4=>4 | 5=>5 | 9=>9 | 20=>20 | 37=>37 | 46=>158 | 51=>156 | 53=>145 | 171=>148 | 173=>151 | 212=>155 | 213=>157 | 232=>161 | 233=>162 | n=>n,fun | 17=>3 | 18=>4 | 19=>5 | n=>n⟩
theorem laysI : Go.Proofs.LaysM.n246 Tryd.prog renI:={
  mixed:=by kernel_rfl
  f129:=Tryd.func91.trans (congrArg some (by kernel_rfl))
  f246:=Tryd.func77.trans (congrArg some (by kernel_rfl))
  f283:=Tryd.func85.trans (congrArg some (by kernel_rfl))
  f284:=Tryd.func86.trans (congrArg some (by kernel_rfl))
  f285:=Tryd.func87.trans (congrArg some (by kernel_rfl))
  f286:=Tryd.func88.trans (congrArg some (by kernel_rfl))
  f317:=Tryd.func90.trans (congrArg some (by kernel_rfl))
  f318:=Tryd.func92.trans (congrArg some (by kernel_rfl))
  f319:=Tryd.func93.trans (congrArg some (by kernel_rfl))
  f320:=Tryd.func94.trans (congrArg some (by kernel_rfl))
  f337:=Tryd.func95.trans (congrArg some (by kernel_rfl))
  f338:=Tryd.func96.trans (congrArg some (by kernel_rfl))
  t0:=Tryd.underlying0
  a0:=Tryd.isAgg0
  z0:=Tryd.sizeOf0
  v0:=Tryd.zeroValue0
  t2:=Tryd.underlying2
  a2:=Tryd.isAgg2
  z2:=Tryd.sizeOf2
  v2:=Tryd.zeroValue2
  t3:=Tryd.underlying3
  a3:=Tryd.isAgg3
  z3:=Tryd.sizeOf3
  v3:=Tryd.zeroValue3
  t4:=Tryd.underlying4
  a4:=Tryd.isAgg4
  z4:=Tryd.sizeOf4
  v4:=Tryd.zeroValue4
  t5:=Tryd.underlying5
  a5:=Tryd.isAgg5
  z5:=Tryd.sizeOf5
  v5:=Tryd.zeroValue5
  t9:=Tryd.underlying9
  a9:=Tryd.isAgg9
  z9:=Tryd.sizeOf9
  v9:=Tryd.zeroValue9
  t20:=Tryd.underlying20
  a20:=Tryd.isAgg20
  z20:=Tryd.sizeOf20
  v20:=Tryd.zeroValue20
  t37:=Tryd.underlying37
  a37:=Tryd.isAgg37
  z37:=Tryd.sizeOf37
  v37:=Tryd.zeroValue37
  t46:=Tryd.underlying158
  a46:=Tryd.isAgg158
  z46:=Tryd.sizeOf158
  v46:=Tryd.zeroValue158
  t51:=Tryd.underlying156
  a51:=Tryd.isAgg156
  z51:=Tryd.sizeOf156
  v51:=Tryd.zeroValue156
  t53:=Tryd.underlying145
  a53:=Tryd.isAgg145
  z53:=Tryd.sizeOf145
  v53:=Tryd.zeroValue145
  t171:=Tryd.underlying148
  a171:=Tryd.isAgg148
  z171:=Tryd.sizeOf148
  v171:=Tryd.zeroValue148
  t173:=Tryd.underlying151
  a173:=Tryd.isAgg151
  z173:=Tryd.sizeOf151
  v173:=Tryd.zeroValue151
  t212:=Tryd.underlying155
  a212:=Tryd.isAgg155
  z212:=Tryd.sizeOf155
  v212:=Tryd.zeroValue155
  t213:=Tryd.underlying157
  a213:=Tryd.isAgg157
  z213:=Tryd.sizeOf157
  t232:=Tryd.underlying161
  a232:=Tryd.isAgg161
  z232:=Tryd.sizeOf161
  v232:=Tryd.zeroValue161
  t233:=Tryd.underlying162
  a233:=Tryd.isAgg162
  z233:=Tryd.sizeOf162
  v233:=Tryd.zeroValue162
  g17:=by kernel_rfl
  g18:=by kernel_rfl
  g19:=by kernel_rfl
  i0:=by kernel_rfl
  i2:=by kernel_rfl
  i3:=by kernel_rfl
  i4:=by kernel_rfl
  i5:=by kernel_rfl
  i9:=by kernel_rfl
  i20:=by kernel_rfl
  i37:=by kernel_rfl
  i46:=by kernel_rfl
  i51:=by kernel_rfl
  i53:=by kernel_rfl
  i171:=by kernel_rfl
  i173:=by kernel_rfl
  i212:=by kernel_rfl
  i232:=by kernel_rfl
  i233:=by kernel_rfl
  m17:=by kernel_rfl
  m18:=by kernel_rfl
  m19:=by kernel_rfl }
open Go.RowKit Go.Sort Go.Lib in
theorem format10 (n : Int) (h0 : -9223372036854775808 ≤ n) (h1 : n ≤ 9223372036854775807) (w : World) (htab : Lib.TabIs Tryd.prog w "internal/strconv.uint64pow10" .u64 Lib.pow10Tab) :
    Calls Tryd.prog 77 #[.int .i64 n,.int .i64 10] w fun e w'=>e = .returned (.string ⟨(Lib.itoa n).toArray⟩) ∧ ∃ k os,w' = grow (w.drewN k) os:=Any.internal_strconv_FormatInt_10 laysI n h0 h1 w htab
set_option linter.unusedVariables false
set_option maxRecDepth 100000
open Go.ChangeShapes Go.WideShapes Go.ChangeAt Go.RowKit
def Pw (w : World) : Prop:=Lib.TabIs Tryd.prog w "internal/strconv.uint64pow10" .u64 Lib.pow10Tab
theorem below_grow (w : World) (k : Nat) (os : Array Obj) : Below w.heap.size w (Go.Sort.grow (w.drewN k) os) :=
  ⟨rfl,rfl,rfl,by simp [Go.Sort.grow],fun j hj=>by simp [Go.Sort.grow,Array.getElem?_append_left hj]⟩
theorem impl_itoa0 (n : Int) (h0 : -9223372036854775808 ≤ n) (h1 : n ≤ 9223372036854775807) (w : World) (hp : Pw w) :
    Calls Tryd.prog 56 #[.int .i64 n] w fun e w'=>e = .returned (.string (itx n)) ∧ Below w.heap.size w w':=by
  have HC : Hid (Calls Tryd.prog 77 #[.int .i64 n,.int .i64 10] w fun e w'=>e = .returned (.string (itx n)) ∧ Below w.heap.size w w'):=by
    refine (format10 n h0 h1 w hp).mono ?_
    rintro e w' ⟨rfl,k,os,rfl⟩
    exact ⟨rfl,below_grow w k os⟩
  clear hp h0 h1
  generalize itx n = T at *
  go_enter Tryd.func56,Tryd.ntmps56
  go_wp2_with fail
  refine (show Calls Tryd.prog 77 #[.int .i64 n,.int .i64 10] w fun e w'=>e = .returned (.string T) ∧ Below w.heap.size w w' from HC).mono ?_
  rintro e w2 ⟨rfl,hg⟩
  clear HC
  go_wp2_with fail
  go_ret
  exact ⟨rfl,hg⟩
theorem impl_itoa (n : Int) (h0 : -9223372036854775808 ≤ n) (h1 : n ≤ 9223372036854775807) (w : World) (hp : Pw w) :
    Calls Tryd.prog 33 #[.int .i64 n] w fun e w'=>e = .returned (.string (itx n)) ∧ Below w.heap.size w w':=by
  have HC : Hid (Calls Tryd.prog 56 #[.int .i64 n] w fun e w'=>e = .returned (.string (itx n)) ∧ Below w.heap.size w w'):=impl_itoa0 n h0 h1 w hp
  clear hp h0 h1
  generalize itx n = T at *
  go_enter Tryd.func33,Tryd.ntmps33
  go_wp2_with fail
  refine (show Calls Tryd.prog 56 #[.int .i64 n] w fun e w'=>e = .returned (.string T) ∧ Below w.heap.size w w' from HC).mono ?_
  rintro e w2 ⟨rfl,hg⟩
  clear HC
  go_wp2_with fail
  go_ret
  exact ⟨rfl,hg⟩
def renB : Go.Shelf.Ren:=⟨fun | 166=>16 | 169=>18 | 240=>32 | 276=>55 | n=>n,fun | 0=>0 | 3=>3 | 4=>4 | 5=>5 | 9=>9 | 20=>20 | 37=>37 | 70=>51 | 72=>53 | 75=>55 | 80=>60 | 127=>83 | 164=>110 | n=>n,fun | n=>n⟩
theorem lays166 : Go.Proofs.Lays.n166 Tryd.prog renB:={
  mixed:=by kernel_rfl
  f166:=Tryd.func16.trans (congrArg some (by kernel_rfl))
  f240:=Tryd.func32.trans (congrArg some (by kernel_rfl))
  f276:=Tryd.func55.trans (congrArg some (by kernel_rfl))
  t0:=Tryd.underlying0
  a0:=Tryd.isAgg0
  z0:=Tryd.sizeOf0
  v0:=Tryd.zeroValue0
  t3:=Tryd.underlying3
  a3:=Tryd.isAgg3
  z3:=Tryd.sizeOf3
  v3:=Tryd.zeroValue3
  t4:=Tryd.underlying4
  a4:=Tryd.isAgg4
  z4:=Tryd.sizeOf4
  v4:=Tryd.zeroValue4
  t9:=Tryd.underlying9
  a9:=Tryd.isAgg9
  z9:=Tryd.sizeOf9
  v9:=Tryd.zeroValue9
  t20:=Tryd.underlying20
  a20:=Tryd.isAgg20
  z20:=Tryd.sizeOf20
  v20:=Tryd.zeroValue20
  t37:=Tryd.underlying37
  a37:=Tryd.isAgg37
  z37:=Tryd.sizeOf37
  v37:=Tryd.zeroValue37
  t70:=Tryd.underlying51
  a70:=Tryd.isAgg51
  z70:=Tryd.sizeOf51
  v70:=Tryd.zeroValue51
  t72:=Tryd.underlying53
  a72:=Tryd.isAgg53
  z72:=Tryd.sizeOf53
  v72:=Tryd.zeroValue53
  t75:=Tryd.underlying55
  a75:=Tryd.isAgg55
  z75:=Tryd.sizeOf55
  v75:=Tryd.zeroValue55
  t164:=Tryd.underlying110
  a164:=Tryd.isAgg110
  z164:=Tryd.sizeOf110
  v164:=Tryd.zeroValue110 }
theorem lays169 : Go.Proofs.Lays.n169 Tryd.prog renB:={
  mixed:=by kernel_rfl
  f169:=Tryd.func18.trans (congrArg some (by kernel_rfl))
  t0:=Tryd.underlying0
  a0:=Tryd.isAgg0
  z0:=Tryd.sizeOf0
  v0:=Tryd.zeroValue0
  t3:=Tryd.underlying3
  a3:=Tryd.isAgg3
  z3:=Tryd.sizeOf3
  v3:=Tryd.zeroValue3
  t9:=Tryd.underlying9
  a9:=Tryd.isAgg9
  z9:=Tryd.sizeOf9
  v9:=Tryd.zeroValue9
  t37:=Tryd.underlying37
  a37:=Tryd.isAgg37
  z37:=Tryd.sizeOf37
  v37:=Tryd.zeroValue37
  t70:=Tryd.underlying51
  a70:=Tryd.isAgg51
  z70:=Tryd.sizeOf51
  v70:=Tryd.zeroValue51
  t72:=Tryd.underlying53
  a72:=Tryd.isAgg53
  z72:=Tryd.sizeOf53
  v72:=Tryd.zeroValue53
  t127:=Tryd.underlying83
  a127:=Tryd.isAgg83
  z127:=Tryd.sizeOf83
  v127:=Tryd.zeroValue83 }
theorem extraB : Builder.Extra Tryd.prog renB:={
  sizeBuilder:=by kernel_rfl
  liesBuilder:=by kernel_rfl
  t5:=Tryd.underlying5
  a5:=Tryd.isAgg5
  z5:=Tryd.sizeOf5
  v5:=Tryd.zeroValue5
  infoByte:=by kernel_rfl
  cellsByte:=by kernel_rfl
  sizeByte:=by kernel_rfl
  neB5:=by decide }
open Go.RowKit in
theorem bldString (B b : Nat) (bs : List Value) (s : ByteArray) (w : World) (h : Lib.IsBuilderF 53 5 B b bs w) (hlen : bs.length + s.size ≤ 140737488355328) (hBw : B ≤ w.heap.size) :
    Calls Tryd.prog 16 #[.pointer (some ⟨b,0,none⟩),.string s] w fun e w'=>e = .returned (.tuple #[.int .i64 s.size,.nilIface]) ∧ (Lib.BuilderAtF 53 5 B b (.pointer (some ⟨b,0,none⟩)) (bs ++ Lib.strCells s) w' ∧ Below B w w' ∧ Lib.OthersKept 5 (some b) w w'):=Any.Builder_WriteString_k lays166 extraB B b bs s w h hlen hBw
open Go.RowKit in
theorem bldText (B b : Nat) (l : List UInt8) (w : World) (h : Lib.IsBuilderF 53 5 B b (Lib.byteCells l) w) (hBw : B ≤ w.heap.size) :
    Calls Tryd.prog 18 #[.pointer (some ⟨b,0,none⟩)] w fun e w'=>e = .returned (.string ⟨l.toArray⟩) ∧ (Lib.IsBuilderF 53 5 B b (Lib.byteCells l) w' ∧ Below B w w' ∧ Lib.OthersKept 5 (some b) w w'):=Any.Builder_String_any_k lays169 extraB B b l w h hBw
end Go.Proofs.YtjakooihcbdcaaaDoor
