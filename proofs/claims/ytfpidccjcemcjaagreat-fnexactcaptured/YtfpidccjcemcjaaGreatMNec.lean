import Derived.Test.YtfpidccjcemcjaaGreatMZsq
import Derived.Test.YtfpidccjcemcjaaGreatMNdr
set_option maxHeartbeats 8000000
namespace Go.Proofs.YtfpidccjcemcjaaGreat.Fo
open Go.ChangeShapes Go.WideShapes Go.ChangeAt Go.RowKit
set_option linter.unusedVariables false
set_option maxRecDepth 100000
theorem im_wnode {A : Addr} {nf ca f B : Nat} {d : Fd} {vv vu vn : Value} (w : World) (hf : f < nf) (hnf : nf ≤ 1048576) (hb : w.cell? ⟨B, 0, none⟩ = some (.slice (some A) nf ca)) (hcel : CelF w (A.add (f * 7)) d vv vu vn)
  (hrow:RowN 0 w vn d.n d.N) (hn:d.n≤1048576) (hN:∀ i,i < d.n→(d.N i).p≤1048576∧(d.N i).q≤1048576∧(d.N i).a.g < 18446744073709551616) :
  Calls Tryz.prog 61 #[.pointer (some ⟨B,0,none⟩),.int .i64 (f:Int)] w fun e w'=>∃ r:Int,e = .returned (.int .i64 r)∧Fb (shP d.N) d.n r∧Kb 0 w w':=by
 have HSH:Hid (∀ W,Kb 0 w W→∀ t,t < d.n→Calls Tryz.prog 81 #[vn,.int .i64 (t:Int)] W fun e w'=>e = .returned (.bool (dc (shP d.N t)))∧Kb 0 W w'):=(fun W k t ht=>im_shape W (hrow.keep k) hn hN t ht:∀ W,_)
 obtain ⟨pn,cn,rfl,-⟩:=hrow
 obtain ⟨d0,d1,d2,d3,d4,d5,d6⟩:=hcel
 have hfI:(f:Int) < (nf:Int):=by omega
 have hnfI:(nf:Int)≤1048576:=by omega
 have hnI:(d.n:Int)≤1048576:=by omega
 clear hN hf hnf d0 d1 d2 d3 d4 d5
 go_enter Tryz.func61,Tryz.ntmps61
 go_wp2_with fail
 clear d6 hb
 go_loopw [17] (fun s17 wr=>∃ i:Nat,s17 = .int .i64 (i:Int)∧i≤d.n∧Hid (Kb 0 w wr∧∀ y,y < i→shP d.N y)) (fun s17 _=>d.n - (intOf s17).toNat)
 case atStart=>exact ⟨0,rfl,Nat.zero_le _,(⟨Kb.refl _ _,fun y h=>by omega⟩:_∧_)⟩
 case round =>
  obtain ⟨i,rfl,hi,HX⟩:=hrel
  obtain ⟨kw,hX⟩:=(uh HX)
  rcases Nat.lt_or_ge i d.n with h | h
  ·have hI:(i:Int) < (d.n:Int):=by omega
   have HC:=(uh HSH) wr kw i h
   by_cases c:shP d.N i
   ·rw [dc_t c] at HC
    have HX2:Hid (∀ W,Kb 0 wr W→Kb 0 w W∧∀ y,y < i+1→shP d.N y):=(fun W k=>⟨kw.trans k,fun y h2=>by
     by_cases e:y=i
     ·subst e;exact c
     ·exact hX y (by omega)⟩:∀ W,_)
    clear HX hX c kw
    go_wp2_with fail
    refine HC.mono ?_
    rintro e w1 ⟨rfl,k1⟩
    have HX3:Hid (Kb 0 w w1∧∀ y,y < i+1→shP d.N y):=(uh HX2) w1 k1
    clear k1 HC HX2
    go_wp2_with fail
    go_roundw
    case rel=>exact ⟨i+1,by go_num,by omega,HX3⟩
    case measure=>simp [intOf];omega
   ·rw [dc_f c] at HC
    have HX2:Hid (∀ W,Kb 0 wr W→Fb (shP d.N) d.n (i:Int)∧Kb 0 w W):=(fun W k=>⟨Or.inr ⟨i,rfl,h,c,hX⟩,kw.trans k⟩:∀ W,_)
    clear HX hX c kw
    go_wp2_with fail
    refine HC.mono ?_
    rintro e w1 ⟨rfl,k1⟩
    have HX3:Hid (Fb (shP d.N) d.n (i:Int)∧Kb 0 w w1):=(uh HX2) w1 k1
    clear k1 HC HX2
    go_wp2_with fail
    go_ret
    exact ⟨_,rfl,HX3.1,HX3.2⟩
  ·have hI:¬ (i:Int) < (d.n:Int):=by omega
   have HX3:Hid (Fb (shP d.N) d.n (-1)∧Kb 0 w wr):=(⟨Or.inl ⟨rfl,fun y hy=>hX y (by omega)⟩,kw⟩:_∧_)
   clear HX hX kw HSH
   go_wp2_with fail
   go_ret
   exact ⟨_,rfl,HX3.1,HX3.2⟩
end Go.Proofs.YtfpidccjcemcjaaGreat.Fo
