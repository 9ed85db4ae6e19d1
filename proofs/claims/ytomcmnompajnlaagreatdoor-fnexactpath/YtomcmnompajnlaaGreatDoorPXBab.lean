import Derived.Test.YtomcmnompajnlaaGreatDoorBBab
import Derived.Test.YtomcmnompajnlaaGreatDoorPXBaa
import Derived.Test.YtomcmnompajnlaaGreatDoorBBaa
import Derived.Deep.RegionHeldLaw
import Derived.Deep.CutBlock
import Derived.Test.YtomcmnompajnlaaGreatDoorCBaf
import Derived.Laws.MakeOwn
import Derived.OwnWalk
import Derived.WalkSpells
set_option maxRecDepth 100000
set_option maxHeartbeats 4000000
namespace Go.Proofs.YtomcmnompajnlaaGreatDoor.Fo
open Go.ChangeShapes Go.WideShapes Go.ChangeAt Go.RowKit
set_option linter.unusedVariables false
theorem conv_one (W:World) (c:UInt8):(convert 86 9 (.slice (some ⟨W.heap.size,0,none⟩) 1 1)).run Tryz.prog (W.alloc (.cells #[.int .u8 (c.toNat:Int)] 5)) = .ok (.string ⟨#[c]⟩) (W.alloc (.cells #[.int .u8 (c.toNat:Int)] 5)):=by
  have:=run_convert_bytes_back (P:=Tryz.prog) (W.alloc (.cells #[.int .u8 (c.toNat:Int)] 5)) 86 9 5 ⟨W.heap.size,0,none⟩ 1 [c] Tryz.underlying86 Tryz.underlying5 Tryz.underlying9 (fun j hj=>by
    obtain rfl:j=0:=by simp at hj;omega
    simp [Addr.add])
  simpa using this
def mtl (k:Nat) (out:ByteArray):ByteArray:=if h:k=0 then out else mtl (k / 10) (⟨#[UInt8.ofNat (48+k % 10)]⟩ ++ out)
termination_by k
decreasing_by omega
theorem mark_text (k:Nat) (hk : 1≤k) (hk2:(k:Int)≤1000000000) (w:World):Calls Tryz.prog 50 #[.int .i64 (k:Int)] w fun e w'=>e = .returned (.string (⟨#[109]⟩ ++ mtl k ⟨#[]⟩))∧Below w.heap.size w w':=by
  have hk0:¬ (k:Int)≤0:=by omega
  go_enter Tryz.func50,Tryz.ntmps50
  go_upto_block 0 with fail
  go_wp2_with fail
  go_loopw [0,3] (fun s0 s3 wr=>∃ (j:Nat) (out:ByteArray),s0 = .int .i64 (j:Int)∧s3 = .string out∧j+out.size≤k∧Hid (mtl j out=mtl k ⟨#[]⟩∧Below w.heap.size w wr)) (fun s0 _ _=>(intOf s0).toNat)
  case atStart=>exact ⟨k,⟨#[]⟩,rfl,rfl,(by show k+0≤k;omega),(⟨rfl,Below.refl _ _⟩:_∧_)⟩
  case round =>
    obtain ⟨j,out,rfl,rfl,hj,HB⟩:=hrel
    have hsz:¬ 9223372036854775807 < 1+out.size:=by omega
    by_cases h0:j=0
    · subst h0
      have hB:=(show mtl 0 out=mtl k ⟨#[]⟩∧Below w.heap.size w wr from HB)
      have e:out=mtl k ⟨#[]⟩:=by rw [← hB.1];unfold mtl;rfl
      have HB2:Hid (out=mtl k ⟨#[]⟩∧Below w.heap.size w wr):=(⟨e,hB.2⟩:_∧_)
      clear HB hB e
      go_wp2_with fail
      go_ret
      rw [show out=mtl k ⟨#[]⟩ from HB2.1]
      exact ⟨rfl,HB2.2⟩
    · have hj0:(0:Int) < (j:Int):=by omega
      have hd0:(0:Int)≤((j % 10:Nat):Int):=by omega
      have hd1:((j % 10:Nat):Int) < 10:=by omega
      have hq:Int.tmod (j:Int) 10=((j % 10:Nat):Int):=rfl
      have hq2:Int.tdiv (j:Int) 10=((j / 10:Nat):Int):=rfl
      have hcv:=conv_one wr (UInt8.ofNat (48+j % 10))
      have hcn:((UInt8.ofNat (48+j % 10)).toNat:Int)=48+((j % 10:Nat):Int):=by
        have:(UInt8.ofNat (48+j % 10)).toNat=48+j % 10:=by
          rw [UInt8.toNat_ofNat'];omega
        omega
      rw [hcn] at hcv
      have hstep:mtl j out=mtl (j / 10) (⟨#[UInt8.ofNat (48+j % 10)]⟩ ++ out):=by rw [mtl,dif_neg h0]
      have HB1:Hid (mtl (j / 10) (⟨#[UInt8.ofNat (48+j % 10)]⟩ ++ out)=mtl k ⟨#[]⟩∧Below w.heap.size w (wr.alloc (.cells #[.int .u8 (48+((j % 10:Nat):Int))] 5))) :=
        (⟨hstep.symm.trans HB.1,HB.2.alloc HB.2.size _⟩:_∧_)
      clear HB hstep hcn
      generalize UInt8.ofNat (48+j % 10)=c at *
      generalize ((j % 10:Nat):Int)=r at *
      generalize hjq:j / 10=jq at *
      go_wp2_with fail
      go_roundw
      case rel=>exact ⟨jq,⟨#[c]⟩ ++ out,rfl,rfl,by rw [ByteArray.size_append];show jq+(1+out.size)≤k;omega,HB1⟩
      case measure=>simp [intOf];omega
theorem Kq.mono {S T:Nat→Prop} {a b:World} (h:Kq S a b) (hs:∀ k,S k→T k):Kq T a b :=
  ⟨h.os,h.tape,h.output,h.size,fun k hk hn=>h.block k hk (fun f=>hn (hs k f))⟩
theorem mark_ints {v : Value} {g n : Nat} {A : Nat → Int} (w : World) (k : Int) (ha : OwnR w v g n (fun i => .int .i64 (A i))) (hn : n ≤ 1048576) (hk0 : 0 ≤ k) (hk : k ≤ 100000000) :
    Calls Tryz.prog 18 #[v,.int .i64 k] w fun e w'=>e = .returned (.int .i64 (k+(n:Int)))∧Kq (fun j=>0 < n∧j=g) w w'∧OwnR w' v g n (fun i=>.int .i64 (k+(i:Int))):=by
  obtain ⟨pa,ca,rfl,ha2⟩:=ha.sl
  by_cases h0:n=0
  · subst h0
    go_enter Tryz.func18,Tryz.ntmps18
    go_wp2_with fail
    refine wp_loop_rounds 1 ?_
    rw [rounds_succ]
    go_wp2_with fail
    go_ret
    exact ⟨by simp,Kq.refl _ _,⟨⟨pa,ca,rfl,ha2⟩,fun i hi=>by omega,fun f=>by omega⟩⟩
  · obtain ⟨rfl,hca⟩:=ha2 (by omega)
    have HI0:Hid (MkR w g n (fun i=>.int .i64 (A i)) (fun i=>.int .i64 (k+(i:Int))) 0 w):=(⟨Kq.refl _ _,fun i hi=>by omega,fun i _ hi=>ha.cell i hi,ha.fz (by omega)⟩:MkR w g n _ _ 0 w)
    have hnI:(n:Int)≤1048576:=by omega
    have HN0:Hid (0 < n):=(by omega : 0 < n)
    clear ha2 ha h0
    go_enter Tryz.func18,Tryz.ntmps18
    go_wp2_with fail
    go_loopw [1,5] (fun s1 s5 wr=>∃ i:Nat,s5 = .int .i64 (i:Int)∧s1 = .int .i64 (k+(i:Int))∧i≤n∧Hid (MkR w g n (fun i=>.int .i64 (A i)) (fun i=>.int .i64 (k+(i:Int))) i wr)) (fun _ s5 _=>n - (intOf s5).toNat)
    case atStart=>exact ⟨0,rfl,by simp,Nat.zero_le _,HI0⟩
    case round =>
      clear HI0
      obtain ⟨i,rfl,rfl,hin,HI⟩:=hrel
      have hI:=(show MkR w g n (fun i=>.int .i64 (A i)) (fun i=>.int .i64 (k+(i:Int))) i wr from HI)
      rcases Nat.lt_or_ge i n with hi | hi
      · have hiI:(i:Int) < (n:Int):=by omega
        obtain ⟨c,f,hM⟩:=hI.step hi (Below.refl _ _)
        have hx:k+(i:Int)≤101048576:=by omega
        have hx0 : 0≤k+(i:Int):=by omega
        have HM:Hid (MkR w g n (fun i=>.int .i64 (A i)) (fun i=>.int .i64 (k+(i:Int))) (i+1) (wr.setCell ⟨g,i,none⟩ (.int .i64 (k+(i:Int))))):=hM
        clear hM hI HI hin
        generalize A i=y at c
        have hxk:∃ x:Int,x=k+(i:Int):=⟨_,rfl⟩
        obtain ⟨x,hxk⟩:=hxk
        have HX:Hid (x=k+(i:Int)):=hxk
        rw [← hxk] at hx hx0 HM ⊢
        clear hxk
        go_wp2_with fail
        go_roundw
        case rel=>exact ⟨i+1,by go_num,by rw [show x=k+(i:Int) from HX];exact congrArg (Value.int .i64) (by omega),by omega,HM⟩
        case measure=>simp [intOf];omega
      · obtain rfl:i=n:=by omega
        have HE:Hid (MkR w g i (fun i=>.int .i64 (A i)) (fun i=>.int .i64 (k+(i:Int))) i wr):=hI
        clear HI hI
        go_wp2_with fail
        go_ret
        exact ⟨rfl,HE.kq.mono (fun j e=>⟨HN0,e⟩),⟨⟨_,ca,rfl,fun _=>⟨rfl,hca⟩⟩,fun j hj=>HE.don j hj,fun _ j=>HE.fz j⟩⟩
def mtx (k:Nat):ByteArray:=⟨#[109]⟩ ++ mtl k ⟨#[]⟩
theorem mark_tx (k:Nat) (x:Int) (hx:x=(k:Int)) (hk : 1≤k) (hk2:(k:Int)≤1000000000) (w:World):Calls Tryz.prog 50 #[.int .i64 x] w fun e w'=>e = .returned (.string (mtx k))∧Below w.heap.size w w':=by
  subst hx
  exact mark_text k hk hk2 w
theorem mark_strs {v : Value} {g n : Nat} {A : Nat → ByteArray} (w : World) (k : Nat) (ha : OwnR w v g n (fun i => .string (A i))) (hn : n ≤ 1048576) (hk0 : 1 ≤ k) (hk : k ≤ 100000000) :
    Calls Tryz.prog 75 #[v,.int .i64 (k:Int)] w fun e w'=>e = .returned (.int .i64 ((k:Int)+(n:Int)))∧Kq (fun j=>0 < n∧j=g) w w'∧OwnR w' v g n (fun i=>.string (mtx (k+i))):=by
  obtain ⟨pa,ca,rfl,ha2⟩:=ha.sl
  by_cases h0:n=0
  · subst h0
    go_enter Tryz.func75,Tryz.ntmps75
    go_wp2_with fail
    refine wp_loop_rounds 1 ?_
    rw [rounds_succ]
    go_wp2_with fail
    go_ret
    exact ⟨by simp,Kq.refl _ _,⟨⟨pa,ca,rfl,ha2⟩,fun i hi=>by omega,fun f=>by omega⟩⟩
  · obtain ⟨rfl,hca⟩:=ha2 (by omega)
    have HI0:Hid (MkR w g n (fun i=>.string (A i)) (fun i=>.string (mtx (k+i))) 0 w):=(⟨Kq.refl _ _,fun i hi=>by omega,fun i _ hi=>ha.cell i hi,ha.fz (by omega)⟩:MkR w g n _ _ 0 w)
    have hnI:(n:Int)≤1048576:=by omega
    have hkI:(k:Int)≤100000000:=by omega
    have hkI0:(1:Int)≤(k:Int):=by omega
    have HN0:Hid (0 < n):=(by omega : 0 < n)
    clear ha2 ha h0 hk hk0 hn
    go_enter Tryz.func75,Tryz.ntmps75
    go_wp2_with fail
    go_loopw [1,5] (fun s1 s5 wr=>∃ i:Nat,s5 = .int .i64 (i:Int)∧s1 = .int .i64 ((k:Int)+(i:Int))∧i≤n∧Hid (MkR w g n (fun i=>.string (A i)) (fun i=>.string (mtx (k+i))) i wr)) (fun _ s5 _=>n - (intOf s5).toNat)
    case atStart=>exact ⟨0,rfl,by simp,Nat.zero_le _,HI0⟩
    case round =>
      clear HI0
      obtain ⟨i,rfl,rfl,hin,HI⟩:=hrel
      have hI:=(show MkR w g n (fun i=>.string (A i)) (fun i=>.string (mtx (k+i))) i wr from HI)
      rcases Nat.lt_or_ge i n with hi | hi
      · have hiI:(i:Int) < (n:Int):=by omega
        have HST:Hid (∀ w6,Below wr.heap.size wr w6→w6.cell? ⟨g,i,none⟩=some (.string (A i))∧w6.frozen? ⟨g,i,none⟩=false∧MkR w g n (fun i=>.string (A i)) (fun i=>.string (mtx (k+i))) (i+1) (w6.setCell ⟨g,i,none⟩ (.string (mtx (k+i))))):=(fun w6 hb=>hI.step hi hb:∀ w6,_)
        obtain ⟨x,hxk⟩:∃ x:Int,x=(k:Int)+(i:Int):=⟨_,rfl⟩
        have hmt:=fun W=>mark_tx (k+i) x (by omega) (by omega) (by omega) W
        have hx:x≤101048576:=by omega
        have hx0 : 0≤x:=by omega
        have HX:Hid (x=(k:Int)+(i:Int)):=hxk
        rw [← hxk]
        clear hI HI hin hxk
        generalize hX:mtx (k+i)=X at hmt
        have HMX:Hid (mtx (k+i)=X):=hX
        clear hX
        go_wp2_with fail
        refine (hmt _).mono ?_
        rintro e w6 ⟨rfl,hb6⟩
        obtain ⟨c5,f5,hM⟩:=(show ∀ w6,Below wr.heap.size wr w6→w6.cell? ⟨g,i,none⟩=some (.string (A i))∧w6.frozen? ⟨g,i,none⟩=false∧MkR w g n (fun i=>.string (A i)) (fun i=>.string (mtx (k+i))) (i+1) (w6.setCell ⟨g,i,none⟩ (.string (mtx (k+i)))) from HST) w6 hb6
        rw [show mtx (k+i)=X from HMX] at hM
        have HM:Hid (MkR w g n (fun i=>.string (A i)) (fun i=>.string (mtx (k+i))) (i+1) (w6.setCell ⟨g,i,none⟩ (.string X))):=hM
        clear hM HST hb6 hmt HMX
        generalize A i=y at c5
        go_wp2_with fail
        go_roundw
        case rel=>exact ⟨i+1,by go_num,by rw [show x=(k:Int)+(i:Int) from HX];exact congrArg (Value.int .i64) (by omega),by omega,HM⟩
        case measure=>simp [intOf];omega
      · obtain rfl:i=n:=by omega
        have HE:Hid (MkR w g i (fun i=>.string (A i)) (fun i=>.string (mtx (k+i))) i wr):=hI
        clear HI hI
        go_wp2_with fail
        go_ret
        exact ⟨rfl,HE.kq.mono (fun j e=>⟨HN0,e⟩),⟨⟨_,ca,rfl,fun _=>⟨rfl,hca⟩⟩,fun j hj=>HE.don j hj,fun _ j=>HE.fz j⟩⟩
def kst (F:Nat→Gv) (k i:Nat):Nat:=k+7*i+smr F i
def mkf (F:Nat→Gv) (k i:Nat):Gv :=
  ⟨⟨(kst F k i:Int),(kst F k i:Int)+1,(kst F k i:Int)+2,(kst F k i:Int)+3,(kst F k i:Int)+4,(kst F k i:Int)+5,mtx (kst F k i+6)⟩,(F i).p,fun j=>mtx (kst F k i+7+j),(F i).q,fun j=>((kst F k i+7+(F i).p:Nat):Int)+(j:Int)⟩
def mix (F:Nat→Gv) (k i j:Nat):Gv:=if j < i then mkf F k j else F j
theorem kst_succ (F:Nat→Gv) (k i:Nat):kst F k (i+1)=kst F k i+7+(F i).p+(F i).q:=by
  unfold kst
  show k+7*(i+1)+(smr F i+(F i).p+(F i).q) = _
  omega
theorem OwnF.mark {W W' : World} {v : Value} {g n k i : Nat} {F : Nat → Gv} {t : Nat → Nat} {lo hi : Nat} (h : OwnF W v g n (mix F k i) t lo hi) (hi' : i < n)
    (hk:Kc g (i*9) (i*9+9) (fun b=>t i≤b∧b < t (i+1)) W W') (hf:FormO W' g i (mkf F k i) (t i) (t (i+1))):OwnF W' v g n (mix F k (i+1)) t lo hi:=by
  refine ⟨h.sl,fun j hj=>?_,fun hn j=>(hk.fz j).trans (h.fz hn j),h.up,h.bg,h.b0,h.bn⟩
  by_cases e:j=i
  · subst e
    rw [show mix F k (j+1) j=mkf F k j from if_pos (by omega)]
    exact hf
  · have e2 : mix F k (i + 1) j = mix F k i j := by
      unfold mix
      by_cases l:j < i
      · rw [if_pos l,if_pos (by omega)]
      · rw [if_neg l,if_neg (by omega)]
    rw [e2]
    refine (h.frm j hj).kc hk e (fun b h1 h2 h3=>?_)
    rcases Nat.lt_or_ge j i with l | l
    · have:=h.up (j+1) i (by omega) (by omega)
      omega
    · have:=h.up (i+1) j (by omega) (by omega)
      omega
theorem mkq {g i lo hi:Nat} {t:Nat→Nat} {n:Nat} {W W' w:World} (h:Kq (fun b=>lo≤b∧b < hi) w W) (hk:Kc g (i*9) (i*9+9) (fun b=>t i≤b∧b < t (i+1)) W W') (hg:lo≤g∧g < hi) (h1:lo≤t i) (h2:t (i+1)≤hi):Kq (fun b=>lo≤b∧b < hi) w W' :=
  ⟨hk.os.trans h.os,hk.tape.trans h.tape,hk.output.trans h.output,Nat.le_trans h.size hk.size,fun b hb hn=>(hk.block b (Nat.lt_of_lt_of_le hb h.size) (fun e=>hn (e ▸ hg)) (fun e=>hn ⟨by omega,by omega⟩)).trans (h.block b hb hn)⟩
theorem Kc.mono {g lo hi:Nat} {S T:Nat→Prop} {a w:World} (h:Kc g lo hi S a w) (hs:∀ k,S k→T k):Kc g lo hi T a w :=
  ⟨h.os,h.tape,h.output,h.size,fun k hk hg hn=>h.block k hk hg (fun e=>hn (hs k e)),h.cell,h.fz⟩
def s6 (W:World) (g o:Nat) (x:Int):World :=
  (((((W.setCell ⟨g,o,none⟩ (.int .i64 x)).setCell ⟨g,o+1,none⟩ (.int .i64 (x+1))).setCell ⟨g,o+2,none⟩ (.int .i64 (x+1+1))).setCell ⟨g,o+3,none⟩ (.int .i64 (x+1+1+1))).setCell ⟨g,o+4,none⟩ (.int .i64 (x+1+1+1+1))).setCell ⟨g,o+5,none⟩ (.int .i64 (x+1+1+1+1+1))
theorem s6_kc (W:World) (g i:Nat) (x:Int) (S:Nat→Prop):Kc g (i*9) (i*9+9) S W (s6 W g (i*9) x) :=
  ((((((Kc.refl g (i*9) (i*9+9) S W).set (i*9) (by omega) (by omega) _).set (i*9+1) (by omega) (by omega) _).set (i*9+2) (by omega) (by omega) _).set (i*9+3) (by omega) (by omega) _).set (i*9+4) (by omega) (by omega) _).set (i*9+5) (by omega) (by omega) _
theorem s6_hi (W:World) (g o:Nat) (x:Int) (c:Nat) (hc : 6≤c):(s6 W g o x).cell? ⟨g,o+c,none⟩=W.cell? ⟨g,o+c,none⟩:=by
  unfold s6
  rw [set_ne _ _ _ _ _ (by omega),set_ne _ _ _ _ _ (by omega),set_ne _ _ _ _ _ (by omega),set_ne _ _ _ _ _ (by omega),set_ne _ _ _ _ _ (by omega),set_ne _ _ _ _ _ (by omega)]
theorem s6_lo (W : World) (g o : Nat) (x : Int) {u0 u1 u2 u3 u4 u5 : Value} (h0 : W.cell? ⟨g, o, none⟩ = some u0) (h1 : W.cell? ⟨g, o + 1, none⟩ = some u1) (h2 : W.cell? ⟨g, o + 2, none⟩ = some u2) (h3 : W.cell? ⟨g, o + 3, none⟩ = some u3) (h4 : W.cell? ⟨g, o + 4, none⟩ = some u4) (h5 : W.cell? ⟨g, o + 5, none⟩ = some u5) :
    (s6 W g o x).cell? ⟨g,o,none⟩=some (.int .i64 x)∧(s6 W g o x).cell? ⟨g,o+1,none⟩=some (.int .i64 (x+1))∧(s6 W g o x).cell? ⟨g,o+2,none⟩=some (.int .i64 (x+1+1))∧(s6 W g o x).cell? ⟨g,o+3,none⟩=some (.int .i64 (x+1+1+1))∧(s6 W g o x).cell? ⟨g,o+4,none⟩=some (.int .i64 (x+1+1+1+1))∧(s6 W g o x).cell? ⟨g,o+5,none⟩=some (.int .i64 (x+1+1+1+1+1)):=by
  unfold s6
  refine ⟨?_,?_,?_,?_,?_,?_⟩
  · rw [set_ne _ _ _ _ _ (by omega),set_ne _ _ _ _ _ (by omega),set_ne _ _ _ _ _ (by omega),set_ne _ _ _ _ _ (by omega),set_ne _ _ _ _ _ (by omega)]
    exact set_eq _ _ _ _ _ h0
  · rw [set_ne _ _ _ _ _ (by omega),set_ne _ _ _ _ _ (by omega),set_ne _ _ _ _ _ (by omega),set_ne _ _ _ _ _ (by omega)]
    exact set_eq _ _ _ _ _ (by rw [set_ne _ _ _ _ _ (by omega)];exact h1)
  · rw [set_ne _ _ _ _ _ (by omega),set_ne _ _ _ _ _ (by omega),set_ne _ _ _ _ _ (by omega)]
    exact set_eq _ _ _ _ _ (by rw [set_ne _ _ _ _ _ (by omega),set_ne _ _ _ _ _ (by omega)];exact h2)
  · rw [set_ne _ _ _ _ _ (by omega),set_ne _ _ _ _ _ (by omega)]
    exact set_eq _ _ _ _ _ (by rw [set_ne _ _ _ _ _ (by omega),set_ne _ _ _ _ _ (by omega),set_ne _ _ _ _ _ (by omega)];exact h3)
  · rw [set_ne _ _ _ _ _ (by omega)]
    exact set_eq _ _ _ _ _ (by rw [set_ne _ _ _ _ _ (by omega),set_ne _ _ _ _ _ (by omega),set_ne _ _ _ _ _ (by omega),set_ne _ _ _ _ _ (by omega)];exact h4)
  · exact set_eq _ _ _ _ _ (by rw [set_ne _ _ _ _ _ (by omega),set_ne _ _ _ _ _ (by omega),set_ne _ _ _ _ _ (by omega),set_ne _ _ _ _ _ (by omega),set_ne _ _ _ _ _ (by omega)];exact h5)
theorem mark_strs' {v : Value} {g n : Nat} {A : Nat → ByteArray} (w : World) (k : Nat) (y : Int) (hy : y = (k : Int)) (ha : OwnR w v g n (fun i => .string (A i))) (hn : n ≤ 1048576) (hk0 : 1 ≤ k) (hk : k ≤ 100000000) :
    Calls Tryz.prog 75 #[v,.int .i64 y] w fun e w'=>e = .returned (.int .i64 (y+(n:Int)))∧Kq (fun j=>0 < n∧j=g) w w'∧OwnR w' v g n (fun i=>.string (mtx (k+i))):=by
  subst hy
  exact mark_strs w k ha hn hk0 hk
theorem mark_forms {v : Value} {g n : Nat} {F : Nat → Gv} {t : Nat → Nat} {lo hi : Nat} (w : World) (k : Nat) (ha : OwnF w v g n F t lo hi) (hn : n + smr F n ≤ 1048576) (hk0 : 1 ≤ k) (hk : k ≤ 1000) :
    Calls Tryz.prog 46 #[v,.int .i64 (k:Int)] w fun e w'=>e = .returned (.int .i64 (kst F k n:Int))∧Kq (fun b=>lo≤b∧b < hi) w w'∧OwnF w' v g n (mkf F k) t lo hi:=by
  obtain ⟨pa,ca,rfl,ha2⟩:=ha.sl
  by_cases h0:n=0
  · subst h0
    go_enter Tryz.func46,Tryz.ntmps46
    go_wp2_with fail
    refine wp_loop_rounds 1 ?_
    rw [rounds_succ]
    go_wp2_with fail
    go_ret
    exact ⟨rfl,Kq.refl _ _,⟨ha.sl,fun i hi=>by omega,fun f=>by omega,ha.up,ha.bg,ha.b0,ha.bn⟩⟩
  · obtain ⟨rfl,hca⟩:=ha2 (by omega)
    have hmix:OwnF w (.slice (some ⟨g,0,none⟩) n ca) g n (mix F k 0) t lo hi:=by
      rw [show mix F k 0=F from funext fun j=>if_neg (by omega)];exact ha
    have HI0:Hid (Kq (fun b=>lo≤b∧b < hi) w w∧OwnF w (.slice (some ⟨g,0,none⟩) n ca) g n (mix F k 0) t lo hi):=(⟨Kq.refl _ _,hmix⟩:_∧_)
    have hnI:(n:Int)≤1048576:=by omega
    have HN0:Hid (0 < n∧n+smr F n≤1048576∧1≤k∧k≤1000):=(⟨by omega,hn,hk0,hk⟩:_∧_∧_∧_)
    clear ha2 ha h0 hmix hn hk0 hk
    go_enter Tryz.func46,Tryz.ntmps46
    go_wp2_with fail
    go_loopw [1,5] (fun s1 s5 wr=>∃ (i:Nat) (x:Int),s5 = .int .i64 (i:Int)∧s1 = .int .i64 x∧i≤n∧Hid (x=(kst F k i:Int))∧Hid (Kq (fun b=>lo≤b∧b < hi) w wr∧OwnF wr (.slice (some ⟨g,0,none⟩) n ca) g n (mix F k i) t lo hi)) (fun _ s5 _=>n - (intOf s5).toNat)
    case atStart=>exact ⟨0,(k:Int),rfl,rfl,Nat.zero_le _,by show (k:Int)=((k+7*0+0:Nat):Int);omega,HI0⟩
    case round =>
      clear HI0
      obtain ⟨i,x,rfl,rfl,hin,HX,HI⟩:=hrel
      have hI:=(show Kq (fun b=>lo≤b∧b < hi) w wr∧OwnF wr (.slice (some ⟨g,0,none⟩) n ca) g n (mix F k i) t lo hi from HI)
      have hN:=(show 0 < n∧n+smr F n≤1048576∧1≤k∧k≤1000 from HN0)
      have hX:=(show x=(kst F k i:Int) from HX)
      have hm:=smr_mono F hin
      have hkst:kst F k i=k+7*i+smr F i:=rfl
      rcases Nat.lt_or_ge i n with hi2 | hi2
      · have hiI:(i:Int) < (n:Int):=by omega
        have hx:x≤10000000:=by omega
        have hx0 : 1≤x:=by omega
        obtain ⟨vn,vk,gn,gk,hc,o1,o2,b1,b2,b3⟩:=hI.2.frm i hi2
        rw [show mix F k i i=F i from if_neg (by omega)] at hc o1 o2 b1 b2 b3
        obtain ⟨c0,c1,c2,c3,c4,c5,c6,c7,c8⟩:=hc
        have fz:=hI.2.fz hN.1
        have hgl:=hI.2.lt hN.1
        have hsu:=smr_mono F (show i+1≤n from hi2)
        have hss:smr F (i+1)=smr F i+(F i).p+(F i).q:=rfl
        have hup0:=hI.2.up 0 i (by omega) (by omega)
        have hup1:=hI.2.up (i+1) n (by omega) (by omega)
        have hb0:=hI.2.b0
        have hbn:=hI.2.bn
        have hbg:=hI.2.bg hN.1
        obtain ⟨X,hXt⟩:∃ X,X=mtx (kst F k i+6):=⟨_,rfl⟩
        have hmt:=fun W=>mark_tx (kst F k i+6) (x+1+1+1+1+1+1) (by omega) (by omega) (by omega) W
        rw [← hXt] at hmt
        have HS1 : Hid (∀ w6, Below (s6 wr g (i * 9) x).heap.size (s6 wr g (i * 9) x) w6 →
            w6.cell? ⟨g,i*9+6,none⟩=some (.string (F i).a.x)∧w6.frozen? ⟨g,i*9+6,none⟩=false∧w6.cell? ⟨g,i*9+7,none⟩=some vn∧w6.cell? ⟨g,i*9+8,none⟩=some vk ∧
            OwnR (w6.setCell ⟨g,i*9+6,none⟩ (.string X)) vn gn (F i).p (fun j=>.string ((F i).A j)) ∧
            (∀ w8 w9,Kq (fun b=>0 < (F i).p∧b=gn) (w6.setCell ⟨g,i*9+6,none⟩ (.string X)) w8→OwnR w8 vn gn (F i).p (fun j=>.string (mtx (kst F k i+7+j))) →
              w8.cell? ⟨g,i*9+8,none⟩=some vk∧OwnR w8 vk gk (F i).q (fun j=>.int .i64 ((F i).K j)) ∧
              (Kq (fun b=>0 < (F i).q∧b=gk) w8 w9→OwnR w9 vk gk (F i).q (fun j=>.int .i64 (((kst F k i+7+(F i).p:Nat):Int)+(j:Int)))→Kq (fun b=>lo≤b∧b < hi) w w9∧OwnF w9 (.slice (some ⟨g,0,none⟩) n ca) g n (mix F k (i+1)) t lo hi))):=by
          show ∀ w6,_
          intro w6 hb6
          have k1:=s6_kc wr g i x (fun _=>False)
          have k6:=k1.below hb6 hgl
          have k7:=k6.set (i*9+6) (by omega) (by omega) (.string X)
          obtain ⟨z0,z1,z2,z3,z4,z5⟩:=s6_lo wr g (i*9) x c0 c1 c2 c3 c4 c5
          have hg1:g < (s6 wr g (i*9) x).heap.size:=Nat.lt_of_lt_of_le hgl k1.size
          have e6:∀ o,w6.cell? ⟨g,o,none⟩=(s6 wr g (i*9) x).cell? ⟨g,o,none⟩:=fun o=>hb6.cell (p:=⟨g,o,none⟩) hg1
          have y6:w6.cell? ⟨g,i*9+6,none⟩=some (.string (F i).a.x):=by rw [e6,s6_hi _ _ _ _ 6 (by omega)];exact c6
          have y7:w6.cell? ⟨g,i*9+7,none⟩=some vn:=by rw [e6,s6_hi _ _ _ _ 7 (by omega)];exact c7
          have y8:w6.cell? ⟨g,i*9+8,none⟩=some vk:=by rw [e6,s6_hi _ _ _ _ 8 (by omega)];exact c8
          have fr:w6.frozen? ⟨g,i*9+6,none⟩=false:=(k6.fz _).trans (fz _)
          refine ⟨y6,fr,y7,y8,o1.block (fun hp=>k7.block gn (lt_of_cell (o1.cell 0 hp)) (b1 hp).2.2 (fun f=>f)),?_⟩
          intro w8 w9 hq8 ow8
          have hgn:¬ (0 < (F i).p∧g=gn):=fun e=>(b1 e.1).2.2 e.2.symm
          have hgk:¬ (0 < (F i).q∧g=gk):=fun e=>(b2 e.1).2.2 e.2.symm
          have h7:g < (w6.setCell ⟨g,i*9+6,none⟩ (.string X)).heap.size:=Nat.lt_of_lt_of_le hgl k7.size
          have h8:g < w8.heap.size:=Nat.lt_of_lt_of_le h7 hq8.size
          have e8:∀ o,w8.cell? ⟨g,o,none⟩=(w6.setCell ⟨g,i*9+6,none⟩ (.string X)).cell? ⟨g,o,none⟩:=fun o=>World.cell?_of_block (hq8.block g h7 hgn)
          refine ⟨by rw [e8,set_ne _ _ _ _ _ (by omega)];exact y8,o2.block (fun hp=>?_),?_⟩
          · have hl:=lt_of_cell (o2.cell 0 hp)
            rw [hq8.block gk (Nat.lt_of_lt_of_le hl k7.size) (fun e=>b3 e.1 hp e.2.symm)]
            exact k7.block gk hl (b2 hp).2.2 (fun f=>f)
          · intro hq9 ow9
            have e9:∀ o,w9.cell? ⟨g,o,none⟩=(w6.setCell ⟨g,i*9+6,none⟩ (.string X)).cell? ⟨g,o,none⟩:=fun o=>(World.cell?_of_block (hq9.block g h8 hgk)).trans (e8 o)
            have K7:Kc g (i*9) (i*9+9) (fun b=>t i≤b∧b < t (i+1)) wr (w6.setCell ⟨g,i*9+6,none⟩ (.string X)):=k7.mono (fun _ f=>f.elim)
            have K8:=K7.kq hq8 (fun b e=>by obtain ⟨e1,rfl⟩:=e;exact ⟨⟨(b1 e1).1,(b1 e1).2.1⟩,(b1 e1).2.2⟩) hgl
            have K9:=K8.kq hq9 (fun b e=>by obtain ⟨e1,rfl⟩:=e;exact ⟨⟨(b2 e1).1,(b2 e1).2.1⟩,(b2 e1).2.2⟩) hgl
            refine ⟨mkq (n:=n) hI.1 K9 hbg (by omega) (by omega),hI.2.mark hi2 K9 ⟨vn,vk,gn,gk,?_,ow8.block (fun hp=>?_),ow9,b1,b2,b3⟩⟩
            · have a0:(mkf F k i).a.k=x:=hX.symm
              have a1:(mkf F k i).a.f=x+1:=by show (kst F k i:Int)+1 = _;omega
              have a2:(mkf F k i).a.t=x+1+1:=by show (kst F k i:Int)+2 = _;omega
              have a3:(mkf F k i).a.l=x+1+1+1:=by show (kst F k i:Int)+3 = _;omega
              have a4:(mkf F k i).a.o=x+1+1+1+1:=by show (kst F k i:Int)+4 = _;omega
              have a5:(mkf F k i).a.m=x+1+1+1+1+1:=by show (kst F k i:Int)+5 = _;omega
              have a6:(mkf F k i).a.x=X:=hXt.symm
              refine ⟨?_,?_,?_,?_,?_,?_,?_,?_,?_⟩
              · rw [a0];exact (e9 _).trans ((set_ne _ _ _ _ _ (by omega)).trans ((e6 _).trans z0))
              · rw [a1];exact (e9 _).trans ((set_ne _ _ _ _ _ (by dsimp only;omega)).trans ((e6 _).trans z1))
              · rw [a2];exact (e9 _).trans ((set_ne _ _ _ _ _ (by dsimp only;omega)).trans ((e6 _).trans z2))
              · rw [a3];exact (e9 _).trans ((set_ne _ _ _ _ _ (by dsimp only;omega)).trans ((e6 _).trans z3))
              · rw [a4];exact (e9 _).trans ((set_ne _ _ _ _ _ (by dsimp only;omega)).trans ((e6 _).trans z4))
              · rw [a5];exact (e9 _).trans ((set_ne _ _ _ _ _ (by dsimp only;omega)).trans ((e6 _).trans z5))
              · rw [a6];exact (e9 _).trans (set_eq _ _ _ _ _ y6)
              · exact (e9 _).trans ((set_ne _ _ _ _ _ (by dsimp only;omega)).trans y7)
              · exact (e9 _).trans ((set_ne _ _ _ _ _ (by dsimp only;omega)).trans y8)
            · exact hq9.block gn (lt_of_cell (ow8.cell 0 hp)) (fun e=>b3 hp e.1 e.2)
        have g1:Hid (∀ W',OwnR W' vn gn (F i).p (fun j=>.string ((F i).A j))→Calls Tryz.prog 75 #[vn,.int .i64 (x+1+1+1+1+1+1+1)] W' fun e w'=>e = .returned (.int .i64 (x+1+1+1+1+1+1+1+((F i).p:Int)))∧Kq (fun j=>0 < (F i).p∧j=gn) W' w'∧OwnR w' vn gn (F i).p (fun j=>.string (mtx (kst F k i+7+j)))):=(fun W' h=>mark_strs' W' (kst F k i+7) _ (by omega) h (by omega) (by omega) (by omega):∀ W',_)
        have g2:Hid (∀ W',OwnR W' vk gk (F i).q (fun j=>.int .i64 ((F i).K j))→Calls Tryz.prog 18 #[vk,.int .i64 (x+1+1+1+1+1+1+1+((F i).p:Int))] W' fun e w'=>e = .returned (.int .i64 (x+1+1+1+1+1+1+1+((F i).p:Int)+((F i).q:Int)))∧Kq (fun j=>0 < (F i).q∧j=gk) W' w'∧OwnR w' vk gk (F i).q (fun j=>.int .i64 (((kst F k i+7+(F i).p:Nat):Int)+(j:Int)))):=(fun W' h=>by
          rw [show x+1+1+1+1+1+1+1+((F i).p:Int)=((kst F k i+7+(F i).p:Nat):Int) from by omega]
          exact mark_ints W' _ h (by omega) (by omega) (by omega):∀ W',_)
        have HXN:Hid (x+1+1+1+1+1+1+1+((F i).p:Int)+((F i).q:Int)=(kst F k (i+1):Int)):=by
          show _ = _
          rw [kst_succ];omega
        have hxp:x+1+1+1+1+1+1+1+((F i).p:Int)≤20000000:=by omega
        have hxq:x+1+1+1+1+1+1+1+((F i).p:Int)+((F i).q:Int)≤40000000:=by omega
        have f0:=fz (i*9)
        have f1:=fz (i*9+1)
        have f2:=fz (i*9+2)
        have f3:=fz (i*9+3)
        have f4:=fz (i*9+4)
        have f5:=fz (i*9+5)
        clear fz hI HI hX hN hm hkst HX HN0 b1 b2 b3 o1 o2 hgl hsu hss hup0 hup1 hb0 hbn hbg hXt hin
        dsimp only at c1 c2 c3 c4 c5
        clear c6 c7 c8
        go_wp2_with fail
        refine (hmt _).mono ?_
        rintro e w6 ⟨rfl,hb6⟩
        obtain ⟨y6,fr,y7,y8,ow,hrest⟩:=(show ∀ w6,Below (s6 wr g (i*9) x).heap.size (s6 wr g (i*9) x) w6→_ from HS1) w6 hb6
        have HREST:Hid (_):=hrest
        clear hrest HS1 hmt hb6 c0 c1 c2 c3 c4 c5 f0 f1 f2 f3 f4 f5
        go_wp2_with fail
        refine ((show ∀ W',OwnR W' vn gn (F i).p (fun j=>.string ((F i).A j))→_ from g1) _ ow).mono ?_
        rintro e w8 ⟨rfl,hq8,ow8⟩
        have hr8:=fun w9=>HREST w8 w9 hq8 ow8
        obtain ⟨y8',ow8',_⟩:=hr8 w8
        have HR8:Hid (∀ w9,_):=fun w9=>(hr8 w9).2.2
        clear hr8 HREST ow hq8 ow8 y6 y7 y8 g1 fr
        go_wp2_with fail
        refine ((show ∀ W',OwnR W' vk gk (F i).q (fun j=>.int .i64 ((F i).K j))→_ from g2) _ ow8').mono ?_
        rintro e w9 ⟨rfl,hq9,ow9⟩
        have HF:=HR8 w9 hq9 ow9
        clear HR8 g2 hq9 ow9 ow8' y8'
        have HFF:Hid (Kq (fun b=>lo≤b∧b < hi) w w9∧OwnF w9 (.slice (some ⟨g,0,none⟩) n ca) g n (mix F k (i+1)) t lo hi):=HF
        clear HF
        go_wp2_with fail
        go_roundw
        case rel=>exact ⟨i+1,_,by go_num,rfl,by omega,HXN,HFF⟩
        case measure=>simp [intOf];omega
      · obtain rfl:i=n:=by omega
        have HE:Hid ((Kq (fun b=>lo≤b∧b < hi) w wr∧OwnF wr (.slice (some ⟨g,0,none⟩) i ca) g i (mix F k i) t lo hi)∧x=(kst F k i:Int)):=(⟨hI,hX⟩:_∧_)
        clear HI hI hN HN0 hX HX hm hkst
        go_wp2_with fail
        go_ret
        obtain ⟨⟨e1,e2⟩,e3⟩:=(show (Kq (fun b=>lo≤b∧b < hi) w wr∧OwnF wr (.slice (some ⟨g,0,none⟩) i ca) g i (mix F k i) t lo hi)∧x=(kst F k i:Int) from HE)
        refine ⟨by rw [e3];rfl,e1,⟨e2.sl,fun j hj=>?_,e2.fz,e2.up,e2.bg,e2.b0,e2.bn⟩⟩
        have:=e2.frm j hj
        rwa [show mix F k i j=mkf F k j from if_pos hj] at this
theorem OwnF.below {W W':World} {v:Value} {g n:Nat} {F:Nat→Gv} {t:Nat→Nat} {lo hi:Nat} (h:OwnF W v g n F t lo hi) (hb:Below W.heap.size W W'):OwnF W' v g n F t lo hi :=
  h.keep (fun b _ _ hl=>hb.block b hl)
theorem info3:(Tryz.prog.info? 3).map (fun i=>(i.zero,i.size,i.bytes))=some (some (.int .i64 0),1,8):=by kernel_rfl
def lst (A:Nat→Value) (n:Nat):List Value:=(List.range n).map A
theorem lst_len (A:Nat→Value) (n:Nat):(lst A n).length=n:=by simp [lst]
theorem lst_at (A:Nat→Value) (n j:Nat) (h:j < n):(lst A n)[j]? = some (A j):=by simp [lst,h]
theorem own_of {W:World} {base e n:Nat} {v:Value} {A:Nat→Value} (h:W.ownsRow base e 1 v n (lst A n)):∃ g,OwnR W v g n A∧(0 < n→base≤g∧g < W.heap.size):=by
  rcases h.2 with ⟨rfl,rfl⟩ | ⟨g,cap,cur,rfl,hb,hg,hn,_,_,ht⟩
  · exact ⟨0,⟨⟨none,0,rfl,fun f=>by omega⟩,fun i hi=>by omega,fun f=>by omega⟩,fun f=>by omega⟩
  · refine ⟨g,⟨⟨_,cap,rfl,fun _=>⟨rfl,hn⟩⟩,fun i hi=>?_,fun _ j=>by simp [World.frozen?,hg]⟩,fun _=>⟨hb,(Array.getElem?_eq_some_iff.1 hg).1⟩⟩
    have h1:=lst_at A n i hi
    rw [← ht,Nat.mul_one,List.getElem?_take,if_pos hi] at h1
    simpa [World.cell?,hg] using h1
theorem mark_sheet {v : Value} {g n : Nat} {F : Nat → Gv} {t : Nat → Nat} {lo hi : Nat} (w : World) (ha : OwnF w v g n F t lo hi) (hn : n + smr F n ≤ 1048576) (hh : hi ≤ w.heap.size) :
    Calls Tryz.prog 17 #[.agg #[v],.int .i64 1] w fun e w'=>e = .returned (.int .i64 (kst F 1 n:Int))∧Kq (fun b=>lo≤b∧b < hi) w w'∧OwnF w' v g n (mkf F 1) t lo hi:=by
  have hs:Hid (∀ a:Obj,Calls Tryz.prog 46 #[v,.int .i64 ((1:Nat):Int)] (w.alloc a) fun e w'=>e = .returned (.int .i64 (kst F 1 n:Int))∧Kq (fun b=>lo≤b∧b < hi) (w.alloc a) w'∧OwnF w' v g n (mkf F 1) t lo hi):=(fun a=>mark_forms _ 1 (ha.below (bel1 _ _)) hn (by omega) (by omega):∀ a:Obj,_)
  have HR:Hid (0≤kst F 1 n∧kst F 1 n≤10000000):=(⟨by omega,by unfold kst;omega⟩:_∧_)
  obtain ⟨pa,ca,rfl,_⟩:=ha.sl
  clear hn ha
  go_enter Tryz.func17,Tryz.ntmps17
  go_wp2_with fail
  refine (hs _).mono ?_
  rintro e w1 ⟨rfl,hq,ho⟩
  have HB:Hid (Kq (fun b=>lo≤b∧b < hi) w w1∧OwnF w1 (.slice pa n ca) g n (mkf F 1) t lo hi):=(⟨(Kq.of_below (bel1 w _) (Nat.le_refl _)).trans hq,ho⟩:_∧_)
  clear hq ho hs
  obtain ⟨kk,hkk⟩:∃ kk,kk=kst F 1 n:=⟨_,rfl⟩
  have HKK:Hid (kk=kst F 1 n):=hkk
  rw [← hkk]
  clear hkk
  go_wp2_with fail
  go_ret
  exact ⟨by rw [← show kk=kst F 1 n from HKK];rfl,HB.1,HB.2⟩
end Go.Proofs.YtomcmnompajnlaaGreatDoor.Fo
