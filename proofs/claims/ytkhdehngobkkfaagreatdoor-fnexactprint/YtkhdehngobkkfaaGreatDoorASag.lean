import Derived.Test.YtkhdehngobkkfaaGreatDoorAQua
import Derived.Shelf.Strconv.Clone
set_option maxRecDepth 100000
set_option maxHeartbeats 2000000
namespace Go.Proofs.YtkhdehngobkkfaaGreatDoor
open Go.ChangeShapes Go.WideShapes Go.ChangeAt Go.RowKit
set_option linter.unusedVariables false
theorem bel3(w:World)(a b c:Obj):Below w.heap.size w (((w.alloc a).alloc b).alloc c):=(((Below.refl _ w).alloc (Nat.le_refl _) _).alloc (by simp) _).alloc (by simp;omega) _
def Wm(S:ByteArray)(m:Nat):Prop:=m<=22/\(∀j,j<m->((wordsB j).toList==S.toList)=false)/\(m=22\/((wordsB m).toList==S.toList)=true)
theorem wm_any(S:ByteArray):∃m,Wm S m:=by
 have key:∀n,n<=22->(∃m,m<n/\(∀j,j<m->((wordsB j).toList==S.toList)=false)/\((wordsB m).toList==S.toList)=true)\/(∀j,j<n->((wordsB j).toList==S.toList)=false):=by
  intro n
  induction n with
  |zero=>intro _;right;intro j hj;omega
  |succ n ih=>
   intro hn;rcases ih (by omega)with⟨m,h1,h2,h3⟩|h
   ·left;exact⟨m,by omega,h2,h3⟩
   ·cases hc:((wordsB n).toList==S.toList)with
    |true=>left;exact⟨n,by omega,h,hc⟩
    |false=>
     right
     intro j hj;by_cases e:j=n
     ·subst e;exact hc
     ·exact h j (by omega)
 rcases key 22 (Nat.le_refl _)with⟨m,h1,h2,h3⟩|h
 ·exact⟨m,by omega,h2,.inr h3⟩
 ·exact⟨22,Nat.le_refl _,h,.inl rfl⟩
def wkI(m:Nat):Int:=if m<22 then 10+m else 1
def wkT(m:Nat)(S:ByteArray):ByteArray:=if m<22 then⟨#[]⟩else S
theorem isW_of(x:UInt8)(h:isL x=false):isW x=isD x:=by unfold isW;rw[h];rfl
theorem spec_word(T:ByteArray)(L:List UInt8)(hT:T.data.toList=L)(hlen:L.length<=65536)(k m:Nat)(hk:k<=L.length)(hm:Wm (T.extract k (en isW L k)) m)(w:World):
    Calls Tryz.prog 114 #[.string T,tokV 0 k 0 0 0 ⟨#[]⟩] w λe w'=>e=.returned (.tuple #[tokV (wkI m) k (en isW L k) 0 0 (wkT m (T.extract k (en isW L k))),.int .i64 (-1)])/\Below w.heap.size w w':=by
  have hs:T.size=L.length:=by rw[<-hT];simp
  have HL:LkAll T L:=λj=>spec_look T L hT j;have HSL:=spec_isL;have HSD:=spec_isD;have HLH:Hid (∀(c:UInt8) (w:World),Calls Tryz.prog 98 #[.int .u8 c.toNat] w λe w'=>e=.returned (.bool (isL c))/\w'=w):=HSL;have HDH:Hid (∀(c:UInt8) (w:World),Calls Tryz.prog 96 #[.int .u8 c.toNat] w λe w'=>e=.returned (.bool (isD c))/\w'=w):=HSD;have HW:Hid (Wm (T.extract k (en isW L k)) m):=hm;obtain⟨M,hM,hLM⟩:∃M:Int,M<=65536/\(L.length:Int)<=M:=⟨L.length,by omega,Int.le_refl _⟩
  have hel:=en_le isW L k hk;have heg:=en_ge isW L k;have HSP:=spec_words;clear hT hlen HSL HSD hm;show Calls Tryz.prog 114 #[.string T,.agg #[.int .i64 0,.int .i64 k,.int .i64 0,.int .i64 0,.int .i64 0,.string ⟨#[]⟩]] w _;go_enter Tryz.func114,Tryz.ntmps114;go_wp2_with fail
  go_loop [6] (λa=>∃j:Nat,a=.int .i64 j/\k<=j/\j<=L.length/\Hid (en isW L k=en isW L j)) (λa=>L.length-(intOf a).toNat)
  case atStart=>exact⟨k,rfl,Nat.le_refl _,hk,(rfl:en isW L k=en isW L k)⟩
  case round=>
    obtain⟨j,rfl,hkj,hj,HE⟩:=hrel;have hE:=(uh HE)
    clear HE;have hl:=HL j;have hlet:=(uh HLH) (lk L j)
    have hdig:=(uh HDH) (lk L j)
    have hjM:(j:Int)<=M:=by omega
    by_cases hgo:isW (lk L j)=true
    · have hjn : j < L.length := by
        rcases Nat.lt_or_ge j L.length with h|h
        · exact h
        · rw[lk_none h]at hgo;cases hgo
      have hx:L[j]? =some (lk L j):=by
        have:=List.getElem?_eq_getElem hjn;rw[lk_some this];exact this
      have HN:Hid (en isW L k=en isW L (j+1)):=(hE.trans (en_step hx hgo):en isW L k=en isW L (j+1))
      clear hE HW HSP HL HLH HDH hx;cases hlv:isL (lk L j)with
      |true=>
        rw[hlv]at hlet;clear hgo hlv hdig;generalize ((lk L j).toNat:Int)=xi at*;go_wp2_with fail;refine(hl _).mono ?_;rintro e w1 ⟨rfl,rfl⟩;clear hl;go_wp2_with fail;refine(hlet _).mono ?_;rintro e w1 ⟨rfl,rfl⟩;clear hlet;go_wp2_with fail;refine⟨⟨j+1,by go_num,by omega,by omega,HN⟩,?_⟩;simp[intOf];omega
      |false=>
        rw[hlv]at hlet;rw[isW_of _ hlv]at hgo;rw[hgo]at hdig;clear hgo hlv;generalize ((lk L j).toNat:Int)=xi at*;go_wp2_with fail;refine(hl _).mono ?_;rintro e w1 ⟨rfl,rfl⟩;go_wp2_with fail;refine(hlet _).mono ?_;rintro e w1 ⟨rfl,rfl⟩;clear hlet;go_wp2_with fail;refine(hl _).mono ?_;rintro e w1 ⟨rfl,rfl⟩;clear hl;go_wp2_with fail;refine(hdig _).mono ?_;rintro e w1 ⟨rfl,rfl⟩;clear hdig;go_wp2_with fail;refine⟨⟨j+1,by go_num,by omega,by omega,HN⟩,?_⟩;simp[intOf];omega
    · have hlv : isL (lk L j) = false := by
        unfold isW at hgo;simp at hgo;exact hgo.1
      have hdv:isD (lk L j)=false:=by
        unfold isW at hgo;simp at hgo;exact hgo.2
      have e:en isW L k=j:=by
        rw[hE];rcases Nat.lt_or_ge j L.length with h|h
        · have:=List.getElem?_eq_getElem h;exact en_stop (x:=lk L j) (by rw[lk_some this];exact this) (by simpa using hgo)
        · exact en_end h
      rw[hlv]at hlet;rw[hdv]at hdig;rw[e]at HW;have HE:Hid (en isW L k=j):=e
      have hsl:∀W:World,(Instr.slice 9 (.string T) (some (.int .i64 k)) (some (.int .i64 j)) none).run Tryz.prog W=.ok (.string (T.extract k j)) W:=by
        intro W;rw[run_slice_string (P:=Tryz.prog) W 9 T .i64 .i64 (k:Int) (j:Int) Tryz.underlying9 (by omega) (by omega) (by omega)]
        simp
      clear hE HL HLH HDH hgo hlv hdv e hel heg;generalize ((lk L j).toNat:Int)=xi at*;go_wp2_with fail;refine(hl _).mono ?_;rintro e w1 ⟨rfl,rfl⟩;go_wp2_with fail;refine(hlet _).mono ?_;rintro e w1 ⟨rfl,rfl⟩;clear hlet;go_wp2_with fail;refine(hl _).mono ?_;rintro e w1 ⟨rfl,rfl⟩;clear hl;go_wp2_with fail;refine(hdig _).mono ?_;rintro e w1 ⟨rfl,rfl⟩;clear hdig;go_wp2_with fail;refine(HSP _).mono ?_;rintro e w1 ⟨rfl,rfl⟩;clear HSP;go_wp2_with fail;obtain⟨hm22,hneq,hlast⟩:=(uh HW)
      clear HW;have HNQ:Hid (∀j',j'<m->((wordsB j').toList==(T.extract k j).toList)=false):=hneq;have HLA:Hid (m=22\/((wordsB m).toList==(T.extract k j).toList)=true):=hlast;clear hneq hlast
      go_loop [34] (λa=>∃i:Nat,a=.int .i64 i/\i<=m) (λa=>22-(intOf a).toNat)
      case atStart=>exact⟨0,rfl,Nat.zero_le _⟩
      case round=>
        obtain⟨i,rfl,him⟩:=hrel;by_cases hi:i<m
        · have hc:=(uh HNQ) i hi;have hg:=words_get i (by omega);have hi22:(i:Int)<22:=by omega
          clear HNQ HLA HE;generalize wordsB i=X at*;generalize T.extract k j=S at*;go_wp2_with fail;refine⟨⟨i+1,by go_num,by omega⟩,?_⟩;simp[intOf];omega
        · obtain rfl:i=m:=by omega
          by_cases h22:i=22
          · have ek:wkI i=1:=by unfold wkI;rw[if_neg (by omega)]
            have et:wkT i (T.extract k j)=T.extract k j:=by unfold wkT;rw[if_neg (by omega)]
            have HF:Hid (∀a b:Value,(Value.tuple #[tokV 1 k j 0 0 (T.extract k j),.int .i64 (-1)])=Value.tuple #[tokV (wkI i) k (en isW L k) 0 0 (wkT i (T.extract k (en isW L k))),.int .i64 (-1)]):=by
              show ∀a b:Value,_;intro _ _;rw[show en isW L k=j from HE,ek,et]
            subst h22;clear HNQ HLA HE ek et;generalize T.extract k j=S at*;go_wp2_with fail;refine bodyPost_ret (by simp[results,Tryz.results114,go_sem];rfl) rfl ?_;refine⟨?_,?_⟩
            · exact congrArg Ending.returned ((uh HF) undef undef)
            · exact bel3 w _ _ _
          · have hc:=(uh HLA).resolve_left h22;have hg:=words_get i (by omega);have hi22:(i:Int)<22:=by omega
            have ek:wkI i=10+(i:Int):=by unfold wkI;rw[if_pos (by omega)]
            have et:wkT i (T.extract k j)=⟨#[]⟩:=by unfold wkT;rw[if_pos (by omega)]
            have HF:Hid (∀a b:Value,(Value.tuple #[tokV (10+(i:Int)) k j 0 0 ⟨#[]⟩,.int .i64 (-1)])=Value.tuple #[tokV (wkI i) k (en isW L k) 0 0 (wkT i (T.extract k (en isW L k))),.int .i64 (-1)]):=by
              show ∀a b:Value,_;intro _ _;rw[show en isW L k=j from HE,ek,et]
            clear HNQ HLA HE ek et;generalize wordsB i=X at*;generalize T.extract k j=S at*;go_wp2_with fail;refine bodyPost_ret (by simp[results,Tryz.results114,go_sem];rfl) rfl ?_;refine⟨?_,?_⟩
            · exact congrArg Ending.returned ((uh HF) undef undef)
            · exact bel3 w _ _ _
end Go.Proofs.YtkhdehngobkkfaaGreatDoor
namespace Go.Proofs.YtkhdehngobkkfaaGreatDoor
open Go.Shelf
def renC:Go.Shelf.Ren:=⟨fun|316=>175|n=>n,fun|9=>9|3=>3|4=>4|37=>38|0=>0|127=>69|5=>5|n=>n,fun|n=>n⟩
theorem laysC:Go.Proofs.LaysM.n316 Tryz.prog renC:={
 mixed:=by kernel_rfl
 f316:=Tryz.func175.trans (congrArg some (by kernel_rfl))
 t0:=Tryz.underlying0
 a0:=Tryz.isAgg0
 z0:=Tryz.sizeOf0
 v0:=Tryz.zeroValue0
 t3:=Tryz.underlying3
 a3:=Tryz.isAgg3
 z3:=Tryz.sizeOf3
 v3:=Tryz.zeroValue3
 t4:=Tryz.underlying4
 a4:=Tryz.isAgg4
 z4:=Tryz.sizeOf4
 v4:=Tryz.zeroValue4
 t9:=Tryz.underlying9
 a9:=Tryz.isAgg9
 z9:=Tryz.sizeOf9
 v9:=Tryz.zeroValue9
 t37:=Tryz.underlying38
 a37:=Tryz.isAgg38
 z37:=Tryz.sizeOf38
 v37:=Tryz.zeroValue38
 t127:=Tryz.underlying69
 a127:=Tryz.isAgg69
 z127:=Tryz.sizeOf69
 v127:=Tryz.zeroValue69
 t5:=Tryz.underlying5
 a5:=Tryz.isAgg5
 z5:=Tryz.sizeOf5
 v5:=Tryz.zeroValue5
 i0:=by kernel_rfl
 i3:=by kernel_rfl
 i4:=by kernel_rfl
 i5:=by kernel_rfl
 i9:=by kernel_rfl
 i37:=by kernel_rfl
 i127:=by kernel_rfl}
open Go.RowKit in
theorem lite_clone(s:ByteArray)(w:World)(hlim:s.size<=281474976710656):
  Calls Tryz.prog 175 #[.string s] w λe w'=>e=.returned (.string s)/\Below w.heap.size w w':=Any.stringslite_Clone laysC s w hlim
end Go.Proofs.YtkhdehngobkkfaaGreatDoor
namespace Go.Proofs.YtkhdehngobkkfaaGreatDoor
open Go.ChangeShapes Go.WideShapes Go.ChangeAt Go.RowKit
set_option linter.unusedVariables false
variable {B n:Nat}{a w W w':World}{T:ByteArray}{k l:Int}{st:Bool}
theorem clone_run(s:ByteArray)(h:s.size<=281474976710656)(w:World):Calls Tryz.prog 167 #[.string s] w λe w'=>e=.returned (.string s)/\Below w.heap.size w w':=by
 have hc:=lite_clone s w h;clear h;go_enter Tryz.func167,Tryz.ntmps167;go_wp2_with fail;refine hc.mono ?_;rintro e w1 ⟨rfl,h1⟩;clear hc;go_wp2_with fail;go_ret;exact⟨rfl,h1⟩
structure Gd (w:World):Prop where
 words:w.rangeAt 0 0 wordsA.toList
 marks:w.rangeAt 1 0 marksA.toList
 infx:w.rangeAt 2 0 infixA.toList
 err7:∃t v,w.cell? ⟨11,0,none⟩=some (.iface t v)
 err6:∃t v,w.cell? ⟨10,0,none⟩=some (.iface t v)
 size:12<=w.heap.size
theorem Kb.cell(h:Kb B a w)(p:Addr)(h1:p.block<a.heap.size)(h2:p.block≠B):w.cell? p=a.cell? p:=World.cell?_of_block (h.block p.block h1 h2)
theorem Gd.kb(h:Gd a)(hB:12<=B)(hk:Kb B a w):Gd w:=by
 have hs:=h.size;have e:∀(g:Nat) (j:Nat),g<12->w.cell? ⟨g,j,none⟩=a.cell? ⟨g,j,none⟩:=λg j hg=>hk.cell ⟨g,j,none⟩ (show g<a.heap.size by omega) (show g≠B by omega);refine⟨λj v hv=>?_,λj v hv=>?_,λj v hv=>?_,?_,?_,Nat.le_trans hs hk.size⟩
 ·rw[e 0 _ (by omega)];exact h.words j v hv
 ·rw[e 1 _ (by omega)];exact h.marks j v hv
 ·rw[e 2 _ (by omega)];exact h.infx j v hv
 ·rw[e 11 0 (by omega)];exact h.err7
 ·rw[e 10 0 (by omega)];exact h.err6
theorem tab_index(t n:Nat)(A:Array Value)(hu:Tryz.prog.underlying t=some (.array n 9))(i:Nat)(hi:i<n)(X:ByteArray)(hg:A[i]? =some (.string X))(W:World):
  (Instr.index t (.agg A) (.int .i64 i)).run Tryz.prog W=.ok (.string X) W:=by
 simp[Instr.index,run_underlying hu,asIntOf,go_sem,Tryz.sizeOf9,part,Tryz.isAgg9,hg];intro h;omega
def Rz(n:Nat)(w:World):Prop:=w.heap[n]? =some (.cells #[.int .i64 0,.int .i64 0,.int .i64 0,.int .i64 0,.int .i64 0,.string ⟨#[]⟩] 125 (0,0))
theorem Rz.lt(h:Rz n w):n<w.heap.size:=(Array.getElem?_eq_some_iff.1 h).1
theorem Rz.kb(h:Rz n a)(hk:Kb B a w)(hn:n≠B):Rz n w:=(hk.block n h.lt hn).trans h
theorem Rz.new(w:World):Rz w.heap.size (w.alloc (.cells #[.int .i64 0,.int .i64 0,.int .i64 0,.int .i64 0,.int .i64 0,.string ⟨#[]⟩] 125)):=by show(w.heap.push _)[w.heap.size]? =_;simp
def st6(W:World)(n:Nat)(a b c d e f:Value):World:=((((((W.setCell ⟨n,0,none⟩ a).setCell ⟨n,1,none⟩ b).setCell ⟨n,2,none⟩ c).setCell ⟨n,3,none⟩ d).setCell ⟨n,4,none⟩ e).setCell ⟨n,5,none⟩ f)
theorem st6_heap(h:Rz n W)(a b c d e f:Value):(st6 W n a b c d e f).heap[n]? =some (.cells #[a,b,c,d,e,f] 125 (0,0)):=by
 unfold Rz at h;simp[st6,World.setCell,Array.getElem?_modify,h]
theorem st6_c0(h:Rz n W)(a b c d e f:Value):((((((W.setCell ⟨n,0,none⟩ a).setCell ⟨n,1,none⟩ b).setCell ⟨n,2,none⟩ c).setCell ⟨n,3,none⟩ d).setCell ⟨n,4,none⟩ e).setCell ⟨n,5,none⟩ f).cell? ⟨n,0,none⟩=some a:=by
 have:=st6_heap h a b c d e f;show(st6 W n a b c d e f).cell? ⟨n,0,none⟩=some a;simp[World.cell?,this]
theorem st6_c1(h:Rz n W)(a b c d e f:Value):((((((W.setCell ⟨n,0,none⟩ a).setCell ⟨n,1,none⟩ b).setCell ⟨n,2,none⟩ c).setCell ⟨n,3,none⟩ d).setCell ⟨n,4,none⟩ e).setCell ⟨n,5,none⟩ f).cell? ⟨n,1,none⟩=some b:=by
 have:=st6_heap h a b c d e f;show(st6 W n a b c d e f).cell? ⟨n,1,none⟩=some b;simp[World.cell?,this]
theorem st6_c2(h:Rz n W)(a b c d e f:Value):((((((W.setCell ⟨n,0,none⟩ a).setCell ⟨n,1,none⟩ b).setCell ⟨n,2,none⟩ c).setCell ⟨n,3,none⟩ d).setCell ⟨n,4,none⟩ e).setCell ⟨n,5,none⟩ f).cell? ⟨n,2,none⟩=some c:=by
 have:=st6_heap h a b c d e f;show(st6 W n a b c d e f).cell? ⟨n,2,none⟩=some c;simp[World.cell?,this]
theorem st6_c3(h:Rz n W)(a b c d e f:Value):((((((W.setCell ⟨n,0,none⟩ a).setCell ⟨n,1,none⟩ b).setCell ⟨n,2,none⟩ c).setCell ⟨n,3,none⟩ d).setCell ⟨n,4,none⟩ e).setCell ⟨n,5,none⟩ f).cell? ⟨n,3,none⟩=some d:=by
 have:=st6_heap h a b c d e f;show(st6 W n a b c d e f).cell? ⟨n,3,none⟩=some d;simp[World.cell?,this]
theorem st6_c4(h:Rz n W)(a b c d e f:Value):((((((W.setCell ⟨n,0,none⟩ a).setCell ⟨n,1,none⟩ b).setCell ⟨n,2,none⟩ c).setCell ⟨n,3,none⟩ d).setCell ⟨n,4,none⟩ e).setCell ⟨n,5,none⟩ f).cell? ⟨n,4,none⟩=some e:=by
 have:=st6_heap h a b c d e f;show(st6 W n a b c d e f).cell? ⟨n,4,none⟩=some e;simp[World.cell?,this]
theorem st6_c5(h:Rz n W)(a b c d e f:Value):((((((W.setCell ⟨n,0,none⟩ a).setCell ⟨n,1,none⟩ b).setCell ⟨n,2,none⟩ c).setCell ⟨n,3,none⟩ d).setCell ⟨n,4,none⟩ e).setCell ⟨n,5,none⟩ f).cell? ⟨n,5,none⟩=some f:=by
 have:=st6_heap h a b c d e f;show(st6 W n a b c d e f).cell? ⟨n,5,none⟩=some f;simp[World.cell?,this]
theorem Rz.c0(h:Rz n w):w.cell? ⟨n,0,none⟩=some (.int .i64 0):=by unfold Rz at h;simp[World.cell?,h]
theorem Rz.f0(h:Rz n w):w.frozen? ⟨n,0,none⟩=false:=by unfold Rz at h;simp[World.frozen?,h]
theorem Rz.c1(h:Rz n w):w.cell? ⟨n,1,none⟩=some (.int .i64 0):=by unfold Rz at h;simp[World.cell?,h]
theorem Rz.f1(h:Rz n w):w.frozen? ⟨n,1,none⟩=false:=by unfold Rz at h;simp[World.frozen?,h]
theorem Rz.c2(h:Rz n w):w.cell? ⟨n,2,none⟩=some (.int .i64 0):=by unfold Rz at h;simp[World.cell?,h]
theorem Rz.f2(h:Rz n w):w.frozen? ⟨n,2,none⟩=false:=by unfold Rz at h;simp[World.frozen?,h]
theorem Rz.c3(h:Rz n w):w.cell? ⟨n,3,none⟩=some (.int .i64 0):=by unfold Rz at h;simp[World.cell?,h]
theorem Rz.f3(h:Rz n w):w.frozen? ⟨n,3,none⟩=false:=by unfold Rz at h;simp[World.frozen?,h]
theorem Rz.c4(h:Rz n w):w.cell? ⟨n,4,none⟩=some (.int .i64 0):=by unfold Rz at h;simp[World.cell?,h]
theorem Rz.f4(h:Rz n w):w.frozen? ⟨n,4,none⟩=false:=by unfold Rz at h;simp[World.frozen?,h]
theorem Rz.c5(h:Rz n w):w.cell? ⟨n,5,none⟩=some (.string ⟨#[]⟩):=by unfold Rz at h;simp[World.cell?,h]
theorem Rz.f5(h:Rz n w):w.frozen? ⟨n,5,none⟩=false:=by unfold Rz at h;simp[World.frozen?,h]
theorem Rz.all(h:Rz n w):w.cell? ⟨n,0,none⟩=some (.int .i64 0)/\w.cell? ⟨n,1,none⟩=some (.int .i64 0)/\w.cell? ⟨n,2,none⟩=some (.int .i64 0)/\w.cell? ⟨n,3,none⟩=some (.int .i64 0)/\w.cell? ⟨n,4,none⟩=some (.int .i64 0)/\w.cell? ⟨n,5,none⟩=some (.string ⟨#[]⟩)/\w.frozen? ⟨n,0,none⟩=false/\w.frozen? ⟨n,1,none⟩=false/\w.frozen? ⟨n,2,none⟩=false/\w.frozen? ⟨n,3,none⟩=false/\w.frozen? ⟨n,4,none⟩=false/\w.frozen? ⟨n,5,none⟩=false/\(∀a b c d e f:Value,((((((w.setCell ⟨n,0,none⟩ a).setCell ⟨n,1,none⟩ b).setCell ⟨n,2,none⟩ c).setCell ⟨n,3,none⟩ d).setCell ⟨n,4,none⟩ e).setCell ⟨n,5,none⟩ f).cell? ⟨n,0,none⟩=some a)/\(∀a b c d e f:Value,((((((w.setCell ⟨n,0,none⟩ a).setCell ⟨n,1,none⟩ b).setCell ⟨n,2,none⟩ c).setCell ⟨n,3,none⟩ d).setCell ⟨n,4,none⟩ e).setCell ⟨n,5,none⟩ f).cell? ⟨n,1,none⟩=some b)/\(∀a b c d e f:Value,((((((w.setCell ⟨n,0,none⟩ a).setCell ⟨n,1,none⟩ b).setCell ⟨n,2,none⟩ c).setCell ⟨n,3,none⟩ d).setCell ⟨n,4,none⟩ e).setCell ⟨n,5,none⟩ f).cell? ⟨n,2,none⟩=some c)/\(∀a b c d e f:Value,((((((w.setCell ⟨n,0,none⟩ a).setCell ⟨n,1,none⟩ b).setCell ⟨n,2,none⟩ c).setCell ⟨n,3,none⟩ d).setCell ⟨n,4,none⟩ e).setCell ⟨n,5,none⟩ f).cell? ⟨n,3,none⟩=some d)/\(∀a b c d e f:Value,((((((w.setCell ⟨n,0,none⟩ a).setCell ⟨n,1,none⟩ b).setCell ⟨n,2,none⟩ c).setCell ⟨n,3,none⟩ d).setCell ⟨n,4,none⟩ e).setCell ⟨n,5,none⟩ f).cell? ⟨n,4,none⟩=some e)/\(∀a b c d e f:Value,((((((w.setCell ⟨n,0,none⟩ a).setCell ⟨n,1,none⟩ b).setCell ⟨n,2,none⟩ c).setCell ⟨n,3,none⟩ d).setCell ⟨n,4,none⟩ e).setCell ⟨n,5,none⟩ f).cell? ⟨n,5,none⟩=some f):=
 ⟨h.c0,h.c1,h.c2,h.c3,h.c4,h.c5,h.f0,h.f1,h.f2,h.f3,h.f4,h.f5,st6_c0 h,st6_c1 h,st6_c2 h,st6_c3 h,st6_c4 h,st6_c5 h⟩
theorem st6_mv(h:Mv B T k l st w W)(hn:w.heap.size<=n)(hB:n≠B)(a b c d e f:Value):Mv B T k l st w (st6 W n a b c d e f):=by
 obtain⟨h1,h2⟩:=h;refine⟨?_,?_⟩
 ·exact(((((h1.setNew _ hn _).setNew _ hn _).setNew _ hn _).setNew _ hn _).setNew _ hn _).setNew _ hn _
 ·unfold Sb at*;unfold st6
  repeat rw[Below.heap_setCell _ _ _ _ (by exact λg=>hB g.symm)]
  exact h2
def Mz(B n:Nat)(T:ByteArray)(k l:Int)(st:Bool)(w w':World):Prop:=Mv B T k l st w w'/\Rz n w'
theorem Mz.trans{k' l':Int}{st':Bool}{b c:World}(h:Mz B n T k l st a b)(g:Mv B T k' l' st' b c)(hn:n≠B):Mz B n T k' l' st' a c:=⟨h.1.trans g,h.2.kb g.1 hn⟩
theorem Mz.start(h:Sb B T k l st w):Mz B w.heap.size T k l st w (w.alloc (.cells #[.int .i64 0,.int .i64 0,.int .i64 0,.int .i64 0,.int .i64 0,.string ⟨#[]⟩] 125)):=
 ⟨Mv.below h ((Below.refl _ w).alloc (Nat.le_refl _) _) (Nat.le_refl _),Rz.new w⟩
theorem Mz.set1(h:Mz B n T k l st w w')(hn:n≠B)(k':Int):Mz B n T k' l st w (w'.setCell ⟨B,1,none⟩ (.int .i64 k')):=
 ⟨⟨h.1.1.setCell 1 _,h.1.2.set1 k'⟩,by unfold Rz;rw[Below.heap_setCell _ _ _ _ hn];exact h.2⟩
theorem Mz.drewN(h:Mz B n T k l st w w')(m:Nat):Mz B n T k l st w (w'.drewN m):=⟨⟨h.1.1.drewN m,h.1.2⟩,h.2⟩
theorem impl_word(L:List UInt8)(hT:T.data.toList=L){k:Nat}(hlen:T.size<=65536)(m:Nat)(hk:k<=L.length)(hm:Wm (T.extract k (en isW L k)) m)(hB:12<=B)(w:World)(hg:Gd w)(h:Sb B T k l st w):
    Calls Tryz.prog 160 #[.pointer (some ⟨B,0,none⟩)] w λe w'=>e=.returned (tokV (wkI m) 0 0 0 0 (wkT m (T.extract k (en isW L k))))/\Mv B T (en isW L k:Nat) l st w w':=by
  have hs:T.size=L.length:=by rw[<-hT];simp
  have HX:IxAll T L:=λj c hj=>ix T L hT j c hj;have HIL:Hid (∀(c:UInt8) (w:World),Calls Tryz.prog 159 #[.int .u8 c.toNat] w λe w'=>e=.returned (.bool (isL c))/\w'=w):=impl_isL;have HID:Hid (∀(c:UInt8) (w:World),Calls Tryz.prog 161 #[.int .u8 c.toNat] w λe w'=>e=.returned (.bool (isD c))/\w'=w):=impl_isD;have HW:Hid (Wm (T.extract k (en isW L k)) m):=hm;obtain⟨M,hM,hLM⟩:∃M:Int,M<=65536/\(L.length:Int)<=M:=⟨L.length,by omega,Int.le_refl _⟩
  have hel:=en_le isW L k hk;have heg:=en_ge isW L k;have hcl:Hid (T.size<=65536):=hlen;have HG:Hid (Gd w):=hg;have hBlt:B<w.heap.size:=h.lt;have hnB:w.heap.size≠B:=by omega
  have hz:=Mz.start h;have c1:=hz.1.2.c1;have HS:Hid (Mz B w.heap.size T k l st w (w.alloc (.cells #[.int .i64 0,.int .i64 0,.int .i64 0,.int .i64 0,.int .i64 0,.string ⟨#[]⟩] 125))):=hz;clear hT hlen hm hg h hz;go_enter Tryz.func160,Tryz.ntmps160;go_wp2_with fail;clear c1
  go_loopw [] (λwr=>∃j:Nat,k<=j/\j<=L.length/\Hid (Mz B w.heap.size T j l st w wr/\en isW L k=en isW L j)) (λwr=>L.length-atOf B wr)
  case atStart=>exact⟨k,Nat.le_refl _,hk,(⟨HS,rfl⟩:Mz B w.heap.size T k l st w (w.alloc (.cells #[.int .i64 0,.int .i64 0,.int .i64 0,.int .i64 0,.int .i64 0,.string ⟨#[]⟩] 125))/\en isW L k=en isW L k)⟩
  case round=>
    clear HS;obtain⟨j,hkj,hj,HR⟩:=hrel;obtain⟨hK,hE⟩:=(uh HR)
    clear HR;have hat:=atOf_sb hK.1.2;have hjM:(j:Int)<=M:=by omega
    have b0:=hK.1.2.c0;have b1:=hK.1.2.c1;have f1:=hK.1.2.fz 1;by_cases hjn:j<L.length/\isW (lk L j)=true
    · obtain⟨hjn,hgo⟩:=hjn
      have hx:L[j]? =some (lk L j):=by
        have:=List.getElem?_eq_getElem hjn;rw[lk_some this];exact this
      have hix:=HX j _ hx;have he:=ended_in B T j l st false (by simp;omega) wr hK.1.2;have hlet:=(uh HIL) (lk L j)
      have hdig:=(uh HID) (lk L j)
      have HN:Hid (∀q,Mz B w.heap.size T ((j+1:Nat):Int) l st w ((wr.drewN q).setCell ⟨B,1,none⟩ (.int .i64 ((j:Int)+1)))/\en isW L k=en isW L (j+1)):=
        (λq=>⟨(hK.drewN q).set1 hnB _,hE.trans (en_step hx hgo)⟩:∀q,Mz B w.heap.size T ((j+1:Nat):Int) l st w ((wr.drewN q).setCell ⟨B,1,none⟩ (.int .i64 ((j:Int)+1)))/\en isW L k=en isW L (j+1))
      clear hK hE HW HIL HID HG hcl hx HX hel heg;cases hlv:isL (lk L j)with
      |true=>
        rw[hlv]at hlet;clear hgo hlv hdig;generalize ((lk L j).toNat:Int)=xi at*;go_wp2_with fail
        go_quiet ((first|(go_at_call 144;exact he _)|(go_at_call 159;exact Calls.quiet_of_same (hlet _))))
        go_wp2_with fail;have hN:=(uh HN) nq;refine⟨⟨j+1,by omega,by omega,hN⟩,?_⟩;rw[atOf_sb hN.1.1.2,hat];omega
      |false=>
        rw[hlv]at hlet;rw[isW_of _ hlv]at hgo;rw[hgo]at hdig;clear hgo hlv;generalize ((lk L j).toNat:Int)=xi at*;go_wp2_with fail
        go_quiet ((first|(go_at_call 144;exact he _)|(go_at_call 159;exact Calls.quiet_of_same (hlet _))|(go_at_call 161;exact Calls.quiet_of_same (hdig _))))
        go_wp2_with fail;have hN:=(uh HN) nq;refine⟨⟨j+1,by omega,by omega,hN⟩,?_⟩;rw[atOf_sb hN.1.1.2,hat];omega
    · have e : en isW L k = j := by
        rw[hE];rcases Nat.lt_or_ge j L.length with h|h
        · have hg:=List.getElem?_eq_getElem h;exact en_stop (x:=lk L j) (by rw[lk_some hg];exact hg) (by simp at hjn;exact hjn h)
        · exact en_end h
      have hsl:∀W:World,(Instr.slice 9 (.string T) (some (.int .i64 k)) (some (.int .i64 j)) none).run Tryz.prog W=.ok (.string (T.extract k j)) W:=by
        intro W;rw[run_slice_string (P:=Tryz.prog) W 9 T .i64 .i64 (k:Int) (j:Int) Tryz.underlying9 (by omega) (by omega) (by omega)]
        simp
      rw[e]at HW;have HE:Hid (en isW L k=j):=e;have HKH:Hid (Mz B w.heap.size T j l st w wr):=hK;have HSB:Hid (Sb B T j l st wr):=hK.1.2;have hfin:Hid (∀W,Mz B w.heap.size T j l st wr W->True):=(λ_ _=>trivial:∀W,Mz B w.heap.size T j l st wr W->True)
      have HGr:Hid (Gd wr):=(uh HG).kb hB hK.1.1;clear HG hfin hel heg hE;have behind:∀nq:Nat,∃W:World,W=wr.drewN nq/\Mz B w.heap.size T j l st w W/\Gd W:=λnq=>⟨_,rfl,hK.drewN nq,⟨HGr.words,HGr.marks,HGr.infx,HGr.err7,HGr.err6,HGr.size⟩⟩
      have HBH:Hid (∀nq:Nat,∃W:World,W=wr.drewN nq/\Mz B w.heap.size T j l st w W/\Gd W):=behind;clear behind HGr hK HKH;rcases Nat.lt_or_ge j L.length with hjl|hjl
      · have hx : L[j]? = some (lk L j) := by
          have:=List.getElem?_eq_getElem hjl;rw[lk_some this];exact this
        have hW0:isW (lk L j)=false:=by simp at hjn;exact hjn hjl
        have hlv:isL (lk L j)=false:=by unfold isW at hW0;simp at hW0;exact hW0.1
        have hdv:isD (lk L j)=false:=by unfold isW at hW0;simp at hW0;exact hW0.2
        have hix:=HX j _ hx;have he:=ended_in B T j l st false (by simp;omega) wr (uh HSB);have hlet:=(uh HIL) (lk L j)
        have hdig:=(uh HID) (lk L j)
        rw[hlv]at hlet;rw[hdv]at hdig;clear HX HIL HID hx hW0 hlv hdv hjn e HSB;generalize ((lk L j).toNat:Int)=xi at*;go_wp2_with fail
        go_quiet ((first|(go_at_call 144;exact he _)|(go_at_call 159;exact Calls.quiet_of_same (hlet _))|(go_at_call 161;exact Calls.quiet_of_same (hdig _))))
        go_wp2_with fail;clear he hlet hdig hix;obtain⟨W,hWe,hKW,hGW⟩:=(uh HBH) nq;rw[<-hWe];clear HBH b0 b1 f1 hat hWe;have b0:=hKW.1.2.c0;have b1:=hKW.1.2.c1;have HKW:Hid (Mz B w.heap.size T j l st w W/\Gd W):=(⟨hKW,hGW⟩:_/\_)
        clear hKW hGW
        go_quiet (fail)
        obtain⟨W2,hWe2,HK2⟩:∃W2:World,W2=W.drewN nq/\Hid (Mz B w.heap.size T j l st w W2/\Gd W2):=⟨_,rfl,(⟨HKW.1.drewN nq,⟨HKW.2.words,HKW.2.marks,HKW.2.infx,HKW.2.err7,HKW.2.err6,HKW.2.size⟩⟩:_/\_)⟩
        rw[<-hWe2];clear hWe2 b0 b1 HKW;have HRG:Hid (W2.rangeAt 0 0 wordsA.toList):=HK2.2.words;go_wp2_with (refine wpList_load_mid rfl 143 (.global 0) rfl 0 0 rfl wordsA.toList _ HRG Tryz.underlying143 rfl (by kernel_rfl) ?_);clear HRG;obtain⟨hm22,hneq,hlast⟩:=(uh HW)
        clear HW;have HNQ:Hid (∀j',j'<m->((wordsB j').toList==(T.extract k j).toList)=false):=hneq;have HLA:Hid (m=22\/((wordsB m).toList==(T.extract k j).toList)=true):=hlast;clear hneq hlast
        go_loop [67] (λa=>∃i:Nat,a=.int .i64 i/\i<=m) (λa=>22-(intOf a).toNat)
        case atStart=>exact⟨0,rfl,Nat.zero_le _⟩
        case round=>
          obtain⟨i,rfl,him⟩:=hrel;by_cases hi:i<m
          · have hc:=(uh HNQ) i hi;have hgi:=tab_index 143 22 wordsA Tryz.underlying143 i (by omega) _ (words_get i (by omega));have hi22:(i:Int)<22:=by omega
            clear HNQ HLA HE HK2 hcl;generalize wordsB i=X at*;generalize T.extract k j=S at*;go_wp2_with fail;refine⟨⟨i+1,by go_num,by omega⟩,?_⟩;simp[intOf];omega
          · obtain rfl:i=m:=by omega
            by_cases h22:i=22
            · have ek:wkI i=1:=by unfold wkI;rw[if_neg (by omega)]
              have et:wkT i (T.extract k j)=T.extract k j:=by unfold wkT;rw[if_neg (by omega)]
              have HF:Hid (tokV 1 0 0 0 0 (T.extract k j)=tokV (wkI i) 0 0 0 0 (wkT i (T.extract k (en isW L k)))/\en isW L k=j):=by
                show _/\_;rw[show en isW L k=j from HE,ek,et];exact⟨rfl,rfl⟩
              have hsize:(T.extract k j).size<=281474976710656:=by rw[ByteArray.size_extract];have:=(show T.size<=65536 from hcl);omega
              have hcc:=clone_run (T.extract k j) hsize W2;have hiN:¬(i:Int)<22:=by omega
              clear HNQ HLA HE ek et hsize hcl h22;generalize T.extract k j=S at*;go_wp2_with fail;refine hcc.mono ?_;rintro e W3 ⟨rfl,hb3⟩
              obtain⟨HK3,z3⟩:Mv B T j l st w W3/\Rz w.heap.size W3:=by
                have h3:=HK2.1.trans (Mv.below HK2.1.1.2 hb3 (Nat.le_refl _)) hnB;exact⟨h3.1,h3.2⟩
              have HKH3:Hid (Mv B T j l st w W3):=HK3;obtain⟨g0,g1,g2,g3,g4,g5,y0,y1,y2,y3,y4,y5,e0,e1,e2,e3,e4,e5⟩:=z3.all;have HE6:Hid (True):=trivial;clear hcc hb3 HK2 HK3 z3;go_wp2_with fail;refine bodyPost_ret (by simp[results,Tryz.results160,go_sem,e0,e1,e2,e3,e4,e5];rfl) rfl ?_;refine⟨congrArg Ending.returned HF.1,?_⟩;rw[HF.2];exact st6_mv HKH3 (Nat.le_refl _) hnB _ _ _ _ _ _
            · have hc:=(uh HLA).resolve_left h22;have hgi:=tab_index 143 22 wordsA Tryz.underlying143 i (by omega) _ (words_get i (by omega));have hi22:(i:Int)<22:=by omega
              have ek:wkI i=10+(i:Int):=by unfold wkI;rw[if_pos (by omega)]
              have et:wkT i (T.extract k j)=⟨#[]⟩:=by unfold wkT;rw[if_pos (by omega)]
              have HF:Hid (tokV (10+(i:Int)) 0 0 0 0 ⟨#[]⟩=tokV (wkI i) 0 0 0 0 (wkT i (T.extract k (en isW L k)))/\en isW L k=j):=by
                show _/\_;rw[show en isW L k=j from HE,ek,et];exact⟨rfl,rfl⟩
              have HKH3:Hid (Mv B T j l st w W2):=HK2.1.1;have z3:=HK2.1.2;obtain⟨g0,g1,g2,g3,g4,g5,y0,y1,y2,y3,y4,y5,e0,e1,e2,e3,e4,e5⟩:=z3.all;clear HNQ HLA HE ek et HK2 z3 hcl h22;generalize wordsB i=X at*;generalize T.extract k j=S at*;go_wp2_with fail;refine bodyPost_ret (by simp[results,Tryz.results160,go_sem,e0,e1,e2,e3,e4,e5];rfl) rfl ?_;refine⟨congrArg Ending.returned HF.1,?_⟩;rw[HF.2];exact st6_mv HKH3 (Nat.le_refl _) hnB _ _ _ _ _ _
      · have he:=ended_in B T j l st true (by simp;omega) wr (uh HSB);clear HX HIL HID hjn e HSB;go_wp2_with fail
        go_quiet ((first|(go_at_call 144;exact he _)))
        go_wp2_with fail;clear he;obtain⟨W,hWe,hKW,hGW⟩:=(uh HBH) nq;rw[<-hWe];clear HBH b0 b1 f1 hat hWe;have b0:=hKW.1.2.c0;have b1:=hKW.1.2.c1;have HKW:Hid (Mz B w.heap.size T j l st w W/\Gd W):=(⟨hKW,hGW⟩:_/\_)
        clear hKW hGW
        go_quiet (fail)
        obtain⟨W2,hWe2,HK2⟩:∃W2:World,W2=W.drewN nq/\Hid (Mz B w.heap.size T j l st w W2/\Gd W2):=⟨_,rfl,(⟨HKW.1.drewN nq,⟨HKW.2.words,HKW.2.marks,HKW.2.infx,HKW.2.err7,HKW.2.err6,HKW.2.size⟩⟩:_/\_)⟩
        rw[<-hWe2];clear hWe2 b0 b1 HKW;have HRG:Hid (W2.rangeAt 0 0 wordsA.toList):=HK2.2.words;go_wp2_with (refine wpList_load_mid rfl 143 (.global 0) rfl 0 0 rfl wordsA.toList _ HRG Tryz.underlying143 rfl (by kernel_rfl) ?_);clear HRG;obtain⟨hm22,hneq,hlast⟩:=(uh HW)
        clear HW;have HNQ:Hid (∀j',j'<m->((wordsB j').toList==(T.extract k j).toList)=false):=hneq;have HLA:Hid (m=22\/((wordsB m).toList==(T.extract k j).toList)=true):=hlast;clear hneq hlast
        go_loop [67] (λa=>∃i:Nat,a=.int .i64 i/\i<=m) (λa=>22-(intOf a).toNat)
        case atStart=>exact⟨0,rfl,Nat.zero_le _⟩
        case round=>
          obtain⟨i,rfl,him⟩:=hrel;by_cases hi:i<m
          · have hc:=(uh HNQ) i hi;have hgi:=tab_index 143 22 wordsA Tryz.underlying143 i (by omega) _ (words_get i (by omega));have hi22:(i:Int)<22:=by omega
            clear HNQ HLA HE HK2 hcl;generalize wordsB i=X at*;generalize T.extract k j=S at*;go_wp2_with fail;refine⟨⟨i+1,by go_num,by omega⟩,?_⟩;simp[intOf];omega
          · obtain rfl:i=m:=by omega
            by_cases h22:i=22
            · have ek:wkI i=1:=by unfold wkI;rw[if_neg (by omega)]
              have et:wkT i (T.extract k j)=T.extract k j:=by unfold wkT;rw[if_neg (by omega)]
              have HF:Hid (tokV 1 0 0 0 0 (T.extract k j)=tokV (wkI i) 0 0 0 0 (wkT i (T.extract k (en isW L k)))/\en isW L k=j):=by
                show _/\_;rw[show en isW L k=j from HE,ek,et];exact⟨rfl,rfl⟩
              have hsize:(T.extract k j).size<=281474976710656:=by rw[ByteArray.size_extract];have:=(show T.size<=65536 from hcl);omega
              have hcc:=clone_run (T.extract k j) hsize W2;have hiN:¬(i:Int)<22:=by omega
              clear HNQ HLA HE ek et hsize hcl h22;generalize T.extract k j=S at*;go_wp2_with fail;refine hcc.mono ?_;rintro e W3 ⟨rfl,hb3⟩
              obtain⟨HK3,z3⟩:Mv B T j l st w W3/\Rz w.heap.size W3:=by
                have h3:=HK2.1.trans (Mv.below HK2.1.1.2 hb3 (Nat.le_refl _)) hnB;exact⟨h3.1,h3.2⟩
              have HKH3:Hid (Mv B T j l st w W3):=HK3;obtain⟨g0,g1,g2,g3,g4,g5,y0,y1,y2,y3,y4,y5,e0,e1,e2,e3,e4,e5⟩:=z3.all;have HE6:Hid (True):=trivial;clear hcc hb3 HK2 HK3 z3;go_wp2_with fail;refine bodyPost_ret (by simp[results,Tryz.results160,go_sem,e0,e1,e2,e3,e4,e5];rfl) rfl ?_;refine⟨congrArg Ending.returned HF.1,?_⟩;rw[HF.2];exact st6_mv HKH3 (Nat.le_refl _) hnB _ _ _ _ _ _
            · have hc:=(uh HLA).resolve_left h22;have hgi:=tab_index 143 22 wordsA Tryz.underlying143 i (by omega) _ (words_get i (by omega));have hi22:(i:Int)<22:=by omega
              have ek:wkI i=10+(i:Int):=by unfold wkI;rw[if_pos (by omega)]
              have et:wkT i (T.extract k j)=⟨#[]⟩:=by unfold wkT;rw[if_pos (by omega)]
              have HF:Hid (tokV (10+(i:Int)) 0 0 0 0 ⟨#[]⟩=tokV (wkI i) 0 0 0 0 (wkT i (T.extract k (en isW L k)))/\en isW L k=j):=by
                show _/\_;rw[show en isW L k=j from HE,ek,et];exact⟨rfl,rfl⟩
              have HKH3:Hid (Mv B T j l st w W2):=HK2.1.1;have z3:=HK2.1.2;obtain⟨g0,g1,g2,g3,g4,g5,y0,y1,y2,y3,y4,y5,e0,e1,e2,e3,e4,e5⟩:=z3.all;clear HNQ HLA HE ek et HK2 z3 hcl h22;generalize wordsB i=X at*;generalize T.extract k j=S at*;go_wp2_with fail;refine bodyPost_ret (by simp[results,Tryz.results160,go_sem,e0,e1,e2,e3,e4,e5];rfl) rfl ?_;refine⟨congrArg Ending.returned HF.1,?_⟩;rw[HF.2];exact st6_mv HKH3 (Nat.le_refl _) hnB _ _ _ _ _ _
def opsL:List (List UInt8):=[[],[43],[45],[42],[47],[47,47],[37],[38],[124],[126],[60,60],[62,62],[46,46],[61,61],[126,61],[60],[60,61],[62],[62,61]]
def opsB(i:Nat):ByteArray:=⟨(opsL.getD i []).toArray⟩
def opsA:Array Value:=(opsL.map (λx=>Value.string ⟨x.toArray⟩)).toArray
theorem ops_len:opsL.length=19:=by decide
theorem ops_get(i:Nat)(hi:i<19):opsA[i]? =some (.string (opsB i)):=by
 have h:i<opsL.length:=by rw[ops_len];exact hi
 simp[opsA,opsB,List.getElem?_eq_getElem h]
def sgnL:List (List UInt8):=[[46,46,46],[46,46],[46],[60,60],[60,61],[60],[62,62],[62,61],[62],[61,61],[61],[126,61],[126],[47,47],[47],[40],[41],[123],[125],[91],[93],[44],[59],[35],[43],[45],[42],[37],[38],[124]]
def sgnB(i:Nat):ByteArray:=⟨(sgnL.getD i []).toArray⟩
def sgnA:Array Value:=(sgnL.map (λx=>Value.string ⟨x.toArray⟩)).toArray
theorem sgn_len:sgnL.length=30:=by decide
theorem sgn_get(i:Nat)(hi:i<30):sgnA[i]? =some (.string (sgnB i)):=by
 have h:i<sgnL.length:=by rw[sgn_len];exact hi
 simp[sgnA,sgnB,List.getElem?_eq_getElem h]
theorem sgn_list(i:Nat):(sgnB i).data.toList=sgnL.getD i []:=by simp[sgnB]
def Fm(f:Nat->ByteArray)(N:Nat)(S:ByteArray)(m:Nat):Prop:=m<=N/\(∀j,j<m->((f j).toList==S.toList)=false)/\(m=N\/((f m).toList==S.toList)=true)
theorem fm_any(f:Nat->ByteArray)(N:Nat)(S:ByteArray):∃m,Fm f N S m:=by
 have key:∀n,n<=N->(∃m,m<n/\(∀j,j<m->((f j).toList==S.toList)=false)/\((f m).toList==S.toList)=true)\/(∀j,j<n->((f j).toList==S.toList)=false):=by
  intro n
  induction n with
  |zero=>intro _;right;intro j hj;omega
  |succ n ih=>
   intro hn;rcases ih (by omega)with⟨m,h1,h2,h3⟩|h
   ·left;exact⟨m,by omega,h2,h3⟩
   ·cases hc:((f n).toList==S.toList)with
    |true=>left;exact⟨n,by omega,h,hc⟩
    |false=>
     right
     intro j hj;by_cases e:j=n
     ·subst e;exact hc
     ·exact h j (by omega)
 rcases key N (Nat.le_refl _)with⟨m,h1,h2,h3⟩|h
 ·exact⟨m,by omega,h2,.inr h3⟩
 ·exact⟨N,Nat.le_refl _,h,.inl rfl⟩
theorem ops_infix(j:Nat):opsB (j+1)=infixB j:=by
 unfold opsB infixB;rfl
def kS(a b:Nat):Int:=if a<18 then 61+a else if b<11 then 40+b else 5
def kI(s1 s2:Bool)(a b:Nat):Int:=if s1 then 5 else if s2 then 7 else if b<11 then 40+b else if a<18 then 61+a else 0
theorem bel2(w:World)(a b:Obj):Below w.heap.size w ((w.alloc a).alloc b):=((Below.refl _ w).alloc (Nat.le_refl _) _).alloc (by simp) _
theorem spec_signs(w:World):Calls Tryz.prog 77 #[] w λe w'=>e=.returned (.slice (some ⟨w.heap.size,0,none⟩) 30 30)/\w'=w.alloc (.cells sgnA 9):=by
 go_enter Tryz.func77,Tryz.ntmps77;go_wp2;go_ret;exact⟨rfl,rfl⟩
theorem opsA_lit:opsA=#[.string ⟨#[]⟩,.string ⟨#[43]⟩,.string ⟨#[45]⟩,.string ⟨#[42]⟩,.string ⟨#[47]⟩,.string ⟨#[47,47]⟩,.string ⟨#[37]⟩,.string ⟨#[38]⟩,.string ⟨#[124]⟩,.string ⟨#[126]⟩,.string ⟨#[60,60]⟩,.string ⟨#[62,62]⟩,.string ⟨#[46,46]⟩,.string ⟨#[61,61]⟩,.string ⟨#[126,61]⟩,.string ⟨#[60]⟩,.string ⟨#[60,61]⟩,.string ⟨#[62]⟩,.string ⟨#[62,61]⟩]:=rfl
theorem marksA_lit:marksA=#[.string ⟨#[40]⟩,.string ⟨#[41]⟩,.string ⟨#[123]⟩,.string ⟨#[125]⟩,.string ⟨#[91]⟩,.string ⟨#[93]⟩,.string ⟨#[44]⟩,.string ⟨#[61]⟩,.string ⟨#[46]⟩,.string ⟨#[46,46,46]⟩,.string ⟨#[35]⟩]:=rfl
theorem spec_sign(S:ByteArray)(a b:Nat)(ha:Fm infixB 18 S a)(hb:Fm marksB 11 S b)(w:World):
  Calls Tryz.prog 78 #[.string S] w λe w'=>e=.returned (.int .i64 (kS a b))/\Below w.heap.size w w':=by
 have HA:Hid (Fm infixB 18 S a):=ha;have HB:Hid (Fm marksB 11 S b):=hb;clear ha hb;go_enter Tryz.func78,Tryz.ntmps78;go_wp2_with fail;rw[<-opsA_lit];go_wp2_with fail
 go_loop [4] (λv=>∃i:Nat,v=.int .i64 ((i+1:Nat):Int)/\i<=a) (λv=>19-(intOf v).toNat)
 case atStart=>exact⟨0,rfl,Nat.zero_le _⟩
 case round=>
  obtain⟨i,rfl,hia⟩:=hrel;obtain⟨h18,hneq,hlast⟩:=(uh HA)
  by_cases hi:i<a
  ·have hc:=hneq i hi;have hg:=ops_get (i+1) (by omega);rw[ops_infix]at hg;have hi18:(i:Int)+1<19:=by omega
   clear HA HB hneq hlast;generalize infixB i=X at*;go_wp2_with fail;refine⟨⟨i+1,by go_num,by omega⟩,?_⟩;simp[intOf];omega
  ·obtain rfl:i=a:=by omega
   by_cases h:i=18
   ·have hn:¬(i:Int)+1<19:=by omega
    obtain⟨h11,hneqb,hlastb⟩:=(uh HB)
    have HNB:Hid (∀j,j<b->((marksB j).toList==S.toList)=false):=hneqb;have HLB:Hid (b=11\/((marksB b).toList==S.toList)=true):=hlastb;have HK:Hid (kS i b=if b<11 then 40+(b:Int)else 5):=by show kS i b=_;unfold kS;rw[if_neg (by omega)]
    clear HA HB hneq hlast hneqb hlastb h;go_wp2_with fail;rw[<-marksA_lit];go_wp2_with fail
    go_loop [26] (λv=>∃j:Nat,v=.int .i64 j/\j<=b) (λv=>11-(intOf v).toNat)
    case atStart=>exact⟨0,rfl,Nat.zero_le _⟩
    case round=>
     obtain⟨j,rfl,hjb⟩:=hrel;by_cases hj:j<b
     ·have hc:=(uh HNB) j hj;have hg:=marks_get j (by omega);have hj11:(j:Int)<11:=by omega
      clear HNB HLB HK;generalize marksB j=X at*;go_wp2_with fail;refine⟨⟨j+1,by go_num,by omega⟩,?_⟩;simp[intOf];omega
     ·obtain rfl:j=b:=by omega
      by_cases hb11:j=11
      ·have hn2:¬(j:Int)<11:=by omega
       have HK2:Hid (kS i j=5):=by show kS i j=5;rw[show kS i j=if j<11 then 40+(j:Int)else 5 from HK,if_neg (by omega)]
       clear HNB HLB HK hb11;go_wp2_with fail;go_ret;exact⟨by rw[show kS i j=5 from HK2];rfl,bel2 w _ _⟩
      ·have hc:=(uh HLB).resolve_left hb11;have hg:=marks_get j (by omega);have hj11:(j:Int)<11:=by omega
       have HK2:Hid (kS i j=40+(j:Int)):=by show kS i j=_;rw[show kS i j=if j<11 then 40+(j:Int)else 5 from HK,if_pos (by omega)]
       clear HNB HLB HK;generalize marksB j=X at*;go_wp2_with fail;go_ret;exact⟨by rw[show kS i j=40+(j:Int)from HK2];rfl,bel2 w _ _⟩
   ·have hc:=hlast.resolve_left h;have hg:=ops_get (i+1) (by omega);rw[ops_infix]at hg;have hi18:(i:Int)+1<19:=by omega
    have HK2:Hid (kS i b=60+((i:Int)+1)):=by show kS i b=_;unfold kS;rw[if_pos (by omega)];omega
    clear HA HB hneq hlast;generalize infixB i=X at*;go_wp2_with fail;go_ret;exact⟨by rw[show kS i b=60+((i:Int)+1)from HK2];rfl,(Below.refl _ w).alloc (Nat.le_refl _) _⟩
theorem impl_sign(S:ByteArray)(s1 s2:Bool)(h1:(S.toList==[59])=s1)(h2:(S.toList==[10])=s2)(a b:Nat)(ha:Fm infixB 18 S a)(hb:Fm marksB 11 S b)(w:World)(hg:Gd w):
  Calls Tryz.prog 174 #[.string S] w λe w'=>e=.returned (.int .i64 (kI s1 s2 a b))/\w'=w:=by
 have HA:Hid (Fm infixB 18 S a):=ha;have HB:Hid (Fm marksB 11 S b):=hb;have HR1:Hid (w.rangeAt 1 0 marksA.toList):=hg.marks;have HR2:Hid (w.rangeAt 2 0 infixA.toList):=hg.infx;clear ha hb hg;cases s1 with
 |true=>
  show Calls Tryz.prog 174 #[.string S] w λe w'=>e=.returned (.int .i64 5)/\w'=w;clear HA HB HR1 HR2 h2;go_enter Tryz.func174,Tryz.ntmps174;go_wp2_with fail;go_ret;exact⟨rfl,rfl⟩
 |false=>
  cases s2 with
  |true=>
   show Calls Tryz.prog 174 #[.string S] w λe w'=>e=.returned (.int .i64 7)/\w'=w;clear HA HB HR1 HR2;go_enter Tryz.func174,Tryz.ntmps174;go_wp2_with fail;go_ret;exact⟨rfl,rfl⟩
  |false=>
   have HK:Hid (kI false false a b=if b<11 then 40+(b:Int)else if a<18 then 61+(a:Int)else 0):=rfl;go_enter Tryz.func174,Tryz.ntmps174;go_wp2_with (refine wpList_load_mid rfl 144 (.global 1) rfl 1 0 rfl marksA.toList _ HR1 Tryz.underlying144 rfl (by kernel_rfl) ?_);clear HR1 h1 h2;obtain⟨h11,hneqb,hlastb⟩:=(uh HB)
   have HNB:Hid (∀j,j<b->((marksB j).toList==S.toList)=false):=hneqb;have HLB:Hid (b=11\/((marksB b).toList==S.toList)=true):=hlastb;clear HB hneqb hlastb
   go_loop [13] (λv=>∃j:Nat,v=.int .i64 j/\j<=b) (λv=>11-(intOf v).toNat)
   case atStart=>exact⟨0,rfl,Nat.zero_le _⟩
   case round=>
    obtain⟨j,rfl,hjb⟩:=hrel;by_cases hj:j<b
    ·have hc:=(uh HNB) j hj;have hgi:=tab_index 144 11 marksA Tryz.underlying144 j (by omega) _ (marks_get j (by omega));have hj11:(j:Int)<11:=by omega
     clear HNB HLB HK HA HR2;generalize marksB j=X at*;go_wp2_with fail;refine⟨⟨j+1,by go_num,by omega⟩,?_⟩;simp[intOf];omega
    ·obtain rfl:j=b:=by omega
     by_cases hb11:j=11
     ·have hn2:¬(j:Int)<11:=by omega
      have HK2:Hid (kI false false a j=if a<18 then 61+(a:Int)else 0):=by show kI false false a j=_;rw[show kI false false a j=if j<11 then 40+(j:Int)else if a<18 then 61+(a:Int)else 0 from HK,if_neg (by omega)]
      clear HNB HLB HK hb11;go_wp2_with (refine wpList_load_mid rfl 145 (.global 2) rfl 2 0 rfl infixA.toList _ HR2 Tryz.underlying145 rfl (by kernel_rfl) ?_);clear HR2;obtain⟨h18,hneq,hlast⟩:=(uh HA)
      have HNA:Hid (∀j,j<a->((infixB j).toList==S.toList)=false):=hneq;have HLA:Hid (a=18\/((infixB a).toList==S.toList)=true):=hlast;clear HA hneq hlast
      go_loop [24] (λv=>∃i:Nat,v=.int .i64 i/\i<=a) (λv=>18-(intOf v).toNat)
      case atStart=>exact⟨0,rfl,Nat.zero_le _⟩
      case round=>
       obtain⟨i,rfl,hia⟩:=hrel;by_cases hi:i<a
       ·have hc:=(uh HNA) i hi;have hgi:=tab_index 145 18 infixA Tryz.underlying145 i (by omega) _ (infix_get i (by omega));have hi18:(i:Int)<18:=by omega
        clear HNA HLA HK2;generalize infixB i=X at*;go_wp2_with fail;refine⟨⟨i+1,by go_num,by omega⟩,?_⟩;simp[intOf];omega
       ·obtain rfl:i=a:=by omega
        by_cases hi18e:i=18
        ·have hn3:¬(i:Int)<18:=by omega
         have HK3:Hid (kI false false i j=0):=by show kI false false i j=0;rw[show kI false false i j=if i<18 then 61+(i:Int)else 0 from HK2,if_neg (by omega)]
         clear HNA HLA HK2 hi18e;go_wp2_with fail;go_ret;exact⟨by rw[show kI false false i j=0 from HK3];rfl,rfl⟩
        ·have hc:=(uh HLA).resolve_left hi18e;have hgi:=tab_index 145 18 infixA Tryz.underlying145 i (by omega) _ (infix_get i (by omega));have hi18:(i:Int)<18:=by omega
         have HK3:Hid (kI false false i j=61+(i:Int)):=by show kI false false i j=_;rw[show kI false false i j=if i<18 then 61+(i:Int)else 0 from HK2,if_pos (by omega)]
         clear HNA HLA HK2;generalize infixB i=X at*;go_wp2_with fail;go_ret;exact⟨by rw[show kI false false i j=61+(i:Int)from HK3];rfl,rfl⟩
     ·have hc:=(uh HLB).resolve_left hb11;have hgi:=tab_index 144 11 marksA Tryz.underlying144 j (by omega) _ (marks_get j (by omega));have hj11:(j:Int)<11:=by omega
      have HK2:Hid (kI false false a j=40+(j:Int)):=by show kI false false a j=_;rw[show kI false false a j=if j<11 then 40+(j:Int)else if a<18 then 61+(a:Int)else 0 from HK,if_pos (by omega)]
      clear HNB HLB HK HA HR2;generalize marksB j=X at*;go_wp2_with fail;go_ret;exact⟨by rw[show kI false false a j=40+(j:Int)from HK2];rfl,rfl⟩
