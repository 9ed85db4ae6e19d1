import Derived.Test.YtkhdehngobkkfaaGreatDoorASag
import Derived.Lib.AtoiErrMem
import Derived.Lib.AtoiAllMem
import Derived.Lib.IfaceNeq
import Derived.Deep.RegionWith
set_option maxRecDepth 100000
set_option maxHeartbeats 8000000
namespace Go.Proofs.YtkhdehngobkkfaaGreatDoor
open Go.ChangeShapes Go.WideShapes Go.ChangeAt Go.RowKit
set_option linter.unusedVariables false
variable {ws:List (List UInt8)}{m:Nat}{R:List UInt8}
theorem fm_find{f:Nat->ByteArray}(hf:∀i,(f i).data.toList=ws.getD i []){S:ByteArray}(h:Fm f ws.length S m):wfind ws S.data.toList=if m<ws.length then some m else none:=by
 obtain⟨h1,h2,h3⟩:=h
 have hne:∀j,j<m->ws.getD j []≠S.data.toList:=λj hj g=>by
  have:=h2 j hj;rw[cmp_list,hf,g]at this;simp at this
 by_cases hm:m<ws.length
 ·rw[if_pos hm];have:=h3.resolve_left (by omega);rw[cmp_list,hf]at this;exact wfind_some hm (eq_of_beq this) hne
 ·rw[if_neg hm];exact wfind_none (λj hj=>hne j (by omega))
def sv(X:List UInt8):Int:=if X=[59]then 5 else if X=[10]then 7 else match wfind marksL X with
 |some b=>40+b
 |none=>match wfind infixL X with
  |some a=>61+a
  |none=>0
def ssv(X:List UInt8):Int:=match wfind infixL X with
 |some a=>61+a
 |none=>match wfind marksL X with
  |some b=>40+b
  |none=>5
theorem sign_run(S:ByteArray)(w:World)(hg:Gd w):Calls Tryz.prog 174 #[.string S] w λe w'=>e=.returned (.int .i64 (sv S.data.toList))/\w'=w:=by
 obtain⟨a,ha⟩:=fm_any infixB 18 S;obtain⟨b,hb⟩:=fm_any marksB 11 S;have ea:=fm_find (ws:=infixL) infix_list (S:=S) (m:=a) (by rw[infix_len];exact ha);have eb:=fm_find (ws:=marksL) marks_list (S:=S) (m:=b) (by rw[marks_len];exact hb);rw[infix_len]at ea;rw[marks_len]at eb
 have e:sv S.data.toList=kI (S.toList==[59]) (S.toList==[10]) a b:=by
  unfold sv kI;rw[Lib.toList_data,ea,eb];by_cases h1:S.data.toList=[59]
  ·simp[h1]
  ·by_cases h2:S.data.toList=[10]
   ·simp[h2]
   ·have n1:(S.data.toList==[59])=false:=by simpa using h1
    have n2:(S.data.toList==[10])=false:=by simpa using h2
    rw[if_neg h1,if_neg h2,n1,n2];by_cases hb2:b<11
    ·simp[hb2]
    ·by_cases ha2:a<18
     ·simp[hb2,ha2]
     ·simp[hb2,ha2]
 rw[e];exact impl_sign S _ _ rfl rfl a b ha hb w hg
theorem spec_sign_run(S:ByteArray)(w:World):Calls Tryz.prog 78 #[.string S] w λe w'=>e=.returned (.int .i64 (ssv S.data.toList))/\Below w.heap.size w w':=by
 obtain⟨a,ha⟩:=fm_any infixB 18 S;obtain⟨b,hb⟩:=fm_any marksB 11 S;have ea:=fm_find (ws:=infixL) infix_list (S:=S) (m:=a) (by rw[infix_len];exact ha);have eb:=fm_find (ws:=marksL) marks_list (S:=S) (m:=b) (by rw[marks_len];exact hb);rw[infix_len]at ea;rw[marks_len]at eb
 have e:ssv S.data.toList=kS a b:=by
  unfold ssv kS;rw[ea,eb];by_cases ha2:a<18
  ·simp[ha2]
  ·by_cases hb2:b<11
   ·simp[hb2,ha2]
   ·simp[hb2,ha2]
 rw[e];exact spec_sign S a b ha hb w
def sgr (R:List UInt8):Nat->Int×Nat
 |0=>(0,0)
 |s+1=>if sv (R.take (s+1))=0 then sgr R s else(sv (R.take (s+1)),s+1)
def sgAt(R:List UInt8):Int×Nat:=sgr R (min 3 R.length)
theorem impl_signs{B:Nat}{T:ByteArray}(L:List UInt8)(hT:T.data.toList=L){k:Nat}{l:Int}{st:Bool}(hlen:T.size<=65536)(hk:k<=L.length)(hB:12<=B)(w:World)(hg:Gd w)(h:Sb B T k l st w):
    Calls Tryz.prog 164 #[.pointer (some ⟨B,0,none⟩)] w λe w'=>e=.returned (tokV (sgAt (L.drop k)).1 0 0 0 0 ⟨#[]⟩)/\Mv B T ((k+(sgAt (L.drop k)).2:Nat):Int) l st w w':=by
  have hs:T.size=L.length:=by rw[<-hT];simp
  obtain⟨M,hM,hLM⟩:∃M:Int,M<=65536/\(L.length:Int)<=M:=⟨L.length,by omega,Int.le_refl _⟩
  have hBlt:B<w.heap.size:=h.lt;have hnB:w.heap.size≠B:=by omega
  have hz:=Mz.start h;have hgz:Gd (w.alloc (.cells #[.int .i64 0,.int .i64 0,.int .i64 0,.int .i64 0,.int .i64 0,.string ⟨#[]⟩] 125)):=hg.kb hB hz.1.1;have c0:=hz.1.2.c0;have c1:=hz.1.2.c1;obtain⟨W,hWe,HS⟩:∃W,W=(w.alloc (.cells #[.int .i64 0,.int .i64 0,.int .i64 0,.int .i64 0,.int .i64 0,.string ⟨#[]⟩] 125))/\Hid (Mz B w.heap.size T k l st w W/\Gd W):=⟨_,rfl,(⟨hz,hgz⟩:_/\_)⟩
  rw[<-hWe]at c0 c1;have hkM:(k:Int)<=M:=by omega
  have hmin:(3:Int)<=(T.size:Int)-(k:Int)\/(T.size:Int)-(k:Int)<3:=by omega
  have HT:Hid (T.data.toList=L):=hT;clear hT hlen hg h hz hgz;go_enter Tryz.func164,Tryz.ntmps164;go_wp2_with fail;rw[<-hWe];clear hWe;have hle:(k:Int)<=(T.size:Int):=by omega
  go_quiet (fail)
  clear c0 c1 hle hmin;obtain⟨W2,hWe2,HS2⟩:∃W2,W2=W.drewN nq/\Hid (Mz B w.heap.size T k l st w W2/\Gd W2):=⟨_,rfl,(⟨HS.1.drewN nq,⟨HS.2.words,HS.2.marks,HS.2.infx,HS.2.err7,HS.2.err6,HS.2.size⟩⟩:_/\_)⟩
  rw[<-hWe2];clear hWe2 HS;go_wp2_with fail
  go_loopw [3] (λv wr=>∃s:Nat,v=.int .i64 s/\s<=3/\k+s<=L.length/\Hid (Mz B w.heap.size T k l st w wr/\Gd wr/\sgAt (L.drop k)=sgr (L.drop k) s)) (λv _=>(intOf v).toNat)
  case atStart=>
    refine⟨min 3 (L.length-k),?_,by omega,by omega,(⟨HS2.1,HS2.2,by unfold sgAt;rw[List.length_drop]⟩:_/\_/\_)⟩
    congr 1
    omega
  case round=>
    clear HS2;obtain⟨s,rfl,hs3,hsl,HR⟩:=hrel;obtain⟨hK,hG,hE⟩:=(uh HR)
    clear HR;have b0:=hK.1.2.c0;have b1:=hK.1.2.c1;by_cases h0:0<s
    · obtain⟨s',rfl⟩:∃s',s=s'+1:=⟨s-1,by omega⟩
      have hsl:∀W:World,(Instr.slice 9 (.string T) (some (.int .i64 k)) (some (.int .i64 ((k:Int)+((s':Int)+1)))) none).run Tryz.prog W=.ok (.string (T.extract k (k+(s'+1)))) W:=by
        intro W;rw[run_slice_string (P:=Tryz.prog) W 9 T .i64 .i64 (k:Int) ((k:Int)+((s':Int)+1)) Tryz.underlying9 (by omega) (by omega) (by omega)];have e2:((k:Int)+((s':Int)+1)).toNat=k+(s'+1):=by omega
        rw[e2]
        simp
      have hX:(T.extract k (k+(s'+1))).data.toList=(L.drop k).take (s'+1):=by rw[ext_list,show T.data.toList=L from HT];congr 1;omega
      have hsr:=λq=>sign_run (T.extract k (k+(s'+1))) (wr.drewN q) ⟨hG.words,hG.marks,hG.infx,hG.err7,hG.err6,hG.size⟩;rw[hX]at hsr;have hs3I:(s':Int)+1<=3:=by omega
      have hkM:(k:Int)<=M:=by omega
      by_cases hv:sv ((L.drop k).take (s'+1))=0
      · have HN : Hid (∀ q, Mz B w.heap.size T k l st w (wr.drewN q) ∧ Gd (wr.drewN q) ∧ sgAt (L.drop k) = sgr (L.drop k) s') :=
          (λq=>⟨hK.drewN q,⟨hG.words,hG.marks,hG.infx,hG.err7,hG.err6,hG.size⟩,by rw[hE,sgr,if_pos hv]⟩:∀q,Mz B w.heap.size T k l st w (wr.drewN q)/\Gd (wr.drewN q)/\sgAt (L.drop k)=sgr (L.drop k) s')
        rw[hv]at hsr;clear hK hG hE hX HT hv;generalize T.extract k (k+(s'+1))=S at*;go_wp2_with fail
        go_quiet ((go_at_call 174;exact Calls.quiet_of_same (hsr _)))
        go_wp2_with fail;have hN:=(uh HN) nq;refine⟨⟨s',by go_num,by omega,by omega,hN⟩,?_⟩;simp[intOf]
      · have HE:Hid (sgAt (L.drop k)=(sv ((L.drop k).take (s'+1)),s'+1)):=by show sgAt (L.drop k)=_;rw[hE,sgr,if_neg hv]
        have HKA:Hid (∀q,Mz B w.heap.size T k l st w (wr.drewN q)):=(λq=>hK.drewN q:∀q,Mz B w.heap.size T k l st w (wr.drewN q))
        have hvb:(sv ((L.drop k).take (s'+1)) !=0)=true:=by simpa using hv
        clear hK hG hE hX HT hv;generalize T.extract k (k+(s'+1))=S at*;generalize sv ((L.drop k).take (s'+1))=v at*;go_wp2_with fail
        go_quiet ((go_at_call 174;exact Calls.quiet_of_same (hsr _)))
        obtain⟨W3,hWe3,hK3⟩:∃W3,W3=wr.drewN nq/\Mz B w.heap.size T k l st w W3:=⟨_,rfl,(uh HKA) nq⟩
        rw[<-hWe3];clear b0 b1 hsr HKA hWe3;have b1:=hK3.1.2.c1;have f1:=hK3.1.2.fz 1;have h4:=hK3.set1 hnB ((k:Int)+((s':Int)+1));have HM4:Hid (Mv B T ((k+(s'+1):Nat):Int) l st w (W3.setCell ⟨B,1,none⟩ (.int .i64 ((k:Int)+((s':Int)+1))))):=h4.1;have z3:=h4.2;obtain⟨g0,g1,g2,g3,g4,g5,y0,y1,y2,y3,y4,y5,e0,e1,e2,e3,e4,e5⟩:=z3.all;clear hK3 h4 z3;go_wp2_with fail;refine bodyPost_ret (by simp[results,Tryz.results164,go_sem,e0,e1,e2,e3,e4,e5];rfl) rfl ?_;have hEE:=(uh HE)
        rw[hEE];refine⟨rfl,?_⟩;exact st6_mv HM4 (Nat.le_refl _) hnB _ _ _ _ _ _
    · obtain rfl:s=0:=by omega
      have HE:Hid (sgAt (L.drop k)=(0,0)):=by show sgAt (L.drop k)=_;rw[hE];rfl
      have HM4:Hid (Mv B T (k:Int) l st w wr):=hK.1;have z3:=hK.2;obtain⟨g0,g1,g2,g3,g4,g5,y0,y1,y2,y3,y4,y5,e0,e1,e2,e3,e4,e5⟩:=z3.all;clear hK hG hE z3 HT;go_wp2_with fail;refine bodyPost_ret (by simp[results,Tryz.results164,go_sem,e0,e1,e2,e3,e4,e5];rfl) rfl ?_;have hEE:=(uh HE)
      rw[hEE];refine⟨rfl,?_⟩;exact st6_mv HM4 (Nat.le_refl _) hnB _ _ _ _ _ _
theorem sgn_same:∀j:Fin 30,sv (sgnL.getD j.val [])=ssv (sgnL.getD j.val [])/\ssv (sgnL.getD j.val [])≠0/\0<(sgnL.getD j.val []).length/\(sgnL.getD j.val []).length<=3:=by decide+kernel
theorem sgn_order:∀m j:Fin 30,m.val<j.val->¬((sgnL.getD m.val []).length<(sgnL.getD j.val []).length/\(sgnL.getD j.val []).take (sgnL.getD m.val []).length=sgnL.getD m.val []):=by decide+kernel
theorem marks_in:∀b:Fin 11,∃j:Fin 30,marksL.getD b.val []=sgnL.getD j.val []:=by decide+kernel
theorem infix_in:∀b:Fin 18,∃j:Fin 30,infixL.getD b.val []=sgnL.getD j.val []:=by decide+kernel
theorem find_some{X:List UInt8}{i:Nat}(h:wfind ws X=some i):i<ws.length/\ws.getD i []=X:=by
 unfold wfind at h;rw[List.findIdx?_eq_some_iff_getElem]at h;obtain⟨h1,h2,_⟩:=h;refine⟨h1,?_⟩;rw[getD_of _ _ _ h1];exact eq_of_beq h2
theorem sv_in(X:List UInt8)(h:sv X≠0):X=[10]\/∃j,j<30/\X=sgnL.getD j []:=by
 unfold sv at h;by_cases h1:X=[59]
 ·right;exact⟨22,by omega,by rw[h1];decide⟩
 ·rw[if_neg h1]at h;by_cases h2:X=[10]
  ·left;exact h2
  ·rw[if_neg h2]at h
   right
   cases hm:wfind marksL X with
   |some b=>
    obtain⟨l1,e1⟩:=find_some hm;obtain⟨j,hj⟩:=marks_in ⟨b,by rw[marks_len]at l1;exact l1⟩;exact⟨j.val,j.isLt,by rw[<-hj,<-e1]⟩
   |none=>
    cases hi:wfind infixL X with
    |some b=>
     obtain⟨l1,e1⟩:=find_some hi;obtain⟨j,hj⟩:=infix_in ⟨b,by rw[infix_len]at l1;exact l1⟩;exact⟨j.val,j.isLt,by rw[<-hj,<-e1]⟩
    |none=>rw[hm,hi]at h;exact absurd rfl h
theorem sgr_none (R:List UInt8):∀s,(∀t,0<t->t<=s->sv (R.take t)=0)->sgr R s=(0,0)
 |0,_=>rfl
 |s+1,h=>by rw[sgr,if_pos (h (s+1) (by omega) (by omega))];exact sgr_none R s (λt h1 h2=>h t h1 (by omega))
theorem sgr_some (R:List UInt8) (s0:Nat) (h0:0<s0) (hv:sv (R.take s0)≠0):∀s,s0<=s->(∀t,s0<t->t<=s->sv (R.take t)=0)->sgr R s=(sv (R.take s0),s0)
 |0,h1,_=>by omega
 |s+1,h1,h=>by
  by_cases e:s0=s+1
  ·subst e;rw[sgr,if_neg hv]
  ·rw[sgr,if_pos (h (s+1) (by omega) (by omega))];exact sgr_some R s0 h0 hv s (by omega) (λt h2 h3=>h t h2 (by omega))
def Sm(R:List UInt8)(m:Nat):Prop:=m<=30/\(∀j,j<m->(R.take (sgnL.getD j []).length==sgnL.getD j [])=false)/\(m=30\/(R.take (sgnL.getD m []).length==sgnL.getD m [])=true)
theorem sm_any(R:List UInt8):∃m,Sm R m:=by
 have key:∀n,n<=30->(∃m,m<n/\(∀j,j<m->(R.take (sgnL.getD j []).length==sgnL.getD j [])=false)/\(R.take (sgnL.getD m []).length==sgnL.getD m [])=true)\/(∀j,j<n->(R.take (sgnL.getD j []).length==sgnL.getD j [])=false):=by
  intro n
  induction n with
  |zero=>intro _;right;intro j hj;omega
  |succ n ih=>
   intro hn;rcases ih (by omega)with⟨m,h1,h2,h3⟩|h
   ·left;exact⟨m,by omega,h2,h3⟩
   ·cases hc:(R.take (sgnL.getD n []).length==sgnL.getD n [])with
    |true=>left;exact⟨n,by omega,h,hc⟩
    |false=>
     right
     intro j hj;by_cases e:j=n
     ·subst e;exact hc
     ·exact h j (by omega)
 rcases key 30 (Nat.le_refl _)with⟨m,h1,h2,h3⟩|h
 ·exact⟨m,by omega,h2,.inr h3⟩
 ·exact⟨30,Nat.le_refl _,h,.inl rfl⟩
theorem sign_eq(hm:Sm R m)(hnl:R.head?≠some 10):sgAt R=if m<30 then(ssv (sgnL.getD m []),(sgnL.getD m []).length)else(0,0):=by
 obtain⟨h1,h2,h3⟩:=hm
 have hno:∀t,0<t->t<=R.length->sv (R.take t)≠0->∃j,j<30/\R.take t=sgnL.getD j []/\m<=j/\(sgnL.getD j []).length=t:=by
  intro t ht ht2 hv;rcases sv_in _ hv with g|⟨j,hj,g⟩
  ·exfalso;apply hnl;cases R with
   |nil=>simp at g
   |cons c r=>
    cases t with
    |zero=>omega
    |succ t=>simp at g;simp[g.1]
  ·refine⟨j,hj,g,?_,?_⟩
   ·rcases Nat.lt_or_ge j m with h|h
    ·exfalso;have hlen:(sgnL.getD j []).length=t:=by rw[<-g,List.length_take];omega
     have:=h2 j h;rw[hlen,g]at this;simp at this
    ·exact h
   ·rw[<-g,List.length_take];omega
 by_cases hm30:m<30
 ·rw[if_pos hm30];obtain⟨s1,s2,s3,s4⟩:=sgn_same ⟨m,hm30⟩;replace s1:sv (sgnL.getD m [])=ssv (sgnL.getD m []):=s1;replace s2:ssv (sgnL.getD m [])≠0:=s2;replace s3:0<(sgnL.getD m []).length:=s3;replace s4:(sgnL.getD m []).length<=3:=s4;have hpre:=eq_of_beq (h3.resolve_left (by omega))
  have hlenR:(sgnL.getD m []).length<=R.length:=by
   have:=congrArg List.length hpre;rw[List.length_take]at this;omega
  have e:=sgr_some R (sgnL.getD m []).length s3 (by rw[hpre,s1];exact s2) (min 3 R.length) (by omega) (by
   intro t ht1 ht2;apply Classical.byContradiction;intro hv;obtain⟨j,hj,g,hmj,hl⟩:=hno t (by omega) (by omega) hv
   have hne:m<j:=by
    rcases Nat.lt_or_ge m j with h|h
    ·exact h
    ·have:j=m:=by omega
     subst this;omega
   refine sgn_order ⟨m,hm30⟩ ⟨j,hj⟩ hne ⟨by show(sgnL.getD m []).length<(sgnL.getD j []).length;omega,?_⟩;show(sgnL.getD j []).take (sgnL.getD m []).length=sgnL.getD m [];rw[<-g,List.take_take,Nat.min_eq_left (by omega)]
   exact hpre)
  unfold sgAt;rw[e,hpre,s1]
 ·rw[if_neg hm30];unfold sgAt;apply sgr_none;intro t ht1 ht2;apply Classical.byContradiction;intro hv;obtain⟨j,hj,_,hmj,_⟩:=hno t ht1 (by omega) hv;omega
theorem sign_nl(hnl:R.head?=some 10):sgAt R=(7,1):=by
 obtain⟨c,r,rfl⟩:∃c r,R=c::r:=by cases R with
  |nil=>simp at hnl
  |cons c r=>exact⟨c,r,rfl⟩
 have hc:c=10:=by simpa using hnl
 subst hc;have h1:sv (((10:UInt8)::r).take 1)=7:=by simp[sv]
 have e:=sgr_some (10::r) 1 (by omega) (by rw[h1];decide) (min 3 ((10:UInt8)::r).length) (by simp;omega) (by
  intro t ht1 ht2;apply Classical.byContradiction;intro hv;rcases sv_in _ hv with g|⟨j,hj,g⟩
  ·have:=congrArg List.length g;rw[List.length_take]at this;simp at this ht2;omega
  ·have hh:=congrArg List.head? g;have hfirst:∀j:Fin 30,(sgnL.getD j.val []).head?≠some 10:=by decide+kernel
   apply hfirst ⟨j,hj⟩;rw[show(sgnL.getD (⟨j,hj⟩:Fin 30).val [])=sgnL.getD j []from rfl,<-hh];cases t with
   |zero=>omega
   |succ t=>simp)
 unfold sgAt;rw[e,h1]
end Go.Proofs.YtkhdehngobkkfaaGreatDoor
namespace Go.Proofs.YtkhdehngobkkfaaGreatDoor.Rd
open Go.ChangeShapes Go.WideShapes Go.ChangeAt Go.RowKit Go.Proofs.YtkhdehngobkkfaaGreatDoor
set_option linter.unusedVariables false
variable {w w0:World}{A B:Nat}{T:ByteArray}{k:Int}
def dv(c:UInt8):Nat:=if 48<=c.toNat/\c.toNat<=57 then c.toNat-48 else if 97<=c.toNat/\c.toNat<=122 then c.toNat-87 else 99
def dw(c:UInt8):Nat:=if 48<=c.toNat/\c.toNat<=57 then c.toNat-48 else if 97<=c.toNat/\c.toNat<=122 then c.toNat-87 else 36
theorem impl_dig(c:UInt8)(w:World):Calls Tryz.prog 177 #[.int .u8 c.toNat] w λe w'=>e=.returned (.int .i64 (dw c:Int))/\w'=w:=by
 have hc:=c.toNat_lt;by_cases h1:48<=c.toNat/\c.toNat<=57
 ·have e:(dw c:Int)=(c.toNat:Int)-48:=by unfold dw;rw[if_pos h1];omega
  rw[e];obtain⟨h1,h2⟩:=h1;have i1:(48:Int)<=(c.toNat:Int):=by omega
  have i2:(c.toNat:Int)<=57:=by omega
  clear e h1 h2;generalize (c.toNat:Int)=n at*;go_enter Tryz.func177,Tryz.ntmps177;go_wp2;go_ret;exact⟨rfl,rfl⟩
 ·by_cases h2:97<=c.toNat/\c.toNat<=122
  ·have e:(dw c:Int)=(c.toNat:Int)-97+10:=by unfold dw;rw[if_neg h1,if_pos h2];omega
   rw[e];have i0:¬(c.toNat:Int)<=57:=by omega
   have i1:(97:Int)<=(c.toNat:Int):=by omega
   have i2:(c.toNat:Int)<=122:=by omega
   have i3:(48:Int)<=(c.toNat:Int):=by omega
   clear e h1 h2;generalize (c.toNat:Int)=n at*;go_enter Tryz.func177,Tryz.ntmps177;go_wp2;go_ret;exact⟨rfl,rfl⟩
  ·have e:(dw c:Int)=36:=by unfold dw;rw[if_neg h1,if_neg h2];rfl
   rw[e];have i0:(c.toNat:Int)<48\/57<(c.toNat:Int)/\(c.toNat:Int)<97\/122<(c.toNat:Int):=by omega
   clear e h1 h2;generalize (c.toNat:Int)=n at*;rcases i0 with i|⟨i,j⟩|i
   all_goals
    go_enter Tryz.func177,Tryz.ntmps177;go_wp2;go_ret;exact⟨rfl,rfl⟩
theorem dv_dw(c:UInt8)(b:Nat)(hb:b<=36):(dv c<b)=(dw c<b):=by
 unfold dv dw;split
 ·rfl
 ·split
  ·rfl
  ·simp;omega
def rd (b:Nat):Nat->List UInt8->Option Nat
 |acc,[]=>some acc
 |acc,c::r=>if acc*b+dv c<18446744073709551616 then rd b (acc*b+dv c) r else none
theorem acc_facts(b acc d:Nat)(hb:2<=b)(hd:d<b):∃(q p:Int),18446744073709551615 / (b:Int)=q/\(acc:Int)*(b:Int)=p/\p=((acc*b:Nat):Int)/\0<=p/\(q<acc->18446744073709551616<=acc*b+d)/\((acc:Int)<=q->p<=18446744073709551615):=by
 refine⟨((18446744073709551615 / b:Nat):Int),((acc*b:Nat):Int),by simp,by simp,rfl,by omega,λh=>?_,λh=>?_⟩
 ·have h1:18446744073709551615 / b<acc:=by omega
  have h2:=(Nat.div_lt_iff_lt_mul (by omega)).1 h1;omega
 ·have h1:acc<=18446744073709551615 / b:=by omega
  have h2:=Nat.mul_le_mul_right b h1;have h3:=Nat.div_mul_le_self 18446744073709551615 b;omega
def ansT(b:Nat)(neg:Bool)(R:List UInt8):Int×Int:=
 if R=[]then(2,0)else if R.all (λc=>decide (dv c<b))=false then(2,0)else
 match rd b 0 R with
 |none=>(3,0)
 |some v=>if 9223372036854775808<v\/(v=9223372036854775808/\neg=false)then(3,0)else(0,if neg then-(v:Int)else v)
def whole(p:Int×Int):Value:=.agg #[.int .i64 p.1,.int .i64 p.2]
theorem rd_lt (b:Nat):∀(L:List UInt8) (acc v:Nat),acc<18446744073709551616->rd b acc L=some v->v<18446744073709551616
 | [],acc,v,h,e=>by simp[rd]at e;omega
 |c::r,acc,v,h,e=>by
  unfold rd at e;split at e
  ·rename_i hlt
   exact rd_lt b r _ v hlt e
  ·cases e
theorem ans_bad(b:Nat)(neg:Bool)(R:List UInt8)(c:UInt8)(hc:c ∈ R)(h:¬dv c<b):ansT b neg R=(2,0):=by
 unfold ansT;by_cases hn:R=[]
 ·rw[if_pos hn]
 ·rw[if_neg hn,if_pos];rw[List.all_eq_false];exact⟨c,hc,by simpa using h⟩
theorem ans_good(b:Nat)(neg:Bool)(R:List UInt8)(hd:∀c ∈ R,dv c<b)(hne:0<R.length):ansT b neg R=match rd b 0 R with
 |none=>(3,0)
 |some v=>if 9223372036854775808<v\/(v=9223372036854775808/\neg=false)then(3,0)else(0,if neg then-(v:Int)else v):=by
 unfold ansT;have h1:R≠ []:=by intro h;rw[h]at hne;simp at hne
 have h2:R.all (λc=>decide (dv c<b))=true:=by rw[List.all_eq_true];intro c hc;simpa using hd c hc
 rw[if_neg h1,if_neg (by rw[h2];simp)]
theorem ans_none(b:Nat)(neg:Bool)(R:List UInt8)(hd:∀c ∈ R,dv c<b)(hne:0<R.length)(h:rd b 0 R=none):ansT b neg R=(3,0):=by
 rw[ans_good b neg R hd hne,h]
theorem ans_some(b:Nat)(neg:Bool)(R:List UInt8)(hd:∀c ∈ R,dv c<b)(hne:0<R.length)(v:Nat)(h:rd b 0 R=some v):ansT b neg R=if 9223372036854775808<v\/(v=9223372036854775808/\neg=false)then(3,0)else(0,if neg then-(v:Int)else v):=by
 rw[ans_good b neg R hd hne,h]
def unt:Option Nat->Value
 |some v=>.tuple #[.int .u64 v,.nilIface]
 |none=>.tuple #[.int .u64 18446744073709551615,.iface 214 (.int .i64 1)]
theorem low26:∀i:Fin 26,bits .or .u8 ((i.val+97:Nat):Int) 32=((i.val+97:Nat):Int):=by decide+kernel
theorem low_at(n:Nat)(h:97<=n)(h2:n<=122):bits .or .u8 (n:Int) 32=(n:Int):=by
 have:=low26 ⟨n-97,by omega⟩;have e:n-97+97=n:=by omega
 simp only[e]at this;exact this
theorem empT(R:ByteArray)(h:0<R.size):R.toList.isEmpty=false:=by
 rw[<-decide_eq_emptyBytes];exact decide_eq_false (λg=>by rw[g]at h;simp at h)
theorem lt_of_cell{b off:Nat}{v:Value}(h:w.cell? ⟨b,off,none⟩=some v):b<w.heap.size:=by
 refine Nat.lt_of_not_le λg=>?_;have e:w.heap[b]? =none:=Array.getElem?_eq_none_iff.2 g;simp[World.cell?,e]at h
def Kept(w w':World):Prop:=w.keptBut w' (λ_=>False)
theorem Kept.refl(w:World):Kept w w:=World.keptBut_refl _ _
theorem is_base(b:Int)(z:Bool)(h:(decide (2<=b) && decide (b<=36))=z)(w:World):
  Calls Tryz.prog 136 #[.int .i64 b] w λe w'=>e=.returned (.bool z)/\w'=w:=by
 by_cases h2:2<=b
 ·by_cases h3:b<=36
  ·have e:z=true:=by rw[<-h];simp[h2,h3]
   subst e;have h4:decide (b<=36)=true:=by simpa using h3
   clear h;go_enter Tryz.func136,Tryz.ntmps136;go_wp2;go_ret;exact⟨rfl,rfl⟩
  ·have e:z=false:=by rw[<-h];simp[h3]
   subst e;have h4:decide (b<=36)=false:=by simpa using h3
   clear h;go_enter Tryz.func136,Tryz.ntmps136;go_wp2;go_ret;exact⟨rfl,rfl⟩
 ·have e:z=false:=by rw[<-h];simp[h2]
  subst e;clear h;go_enter Tryz.func136,Tryz.ntmps136;go_wp2;go_ret;exact⟨rfl,rfl⟩
theorem uint_10(T:ByteArray)(L:List UInt8)(hT:T.data.toList=L)(hlen:L.length<=1200)(hd:∀c ∈ L,dv c<10)(hne:0<L.length)(w:World):
  Calls Tryz.prog 180 #[.string T,.int .i64 10,.int .i64 64] w λe w'=>e=.returned (unt (rd 10 0 L))/\w'=Lib.bytesWorld w 5 T:=by
 have hsz:T.size=L.length:=by rw[<-hT];simp
 have hemp:=empT T (by omega);have hcv:=Lib.run_convert_string_bytes (P:=Tryz.prog) w 9 38 5 T (u:=.string) Tryz.underlying9 Tryz.underlying38 Tryz.underlying5
 have hB:∀j c,L[j]? =some c->(Lib.bytesWorld w 5 T).cell? ⟨w.heap.size,j,none⟩=some (.int .u8 c.toNat):=λj c hj=>by
  have hlt:j<L.length:=(List.getElem?_eq_some_iff.1 hj).1;rw[Lib.bytesWorld_cell w 5 T j (by omega),hT,List.getD,hj];rfl
 obtain⟨W1,hW1⟩:∃W1,W1=Lib.bytesWorld w 5 T:=⟨_,rfl⟩
 rw[<-hW1]at hcv hB⊢;clear hW1 hT
 have hmv:IntKind.u64.wrap (IntKind.u64.wrap 18446744073709551616-1)=18446744073709551615:=by
  rw[IntKind.wrap_u64,IntKind.wrap_u64];decide
 go_enter Tryz.func180,Tryz.ntmps180;go_wp2;clear hcv hmv hemp
 go_loop [12,13,101] (λvu vn vi=>∃(k acc:Nat) (a:Int),vu=.bool false/\vn=.int .u64 a/\vi=.int .i64 k/\k<=L.length/\Hid (a=(acc:Int)/\acc<18446744073709551616/\rd 10 0 L=rd 10 acc (L.drop k)))
  (λ_ _ vi=>L.length-(intOf vi).toNat)
 case atStart=>exact⟨0,0,0,rfl,rfl,rfl,by omega,(⟨rfl,by omega,rfl⟩:(0:Int)=((0:Nat):Int)/\0<18446744073709551616/\rd 10 0 L=rd 10 0 (L.drop 0))⟩
 case round=>
  obtain⟨k,acc,a,rfl,rfl,rfl,hk,hh⟩:=hrel;obtain⟨ha,hacc,hdec⟩:=(show a=(acc:Int)/\acc<18446744073709551616/\rd 10 0 L=rd 10 acc (L.drop k)from hh)
  clear hh;have g0:0<=a:=by omega
  have g00:a<=18446744073709551615:=by omega
  by_cases hkn:k<L.length
  ·have hdrop:L.drop k=L[k]::L.drop (k+1):=List.drop_eq_getElem_cons hkn;have hc:=hB k L[k] (List.getElem?_eq_getElem hkn);have hdl:=hd L[k] (List.getElem_mem hkn);rw[hdrop]at hdec;generalize L[k]=c at hc hdl hdec;have hc256:(c.toNat:Int)<256:=by have:=c.toNat_lt;omega
   clear hB hd hdrop;obtain⟨q,p,f1,f2,f3,f4,f5,f6⟩:=acc_facts 10 acc (dv c) (by omega) hdl;rw[<-ha]at f2
   have hkind:(48<=(c.toNat:Int)/\(c.toNat:Int)<=57/\(dv c:Int)=(c.toNat:Int)-48)\/(97<=(c.toNat:Int)/\(c.toNat:Int)<=122/\(dv c:Int)=(c.toNat:Int)-97+10/\bits .or .u8 (c.toNat:Int) 32=(c.toNat:Int)):=by
    unfold dv at hdl⊢;split at hdl
    ·rename_i hh;rw[if_pos hh];left;omega
    ·rename_i hh
     rw[if_neg hh];split at hdl
     ·rename_i hh2;rw[if_pos hh2];right;exact⟨by omega,by omega,by omega,low_at _ hh2.1 hh2.2⟩
     ·omega
   have g3:(dv c:Int)<10:=by omega
   have g4:(0:Int)<=(dv c:Int):=by omega
   have fq:q=1844674407370955161:=by rw[<-f1];decide
   have f2:a*10=p:=by simpa using f2
   by_cases hover:acc*10+dv c<18446744073709551616
   ·have hF:rd 10 acc (c::L.drop (k+1))=rd 10 (acc*10+dv c) (L.drop (k+1)):=by simp[rd,hover]
    have HN:Hid (p+(dv c:Int)=((acc*10+dv c:Nat):Int)/\acc*10+dv c<18446744073709551616/\rd 10 0 L=rd 10 (acc*10+dv c) (L.drop (k+1))):=
     (⟨by omega,hover,hdec.trans hF⟩:p+(dv c:Int)=((acc*10+dv c:Nat):Int)/\acc*10+dv c<18446744073709551616/\rd 10 0 L=rd 10 (acc*10+dv c) (L.drop (k+1)))
    have g1:¬q<a:=by rw[ha];intro h;have:=f5 h;omega
    have g2:p+(dv c:Int)<=18446744073709551615:=by omega
    have g5:¬1844674407370955162<=a:=by omega
    clear f3 f5 f6 hF hdec hacc hover ha hdl f1 fq;rcases hkind with⟨i1,i2,i3⟩|⟨i1,i2,i3,i4⟩
    ·rw[i3]at g2 g3 g4 HN;clear i3;generalize (c.toNat:Int)=n at*;go_wp2
     all_goals exact⟨⟨k+1,acc*10+dv c,p+(n-48),rfl,(by first|rfl|(congr 1;omega)),(by first|rfl|(congr 1;omega)),by omega,HN⟩,by simp[intOf];omega⟩
    ·rw[i3]at g2 g3 g4 HN;clear i3;generalize (c.toNat:Int)=n at*;go_wp2
     all_goals exact⟨⟨k+1,acc*10+dv c,p+(n-97+10),rfl,(by first|rfl|(congr 1;omega)),(by first|rfl|(congr 1;omega)),by omega,HN⟩,by simp[intOf];omega⟩
   ·have hF:rd 10 acc (c::L.drop (k+1))=none:=by simp[rd,hover]
    have HE:Hid (rd 10 0 L=none):=(hdec.trans hF:rd 10 0 L=none)
    by_cases hqa:q<a
    ·have g5:1844674407370955162<=a:=by omega
     clear f3 f5 f6 hF hdec hacc hover ha hdl f1 fq;rcases hkind with⟨i1,i2,i3⟩|⟨i1,i2,i3,i4⟩
     all_goals
      rw[i3]at g3 g4;clear i3;generalize (c.toNat:Int)=n at*;go_wp2
      all_goals
       go_ret2;refine⟨?_,rfl⟩;rw[show rd 10 0 L=none from HE];rfl
    ·have g1:p<=18446744073709551615:=f6 (by omega);have g2:18446744073709551616<=p+(dv c:Int):=by omega
     have g6:¬1844674407370955162<=a:=by omega
     have g5:IntKind.u64.wrap (p+(dv c:Int))=p+(dv c:Int)-18446744073709551616:=by rw[IntKind.wrap_u64];omega
     clear f3 f5 f6 hF hdec hacc hover ha hdl hqa f1 fq;rcases hkind with⟨i1,i2,i3⟩|⟨i1,i2,i3,i4⟩
     all_goals
      rw[i3]at g2 g3 g4 g5;clear i3;generalize (c.toNat:Int)=n at*;go_wp2
      all_goals
       go_ret2;refine⟨?_,rfl⟩;rw[show rd 10 0 L=none from HE];rfl
  ·have hkk:k=L.length:=by omega
   subst hkk;have hF:rd 10 acc (L.drop L.length)=some acc:=by rw[List.drop_eq_nil_of_le (by omega)];rfl
   have HE:Hid (rd 10 0 L=some acc):=(hdec.trans hF:rd 10 0 L=some acc)
   subst ha;clear hacc hF hdec hB hd;go_wp2;go_ret2;refine⟨?_,rfl⟩;rw[show rd 10 0 L=some acc from HE];rfl
theorem uint_any(b:Nat)(hb:b=10)(hb2:b<=36)(T:ByteArray)(L:List UInt8)(hT:T.data.toList=L)(hlen:L.length<=1200)(hd:∀c ∈ L,dv c<b)(hne:0<L.length)(w:World):
  Calls Tryz.prog 180 #[.string T,.int .i64 b,.int .i64 64] w λe w'=>e=.returned (unt (rd b 0 L))/\w'=Lib.bytesWorld w 5 T:=by
 subst hb;exact uint_10 T L hT hlen hd hne w
theorem neq11(W:World):(binOp .neq 87 (.iface 214 (.int .i64 1)) (.iface 214 (.int .i64 1))).run Tryz.prog W=.ok (.bool false) W:=
 Lib.run_neq_iface_int W 1 1 Tryz.underlying87 (by kernel_rfl) Tryz.underlying214
theorem hmin:wrap64 (-wrap64 9223372036854775808)=-9223372036854775808:=by decide+kernel
inductive Told27 (p:Int×Int):Ending->Prop
 |ok {z:Int} (h:p=(0,z)):Told27 p (.returned (.tuple #[.int .i64 z,.nilIface]))
 |err (h:p=(3,0)) (s:Int):Told27 p (.returned (.tuple #[.int .i64 s,.iface 214 (.int .i64 1)]))
theorem int_other(b:Nat)(hb:b=10)(hb2:b<=36)(T R:ByteArray)(L LR:List UInt8)(hT:T.data.toList=L)(hlen:L.length<=1200)(hR:R.data.toList=LR)(hTR:R=T)(c:UInt8)(r:List UInt8)(hL:LR=c::r)(h1:c.toNat≠45)(h2:c.toNat≠43)(hall:∀c ∈ LR,dv c<b)(hne:0<LR.length)(w:World):
    Calls Tryz.prog 182 #[.string T,.int .i64 b,.int .i64 64] w λe w'=>Told27 (ansT b false LR) e/\Below w.heap.size w w':=by
  have hsz:T.size=L.length:=by rw[<-hT];simp
  have hlr:LR.length<=1200:=by have:LR=L:=hR.symm.trans (by rw[hTR];exact hT);rw[this];exact hlen
  have hU:=uint_any b hb hb2 R LR hR hlr hall hne w;clear hb;have hbel:=Lib.bytesWorld_below w 5 R;generalize Lib.bytesWorld w 5 R=W1 at hU hbel;have hq1:=neq11;subst hTR;have hx0:∀w,(Instr.index 9 (.string R) (.int .i64 0)).run Tryz.prog w=.ok (.int .u8 c.toNat) w:=ix R LR hR 0 c (by rw[hL];rfl);have hsr:R.size=LR.length:=by rw[<-hR];simp
  have hemp:=empT R (by omega);have j1:((c.toNat:Int)==45)=false:=by simp;omega
  have j2:((c.toNat:Int)==43)=false:=by simp;omega
  clear hT hL hlen hsz hR h1 h2 hsr;generalize (c.toNat:Int)=n0 at*;cases hrd:rd b 0 LR with
  |none=>
    have HE:Hid (ansT b false LR=(3,0)):=ans_none b false LR hall hne hrd;rw[hrd]at hU;have hU':Calls Tryz.prog 180 #[.string R,.int .i64 b,.int .i64 64] w λe w'=>e=.returned (.tuple #[.int .u64 18446744073709551615,.iface 214 (.int .i64 1)])/\w'=W1:=hU;clear hU hrd hall;go_enter Tryz.func182,Tryz.ntmps182;go_wp2_with (go_at_call 180;refine hU'.mono ?_;rintro e w1 ⟨rfl,rfl⟩);go_ret2;exact⟨Told27.err HE _,hbel⟩
  |some v=>
    have hvlt:=rd_lt b LR 0 v (by omega) hrd;have HE:=ans_some b false LR hall hne v hrd;rw[hrd]at hU;have hU':Calls Tryz.prog 180 #[.string R,.int .i64 b,.int .i64 64] w λe w'=>e=.returned (.tuple #[.int .u64 v,.nilIface])/\w'=W1:=hU;clear hU hrd hall;rcases Nat.lt_trichotomy v 9223372036854775808 with hv|hv|hv
    · have HE2 : Hid (ansT b false LR = (0, (v : Int))) := by
        show ansT b false LR=(0,(v:Int));rw[HE,if_neg (by omega)];rfl
      have i0:(0:Int)<=(v:Int):=by omega
      have i1:(v:Int)<9223372036854775808:=by omega
      clear HE hv hvlt;generalize (v:Int)=z at*;go_enter Tryz.func182,Tryz.ntmps182;go_wp2_with (go_at_call 180;refine hU'.mono ?_;rintro e w1 ⟨rfl,rfl⟩);go_ret2;exact⟨Told27.ok HE2,hbel⟩
    · subst hv;have hU2:Calls Tryz.prog 180 #[.string R,.int .i64 b,.int .i64 64] w λe w'=>e=.returned (.tuple #[.int .u64 9223372036854775808,.nilIface])/\w'=W1:=hU'
      have HE2:Hid (ansT b false LR=(3,0)):=by
        show ansT b false LR=(3,0);rw[HE];rfl
      clear HE hvlt hU';go_enter Tryz.func182,Tryz.ntmps182;go_wp2_with (go_at_call 180;refine hU2.mono ?_;rintro e w1 ⟨rfl,rfl⟩);go_ret2;exact⟨Told27.err HE2 _,hbel⟩
    · have HE2 : Hid (ansT b false LR = (3, 0)) := by
        show ansT b false LR=(3,0);rw[HE,if_pos (Or.inl hv)]
      have i0:(9223372036854775808:Int)<(v:Int):=by omega
      have i1:(v:Int)<18446744073709551616:=by omega
      clear HE hv hvlt;generalize (v:Int)=z at*;go_enter Tryz.func182,Tryz.ntmps182;go_wp2_with (go_at_call 180;refine hU'.mono ?_;rintro e w1 ⟨rfl,rfl⟩);go_ret2;exact⟨Told27.err HE2 _,hbel⟩
structure Sc (w0:World) (A B:Nat) (T:ByteArray) (k:Int) (w:World):Prop where
 gr:Grown w0 w
 hA:w0.heap.size<=A
 hB:w0.heap.size<=B
 hAB:A≠B
 a0:w.cell? ⟨A,0,none⟩=some (.int .i64 0)
 a1:w.cell? ⟨A,1,none⟩=some (.int .i64 0)
 b0:w.cell? ⟨B,0,none⟩=some (.string T)
 b1:w.cell? ⟨B,1,none⟩=some (.int .i64 k)
 fA0:w.frozen? ⟨A,0,none⟩=false
 fA1:w.frozen? ⟨A,1,none⟩=false
 fB1:w.frozen? ⟨B,1,none⟩=false
theorem Sc.drewN(h:Sc w0 A B T k w)(n:Nat):Sc w0 A B T k (w.drewN n):=
 ⟨h.gr,h.hA,h.hB,h.hAB,h.a0,h.a1,h.b0,h.b1,h.fA0,h.fA1,h.fB1⟩
theorem Sc.set(h:Sc w0 A B T k w)(k':Int):Sc w0 A B T k' (w.setCell ⟨B,1,none⟩ (.int .i64 k')):=by
 have hne:=h.hAB;refine⟨Grown.setCell h.gr h.hB _,h.hA,h.hB,h.hAB,?_,?_,?_,World.cell?_setCell_same _ _ _ h.b1,?_,?_,?_⟩
 ·rw[World.cell?_setCell_other _ _ _ _ (by simp<;>omega)];exact h.a0
 ·rw[World.cell?_setCell_other _ _ _ _ (by simp<;>omega)];exact h.a1
 ·rw[World.cell?_setCell_other _ _ _ _ (by simp)];exact h.b0
 ·rw[World.frozen?_setCell];exact h.fA0
 ·rw[World.frozen?_setCell];exact h.fA1
 ·rw[World.frozen?_setCell];exact h.fB1
theorem ended_run(B:Nat)(T:ByteArray)(k:Int)(z:Bool)(hz:(k==(T.size:Int))=z)(w:World)(b0:w.cell? ⟨B,0,none⟩=some (.string T))(b1:w.cell? ⟨B,1,none⟩=some (.int .i64 k)):
  Calls Tryz.prog 144 #[.pointer (some ⟨B,0,none⟩)] w λe w'=>e=.returned (.bool z)/\∃m,w'=w.drewN m:=by
 go_enter Tryz.func144,Tryz.ntmps144;go_wp2
 go_quiet (fail)
 go_wp2;go_ret;exact⟨rfl,nq,rfl⟩
theorem ended_in(B:Nat)(T:ByteArray)(k:Int)(z:Bool)(hz:(k==(T.size:Int))=z)(w:World)(b0:w.cell? ⟨B,0,none⟩=some (.string T))(b1:w.cell? ⟨B,1,none⟩=some (.int .i64 k))(n:Nat):
  Calls Tryz.prog 144 #[.pointer (some ⟨B,0,none⟩)] (w.drewN n) λe w'=>e=.returned (.bool z)/\∃m,w'=w.drewN m:=
 Calls.quiet_of (ended_run B T k z hz (w.drewN n) b0 b1)
theorem take_end(c:Int)(hk:k=(T.size:Int))(w:World)(h:Sc w0 A B T k w):
  Calls Tryz.prog 150 #[.pointer (some ⟨B,0,none⟩),.int .u8 c] w λe w'=>e=.returned (.bool false)/\Sc w0 A B T k w':=by
 have H21:=ended_in B T k true (by simpa using hk) w h.b0 h.b1;have HS:Hid (Sc w0 A B T k w):=h;have b0:=h.b0;have b1:=h.b1;clear h hk;go_enter Tryz.func150,Tryz.ntmps150;go_wp2_with fail
 go_quiet ((go_at_call 144;exact H21 _))
 go_wp2_with fail;go_ret;exact⟨rfl,(uh HS).drewN _⟩
theorem take_no{k:Nat}(c:Int)(x:UInt8)(hx:T.data.toList[k]? =some x)(hc:((x.toNat:Int)==c)=false)(w:World)(h:Sc w0 A B T k w):
  Calls Tryz.prog 150 #[.pointer (some ⟨B,0,none⟩),.int .u8 c] w λe w'=>e=.returned (.bool false)/\Sc w0 A B T k w':=by
 have hlt:k<T.size:=by have:=(List.getElem?_eq_some_iff.1 hx).1;simpa using this
 have H21:=ended_in B T k false (by simp;omega) w h.b0 h.b1;have HS:Hid (Sc w0 A B T k w):=h;have b0:=h.b0;have b1:=h.b1;have hix:=ix T _ rfl k x hx;clear h hlt hx;generalize (x.toNat:Int)=xi at*;go_enter Tryz.func150,Tryz.ntmps150;go_wp2_with fail
 go_quiet ((go_at_call 144;exact H21 _))
 go_wp2_with fail;go_ret;exact⟨rfl,(uh HS).drewN _⟩
theorem take_yes{k:Nat}(x:UInt8)(hlen:T.size<=1200)(hx:T.data.toList[k]? =some x)(w:World)(h:Sc w0 A B T k w):
  Calls Tryz.prog 150 #[.pointer (some ⟨B,0,none⟩),.int .u8 x.toNat] w λe w'=>e=.returned (.bool true)/\Sc w0 A B T ((k:Int)+1) w':=by
 have hlt:k<T.size:=by have:=(List.getElem?_eq_some_iff.1 hx).1;simpa using this
 have H21:=ended_in B T k false (by simp;omega) w h.b0 h.b1;have HS:Hid (Sc w0 A B T k w):=h;have b0:=h.b0;have b1:=h.b1;have f1:=h.fB1;have hix:=ix T _ rfl k x hx;have hk2:(k:Int)<1200:=by omega
 clear h hlt hx;generalize (x.toNat:Int)=xi at*;go_enter Tryz.func150,Tryz.ntmps150;go_wp2_with fail
 go_quiet ((go_at_call 144;exact H21 _))
 go_wp2_with fail;go_ret;exact⟨rfl,((uh HS).drewN _).set _⟩
theorem sign_run(hlen:T.size<=1200)(j:Nat)
  (hj:(T.size=0/\j=0)\/(T.data.toList[0]? =some 45/\j=1)\/(T.data.toList[0]? =some 43/\j=1)\/(∃x,T.data.toList[0]? =some x/\x.toNat≠45/\x.toNat≠43/\j=0)) (w:World) (h:Sc w0 A B T ((0:Nat):Int) w):
  Calls Tryz.prog 171 #[.pointer (some ⟨B,0,none⟩)] w λe w'=>(∃z,e=.returned (.bool z))/\Sc w0 A B T (j:Int) w':=by
 rcases hj with⟨h0,rfl⟩|⟨h0,rfl⟩|⟨h0,rfl⟩|⟨x,h0,h1,h2,rfl⟩
 ·have HT:=λc w h=>take_end (w0:=w0) (A:=A) (B:=B) (T:=T) (k:=((0:Nat):Int)) c (by omega) w h;go_enter Tryz.func171,Tryz.ntmps171;go_wp2_with fail;refine(HT _ _ h).mono ?_;rintro e w1 ⟨rfl,g1⟩;go_wp2_with fail;refine(HT _ _ g1).mono ?_;rintro e w2 ⟨rfl,g2⟩;go_wp2_with fail;go_ret;exact⟨⟨_,rfl⟩,g2⟩
 ·have HT:∀w,Sc w0 A B T ((0:Nat):Int) w->Calls Tryz.prog 150 #[.pointer (some ⟨B,0,none⟩),.int .u8 45] w λe w'=>e=.returned (.bool true)/\Sc w0 A B T (((0:Nat):Int)+1) w':=λw h=>take_yes (k:=0) 45 hlen h0 w h;go_enter Tryz.func171,Tryz.ntmps171;go_wp2_with fail;refine(HT _ h).mono ?_;rintro e w1 ⟨rfl,g1⟩;clear h HT;go_wp2_with fail;go_ret;exact⟨⟨_,rfl⟩,g1⟩
 ·have HN:=λw h=>take_no (w0:=w0) (A:=A) (B:=B) (T:=T) (k:=0) 45 43 h0 (by decide) w h;have HT:∀w,Sc w0 A B T ((0:Nat):Int) w->Calls Tryz.prog 150 #[.pointer (some ⟨B,0,none⟩),.int .u8 43] w λe w'=>e=.returned (.bool true)/\Sc w0 A B T (((0:Nat):Int)+1) w':=λw h=>take_yes (k:=0) 43 hlen h0 w h;go_enter Tryz.func171,Tryz.ntmps171;go_wp2_with fail;refine(HN _ h).mono ?_;rintro e w1 ⟨rfl,g1⟩;clear h HN;go_wp2_with fail;refine(HT _ g1).mono ?_;rintro e w2 ⟨rfl,g2⟩;clear g1 HT;go_wp2_with fail;go_ret;exact⟨⟨_,rfl⟩,g2⟩
 ·have HN:=λw h=>take_no (w0:=w0) (A:=A) (B:=B) (T:=T) (k:=0) 45 x h0 (by simp;omega) w h;have HM:=λw h=>take_no (w0:=w0) (A:=A) (B:=B) (T:=T) (k:=0) 43 x h0 (by simp;omega) w h;go_enter Tryz.func171,Tryz.ntmps171;go_wp2_with fail;refine(HN _ h).mono ?_;rintro e w1 ⟨rfl,g1⟩;clear h HN;go_wp2_with fail;refine(HM _ g1).mono ?_;rintro e w2 ⟨rfl,g2⟩;clear g1 HM;go_wp2_with fail;go_ret;exact⟨⟨_,rfl⟩,g2⟩
def atOf(B:Nat)(w:World):Nat:=match w.cell? ⟨B,1,none⟩with
 |some (.int _ k)=>k.toNat
 |_=>0
theorem atOf_sc(h:Sc w0 A B T k w):atOf B w=k.toNat:=by
 unfold atOf;rw[h.b1]
theorem digits_run(b:Nat)(hb2:b<=36)(hlen:T.size<=1200)(k0 k1:Nat)(h01:k0<=k1)(h1:k1<=T.size)
  (hgood:∀j,k0<=j->j<k1->∃x,T.data.toList[j]? =some x/\dw x<b)
  (hstop:k1=T.size\/∃x,T.data.toList[k1]? =some x/\¬dw x<b) (w:World) (h:Sc w0 A B T (k0:Int) w):
  Calls Tryz.prog 169 #[.pointer (some ⟨B,0,none⟩),.int .i64 b] w λe w'=>e=.returned (.string (T.extract k0 k1))/\Sc w0 A B T (k1:Int) w':=by
 have HS:Hid (Sc w0 A B T k0 w):=h;have b1:=h.b1;clear h;have HG:Hid (∀j,k0<=j->j<k1->∃x,T.data.toList[j]? =some x/\dw x<b):=hgood;have HP:Hid (k1=T.size\/∃x,T.data.toList[k1]? =some x/\¬dw x<b):=hstop;clear hgood hstop;go_enter Tryz.func169,Tryz.ntmps169;go_wp2_with fail;clear b1
 go_loopw [] (λwr=>∃k:Nat,Hid (Sc w0 A B T (k:Int) wr)/\k0<=k/\k<=k1) (λwr=>T.size-atOf B wr)
 case atStart=>exact⟨k0,HS,by omega,h01⟩
 case round=>
  clear HS;obtain⟨k,HS,hk0,hk1⟩:=hrel;have hS:=(uh HS)
  have b0:=hS.b0;have b1:=hS.b1;have f1:=hS.fB1;have hat:=atOf_sc hS;by_cases hlt:k<k1
  ·obtain⟨x,hx,hd⟩:=(uh HG) k hk0 hlt;have hix:=ix T _ rfl k x hx;have H21:=ended_in B T k false (by simp;omega) wr b0 b1;have H26:=impl_dig x;have hd2:(dw x:Int)<(b:Int):=by omega
   have hk2:(k:Int)<1200:=by omega
   have HN:∀n,Sc w0 A B T ((k+1:Nat):Int) ((wr.drewN n).setCell ⟨B,1,none⟩ (.int .i64 ((k:Int)+1))):=λn=>(hS.drewN n).set _;have HN':Hid (∀n,Sc w0 A B T ((k+1:Nat):Int) ((wr.drewN n).setCell ⟨B,1,none⟩ (.int .i64 ((k:Int)+1)))):=HN;clear hS HS HG HP hx hd HN;generalize (dw x:Int)=dd at*;generalize (x.toNat:Int)=xi at*;go_wp2_with fail
   go_quiet ((first|(go_at_call 144;exact H21 _)|(go_at_call 177;exact Calls.quiet_of_same (H26 _))))
   go_wp2_with fail;have hN:=(show ∀n,Sc w0 A B T ((k+1:Nat):Int) ((wr.drewN n).setCell ⟨B,1,none⟩ (.int .i64 ((k:Int)+1)))from HN') nq;refine⟨⟨k+1,hN,by omega,by omega⟩,?_⟩;rw[atOf_sc hN,hat];omega
  ·obtain rfl:k=k1:=by omega
   have hsl:∀W:World,(Instr.slice 9 (.string T) (some (.int .i64 k0)) (some (.int .i64 k)) none).run Tryz.prog W=.ok (.string (T.extract k0 k)) W:=by
    intro W;rw[run_slice_string (P:=Tryz.prog) W 9 T .i64 .i64 (k0:Int) (k:Int) Tryz.underlying9 (by omega) (by omega) (by omega)]
    simp
   have HN':Hid (∀n,Sc w0 A B T (k:Int) (wr.drewN n)):=(λn=>hS.drewN n:∀n,Sc w0 A B T (k:Int) (wr.drewN n))
   rcases(uh HP)with hst|⟨x,hx,hd⟩
   ·have H21:=ended_in B T k true (by simp;omega) wr b0 b1;clear hS HS HG HP hst;go_wp2_with fail
    go_quiet ((first|(go_at_call 144;exact H21 _)))
    go_wp2_with fail;have hS2:=(show ∀n,Sc w0 A B T (k:Int) (wr.drewN n)from HN') nq;clear HN' b0 b1 f1 hat;generalize wr.drewN nq=W at*;have b0:=hS2.b0;have b1:=hS2.b1;have HS3:Hid (Sc w0 A B T (k:Int) W):=hS2;clear hS2
    go_quiet (fail)
    go_wp2_with fail;go_ret;exact⟨rfl,(uh HS3).drewN _⟩
   ·have hlt2:k<T.size:=by have:=(List.getElem?_eq_some_iff.1 hx).1;simpa using this
    have hix:=ix T _ rfl k x hx;have H21:=ended_in B T k false (by simp;omega) wr b0 b1;have H26:=impl_dig x;have hd2:¬(dw x:Int)<(b:Int):=by omega
    clear hS HS HG HP hx hd;generalize (dw x:Int)=dd at*;generalize (x.toNat:Int)=xi at*;go_wp2_with fail
    go_quiet ((first|(go_at_call 144;exact H21 _)|(go_at_call 177;exact Calls.quiet_of_same (H26 _))))
    go_wp2_with fail;have hS2:=(show ∀n,Sc w0 A B T (k:Int) (wr.drewN n)from HN') nq;clear HN' b0 b1 f1 hat;generalize wr.drewN nq=W at*;have b0:=hS2.b0;have b1:=hS2.b1;have HS3:Hid (Sc w0 A B T (k:Int) W):=hS2;clear hS2
    go_quiet (fail)
    go_wp2_with fail;go_ret;exact⟨rfl,(uh HS3).drewN _⟩
