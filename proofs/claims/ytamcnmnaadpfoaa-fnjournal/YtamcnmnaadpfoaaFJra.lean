import Derived.Test.YtamcnmnaadpfoaaFJga
import Derived.Test.YtamcnmnaadpfoaaFUav
import Derived.Test.YtamcnmnaadpfoaaFJha
import Derived.Test.YtamcnmnaadpfoaaFGdf
set_option maxHeartbeats 8000000
namespace Go.Proofs.Ytamcnmnaadpfoaa.Fo
open Go.ChangeShapes Go.WideShapes Go.ChangeAt Go.RowKit
set_option linter.unusedVariables false
set_option maxRecDepth 100000
structure Jeq (J K:Jd):Prop where
 n:J.n=K.n
 p:J.p=K.p
 q:J.q=K.q
 m:J.m=K.m
 S:∀ i,i < J.n→J.S i=K.S i
 T:∀ i,i < J.m→J.T i=K.T i
theorem Jeq.symm {J K:Jd} (h:Jeq J K):Jeq K J:=⟨h.n.symm,h.p.symm,h.q.symm,h.m.symm,fun i hi=>(h.S i (by rw [h.n];exact hi)).symm,fun i hi=>(h.T i (by rw [h.m];exact hi)).symm⟩
def ysJ (J:Jd):List (Int × List Gv):=lF (3+J.m) (jF J)
def grJ (J:Jd):Gr:=(ndV 0,ysJ J)
theorem ysJ_len (J:Jd):(ysJ J).length=3+J.m:=lF_len _ _
noncomputable def jir (J:Jd):List Int:=if dc (Jok J)=true then pck (ysJ J).length (TF (ysJ J)) (ndV 0) else []
def iot:Nat→List Int
 | 0=>[]
 | k+1=>iot k ++ [(k:Int)]
theorem iot_len:∀ k,(iot k).length=k
 | 0=>rfl
 | k+1=>by show (iot k ++ [(k:Int)]).length = _;rw [List.length_append,iot_len k];rfl
theorem iot_at:∀ {k i:Nat},i < k→(iot k)[i]? = some (i:Int)
 | 0,i,h=>by omega
 | k+1,i,h=>by
  show (iot k ++ [(k:Int)])[i]? = _
  by_cases e:i=k
  ·subst e
   rw [List.getElem?_append_right (by rw [iot_len];exact Nat.le_refl _),iot_len,Nat.sub_self]
   rfl
  ·rw [List.getElem?_append_left (by rw [iot_len];omega)]
   exact iot_at (by omega)
theorem iot_nth {k i:Nat} (h:i < k):nth (iot k) i=i:=by
 unfold nth
 rw [List.getD_eq_getElem?_getD,iot_at h]
 show ((i:Int)).toNat=i
 omega
theorem iot_not:∀ {k:Nat} {x:Int},(k:Int)≤x→x ∉ iot k
 | 0,_,_=>by show _ ∉ [];simp
 | k+1,x,h=>by
  show x ∉ iot k ++ [(k:Int)]
  intro hx
  rcases List.mem_append.1 hx with q | q
  ·exact iot_not (by omega) q
  ·have:=List.mem_singleton.1 q
   omega
theorem iot_idx:∀ {k i:Nat},i < k→(iot k).idxOf (i:Int)=i
 | 0,_,h=>by omega
 | k+1,i,h=>by
  show (iot k ++ [(k:Int)]).idxOf (i:Int) = _
  rw [List.idxOf_append]
  by_cases e:i=k
  ·subst e
   rw [if_neg (iot_not (Int.le_refl _)),iot_len]
   simp
  ·have hm:(i:Int) ∈ iot k:=List.mem_iff_getElem?.2 ⟨i,iot_at (by omega)⟩
   rw [if_pos hm]
   exact iot_idx (by omega)
theorem rnm_iot {k:Nat} {v:Gv} (h:v.k=4→0≤v.r∧v.r < (k:Int)):rnm (iot k) v=v:=by
 unfold rnm
 split
 ·rename_i h4
  have hr:=h h4
  obtain ⟨k',m',x',r'⟩:=v
  dsimp only at *
  obtain ⟨i,rfl⟩:∃ i:Nat,r'=(i:Int):=⟨r'.toNat,by omega⟩
  rw [iot_idx (by omega)]
 ·rfl
theorem exts_none (o:List Int) {C:Nat→Gv}:∀ {c:Nat},(∀ j,j < c→(C j).k ≠ 4)→exts o C c=o
 | 0,_=>rfl
 | c+1,h=>by
  show ext (exts o C c) (C c)=o
  rw [exts_none o (fun j hj=>h j (by omega))]
  unfold ext
  rw [if_neg (h c (by omega))]
theorem ext_nd (k:Nat):ext (iot k) (ndV (k:Int))=iot (k+1):=by
 unfold ext
 rw [if_pos (show (ndV (k:Int)).k=4 from rfl),if_neg (show (ndV (k:Int)).r ∉ iot k from iot_not (Int.le_refl _))]
 rfl
theorem exts_congr (o:List Int) {C D:Nat→Gv}:∀ {c:Nat},(∀ j,j < c→C j=D j)→exts o C c=exts o D c
 | 0,_=>rfl
 | c+1,h=>by
  show ext (exts o C c) (C c)=ext (exts o D c) (D c)
  rw [exts_congr o (fun j hj=>h j (by omega)),h c (by omega)]
theorem exts_sk:∀ c:Nat,exts (iot 3) (fun j=>ndV (3+(j:Int))) c=iot (3+c)
 | 0=>rfl
 | c+1=>by
  show ext (exts (iot 3) (fun j=>ndV (3+(j:Int))) c) (ndV (3+(c:Int))) = _
  rw [exts_sk c,show (3:Int)+(c:Int)=((3+c:Nat):Int) by omega]
  exact ext_nd (3+c)
theorem ysJ_at (J:Jd) {i:Nat} (h:i < 3+J.m):(TF (ysJ J) i).t=(jF J i).t∧(TF (ysJ J) i).c=(jF J i).c∧∀ j,j < (jF J i).c→(TF (ysJ J) i).C j=(jF J i).C j:=by
 unfold ysJ
 rw [lF_at _ h]
 refine ⟨rfl,?_,fun j hj=>?_⟩
 ·show ((List.range _).map _).length = _
  simp
 ·show ((List.range _).map _).getD j default = _
  rw [List.getD_eq_getElem?_getD,List.getElem?_map,List.getElem?_range hj]
  rfl
theorem ords_J (J:Jd):(ords (TF (ysJ J)) (iot 1) 3=iot (3+J.m)):=by
 have h0:=ysJ_at J (i:=0) (by omega)
 have h1:=ysJ_at J (i:=1) (by omega)
 have h2:=ysJ_at J (i:=2) (by omega)
 have e1:ords (TF (ysJ J)) (iot 1) 1=iot 3:=by
  show (if 0 < (iot 1).length then exts (iot 1) (TF (ysJ J) (nth (iot 1) 0)).C (TF (ysJ J) (nth (iot 1) 0)).c else iot 1) = _
  rw [if_pos (by rw [iot_len];omega),iot_nth (by omega),h0.2.1,exts_congr _ h0.2.2]
  rfl
 have e2:ords (TF (ysJ J)) (iot 1) 2=iot 3:=by
  rw [ords_succ,e1,if_pos (by rw [iot_len];omega),iot_nth (by omega),h1.2.1,exts_congr _ h1.2.2]
  exact exts_none _ (fun j _=>by show (txV _).k ≠ 4;show (3:Int) ≠ 4;omega)
 rw [ords_succ,e2,if_pos (by rw [iot_len];omega),iot_nth (by omega),h2.2.1,exts_congr _ h2.2.2]
 exact exts_sk J.m
theorem st_no (J:Jd) (i j:Nat):((jF J (3+i)).C j).k ≠ 4:=by
 rw [jF_st]
 show (four _ _ _ _ j).k ≠ 4
 rcases four_x (nmV (J.T i).k) (nmV (J.T i).m) (nmV (J.T i).r) (txV (J.T i).x) j with e | e | e | e <;> rw [e]
 ·show (1:Int) ≠ 4;omega
 ·show (1:Int) ≠ 4;omega
 ·show (1:Int) ≠ 4;omega
 ·show (3:Int) ≠ 4;omega
theorem ords_all (J:Jd):∀ k,k≤J.m→ords (TF (ysJ J)) (iot 1) (3+k)=iot (3+J.m)
 | 0,_=>ords_J J
 | k+1,h=>by
  have hk:=ysJ_at J (i:=3+k) (by omega)
  rw [show 3+(k+1)=3+k+1 by omega,ords_succ,ords_all J k (by omega),if_pos (by rw [iot_len];omega),iot_nth (by omega),hk.2.1,exts_congr _ hk.2.2]
  exact exts_none _ (fun j _=>st_no J k j)
theorem cO_J (J:Jd):cO (ysJ J).length (TF (ysJ J)) (ndV 0)=iot (3+J.m):=by
 unfold cO
 rw [show ext [] (ndV 0)=iot 1 from ext_nd 0,ysJ_len]
 exact ords_all J J.m (Nat.le_refl _)
theorem ref_J (J:Jd) {i j:Nat} (hi:i < 3+J.m) (hj:j < (jF J i).c):((jF J i).C j).k=4→0≤((jF J i).C j).r∧((jF J i).C j).r < ((3+J.m:Nat):Int):=by
 by_cases e0:i=0
 ·subst e0
  show (four (nmV J.p) (nmV J.q) (ndV 1) (ndV 2) j).k=4→0≤(four (nmV J.p) (nmV J.q) (ndV 1) (ndV 2) j).r∧(four (nmV J.p) (nmV J.q) (ndV 1) (ndV 2) j).r < _
  rcases four_x (nmV J.p) (nmV J.q) (ndV 1) (ndV 2) j with e | e | e | e <;> rw [e]
  ·intro h;exact absurd h (by show (1:Int) ≠ 4;omega)
  ·intro h;exact absurd h (by show (1:Int) ≠ 4;omega)
  ·intro _;show 0≤(1:Int)∧(1:Int) < _;omega
  ·intro _;show 0≤(2:Int)∧(2:Int) < _;omega
 by_cases e1:i=1
 ·subst e1
  intro h
  exact absurd h (by show (3:Int) ≠ 4;omega)
 by_cases e2:i=2
 ·subst e2
  intro _
  have hj':j < J.m:=hj
  show 0≤3+(j:Int)∧3+(j:Int) < _
  omega
 obtain ⟨k,rfl⟩:∃ k,i=3+k:=⟨i - 3,by omega⟩
 intro h
 exact absurd h (st_no J k j)
theorem lF_congr {n:Nat} {F G:Nat→Td} (h:∀ i,i < n→(F i).t=(G i).t∧(F i).c=(G i).c∧∀ j,j < (G i).c→(F i).C j=(G i).C j):lF n F=lF n G:=by
 unfold lF
 refine List.map_congr_left (fun i hi=>?_)
 obtain ⟨h1,h2,h3⟩:=h i (List.mem_range.1 hi)
 rw [h1,h2]
 refine congrArg _ (List.map_congr_left (fun j hj=>h3 j (List.mem_range.1 hj)))
theorem can_J (J:Jd):rnm (cO (ysJ J).length (TF (ysJ J)) (ndV 0)) (ndV 0)=ndV 0∧lF (cO (ysJ J).length (TF (ysJ J)) (ndV 0)).length (cF (ysJ J).length (TF (ysJ J)) (ndV 0))=ysJ J:=by
 unfold cF
 rw [cO_J,iot_len]
 refine ⟨rnm_iot (fun _=>by show 0≤(0:Int)∧(0:Int) < _;omega),?_⟩
 show lF (3+J.m) (cnF (TF (ysJ J)) (iot (3+J.m)))=lF (3+J.m) (jF J)
 refine lF_congr (fun i hi=>?_)
 obtain ⟨h1,h2,h3⟩:=ysJ_at J hi
 unfold cnF
 rw [iot_nth hi]
 exact ⟨h1,h2,fun j hj=>by dsimp only;rw [h3 j hj];exact rnm_iot (ref_J J hi hj)⟩
theorem jir_ok {J:Jd} {M:List UInt8} (h:jir J=toI M) (hM:M ≠ []):Jok J∧pck (ysJ J).length (TF (ysJ J)) (ndV 0)=toI M:=by
 unfold jir at h
 by_cases hj:Jok J
 ·rw [dc_t hj,if_pos rfl] at h
  exact ⟨hj,h⟩
 ·rw [dc_f hj] at h
  exact (hM (toI_inj (a:=M) (b:=[]) (by rw [← h];rfl))).elim
theorem jok_rgG {J:Jd} (h:Jok J):Rg (ysJ J).length (TF (ysJ J)) (ndV 0):=by
 have hr:=jok_rg h
 refine ⟨hr.a0,fun i hi j hj=>?_⟩
 rw [ysJ_len] at hi
 obtain ⟨h1,h2,h3⟩:=ysJ_at J hi
 rw [h2] at hj
 rw [h3 j hj]
 exact hr.f0 i hi j hj
theorem jok_bgG {J:Jd} (h:Jok J):Bg (ysJ J).length (TF (ysJ J)) (ndV 0):=by
 have hb:=jok_bg h
 refine ⟨by rw [ysJ_len];exact hb.hn,hb.hx,fun i hi=>?_,fun i hi j hj=>?_⟩
 ·rw [ysJ_len] at hi
  rw [(ysJ_at J hi).2.1]
  exact hb.hc i hi
 ·rw [ysJ_len] at hi
  obtain ⟨h1,h2,h3⟩:=ysJ_at J hi
  rw [h2] at hj
  rw [h3 j hj]
  exact hb.hC i hi j hj
theorem jir_rd {J:Jd} {M:List UInt8} (h:jir J=toI M) (hM:M ≠ []):Rd M (grJ J):=by
 obtain ⟨hok,hp⟩:=jir_ok h hM
 have hr:=jok_rgG hok
 have hG:=(pck_read hr hp hM).1
 have hl:=(pck_read hr hp hM).2.1
 obtain ⟨c1,c2,c3⟩:=can_wv hG hr
 obtain ⟨k1,k2⟩:=can_J J
 have e:M = [72,49] ++ (g8 (rnm (cO (ysJ J).length (TF (ysJ J)) (ndV 0)) (ndV 0)) (lF (cO (ysJ J).length (TF (ysJ J)) (ndV 0)).length (cF (ysJ J).length (TF (ysJ J)) (ndV 0))) ++ e8 (sm64 (pbd (ysJ J).length (TF (ysJ J)) (ndV 0))) 8):=by
  refine toI_inj ?_
  rw [← hl,toI_app,toI_app,toI_e8,← gbl_lF]
  unfold pfl
  rw [show pbd (ysJ J).length (TF (ysJ J)) (ndV 0) = [72,49] ++ gbl (rnm (cO (ysJ J).length (TF (ysJ J)) (ndV 0)) (ndV 0)) (cO (ysJ J).length (TF (ysJ J)) (ndV 0)).length (cF (ysJ J).length (TF (ysJ J)) (ndV 0)) from rfl,List.append_assoc]
  rfl
 rw [k1,k2] at e
 rw [k1] at c1
 rw [k2] at c2 c3
 exact ⟨e8 (sm64 (pbd (ysJ J).length (TF (ysJ J)) (ndV 0))) 8,c1,c2,c3,by rw [e];rfl⟩
theorem jeq_ys {J K:Jd} (h:Jeq J K):ysJ J=ysJ K:=by
 unfold ysJ
 rw [h.m]
 refine lF_congr (fun i hi=>?_)
 by_cases e0:i=0
 ·subst e0
  have:jF J 0=jF K 0:=by show rtT J.p J.q=rtT K.p K.q;rw [h.p,h.q]
  rw [this]
  exact ⟨rfl,rfl,fun _ _=>rfl⟩
 by_cases e1:i=1
 ·subst e1
  refine ⟨rfl,h.n,fun j hj=>?_⟩
  have hj':j < K.n:=hj
  show txV (J.S j)=txV (K.S j)
  rw [h.S j (by rw [h.n];exact hj')]
 by_cases e2:i=2
 ·subst e2
  exact ⟨rfl,h.m,fun _ _=>rfl⟩
 obtain ⟨k,rfl⟩:∃ k,i=3+k:=⟨i - 3,by omega⟩
 rw [jF_st,jF_st,h.T k (by have:=h.m;omega)]
 exact ⟨rfl,rfl,fun _ _=>rfl⟩
theorem jeq_jok {J K:Jd} (h:Jeq J K) (hj:Jok J):Jok K:=by
 obtain ⟨h1,h2,h3,h4,h5,h6⟩:=hj
 rw [h.n] at h1
 rw [h.m] at h2
 rw [h.p] at h3
 rw [h.q] at h4
 exact ⟨h1,h2,h3,h4,fun i hi=>by rw [← h.S i (by rw [h.n];exact hi)];exact h5 i (by rw [h.n];exact hi),fun i hi=>by rw [← h.T i (by rw [h.m];exact hi)];exact h6 i (by rw [h.m];exact hi)⟩
theorem jeq_jir {J K:Jd} (h:Jeq J K):jir J=jir K:=by
 unfold jir
 rw [jeq_ys h,show dc (Jok J)=dc (Jok K) from congrArg dc (propext ⟨jeq_jok h,jeq_jok h.symm⟩)]
def z0v:Gv:=⟨0,0,⟨#[]⟩,0⟩
def vsG (g:Gr) (k:Nat):List Gv:=(g.2.getD k default).2
def stG (l:List Gv):Gv:=⟨(l.getD 0 z0v).m,(l.getD 1 z0v).m,(l.getD 3 z0v).x,(l.getD 2 z0v).m⟩
def jp (g:Gr):Jd:=⟨(vsG g 1).length,fun i=>((vsG g 1).getD i z0v).x,((vsG g 0).getD 0 z0v).m,((vsG g 0).getD 1 z0v).m,(vsG g 2).length,fun i=>stG (vsG g ((vsG g 2).getD i z0v).r.toNat)⟩
def jm (g:Gr):Jd:=⟨(vsG g 1).length,fun i=>((vsG g 1).getD i z0v).x,((vsG g 0).getD 0 z0v).m,((vsG g 0).getD 1 z0v).m,g.2.length - 3,fun i=>stG (vsG g (3+i))⟩
theorem vs_J (J:Jd) {k:Nat} (h:k < 3+J.m):vsG (grJ J) k=(List.range (jF J k).c).map (jF J k).C:=by
 unfold vsG grJ ysJ lF
 rw [List.getD_eq_getElem?_getD,List.getElem?_map,List.getElem?_range h]
 rfl
theorem vs_at (J:Jd) {k j:Nat} (h:k < 3+J.m) (hj:j < (jF J k).c):(vsG (grJ J) k).getD j z0v=(jF J k).C j:=by
 rw [vs_J J h,List.getD_eq_getElem?_getD,List.getElem?_map,List.getElem?_range hj]
 rfl
theorem vs_len (J:Jd) {k:Nat} (h:k < 3+J.m):(vsG (grJ J) k).length=(jF J k).c:=by rw [vs_J J h];simp
theorem stG_J (J:Jd) {i:Nat} (h:i < J.m):stG (vsG (grJ J) (3+i))=J.T i:=by
 have hc:(jF J (3+i)).c=4:=by rw [jF_st];rfl
 unfold stG
 rw [vs_at J (k:=3+i) (j:=0) (by omega) (by omega),vs_at J (k:=3+i) (j:=1) (by omega) (by omega),vs_at J (k:=3+i) (j:=2) (by omega) (by omega),vs_at J (k:=3+i) (j:=3) (by omega) (by omega),jF_st]
 rfl
theorem jp_gr (J:Jd):Jeq (jp (grJ J)) J:=by
 refine ⟨vs_len J (by omega),?_,?_,vs_len J (by omega),fun i hi=>?_,fun i hi=>?_⟩
 ·show ((vsG (grJ J) 0).getD 0 z0v).m = _
  rw [vs_at J (k:=0) (j:=0) (by omega) (by show 0 < 4;omega)]
  rfl
 ·show ((vsG (grJ J) 0).getD 1 z0v).m = _
  rw [vs_at J (k:=0) (j:=1) (by omega) (by show 1 < 4;omega)]
  rfl
 ·have hi':i < (jF J 1).c:=by rw [← vs_len J (k:=1) (by omega)];exact hi
  show ((vsG (grJ J) 1).getD i z0v).x = _
  rw [vs_at J (k:=1) (by omega) hi']
  rfl
 ·have hi':i < (jF J 2).c:=by rw [← vs_len J (k:=2) (by omega)];exact hi
  show stG (vsG (grJ J) ((vsG (grJ J) 2).getD i z0v).r.toNat) = _
  rw [vs_at J (k:=2) (by omega) hi',show ((jF J 2).C i).r.toNat=3+i from by show (3+(i:Int)).toNat = _;omega]
  exact stG_J J hi'
theorem jm_gr (J:Jd):Jeq (jm (grJ J)) J:=by
 have h:=jp_gr J
 refine ⟨h.n,h.p,h.q,?_,h.S,fun i hi=>?_⟩
 ·show (ysJ J).length - 3 = _
  rw [ysJ_len]
  omega
 ·have hi':i < (ysJ J).length - 3:=hi
  rw [ysJ_len] at hi'
  exact stG_J J (by omega)
def Cm (g:Gr):Prop:=3≤g.2.length∧(vsG g 0).length=4∧(((vsG g 0).getD 0 z0v).k=1 ∧ -1≤((vsG g 0).getD 0 z0v).m∧((vsG g 0).getD 0 z0v).m≤1000000)∧(((vsG g 0).getD 1 z0v).k=1 ∧ -1≤((vsG g 0).getD 1 z0v).m∧((vsG g 0).getD 1 z0v).m≤1000000)∧∀ i,3≤i→i < g.2.length→(vsG g i).length=4
theorem cm_gr {J:Jd} (h:Jok J):Cm (grJ J):=by
 obtain ⟨h1,h2,h3,h4,h5,h6⟩:=h
 refine ⟨by show 3≤(ysJ J).length;rw [ysJ_len];omega,vs_len J (by omega),?_,?_,fun i h3 hi=>?_⟩
 ·rw [vs_at J (k:=0) (j:=0) (by omega) (by show 0 < 4;omega)]
  exact ⟨rfl,by show -1≤J.p;omega,by show J.p≤1000000;omega⟩
 ·rw [vs_at J (k:=0) (j:=1) (by omega) (by show 1 < 4;omega)]
  exact ⟨rfl,by show -1≤J.q;omega,by show J.q≤1000000;omega⟩
 ·have hi':i < (ysJ J).length:=hi
  rw [ysJ_len] at hi'
  rw [vs_len J hi']
  obtain ⟨k,rfl⟩:∃ k,i=3+k:=⟨i - 3,by omega⟩
  rw [jF_st]
  rfl
theorem gr_jeq {J K:Jd} (h:grJ J=grJ K):Jeq J K:=by
 have h1:=(jp_gr J).symm
 have h2:=jp_gr K
 rw [h] at h1
 exact ⟨h1.n.trans h2.n,h1.p.trans h2.p,h1.q.trans h2.q,h1.m.trans h2.m,fun i hi=>(h1.S i hi).trans (h2.S i (by rw [← h1.n];exact hi)),fun i hi=>(h1.T i hi).trans (h2.T i (by rw [← h1.m];exact hi))⟩
def j0:Jd:=⟨0,fun _=>⟨#[]⟩,0,0,0,fun _=>z0v⟩
def RjA (M:List UInt8) (ok:Bool) (J:Jd):Prop:=(ok=true→M ≠ []∧jir J=toI M∧∃ g,∀ K,jir K=toI M→g=grJ K)∧(ok=false→J=j0∧∀ K,jir K=toI M→M ≠ []→False)
theorem RjA.uniq {M:List UInt8} {ok ok':Bool} {J K:Jd} (h:RjA M ok J) (h':RjA M ok' K):ok=ok'∧Jeq J K:=by
 cases ok <;> cases ok'
 ·rw [(h.2 rfl).1,(h'.2 rfl).1]
  exact ⟨rfl,⟨rfl,rfl,rfl,rfl,fun _ _=>rfl,fun _ _=>rfl⟩⟩
 ·obtain ⟨q1,q2,_⟩:=h'.1 rfl
  exact ((h.2 rfl).2 K q2 q1).elim
 ·obtain ⟨q1,q2,_⟩:=h.1 rfl
  exact ((h'.2 rfl).2 J q2 q1).elim
 ·obtain ⟨q1,q2,g,q3⟩:=h.1 rfl
  obtain ⟨_,r2,_⟩:=h'.1 rfl
  exact ⟨rfl,gr_jeq ((q3 J q2).symm.trans (q3 K r2))⟩
theorem rj_yes {M:List UInt8} {g:Gr} {J:Jd} (h:UnR M true g) (hj:jir J=toI M):RjA M true J :=
 ⟨fun _=>⟨(h.1 rfl).1,hj,g,fun K hK=>(h.1 rfl).2.2.2 _ (jir_rd hK (h.1 rfl).1)⟩,fun e=>(nomatch e)⟩
theorem rj_no1 {M:List UInt8} {g:Gr} (h:UnR M false g):RjA M false j0 :=
 ⟨fun e=>(nomatch e),fun _=>⟨rfl,fun K hK hM=>(h.2 rfl).2 _ (jir_rd hK hM) hM (jir_ok hK hM).2⟩⟩
theorem rj_no2 {M:List UInt8} {g:Gr} (h:UnR M true g) (hj:jir (jp g) ≠ toI M):RjA M false j0 :=
 ⟨fun e=>(nomatch e),fun _=>⟨rfl,fun K hK hM=>by
  have e:=(h.1 rfl).2.2.2 _ (jir_rd hK hM)
  rw [e] at hj
  exact hj ((jeq_jir (jp_gr K)).trans hK)⟩⟩
theorem sm5_gr {J:Jd} {M:List UInt8} (h:jir J=toI M) (hM:M ≠ []):sm5 (grJ J):=by
 obtain ⟨hok,hp⟩:=jir_ok h hM
 exact gok_sm5 (g:=grJ J) (pck_read (jok_rgG hok) hp hM).1
theorem rm_yes {M:List UInt8} {g:Gr} {J:Jd} (h:UnM M true g) (hj:jir J=toI M):RjA M true J :=
 ⟨fun _=>⟨(h.1 rfl).1,hj,g,fun K hK=>(h.1 rfl).2.2.2 _ (jir_rd hK (h.1 rfl).1) (sm5_gr hK (h.1 rfl).1)⟩,fun e=>(nomatch e)⟩
theorem rm_no1 {M:List UInt8} {g:Gr} (h:UnM M false g):RjA M false j0 :=
 ⟨fun e=>(nomatch e),fun _=>⟨rfl,fun K hK hM=>(h.2 rfl).2 _ (jir_rd hK hM) (sm5_gr hK hM) hM (jir_ok hK hM).2⟩⟩
theorem rm_no2 {M:List UInt8} {g:Gr} (h:UnM M true g) (hj:¬ Cm g∨jir (jm g) ≠ toI M):RjA M false j0 :=
 ⟨fun e=>(nomatch e),fun _=>⟨rfl,fun K hK hM=>by
  have e:=(h.1 rfl).2.2.2 _ (jir_rd hK hM) (sm5_gr hK hM)
  rw [e] at hj
  rcases hj with q | q
  ·exact q (cm_gr (jir_ok hK hM).1)
  ·exact q ((jeq_jir (jm_gr K)).trans hK)⟩⟩
theorem s2_kb {w W:World} {B:Nat} (k:Kb 0 w W) (hB:w.heap.size≤B) (t:Int) (v:Value):Kb 0 w (s2 W B t v) :=
 ⟨by unfold s2;exact k.os,by unfold s2;exact k.output,by rw [s2_size];exact k.size,fun g h1 h2=>(s2_far _ _ _ _ (by omega)).trans (k.block g h1 h2)⟩
theorem s4_kb {w W:World} {B:Nat} (k:Kb 0 w W) (hB:w.heap.size≤B) (a m:Int) (x:ByteArray) (r:Int):Kb 0 w (s4 W B a m x r):=by
 unfold s4
 exact (((k.setCell _ (.inr hB) _).setCell _ (.inr hB) _).setCell _ (.inr hB) _).setCell _ (.inr hB) _
theorem s4_four {W:World} {B:Nat} {u0 u1 u2 u3:Value} {t:TypeId} (h:W.heap[B]? = some (.cells #[u0,u1,u2,u3] t (0,0))) (k m:Int) (x:ByteArray) (r:Int):(s4 W B k m x r).heap[B]? = some (.cells #[.int .i64 k,.int .i64 m,.string x,.int .i64 r] t (0,0)):=by
 unfold s4
 have t1:(W.setCell ⟨B,0,none⟩ (.int .i64 k)).heap[B]? = some (.cells #[.int .i64 k,u1,u2,u3] t (0,0)):=set_known _ h
 have t2:((W.setCell ⟨B,0,none⟩ (.int .i64 k)).setCell ⟨B,1,none⟩ (.int .i64 m)).heap[B]? = some (.cells #[.int .i64 k,.int .i64 m,u2,u3] t (0,0)):=set_known _ t1
 have t3:(((W.setCell ⟨B,0,none⟩ (.int .i64 k)).setCell ⟨B,1,none⟩ (.int .i64 m)).setCell ⟨B,2,none⟩ (.string x)).heap[B]? = some (.cells #[.int .i64 k,.int .i64 m,.string x,u3] t (0,0)):=set_known _ t2
 exact set_known _ t3
theorem at_thing {X k : Nat} {v : Value} {ys : List (Int × List Gv)} {w0 : World} (w : World) (k0 : Kb 0 w0 w) (hX : w.cell? ⟨X, 0, none⟩ = some v) (hr : RowT 0 w0 v ys.length (TF ys)) (hN : ys.length ≤ 1048576) (hk : (k : Int) ≤ 1048576) :
  Calls Try.prog 44 #[.pointer (some ⟨X,0,none⟩),.int .i64 (k:Int)] w fun e w'=>∃ vc,e = .returned (.agg #[.int .i64 (TF ys k).t,vc])∧RowW 0 w0 vc (TF ys k).c (TF ys k).C∧Kb 0 w w':=by
 obtain ⟨pa,ca,rfl,hr2⟩:=id hr
 obtain ⟨w1,hw1⟩:∃ w1,w1=w.alloc (.cells #[.int .i64 0,.slice none 0 0] 50):=⟨_,rfl⟩
 have k1:Kb 0 w w1:=by rw [hw1];exact kb_alloc _ _ _
 have b1:w1.heap[w.heap.size]? = some (.cells #[.int .i64 0,.slice none 0 0] 50 (0,0)):=by rw [hw1];exact alloc_new _ _ _
 have x1:w1.cell? ⟨X,0,none⟩=some (.slice pa ys.length ca):=k1.cell hX
 have r0:w1.cell? ⟨w.heap.size,0,none⟩=some (.int .i64 0):=cell_of b1 rfl
 have r1:w1.cell? ⟨w.heap.size,1,none⟩=some (.slice none 0 0):=cell_of b1 rfl
 have rz:∀ j,w1.frozen? ⟨w.heap.size,j,none⟩=false:=fun j=>frozen_of b1
 have HW:Hid (w1 = _):=hw1
 have hNI:(ys.length:Int)≤1048576:=by omega
 rcases Nat.lt_or_ge k ys.length with h | h
 ·have hI:(k:Int) < (ys.length:Int):=by omega
  obtain ⟨a,rfl,hca,-,hra⟩:=hr2 (by omega)
  obtain ⟨vc,⟨d0,d1⟩,hrow⟩:=hra k h
  obtain ⟨pc,cc,rfl,-⟩:=id hrow
  replace d0:=k1.cell (k0.cell d0)
  replace d1:=k1.cell (k0.cell d1)
  obtain ⟨WF,hWF⟩:∃ WF,WF=s2 w1 w.heap.size (TF ys k).t (.slice pc (TF ys k).c cc):=⟨_,rfl⟩
  have bF:WF.heap[w.heap.size]? = some (.cells #[.int .i64 (TF ys k).t,.slice pc (TF ys k).c cc] 50 (0,0)):=by rw [hWF];exact s2_known b1 _ _
  have e0:WF.cell? ⟨w.heap.size,0,none⟩=some (.int .i64 (TF ys k).t):=cell_of bF rfl
  have e1:WF.cell? ⟨w.heap.size,1,none⟩=some (.slice pc (TF ys k).c cc):=cell_of bF rfl
  have HF:Hid (RowW 0 w0 (.slice pc (TF ys k).c cc) (TF ys k).c (TF ys k).C∧Kb 0 w WF):=(⟨hrow,by rw [hWF];exact s2_kb k1 (Nat.le_refl _) _ _⟩:_∧_)
  unfold s2 at hWF
  have HWF:Hid (WF = _):=hWF
  generalize (TF ys k).t=tt at *
  generalize (TF ys k).c=tc at *
  generalize ys.length=NN at *
  clear hr hr2 hra hrow k1 b1 hw1 hX bF hWF hN k0
  go_enter Try.func44,Try.ntmps44
  go_upto_region 1 with fail
  rw [← (show w1 = _ from HW)]
  clear HW
  go_wp2_with fail
  rw [← (show WF = _ from HWF)]
  clear HWF
  refine bodyPost_ret (by simp [results,Try.results44,go_sem,e0,e1];rfl) rfl ?_
  exact ⟨_,rfl,(show _∧_ from HF).1,(show _∧_ from HF).2⟩
 ·have hI:¬ (k:Int) < (ys.length:Int):=by omega
  have hz:TF ys k=⟨0,0,fun i=>([]:List Gv).getD i default⟩:=by
   unfold TF
   rw [List.getD_eq_getElem?_getD,List.getElem?_eq_none h]
   rfl
  rw [hz]
  obtain ⟨w2,hw2⟩:∃ w2,w2=w1.alloc (.cells #[.int .i64 0,.slice none 0 0] 50):=⟨_,rfl⟩
  have k2:Kb 0 w1 w2:=by rw [hw2];exact kb_alloc _ _ _
  have b2:w2.heap[w1.heap.size]? = some (.cells #[.int .i64 0,.slice none 0 0] 50 (0,0)):=by rw [hw2];exact alloc_new _ _ _
  have b12:=blk_kb b1 k2
  have y0:w2.cell? ⟨w1.heap.size,0,none⟩=some (.int .i64 0):=cell_of b2 rfl
  have y1:w2.cell? ⟨w1.heap.size,1,none⟩=some (.slice none 0 0):=cell_of b2 rfl
  have q0:w2.cell? ⟨w.heap.size,0,none⟩=some (.int .i64 0):=cell_of b12 rfl
  have q1:w2.cell? ⟨w.heap.size,1,none⟩=some (.slice none 0 0):=cell_of b12 rfl
  have qz:∀ j,w2.frozen? ⟨w.heap.size,j,none⟩=false:=fun j=>frozen_of b12
  obtain ⟨WF,hWF⟩:∃ WF,WF=s2 w2 w.heap.size 0 (.slice none 0 0):=⟨_,rfl⟩
  have bF:WF.heap[w.heap.size]? = some (.cells #[.int .i64 0,.slice none 0 0] 50 (0,0)):=by rw [hWF];exact s2_known b12 _ _
  have e0:WF.cell? ⟨w.heap.size,0,none⟩=some (.int .i64 0):=cell_of bF rfl
  have e1:WF.cell? ⟨w.heap.size,1,none⟩=some (.slice none 0 0):=cell_of bF rfl
  have HF:Hid (Kb 0 w WF):=(by rw [hWF];exact s2_kb (k1.trans k2) (Nat.le_refl _) _ _:Kb 0 w WF)
  unfold s2 at hWF
  have HWF:Hid (WF = _):=hWF
  have HW2:Hid (w2=w1.alloc (.cells #[.int .i64 0,.slice none 0 0] 50)):=hw2
  generalize ys.length=NN at *
  clear hr hr2 k1 b1 hw1 hX bF hWF hN k2 b2 b12 hw2 hz k0
  go_enter Try.func44,Try.ntmps44
  go_upto_region 1 with fail
  rw [← (show w1 = _ from HW)]
  clear HW
  go_upto_region 4 with fail
  rw [← (show w2 = _ from HW2)]
  clear HW2
  go_wp2_with fail
  rw [← (show WF = _ from HWF)]
  clear HWF
  refine bodyPost_ret (by simp [results,Try.results44,go_sem,e0,e1];rfl) rfl ?_
  exact ⟨_,rfl,⟨none,0,rfl,fun q=>absurd q (Nat.lt_irrefl _)⟩,HF⟩
theorem at_val {X k : Nat} {v : Value} {c : Nat} {C : Nat → Gv} (w : World) (hX : w.cell? ⟨X, 0, none⟩ = some v) (hr : RowW 0 w v c C) (hN : c ≤ 1048576) (hk : (k : Int) ≤ 1048576) (z : Gv) (hz : z = if k < c then C k else z0v) :
  Calls Try.prog 45 #[.pointer (some ⟨X,0,none⟩),.int .i64 (k:Int)] w fun e w'=>e = .returned (.agg #[.int .i64 z.k,.int .i64 z.m,.string z.x,.int .i64 z.r])∧Kb 0 w w':=by
 obtain ⟨pa,ca,rfl,hr2⟩:=id hr
 obtain ⟨w1,hw1⟩:∃ w1,w1=w.alloc (.cells #[.int .i64 0,.int .i64 0,.string ⟨#[]⟩,.int .i64 0] 41):=⟨_,rfl⟩
 have k1:Kb 0 w w1:=by rw [hw1];exact kb_alloc _ _ _
 have b1:w1.heap[w.heap.size]? = some (.cells #[.int .i64 0,.int .i64 0,.string ⟨#[]⟩,.int .i64 0] 41 (0,0)):=by rw [hw1];exact alloc_new _ _ _
 have x1:w1.cell? ⟨X,0,none⟩=some (.slice pa c ca):=k1.cell hX
 have r0:w1.cell? ⟨w.heap.size,0,none⟩=some (.int .i64 0):=cell_of b1 rfl
 have r1:w1.cell? ⟨w.heap.size,1,none⟩=some (.int .i64 0):=cell_of b1 rfl
 have r2:w1.cell? ⟨w.heap.size,2,none⟩=some (.string ⟨#[]⟩):=cell_of b1 rfl
 have r3:w1.cell? ⟨w.heap.size,3,none⟩=some (.int .i64 0):=cell_of b1 rfl
 have rz:∀ j,w1.frozen? ⟨w.heap.size,j,none⟩=false:=fun j=>frozen_of b1
 have HW:Hid (w1 = _):=hw1
 have hNI:(c:Int)≤1048576:=by omega
 rcases Nat.lt_or_ge k c with h | h
 ·have hI:(k:Int) < (c:Int):=by omega
  obtain ⟨a,rfl,hca,-,hra⟩:=hr2 (by omega)
  obtain ⟨d0,d1,d2,d3⟩:=hra k h
  rw [if_pos h] at hz
  rw [← hz] at d0 d1 d2 d3
  replace d0:=k1.cell d0
  replace d1:=k1.cell d1
  replace d2:=k1.cell d2
  replace d3:=k1.cell d3
  obtain ⟨WF,hWF⟩:∃ WF,WF=s4 w1 w.heap.size z.k z.m z.x z.r:=⟨_,rfl⟩
  have bF:WF.heap[w.heap.size]? = some (.cells #[.int .i64 z.k,.int .i64 z.m,.string z.x,.int .i64 z.r] 41 (0,0)):=by rw [hWF];exact s4_four b1 _ _ _ _
  have e0:WF.cell? ⟨w.heap.size,0,none⟩=some (.int .i64 z.k):=cell_of bF rfl
  have e1:WF.cell? ⟨w.heap.size,1,none⟩=some (.int .i64 z.m):=cell_of bF rfl
  have e2:WF.cell? ⟨w.heap.size,2,none⟩=some (.string z.x):=cell_of bF rfl
  have e3:WF.cell? ⟨w.heap.size,3,none⟩=some (.int .i64 z.r):=cell_of bF rfl
  have HF:Hid (Kb 0 w WF):=(by rw [hWF];exact s4_kb k1 (Nat.le_refl _) _ _ _ _:Kb 0 w WF)
  unfold s4 at hWF
  have HWF:Hid (WF = _):=hWF
  clear hr hr2 hra k1 b1 hw1 hX bF hWF hN hz
  go_enter Try.func45,Try.ntmps45
  go_upto_region 1 with fail
  rw [← (show w1 = _ from HW)]
  clear HW
  go_wp2_with fail
  rw [← (show WF = _ from HWF)]
  clear HWF
  refine bodyPost_ret (by simp [results,Try.results45,go_sem,e0,e1,e2,e3];rfl) rfl ?_
  exact ⟨rfl,HF⟩
 ·have hI:¬ (k:Int) < (c:Int):=by omega
  rw [if_neg (by omega)] at hz
  subst hz
  obtain ⟨w2,hw2⟩:∃ w2,w2=w1.alloc (.cells #[.int .i64 0,.int .i64 0,.string ⟨#[]⟩,.int .i64 0] 41):=⟨_,rfl⟩
  have k2:Kb 0 w1 w2:=by rw [hw2];exact kb_alloc _ _ _
  have b2:w2.heap[w1.heap.size]? = some (.cells #[.int .i64 0,.int .i64 0,.string ⟨#[]⟩,.int .i64 0] 41 (0,0)):=by rw [hw2];exact alloc_new _ _ _
  have b12:=blk_kb b1 k2
  have y0:w2.cell? ⟨w1.heap.size,0,none⟩=some (.int .i64 0):=cell_of b2 rfl
  have y1:w2.cell? ⟨w1.heap.size,1,none⟩=some (.int .i64 0):=cell_of b2 rfl
  have y2:w2.cell? ⟨w1.heap.size,2,none⟩=some (.string ⟨#[]⟩):=cell_of b2 rfl
  have y3:w2.cell? ⟨w1.heap.size,3,none⟩=some (.int .i64 0):=cell_of b2 rfl
  have q0:w2.cell? ⟨w.heap.size,0,none⟩=some (.int .i64 0):=cell_of b12 rfl
  have q1:w2.cell? ⟨w.heap.size,1,none⟩=some (.int .i64 0):=cell_of b12 rfl
  have q2:w2.cell? ⟨w.heap.size,2,none⟩=some (.string ⟨#[]⟩):=cell_of b12 rfl
  have q3:w2.cell? ⟨w.heap.size,3,none⟩=some (.int .i64 0):=cell_of b12 rfl
  have qz:∀ j,w2.frozen? ⟨w.heap.size,j,none⟩=false:=fun j=>frozen_of b12
  obtain ⟨WF,hWF⟩:∃ WF,WF=s4 w2 w.heap.size 0 0 ⟨#[]⟩ 0:=⟨_,rfl⟩
  have bF:WF.heap[w.heap.size]? = some (.cells #[.int .i64 0,.int .i64 0,.string ⟨#[]⟩,.int .i64 0] 41 (0,0)):=by rw [hWF];exact s4_four b12 _ _ _ _
  have e0:WF.cell? ⟨w.heap.size,0,none⟩=some (.int .i64 0):=cell_of bF rfl
  have e1:WF.cell? ⟨w.heap.size,1,none⟩=some (.int .i64 0):=cell_of bF rfl
  have e2:WF.cell? ⟨w.heap.size,2,none⟩=some (.string ⟨#[]⟩):=cell_of bF rfl
  have e3:WF.cell? ⟨w.heap.size,3,none⟩=some (.int .i64 0):=cell_of bF rfl
  have HF:Hid (Kb 0 w WF):=(by rw [hWF];exact s4_kb (k1.trans k2) (Nat.le_refl _) _ _ _ _:Kb 0 w WF)
  unfold s4 at hWF
  have HWF:Hid (WF = _):=hWF
  have HW2:Hid (w2=w1.alloc (.cells #[.int .i64 0,.int .i64 0,.string ⟨#[]⟩,.int .i64 0] 41)):=hw2
  clear hr hr2 k1 b1 hw1 hX bF hWF hN k2 b2 b12 hw2
  unfold z0v
  dsimp only
  go_enter Try.func45,Try.ntmps45
  go_upto_region 1 with fail
  rw [← (show w1 = _ from HW)]
  clear HW
  go_upto_region 4 with fail
  rw [← (show w2 = _ from HW2)]
  clear HW2
  go_wp2_with fail
  rw [← (show WF = _ from HWF)]
  clear HWF
  refine bodyPost_ret (by simp [results,Try.results45,go_sem,e0,e1,e2,e3];rfl) rfl ?_
  exact ⟨rfl,HF⟩
theorem fld_thing (t:Int) (v:Value) (hv:∃ p n c,v = .slice p n c) (w:World):(Instr.field 50 (.agg #[.int .i64 t,v]) 1).run Try.prog w = .ok v w:=by
 obtain ⟨p,n,c,rfl⟩:=hv
 first | (kernel_rfl) | (rfl)
theorem im_vals {X k : Nat} {v : Value} {ys : List (Int × List Gv)} {w0 : World} (w : World) (k0 : Kb 0 w0 w) (hX : w.cell? ⟨X, 0, none⟩ = some v) (hr : RowT 0 w0 v ys.length (TF ys)) (hN : ys.length ≤ 1048576) (hk : (k : Int) ≤ 1048576) :
  Calls Try.prog 43 #[.int .i64 (k:Int),.pointer (some ⟨X,0,none⟩)] w fun e w'=>∃ pc cc,e = .returned (.agg #[.slice pc (TF ys k).c cc])∧RowW 0 w0 (.slice pc (TF ys k).c cc) (TF ys k).c (TF ys k).C∧Kb 0 w w':=by
 obtain ⟨w1,hw1⟩:∃ w1,w1=w.alloc (.cells #[.slice none 0 0] 83):=⟨_,rfl⟩
 have k1:Kb 0 w w1:=by rw [hw1];exact kb_alloc _ _ _
 have b1:w1.heap[w.heap.size]? = some (.cells #[.slice none 0 0] 83 (0,0)):=by rw [hw1];exact alloc_new _ _ _
 have HA:=at_thing (k:=k) w1 (k0.trans k1) (k1.cell hX) hr hN hk
 have HW:Hid (w1=w.alloc (.cells #[.slice none 0 0] 83)):=hw1
 have H1:Hid (Kb 0 w w1∧w1.heap[w.heap.size]? = some (.cells #[.slice none 0 0] 83 (0,0))):=(⟨k1,b1⟩:_∧_)
 generalize TF ys k=F at *
 clear k0 hX hr hN hk hw1 k1 b1
 go_enter Try.func43,Try.ntmps43
 go_upto_region 1 with fail
 rw [← (show w1 = _ from HW)]
 clear HW
 go_wp2_with fail
 refine HA.mono ?_
 rintro e w2 ⟨vc,rfl,hrow,k2⟩
 clear HA
 obtain ⟨pc,cc,rfl,-⟩:=id hrow
 obtain ⟨k1,b1⟩:=(show Kb 0 w w1∧_ from H1)
 have b2:=blk_kb b1 k2
 have r0:w2.cell? ⟨w.heap.size,0,none⟩=some (.slice none 0 0):=cell_of b2 rfl
 have rz:∀ j,w2.frozen? ⟨w.heap.size,j,none⟩=false:=fun j=>frozen_of b2
 obtain ⟨WF,hWF⟩:∃ WF,WF=w2.setCell ⟨w.heap.size,0,none⟩ (.slice pc F.c cc):=⟨_,rfl⟩
 have bF:WF.heap[w.heap.size]? = some (.cells #[.slice pc F.c cc] 83 (0,0)):=by rw [hWF];exact set_known _ b2
 have e0:WF.cell? ⟨w.heap.size,0,none⟩=some (.slice pc F.c cc):=cell_of bF rfl
 have HF:Hid (RowW 0 w0 (.slice pc F.c cc) F.c F.C∧Kb 0 w WF):=(⟨hrow,by rw [hWF];exact (k1.trans k2).setCell _ (.inr (Nat.le_refl _)) _⟩:_∧_)
 have HWF:Hid (WF=w2.setCell ⟨w.heap.size,0,none⟩ (.slice pc F.c cc)):=hWF
 have hfd:=fun W=>fld_thing F.t (.slice pc F.c cc) ⟨_,_,_,rfl⟩ W
 clear hrow k2 H1 k1 b1 b2 hWF bF
 go_wp2_with fail
 rw [← (show WF = _ from HWF)]
 clear HWF
 refine bodyPost_ret (by simp [results,Try.results43,go_sem,e0];rfl) rfl ?_
 exact ⟨_,_,rfl,(show _∧_ from HF).1,(show _∧_ from HF).2⟩
def stl (S:Nat→ByteArray):Nat→List Value
 | 0=>[]
 | i+1=>stl S i ++ [.string (S i)]
def sls (T:Nat→Gv):Nat→List Value
 | 0=>[]
 | i+1=>sls T i ++ [.int .i64 (T i).k,.int .i64 (T i).m,.int .i64 (T i).r,.string (T i).x]
theorem stl_len (S:Nat→ByteArray):∀ i,(stl S i).length=i
 | 0=>rfl
 | i+1=>by show (stl S i ++ [Value.string (S i)]).length = _;rw [List.length_append,stl_len S i];rfl
theorem stl_at (S:Nat→ByteArray) {k:Nat}:∀ {i},k < i→(stl S i)[k]? = some (.string (S k))
 | 0,h=>by omega
 | i+1,h=>by
  show (stl S i ++ [.string (S i)])[k]? = _
  by_cases e:k=i
  ·subst e
   rw [List.getElem?_append_right (by rw [stl_len];exact Nat.le_refl _),stl_len,Nat.sub_self]
   rfl
  ·rw [List.getElem?_append_left (by rw [stl_len];omega)]
   exact stl_at S (by omega)
theorem sls_len (T:Nat→Gv):∀ i,(sls T i).length=i*4
 | 0=>rfl
 | i+1=>by
  show (sls T i ++ [Value.int .i64 (T i).k,Value.int .i64 (T i).m,Value.int .i64 (T i).r,Value.string (T i).x]).length = _
  rw [List.length_append,sls_len T i]
  show i*4+4 = _
  omega
theorem sls_at (T:Nat→Gv) {k t:Nat} (ht:t < 4):∀ {i},k < i→(sls T i)[k*4+t]? = ([.int .i64 (T k).k,.int .i64 (T k).m,.int .i64 (T k).r,.string (T k).x]:List Value)[t]?
 | 0,h=>by omega
 | i+1,h=>by
  show (sls T i ++ [.int .i64 (T i).k,.int .i64 (T i).m,.int .i64 (T i).r,.string (T i).x])[k*4+t]? = _
  by_cases e:k=i
  ·subst e
   rw [List.getElem?_append_right (by rw [sls_len];omega),sls_len]
   congr 1
   omega
  ·rw [List.getElem?_append_left (by rw [sls_len];omega)]
   exact sls_at T ht (by omega)
theorem sls_congr {T U:Nat→Gv}:∀ {i},(∀ k,k < i→T k=U k)→sls T i=sls U i
 | 0,_=>rfl
 | i+1,h=>by
  show sls T i ++ _=sls U i ++ _
  rw [sls_congr (fun k hk=>h k (by omega)),h i (by omega)]
theorem own_stl {W:World} {B:Nat} {v:Value} {S:Nat→ByteArray} {n:Nat} (h:W.ownsRow B 9 1 v n (stl S n)) (d:Nat):∃ g,OwnR W v g n (fun i=>.string (S i))∧(0 < n→v.ownBlock=some g∧B≤g∧g < W.heap.size)∧(n=0→g=d):=by
 obtain ⟨p,cap,hp⟩:=own_shape h
 by_cases hn : 0 < n
 ·obtain ⟨g,cap',cur,e,e2,hB,hlt,hcap,hcur,hcell⟩:=own_blk h hn
  rw [hp] at e
  injection e with e3 _ e4
  exact ⟨g,⟨⟨p,cap,hp,fun _=>⟨e3,by omega⟩⟩,fun i hi=>(hcell i (by omega)).trans (stl_at S hi),fun _ j=>frozen_of hcur⟩,fun _=>⟨e2,hB,hlt⟩,fun q=>by omega⟩
 ·exact ⟨d,⟨⟨p,cap,hp,fun q=>absurd q hn⟩,fun i hi=>absurd hi (by omega),fun q=>absurd q hn⟩,fun q=>absurd q hn,fun _=>rfl⟩
theorem own_sls {W:World} {B:Nat} {v:Value} {T:Nat→Gv} {m:Nat} (h:W.ownsRow B 38 4 v m (sls T m)) (d:Nat):∃ b,Js.OwV W v b m∧Js.RowW 0 W v m T∧(0 < m→v.ownBlock=some b∧B≤b∧b < W.heap.size)∧(m=0→b=d):=by
 obtain ⟨p,cap,hp⟩:=own_shape h
 by_cases hn : 0 < m
 ·obtain ⟨g,cap',cur,e,e2,hB,hlt,hcap,hcur,hcell⟩:=own_blk h hn
  rw [hp] at e
  injection e with e3 _ e4
  refine ⟨g,⟨p,cap,hp,fun _=>⟨e3,by omega,fun j hj=>?_,fun j=>frozen_of hcur⟩⟩,⟨p,cap,hp,fun _=>⟨⟨g,0,none⟩,e3,by omega,Nat.zero_le _,fun i hi=>?_⟩⟩,fun _=>⟨e2,hB,hlt⟩,fun q=>by omega⟩
  ·have hl:=sls_len T m
   exact ⟨_,(hcell j (by omega)).trans (List.getElem?_eq_getElem (by omega))⟩
  ·rw [addr0]
   exact Js.CelV.of (fun t ht=>(hcell _ (by omega)).trans (sls_at T ht hi))
 ·exact ⟨d,⟨p,cap,hp,fun q=>absurd q hn⟩,⟨p,cap,hp,fun q=>absurd q hn⟩,fun q=>absurd q hn,fun _=>rfl⟩
theorem jx_of {J:Jd} {w W:World} {v u:Value} (hv:W.ownsRow (w.heap.size+2) 9 1 v J.n (stl J.S J.n)) (hu:W.ownsRow (w.heap.size+2) 38 4 u J.m (sls J.T J.m)) (hz:w.heap.size+2≤W.heap.size):Jx J w.heap.size W v u:=by
 obtain ⟨g,h1,h2,h3⟩:=own_stl hv w.heap.size
 obtain ⟨b,k1,k2,k3,k4⟩:=own_sls hu (w.heap.size+1)
 refine ⟨⟨h1.row,k2⟩,g,b,h1,k1,?_,?_,?_⟩
 ·rcases Nat.eq_zero_or_pos J.n with e | e
  ·have:=h3 e;omega
  ·have:=(h2 e).2;omega
 ·rcases Nat.eq_zero_or_pos J.m with e | e
  ·have:=k4 e;omega
  ·have:=(k3 e).2;omega
 ·rcases Nat.eq_zero_or_pos J.n with e | e
  ·have e1:=h3 e
   rcases Nat.eq_zero_or_pos J.m with e' | e'
   ·have:=k4 e';omega
   ·have:=(k3 e').2;omega
  ·have e1:=(h2 e)
   rcases Nat.eq_zero_or_pos J.m with e' | e'
   ·have:=k4 e';omega
   ·intro hgb
    have:=own_ne hv hu (by decide) e1.1
    rw [(k3 e').1,hgb] at this
    exact this rfl
structure LJn (w0:World) (B:Nat) (p q:Int) (S:Nat→ByteArray) (i:Nat) (v:Value) (wr:World):Prop where
 kg:Kg B w0 wr
 lb:wr.heap[B]? = some (.cells #[v,.int .i64 p,.int .i64 q,.slice none 0 0] 26 (0,0))
 ow:wr.ownsRow w0.heap.size 9 1 v i (stl S i)
 lt:B < w0.heap.size
structure SJn (w0:World) (B:Nat) (p q:Int) (v:Value) (T:Nat→Gv) (i:Nat) (u:Value) (wr:World):Prop where
 kg:Kg B w0 wr
 lb:wr.heap[B]? = some (.cells #[v,.int .i64 p,.int .i64 q,u] 26 (0,0))
 ow:wr.ownsRow w0.heap.size 38 4 u i (sls T i)
 lt:B < w0.heap.size
theorem LJn.kb {w0 wr w6:World} {B i:Nat} {p q:Int} {S:Nat→ByteArray} {v:Value} (h:LJn w0 B p q S i v wr) (k:Kb 0 wr w6):LJn w0 B p q S i v w6:=⟨h.kg.trans (Kg.of_kb k),blk_kb h.lb k,own_kb h.ow k,h.lt⟩
theorem SJn.kb {w0 wr w6:World} {B i:Nat} {p q:Int} {v:Value} {T:Nat→Gv} {u:Value} (h:SJn w0 B p q v T i u wr) (k:Kb 0 wr w6):SJn w0 B p q v T i u w6:=⟨h.kg.trans (Kg.of_kb k),blk_kb h.lb k,own_kb h.ow k,h.lt⟩
theorem LJn.grown {w0 wr w8:World} {B i:Nat} {p q:Int} {S:Nat→ByteArray} {v:Value} (h:LJn w0 B p q S i v wr) (hg:wr.grownBy w8 v.ownBlock):Kg B w0 w8∧w8.heap[B]? = some (.cells #[v,.int .i64 p,.int .i64 q,.slice none 0 0] 26 (0,0)):=by
 have hlt:=h.lt
 have hs:=h.kg.size
 have hne:∀ k,k < w0.heap.size→some k ≠ v.ownBlock:=fun k hk e=>by have:=(h.ow.lt k e.symm).1;omega
 exact ⟨⟨hg.os.trans h.kg.os,hg.output.trans h.kg.output,Nat.le_trans hs hg.size,fun k hk hkL=>(hg.block k (by omega) (hne k hk)).trans (h.kg.block k hk hkL)⟩,(hg.block B (by omega) (hne B hlt)).trans h.lb⟩
theorem SJn.grown {w0 wr w8:World} {B i:Nat} {p q:Int} {v:Value} {T:Nat→Gv} {u:Value} (h:SJn w0 B p q v T i u wr) (hg:wr.grownBy w8 u.ownBlock):Kg B w0 w8∧w8.heap[B]? = some (.cells #[v,.int .i64 p,.int .i64 q,u] 26 (0,0)):=by
 have hlt:=h.lt
 have hs:=h.kg.size
 have hne:∀ k,k < w0.heap.size→some k ≠ u.ownBlock:=fun k hk e=>by have:=(h.ow.lt k e.symm).1;omega
 exact ⟨⟨hg.os.trans h.kg.os,hg.output.trans h.kg.output,Nat.le_trans hs hg.size,fun k hk hkL=>(hg.block k (by omega) (hne k hk)).trans (h.kg.block k hk hkL)⟩,(hg.block B (by omega) (hne B hlt)).trans h.lb⟩
theorem LJn.push {w0 wr w8:World} {B i:Nat} {p q:Int} {S:Nat→ByteArray} {v v':Value} (h:LJn w0 B p q S i v wr) (ho:w8.ownsRow w0.heap.size 9 1 v' (i+1) (stl S i ++ [.string (S i)])) (hg:wr.grownBy w8 v.ownBlock):LJn w0 B p q S (i+1) v' (w8.setCell ⟨B,0,none⟩ v'):=by
 obtain ⟨hk,hb⟩:=h.grown hg
 have hlt:=h.lt
 exact ⟨⟨hk.os,hk.output,by simpa using hk.size,fun k h1 h2=>(Below.heap_setCell _ _ _ _ h2).trans (hk.block k h1 h2)⟩,set_known _ hb,own_keep ho (fun g e=>Below.heap_setCell _ _ _ _ (by have:=(ho.lt g e).1;show g ≠ B;omega)),hlt⟩
theorem SJn.push {w0 wr w8:World} {B i:Nat} {p q:Int} {v:Value} {T:Nat→Gv} {u u':Value} (h:SJn w0 B p q v T i u wr) (ho:w8.ownsRow w0.heap.size 38 4 u' (i+1) (sls T i ++ [.int .i64 (T i).k,.int .i64 (T i).m,.int .i64 (T i).r,.string (T i).x])) (hg:wr.grownBy w8 u.ownBlock):SJn w0 B p q v T (i+1) u' (w8.setCell ⟨B,3,none⟩ u'):=by
 obtain ⟨hk,hb⟩:=h.grown hg
 have hlt:=h.lt
 exact ⟨⟨hk.os,hk.output,by simpa using hk.size,fun k h1 h2=>(Below.heap_setCell _ _ _ _ h2).trans (hk.block k h1 h2)⟩,set_known _ hb,own_keep ho (fun g e=>Below.heap_setCell _ _ _ _ (by have:=(ho.lt g e).1;show g ≠ B;omega)),hlt⟩
theorem kg_kbo {w w0 wr:World} {B:Nat} (h:Kg B w0 wr) (k:Kb 0 w w0) (hB:w.heap.size≤B):Kb 0 w wr :=
 ⟨h.os.trans k.os,h.output.trans k.output,Nat.le_trans k.size h.size,fun q _ hq=>(h.block q (Nat.lt_of_lt_of_le hq k.size) (by omega)).trans (k.block q (Nat.zero_le _) hq)⟩
theorem atv (a:Gv) (ys:List (Int × List Gv)) (k j:Nat):(vsG (a,ys) k).getD j z0v=if j < (TF ys k).c then (TF ys k).C j else z0v:=by
 show ((ys.getD k default).2).getD j z0v=if j < ((ys.getD k default).2).length then ((ys.getD k default).2).getD j default else z0v
 split
 ·rfl
 ·rename_i h
  rw [List.getD_eq_getElem?_getD,List.getElem?_eq_none (by omega)]
  rfl
theorem infoSt:(Try.prog.info? 38).map (fun i=>(i.zero,i.size,i.bytes))=some (some (.agg #[.int .i64 0,.int .i64 0,.int .i64 0,.string ⟨#[]⟩]),4,40):=by kernel_rfl
theorem infoSr:(Try.prog.info? 9).map (fun i=>(i.zero,i.size,i.bytes))=some (some (.string ⟨#[]⟩),1,16):=by kernel_rfl
theorem fld_val1 (k m:Int) (x:ByteArray) (r:Int) (w:World):(Instr.field 41 (.agg #[.int .i64 k,.int .i64 m,.string x,.int .i64 r]) 1).run Try.prog w = .ok (.int .i64 m) w:=by kernel_rfl
theorem fld_val2 (k m:Int) (x:ByteArray) (r:Int) (w:World):(Instr.field 41 (.agg #[.int .i64 k,.int .i64 m,.string x,.int .i64 r]) 2).run Try.prog w = .ok (.string x) w:=by kernel_rfl
end Go.Proofs.Ytamcnmnaadpfoaa.Fo
