import Derived.Test.YtfpidccjcemcjaaGreatMZsq
import Derived.Test.YtfpidccjcemcjaaGreatMNpc
import Derived.Deep.AppendLies
import Derived.Deep.Cut
import Derived.WalkSpells
set_option maxHeartbeats 16000000
namespace Go.Proofs.YtfpidccjcemcjaaGreat.Fo
open Go.ChangeShapes Go.WideShapes Go.ChangeAt Go.RowKit
set_option linter.unusedVariables false
set_option maxRecDepth 100000
noncomputable def addL (L:List Int) (x:Int):List Int:=if dc (x ∈ L)=true then L else L ++ [x]
theorem addL_t {L:List Int} {x:Int} (h:x ∈ L):addL L x=L:=by unfold addL;rw [dc_t h,if_pos rfl]
theorem addL_f {L:List Int} {x:Int} (h:x ∉ L):addL L x=L ++ [x]:=by unfold addL;rw [dc_f h,if_neg (by simp)]
theorem mem_addL {L:List Int} {x y:Int}:y ∈ addL L x↔y ∈ L∨y=x:=by
 by_cases h:x ∈ L
 ·rw [addL_t h]
  constructor
  ·exact .inl
  ·rintro (h | rfl)
   ·exact h
   ·exact h
 ·rw [addL_f h];simp
theorem len_addL {L:List Int} {x:Int}:(addL L x).length≤L.length+1:=by
 by_cases h:x ∈ L
 ·rw [addL_t h];omega
 ·rw [addL_f h];simp
theorem Zt.make {S o:Nat} {L:List Int} {v:Value} {w:World} (h:Zt S o L v (.map none) w) (hL:L = []):Zt S o L v (.map (some w.heap.size)) ((w.alloc (.map #[] 0)).setCell ⟨S,o+1,none⟩ (.map (some w.heap.size)))∧Ks S o v (.map none) v (.map (some w.heap.size)) w ((w.alloc (.map #[] 0)).setCell ⟨S,o+1,none⟩ (.map (some w.heap.size))):=by
 subst hL
 have hk:=kb_alloc 0 w (.map #[] 0)
 have hSl:S < w.heap.size:=lt_of_cell' h.c0
 have hS1:(w.alloc (.map #[] 0)).heap[S]? = w.heap[S]?:=hk.block S zq hSl
 have hse:∀ k,k ≠ S→((w.alloc (.map #[] 0)).setCell ⟨S,o+1,none⟩ (.map (some w.heap.size))).heap[k]? = (w.alloc (.map #[] 0)).heap[k]?:=fun k hne=>Below.heap_setCell _ _ _ _ hne
 have c0:(w.alloc (.map #[] 0)).cell? ⟨S,o,none⟩=some v:=hk.cell h.c0
 have c1:(w.alloc (.map #[] 0)).cell? ⟨S,o+1,none⟩=some (.map none):=hk.cell h.c1
 refine ⟨⟨(set_ne _ _ _ _ _ (by omega)).trans c0,set_eq _ _ _ _ _ c1,fun j=>(set_fz _ _ _ _ _).trans ((World.frozen?_of_block hS1).trans (h.fz j)),rowBlk h.row (fun g e=>?_),.inr ⟨_,rfl,(Mi.new w).on (hse _ (by omega))⟩,h.ne⟩,⟨rfl,rfl,by rw [World.size_setCell,World.size_alloc];omega,fun k hk2 h1 h2 h3=>(hse k h1).trans (hk.block k zq hk2),fun j h1 h2=>(set_ne _ _ _ _ _ h2).trans (World.cell?_of_block hS1),fun k hk2=>.inl hk2,fun k hk2=>.inr ?_⟩⟩
 ·exact (hse g (fun e2=>h.ne (by rw [e,e2]))).trans (hk.block g zq (h.row.lt g e).2)
 ·have:w.heap.size=k:=by simpa using hk2
  omega
theorem im_add {S o:Nat} {L:List Int} {v m:Value} (x:Int) (w:World) (h:Zt S o L v m w) (hlen:L.length≤10000000000):Calls Tryz.prog 86 #[.pointer (some ⟨S,o,none⟩),.int .i64 x] w fun e w'=>∃ p:Int,e = .returned (.tuple #[.int .i64 p,.bool (dc (x ∉ L))])∧∃ v' m',Zt S o (addL L x) v' m' w'∧Ks S o v m v' m' w w':=by
 obtain ⟨i0,hi0,hz0,hz1,hz2⟩:=info_parts infoI
 have HI0:Hid (Tryz.prog.info? 3=some i0):=hi0
 clear hi0
 have qT:∀ (w:World) (r:Option Nat),(binOp .eql 96 (.map r) (.map none)).run Tryz.prog w = .ok (.bool r.isNone) w:=fun w r=>run_eql_map_nil w 96 3 3 r tMI
 by_cases hx:x ∈ L
 ·have c1:=h.c1
  rw [addL_t hx,dc_f (fun g=>g hx)]
  obtain ⟨M,rfl,hM⟩:∃ M,m = .map (some M)∧Mi w M L:=by
   rcases h.mp with ⟨rfl,_⟩ | q
   ·cases hx
   ·exact q
  obtain ⟨p,hl⟩:=run_lookI hM x
  rw [dc_t hx] at hl
  have HZ:Hid (Zt S o L v (.map (some M)) w):=h
  clear h hM hx hlen HI0
  go_enter Tryz.func86,Tryz.ntmps86
  go_wp2_with fail
  refine bodyPost_ret (by simp [results,Tryz.results86,go_sem];rfl) rfl ?_
  exact ⟨p,rfl,v,_,HZ,Ks.refl _ _ _ _ _⟩
 ·rw [addL_f hx,dc_t hx]
  rcases h.mp with ⟨hL,rfl⟩ | ⟨M,rfl,hM⟩
  ·have hl:=run_lookN w x
   have hmk:=run_makeI w
   have c1:=h.c1
   have hmz:=h.make hL
   obtain ⟨W1,hW1⟩:∃ W1,W1=(w.alloc (.map #[] 0)).setCell ⟨S,o+1,none⟩ (.map (some w.heap.size)):=⟨_,rfl⟩
   have c1a:(w.alloc (.map #[] 0)).cell? ⟨S,o+1,none⟩=some (.map none):=(kb_alloc 0 w _).cell c1
   have f1a:(w.alloc (.map #[] 0)).frozen? ⟨S,o+1,none⟩=false:=((kb_alloc 0 w (.map #[] 0)).frozen zq (lt_of_cell' h.c0)).trans (h.fz _)
   have HZ:Hid (Zt S o L v (.map (some w.heap.size)) W1):=by rw [hW1];exact hmz.1
   have HK:Hid (Ks S o v (.map none) v (.map (some w.heap.size)) w W1):=by rw [hW1];exact hmz.2
   have HW1:Hid (W1=(w.alloc (.map #[] 0)).setCell ⟨S,o+1,none⟩ (.map (some w.heap.size))):=hW1
   obtain ⟨M,hMe⟩:∃ M,M=w.heap.size:=⟨_,rfl⟩
   rw [← hMe] at hmk HZ HK HW1
   clear h hmz hW1 hL hMe
   go_enter Tryz.func86,Tryz.ntmps86
   go_upto_region 6 with fail
   rw [← (uh HW1)]
   clear HW1 hl hmk c1 c1a f1a
   have z0:=(uh HZ).c0
   have z1:=(uh HZ).c1
   obtain ⟨ob,hup,hM2⟩:=run_updI (w:=W1) (M:=M) (L:=L) (by
    rcases (uh HZ).mp with ⟨_,q⟩ | ⟨M',e,hM'⟩
    ·cases q
    ·have e2:M=M':=by simpa using e
     rw [e2];exact hM') x (L.length:Int) hx
   have HMS:Hid (M ≠ S):=map_cells (W:=setB W1 M ob) (L:=L ++ [x]) hM2 (v:=v) (j:=o) (by
    have:=(uh HZ)
    rcases this.mp with ⟨_,q⟩ | ⟨M',e,hM'⟩
    ·cases q
    ·have e2:M=M':=by simpa using e
     exact (World.cell?_of_block (setB_ne _ _ _ _ (fun e3=>map_cells hM' z0 (by rw [← e2,← e3])))).trans z0)
   have y0:(setB W1 M ob).cell? ⟨S,o,none⟩=some v:=(World.cell?_of_block (setB_ne _ _ _ _ (fun e3=>(uh HMS) e3.symm))).trans z0
   have HADD:Hid (∀ (E:Obj) (g cap':Nat) (w7:World),w7.ownsRow 0 3 1 (.slice (some ⟨g,0,none⟩) (L.length+1) cap') (L.length+1) (iv L ++ [.int .i64 x])→((setB W1 M ob).alloc E).grownBy w7 v.ownBlock→(v.ownBlock=some g∨g=W1.heap.size+1)→w7.cell? ⟨S,o,none⟩=some v∧w7.frozen? ⟨S,o,none⟩=false∧Zt S o (L ++ [x]) (.slice (some ⟨g,0,none⟩) (L.length+1) cap') (.map (some M)) (w7.setCell ⟨S,o,none⟩ (.slice (some ⟨g,0,none⟩) (L.length+1) cap'))∧Ks S o v (.map (some M)) (.slice (some ⟨g,0,none⟩) (L.length+1) cap') (.map (some M)) W1 (w7.setCell ⟨S,o,none⟩ (.slice (some ⟨g,0,none⟩) (L.length+1) cap'))):=(fun E g cap' w7 a b c=>(uh HZ).add hM2 a b (fun g' e=>by
    have e4:g=g':=by simpa [Value.ownBlock] using e
    subst e4;exact c):∀ (E:Obj),_)
   have hsB:(setB W1 M ob).heap.size=W1.heap.size:=by unfold setB;simp
   have howna:∀ a:Obj,((setB W1 M ob).alloc a).ownsRow 0 3 1 v L.length (iv L):=fun a=>by
    have hz:=(uh HZ)
    refine (rowBlk hz.row (fun g e=>setB_ne _ _ _ _ ?_)).alloc a
    rcases hz.mp with ⟨_,q⟩ | ⟨M',e1,hM'⟩
    ·cases q
    ·have e2:M=M':=by simpa using e1
     exact fun e3=>map_row hM' hz.row e (by rw [← e2,e3])
   obtain ⟨ad,cap,hvs⟩:=(uh HZ).shape
   have hqc:∀ (j:Nat) (u:Value),([.int .i64 x]:List Value)[j]? = some u→((setB W1 M ob).alloc (.cells #[.int .i64 x] 3)).cell? ((⟨W1.heap.size,0,none⟩:Addr).add j)=some u:=by
    have:=qr_cells (setB W1 M ob) #[.int .i64 x] 3 [.int .i64 x] rfl
    rw [hsB] at this
    exact this
   have h1c:∀ u ∈ ([.int .i64 x]:List Value),u.oneCell'=true:=by intro u hu;simp at hu;subst hu;rfl
   have HLN:Hid (L.length≤10000000000):=hlen
   have hlI:(L.length:Int)≤10000000000:=by omega
   subst hvs
   clear hM2 HZ HMS hx hlen
   generalize hn:L.length=n at *
   go_wp2_with (at_builtin;refine wpList_append_lies _ rfl (.tmp 43) (.tmp 45) 57 rfl 0 3 i0 (.int .i64 0) 1 8 Tryz.underlying57 HI0 hz0 hz1 hz2 rfl (by decide) _ _ _ rfl (howna _) ⟨W1.heap.size,0,none⟩ 1 1 [.int .i64 x] rfl rfl hqc h1c (by decide) (by unfold maxLen;omega) (by omega) (by simp) (W1.heap.size+1) (by rw [World.size_alloc,hsB]) ?_;intro g cap' w7 hown1 hgrow1 hl1 _;obtain ⟨s0,s1,s2,s3⟩:=(uh HADD) _ _ _ _ hown1 hgrow1 hl1;have HFIN:Hid (Zt S o (L ++ [x]) (.slice (some ⟨g,0,none⟩) (n+1) cap') (.map (some M)) (w7.setCell ⟨S,o,none⟩ (.slice (some ⟨g,0,none⟩) (n+1) cap'))∧Ks S o (.slice ad n cap) (.map (some M)) (.slice (some ⟨g,0,none⟩) (n+1) cap') (.map (some M)) W1 (w7.setCell ⟨S,o,none⟩ (.slice (some ⟨g,0,none⟩) (n+1) cap'))):=(⟨s2,s3⟩:_∧_);clear s2 s3 hown1 hgrow1 hl1 HADD howna hqc h1c)
   refine bodyPost_ret (by simp [results,Tryz.results86,go_sem];rfl) rfl ?_
   exact ⟨_,rfl,_,_,HFIN.1,(by rw [hn];exact (show Ks S o _ (.map none) _ (.map (some M)) w W1 from (hn ▸ HK)).trans HFIN.2)⟩
  ·obtain ⟨p,hl⟩:=run_lookI hM x
   rw [dc_f hx] at hl
   have c1:=h.c1
   have HZ:Hid (Zt S o L v (.map (some M)) w):=h
   clear h hM
   go_enter Tryz.func86,Tryz.ntmps86
   go_upto_region 6 with fail
   clear hl c1
   have z0:=(uh HZ).c0
   have z1:=(uh HZ).c1
   obtain ⟨ob,hup,hM2⟩:=run_updI (w:=w) (M:=M) (L:=L) (by
    rcases (uh HZ).mp with ⟨_,q⟩ | ⟨M',e,hM'⟩
    ·cases q
    ·have e2:M=M':=by simpa using e
     rw [e2];exact hM') x (L.length:Int) hx
   have HMS:Hid (M ≠ S):=map_cells (W:=setB w M ob) (L:=L ++ [x]) hM2 (v:=v) (j:=o) (by
    have:=(uh HZ)
    rcases this.mp with ⟨_,q⟩ | ⟨M',e,hM'⟩
    ·cases q
    ·have e2:M=M':=by simpa using e
     exact (World.cell?_of_block (setB_ne _ _ _ _ (fun e3=>map_cells hM' z0 (by rw [← e2,← e3])))).trans z0)
   have y0:(setB w M ob).cell? ⟨S,o,none⟩=some v:=(World.cell?_of_block (setB_ne _ _ _ _ (fun e3=>(uh HMS) e3.symm))).trans z0
   have HADD:Hid (∀ (E:Obj) (g cap':Nat) (w7:World),w7.ownsRow 0 3 1 (.slice (some ⟨g,0,none⟩) (L.length+1) cap') (L.length+1) (iv L ++ [.int .i64 x])→((setB w M ob).alloc E).grownBy w7 v.ownBlock→(v.ownBlock=some g∨g=w.heap.size+1)→w7.cell? ⟨S,o,none⟩=some v∧w7.frozen? ⟨S,o,none⟩=false∧Zt S o (L ++ [x]) (.slice (some ⟨g,0,none⟩) (L.length+1) cap') (.map (some M)) (w7.setCell ⟨S,o,none⟩ (.slice (some ⟨g,0,none⟩) (L.length+1) cap'))∧Ks S o v (.map (some M)) (.slice (some ⟨g,0,none⟩) (L.length+1) cap') (.map (some M)) w (w7.setCell ⟨S,o,none⟩ (.slice (some ⟨g,0,none⟩) (L.length+1) cap'))):=(fun E g cap' w7 a b c=>(uh HZ).add hM2 a b (fun g' e=>by
    have e4:g=g':=by simpa [Value.ownBlock] using e
    subst e4;exact c):∀ (E:Obj),_)
   have hsB:(setB w M ob).heap.size=w.heap.size:=by unfold setB;simp
   have howna:∀ a:Obj,((setB w M ob).alloc a).ownsRow 0 3 1 v L.length (iv L):=fun a=>by
    have hz:=(uh HZ)
    refine (rowBlk hz.row (fun g e=>setB_ne _ _ _ _ ?_)).alloc a
    rcases hz.mp with ⟨_,q⟩ | ⟨M',e1,hM'⟩
    ·cases q
    ·have e2:M=M':=by simpa using e1
     exact fun e3=>map_row hM' hz.row e (by rw [← e2,e3])
   obtain ⟨ad,cap,hvs⟩:=(uh HZ).shape
   have hqc:∀ (j:Nat) (u:Value),([.int .i64 x]:List Value)[j]? = some u→((setB w M ob).alloc (.cells #[.int .i64 x] 3)).cell? ((⟨w.heap.size,0,none⟩:Addr).add j)=some u:=by
    have:=qr_cells (setB w M ob) #[.int .i64 x] 3 [.int .i64 x] rfl
    rw [hsB] at this
    exact this
   have h1c:∀ u ∈ ([.int .i64 x]:List Value),u.oneCell'=true:=by intro u hu;simp at hu;subst hu;rfl
   have HLN:Hid (L.length≤10000000000):=hlen
   have hlI:(L.length:Int)≤10000000000:=by omega
   subst hvs
   clear hM2 HZ HMS hx hlen
   generalize hn:L.length=n at *
   go_wp2_with (at_builtin;refine wpList_append_lies _ rfl (.tmp 43) (.tmp 45) 57 rfl 0 3 i0 (.int .i64 0) 1 8 Tryz.underlying57 HI0 hz0 hz1 hz2 rfl (by decide) _ _ _ rfl (howna _) ⟨w.heap.size,0,none⟩ 1 1 [.int .i64 x] rfl rfl hqc h1c (by decide) (by unfold maxLen;omega) (by omega) (by simp) (w.heap.size+1) (by rw [World.size_alloc,hsB]) ?_;intro g cap' w7 hown1 hgrow1 hl1 _;obtain ⟨s0,s1,s2,s3⟩:=(uh HADD) _ _ _ _ hown1 hgrow1 hl1;have HFIN:Hid (Zt S o (L ++ [x]) (.slice (some ⟨g,0,none⟩) (n+1) cap') (.map (some M)) (w7.setCell ⟨S,o,none⟩ (.slice (some ⟨g,0,none⟩) (n+1) cap'))∧Ks S o (.slice ad n cap) (.map (some M)) (.slice (some ⟨g,0,none⟩) (n+1) cap') (.map (some M)) w (w7.setCell ⟨S,o,none⟩ (.slice (some ⟨g,0,none⟩) (n+1) cap'))):=(⟨s2,s3⟩:_∧_);clear s2 s3 hown1 hgrow1 hl1 HADD howna hqc h1c)
   refine bodyPost_ret (by simp [results,Tryz.results86,go_sem];rfl) rfl ?_
   exact ⟨_,rfl,_,_,HFIN.1,(by rw [hn];exact HFIN.2)⟩
def Kid (N:Nat→Nd) (n t i k:Nat):Prop:=t < n∧i < (N t).q∧(N t).K i=(k:Int)
theorem ck_one {K:Nat→Int} {k:Int}:∀ q i,i < q→K i=k→ck K k q≤1→∀ j,j < q→K j=k→j=i
 | q+1,i,hi,e,hc,j,hj,e'=>by
  unfold ck at hc
  by_cases g:i=q
  ·by_cases g':j=q
   ·omega
   ·have:=ck_pos q j (by omega) e'
    subst g
    rw [if_pos e] at hc
    omega
  ·by_cases g':j=q
   ·have:=ck_pos q i (by omega) e
    subst g'
    rw [if_pos e'] at hc
    omega
   ·exact ck_one q i (by omega) e (by omega) j (by omega) e'
theorem ck_cn {N:Nat→Nd} {k:Int}:∀ n t,t < n→ck (N t).K k (N t).q≤cn N k n
 | n+1,t,h=>by
  unfold cn
  by_cases g:t=n
  ·subst g;omega
  ·have:=ck_cn (N:=N) (k:=k) n t (by omega);omega
structure Tree (N:Nat→Nd) (n:Nat):Prop where
 pos : 0 < n
 one:∀ k,k+1 < n→cn N (k:Int) n=1
 kid:∀ t,t < n→∀ i,i < (N t).q→0≤(N t).K i∧(N t).K i < (t:Int)
theorem Kid.lt {N:Nat→Nd} {n t i k:Nat} (h:Kid N n t i k) (T:Tree N n):k < t:=by
 have:=T.kid t h.1 i h.2.1
 have:=h.2.2
 omega
theorem Kid.uniq {N:Nat→Nd} {n t i k t' i':Nat} (h:Kid N n t i k) (h':Kid N n t' i' k) (T:Tree N n):t'=t∧i'=i:=by
 have hl:=h.lt T
 have ho:=T.one k (by have:=h.1;omega)
 have e:=cn_uniq n t' i' t i (by omega) h'.1 h'.2.1 h'.2.2 h.1 h.2.1 h.2.2
 subst e
 have:=ck_cn (N:=N) (k:=(k:Int)) n t' h.1
 exact ⟨rfl,ck_one _ i h.2.1 h.2.2 (by omega) i' h'.2.1 h'.2.2⟩
theorem Tree.par {N:Nat→Nd} {n k:Nat} (T:Tree N n) (hk:k+1 < n):∃ t i,Kid N n t i k:=by
 obtain ⟨PA,hg⟩:=grn_ex T.pos T.one T.kid
 obtain ⟨t,h1,h2,i,h3,h4⟩:=(hg.2.1 k hk).2.1 (T.one k hk)
 exact ⟨t,i,h1,h3,h4⟩
def Rfs (N:Nat→Nd) (c:Nat) (x:Int):Prop:=∃ j,j < (N c).p∧x=(N c).R j
def LetAt (N:Nat→Nd) (t i:Nat) (x:Int):Prop:=∃ c:Nat,(N t).K i=(c:Int)∧(N c).a.k=2∧Rfs N c x
def FoL (N:Nat→Nd) (t:Nat):Prop:=(N t).a.k=7∨(N t).a.k=8∨(N t).a.k=12
def Lop (N:Nat→Nd) (t:Nat):Prop:=(N t).a.k=6∨(N t).a.k=7∨(N t).a.k=8
inductive SS (N:Nat→Nd) (n:Nat) (m x:Int):Nat→Prop
 | par {k:Nat} (h0 : 0≤x) (h1:x < m):SS N n m x k
 | up {t i k:Nat} (h:Kid N n t i k) (hs:SS N n m x t):SS N n m x k
 | last {t i k:Nat} (h:Kid N n t i k) (hf:FoL N t) (hi:i+1=(N t).q) (hr:Rfs N t x):SS N n m x k
 | lets {t i k j:Nat} (h:Kid N n t i k) (hj:j < i) (hl:LetAt N t j x):SS N n m x k
inductive LL (N:Nat→Nd) (n:Nat):Nat→Prop
 | here {t i k:Nat} (h:Kid N n t i k) (hl:Lop N t):LL N n k
 | up {t i k:Nat} (h:Kid N n t i k) (hs:LL N n t):LL N n k
theorem ss_kid {N:Nat→Nd} {n t i k:Nat} {m x:Int} (T:Tree N n) (h:Kid N n t i k):SS N n m x k↔(SS N n m x t∨∃ j,j < i∧LetAt N t j x)∨(FoL N t∧i+1=(N t).q∧Rfs N t x):=by
 constructor
 ·intro g
  cases g with
  | par h0 h1=>exact .inl (.inl (.par h0 h1))
  | up h' hs=>obtain ⟨rfl,rfl⟩:=h.uniq h' T;exact .inl (.inl hs)
  | last h' hf hi hr=>obtain ⟨rfl,rfl⟩:=h.uniq h' T;exact .inr ⟨hf,hi,hr⟩
  | lets h' hj hl=>obtain ⟨rfl,rfl⟩:=h.uniq h' T;exact .inl (.inr ⟨_,hj,hl⟩)
 ·rintro ((g | ⟨j,hj,hl⟩) | ⟨hf,hi,hr⟩)
  ·exact .up h g
  ·exact .lets h hj hl
  ·exact .last h hf hi hr
theorem no_par {N:Nat→Nd} {n t i:Nat} (T:Tree N n) (h:Kid N n t i (n - 1)):False:=by
 have:=h.lt T
 have:=h.1
 omega
theorem ss_top {N:Nat→Nd} {n:Nat} {m x:Int} (T:Tree N n):SS N n m x (n - 1)↔0≤x∧x < m:=by
 constructor
 ·intro g
  cases g with
  | par h0 h1=>exact ⟨h0,h1⟩
  | up h' hs=>exact (no_par T h').elim
  | last h' hf hi hr=>exact (no_par T h').elim
  | lets h' hj hl=>exact (no_par T h').elim
 ·rintro ⟨a,b⟩;exact .par a b
theorem ll_kid {N:Nat→Nd} {n t i k:Nat} (T:Tree N n) (h:Kid N n t i k):LL N n k↔(LL N n t∨Lop N t):=by
 constructor
 ·intro g
  cases g with
  | here h' hl=>obtain ⟨rfl,rfl⟩:=h.uniq h' T;exact .inr hl
  | up h' hs=>obtain ⟨rfl,rfl⟩:=h.uniq h' T;exact .inl hs
 ·rintro (g | g)
  ·exact .up h g
  ·exact .here h g
theorem ll_top {N:Nat→Nd} {n:Nat} (T:Tree N n):¬ LL N n (n - 1):=by
 intro g
 cases g with
 | here h' hl=>exact no_par T h'
 | up h' hs=>exact no_par T h'
end Go.Proofs.YtfpidccjcemcjaaGreat.Fo
