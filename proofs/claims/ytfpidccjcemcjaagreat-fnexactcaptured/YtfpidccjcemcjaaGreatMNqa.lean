import Derived.Test.YtfpidccjcemcjaaGreatMZsq
import Derived.Test.YtfpidccjcemcjaaGreatMNpf
import Derived.Test.YtfpidccjcemcjaaGreatMNhb
import Derived.Deep.Cut
import Derived.Deep.RegionHeldLaw
set_option maxHeartbeats 16000000
namespace Go.Proofs.YtfpidccjcemcjaaGreat.Fo
open Go.ChangeShapes Go.WideShapes Go.ChangeAt Go.RowKit
set_option linter.unusedVariables false
set_option maxRecDepth 100000
def Dcn (N:Nat→Nd) (t:Nat):Prop:=(N t).a.k ≠ 26∧(N t).a.k ≠ 27∧(N t).a.k ≠ 36
def DS (d:Fd) (t j:Nat) (x:Int):Prop:=(0≤x∧x < d.m)∨(∃ s,s < t∧Dcn d.N s∧Rfs d.N s x)∨(Dcn d.N t∧∃ i,i < j∧x=(d.N t).R i)
def R6 (d:Fd) (nf t:Nat):Prop :=
 ((d.N t).a.k=27→∀ j,j < (d.N t).p→0≤(d.N t).R j∧(d.N t).R j < (d.u:Int)) ∧
 ((d.N t).a.k=36→∀ j,j < (d.N t).p→0≤(d.N t).R j∧(d.N t).R j < (nf:Int)) ∧
 ((d.N t).a.k=26→∀ j,j < (d.N t).p→0≤(d.N t).R j∧(d.N t).R j < (d.p:Int)∧SS d.N d.n d.m ((d.N t).R j) t) ∧
 (Dcn d.N t→∀ j,j < (d.N t).p→0≤(d.N t).R j∧(d.N t).R j < (d.p:Int)∧¬ DS d t j ((d.N t).R j))
def R7 (d:Fd) (t:Nat):Prop:=(d.N t).a.k=9∨(d.N t).a.k=10→LL d.N d.n t
def MB (F:Nat→Fd) (f t:Nat) (g:Int):Prop:=(∃ f' t',f' < f∧t' < (F f').n∧((F f').N t').a.k=36∧((F f').N t').R 0=g)∨∃ t',t' < t∧((F f).N t').a.k=36∧((F f).N t').R 0=g
def Cls (d e:Fd) (t:Nat):Prop:=∀ j,j < e.u→((e.U j).1=true→0≤(e.U j).2∧(e.U j).2 < (d.p:Int)∧SS d.N d.n d.m (e.U j).2 t)∧((e.U j).1=false→0≤(e.U j).2∧(e.U j).2 < (d.u:Int))
def R8 (F:Nat→Fd) (f t:Nat):Prop :=
 (((F f).N t).a.k=37→(F f).r=true) ∧
 (((F f).N t).a.k=36→(f:Int) < ((F f).N t).R 0∧¬ MB F f t (((F f).N t).R 0)∧Cls (F f) (F (((F f).N t).R 0).toNat) t)
def R9 (F:Nat→Fd) (nf f:Nat):Prop:=f=0∨MB F nf 0 (f:Int)
def PQ (F:Nat→Fd) (nf:Nat) (c f t:Nat):Prop :=
 match c with
 | 2=>P2 F f t
 | 3=>P3 F f t
 | 4=>Q4 F f t
 | 5=>Q5 F f t
 | 6=>R6 (F f) nf t
 | 7=>R7 (F f) t
 | 8=>R8 F f t
 | _=>R9 F nf f
def LQ (F:Nat→Fd) (c f:Nat):Nat :=
 match c with
 | 2=>1
 | 9=>1
 | _=>(F f).n
def Ans (nf:Nat) (F:Nat→Fd) (c f n:Nat):Prop :=
 (c=1∧f=0∧n=0∧¬ Szu nf F)∨(Szu nf F∧2≤c∧c≤9∧Lx (PQ F nf c) (LQ F c) nf f n∧∀ c',2≤c'→c' < c→La (PQ F nf c') (LQ F c') nf)∨(Szu nf F∧c=0∧f=0∧n=0∧∀ c',2≤c'→c'≤9→La (PQ F nf c') (LQ F c') nf)
theorem lx_la {P:Nat→Nat→Prop} {L:Nat→Nat} {nf f n:Nat} (h:Lx P L nf f n) (k:La P L nf):False:=h.2.2.1 (k f h.1 n h.2.1)
theorem Ans.uniq {nf:Nat} {F:Nat→Fd} {c f n c' f' n':Nat} (h:Ans nf F c f n) (k:Ans nf F c' f' n'):c=c'∧f=f'∧n=n':=by
  rcases h with ⟨h1,h2,h3,h4⟩ | ⟨h1,h2,h3,h4,h5⟩ | ⟨h1,h2,h3,h4,h5⟩ <;> rcases k with ⟨k1,k2,k3,k4⟩ | ⟨k1,k2,k3,k4,k5⟩ | ⟨k1,k2,k3,k4,k5⟩
  · exact ⟨by omega,by omega,by omega⟩
  · exact absurd k1 h4
  · exact absurd k1 h4
  · exact absurd h1 k4
  · have e : c = c' := by
      rcases Nat.lt_trichotomy c c' with q | q | q
      · exact (lx_la h4 (k5 c h2 q)).elim
      · exact q
      · exact (lx_la k4 (h5 c' k2 q)).elim
    subst e
    exact ⟨rfl,h4.uniq k4⟩
  · exact (lx_la h4 (k5 c h2 h3)).elim
  · exact absurd h1 k4
  · exact (lx_la k4 (h5 c' k2 k3)).elim
  · exact ⟨by omega,by omega,by omega⟩
structure Fok (d:Fd):Prop where
 tree:Tree d.N d.n
 hn:d.n≤3000
 hq:∀ t,t < d.n→(d.N t).q≤200
 hp:∀ t,t < d.n→(d.N t).p≤1048576
 m0 : 0≤d.m
 m1:d.m≤(d.p:Int)
 p2:d.p≤200
 u2:d.u≤200
 one:∀ t,t < d.n→((d.N t).a.k=26∨(d.N t).a.k=27∨(d.N t).a.k=36)→(d.N t).p=1
 lett:∀ t i k,Kid d.N d.n t i k→(d.N k).a.k=2→(d.N t).a.k=1
 stm:∀ t i k,Kid d.N d.n t i k→(d.N k).a.k≤14→(d.N t).a.k≤14∧(Lop d.N t→i+1=(d.N t).q)
 pos:∀ t,t < d.n→(Lop d.N t∨FoL d.N t)→0 < (d.N t).q
theorem rwk_one {k:Int} {q:Nat} (h:k=26∨k=27∨k=36):(rwk k q).r1=1∧(rwk k q).r2=1:=by
 rcases h with rfl | rfl | rfl <;> exact ⟨rfl,rfl⟩
theorem rwk_pos {k:Int} {q:Nat} (h:k=6∨k=7∨k=8∨k=12) : 2≤(rwk k q).k1:=by
 rcases h with rfl | rfl | rfl | rfl <;> first | exact (show (2:Int)≤2 by decide) | exact (show (2:Int)≤4 by decide)
theorem kz_kid {N:Nat→Nd} {n t i k:Nat} (h:Kid N n t i k):kz N ((N t).K i)=(N k).a.k:=by
 rw [h.2.2];rfl
theorem fok_of {nf:Nat} {F:Nat→Fd} (hb:Bd nf F) (hz:Szu nf F) (h2:La (P2 F) L1 nf) (h3:La (P3 F) (Ln F) nf) (h4:La (Q4 F) (Ln F) nf) {f:Nat} (hf:f < nf):Fok (F f):=by
 have hd:Hd f (F f):=h2 f hf 0 (show 0 < 1 by omega)
 obtain ⟨q1,q2⟩:=kids_ok hb h3 f hf
 have hn:(F f).n≤3000:=by have:=sm_one (fun i=>(F i).n) hf;have:=hz.2.2;omega
 have hsh:∀ t,t < (F f).n→shP (F f).N t:=fun t ht=>h3 f hf t ht
 refine ⟨⟨hd.1,fun k hk=>(h4 f hf k (show k < (F f).n by omega)).1 hk,q2⟩,hn,q1,fun t ht=>(hb.hN f hf t ht).1,hd.2.2.2.1,hd.2.2.2.2.1,hd.2.1,hd.2.2.1,fun t ht hk=>?_,fun t i k hk h2=>?_,fun t i k hk hs=>?_,fun t ht hk=>?_⟩
 ·obtain ⟨r1,r2⟩:=rwk_one (q:=((F f).N t).q) hk
  have:=(hsh t ht).2.1.2.2.2.1
  rw [r1,r2] at this
  omega
 ·have ht:=((hsh t hk.1).2.2.1 i hk.2.1).2.2
  rw [kz_kid hk,h2] at ht
  have hk':=(hsh t hk.1).1
  unfold Tkp at ht
  unfold St Ex at hk'
  omega
 ·have ht:=((hsh t hk.1).2.2.1 i hk.2.1).2.2
  rw [kz_kid hk] at ht
  have hk':=(hsh t hk.1).1
  unfold Tkp at ht
  unfold St Ex at hk'
  unfold Lop
  generalize ((F f).N k).a.k=c at *
  generalize ((F f).N t).a.k=e at *
  constructor
  ·omega
  ·rintro (rfl | rfl | rfl) <;> (refine Classical.byContradiction fun g=>?_) <;> omega
 ·have h:=rwk_pos (k:=((F f).N t).a.k) (q:=((F f).N t).q) (by unfold Lop FoL at hk;omega)
  have:=(hsh t ht).2.1.2.2.2.2.1.1
  omega
theorem inl_ll {d:Fd} (h:Fok d) {PA DA:Nat→Int} (hg:Grn d.N d.n PA DA):∀ e t,t < d.n→d.n - t≤e→(d.N t).a.k≤14→(Inl d.N PA t↔LL d.N d.n t):=by
 intro e
 induction e with
 | zero=>intro t ht he;omega
 | succ e ih =>
  intro t ht he hs
  by_cases hl:t+1=d.n
  ·have e1:t=d.n - 1:=by omega
   rw [e1]
   exact ⟨fun g=>absurd g (Inl.neg (by rw [hg.1];omega)),fun g=>absurd g (ll_top h.tree)⟩
  ·obtain ⟨m,h1,h2,i,h3,h4⟩:=(hg.2.1 t (by omega)).2.1 (h.tree.one t (by omega))
   have hk:Kid d.N d.n m i t:=⟨h1,h3,h4⟩
   have hlt:=hk.lt h.tree
   obtain ⟨s1,s2⟩:=h.stm m i t hk hs
   rw [Inl.iff h2,ll_kid h.tree hk,ih m h1 (by omega) s1]
   constructor
   ·rintro (⟨g,_⟩ | g)
    ·exact .inr g
    ·exact .inl g
   ·rintro (g | g)
    ·exact .inr g
    ·refine .inl ⟨g,?_⟩
     rw [show (d.N m).q - 1=i by have:=s2 g;omega]
     exact h4
theorem ss_rng {d:Fd} {nf:Nat} (h:Fok d) (h6:∀ t,t < d.n→R6 d nf t) {x:Int}:∀ e t,t < d.n→d.n - t≤e→SS d.N d.n d.m x t→0≤x∧x < (d.p:Int):=by
 intro e
 have key:∀ c,c < d.n→Dcn d.N c→Rfs d.N c x→0≤x∧x < (d.p:Int):=fun c hc hd ⟨j,hj,ej⟩=>by
  have:=(h6 c hc).2.2.2 hd j hj
  rw [← ej] at this
  exact ⟨this.1,this.2.1⟩
 induction e with
 | zero=>intro t ht he;omega
 | succ e ih =>
  intro t ht he g
  cases g with
  | par h0 h1=>exact ⟨h0,by have:=h.m1;omega⟩
  | up hk hs=>exact ih _ hk.1 (by have:=hk.lt h.tree;omega) hs
  | last hk hf hi hr=>exact key _ hk.1 (by unfold FoL at hf;unfold Dcn;omega) hr
  | lets hk hj hl =>
   obtain ⟨c,e1,e2,e3⟩:=hl
   have hkc:Kid d.N d.n _ _ c:=⟨hk.1,Nat.lt_trans hj hk.2.1,e1⟩
   have:=hkc.lt h.tree
   exact key c (by have:=hk.1;omega) (by unfold Dcn;omega) e3
theorem sp_visible {AN GP : Addr} {cnn cp : Nat} {d : Fd} {vv vu vd : Value} {PA : Nat → Int} (x : Int) (w : World) (hvv : ∃ a b c, vv = .slice a b c) (hvu : ∃ a b c, vu = .slice a b c) (hvd : ∃ a b c, vd = .slice a b c) (hra : ∀ i, i < d.n → NodeC 0 w (AN.add (i * 8)) (d.N i)) (hrp : ∀ k, k < d.n → w.cell? (GP.add k) = some (.int .i64 (PA k)))
    (ok:Fok d) (hg:∃ DA,Grn d.N d.n PA DA) (hx : 0≤x) (t:Nat) (ht:t < d.n) :
    Calls Tryz.prog 56 #[fnv d vv vu (.slice (some AN) d.n cnn),.agg #[.slice (some GP) d.n cp,vd],.int .i64 (t:Int),.int .i64 x] w fun e w'=>e = .returned (.bool (dc (SS d.N d.n d.m x t)))∧Kb 0 w w':=by
  obtain ⟨v1,v2,v3,rfl⟩:=hvv
  obtain ⟨u1,u2,u3,rfl⟩:=hvu
  obtain ⟨e1,e2,e3,rfl⟩:=hvd
  unfold fnv
  have hnI:(d.n:Int)≤3000:=by have:=ok.hn;omega
  obtain ⟨R,hR⟩:∃ R,R=dc (SS d.N d.n d.m x t):=⟨_,rfl⟩
  rw [← hR]
  have HR:Hid (R=dc (SS d.N d.n d.m x t)):=hR
  by_cases hm:x < d.m
  · have hT:R=true:=hR.trans (dc_t (.par hx hm))
    subst hT
    clear hR HR hra hrp ok hg hx ht
    go_enter Tryz.func56,Tryz.ntmps56
    go_wp2_with fail
    go_ret
    exact ⟨rfl,kb_alloc2 _ _ _ _⟩
  obtain ⟨w2,hw2⟩:∃ w2,w2=((w.alloc (.cells #[.string d.x,.int .i64 d.l,.int .i64 d.m,.bool d.r,.slice v1 v2 v3,.slice u1 u2 u3,.slice (some AN) d.n cnn] 48)).alloc (.cells #[.slice (some GP) d.n cp,.slice e1 e2 e3] 75)):=⟨_,rfl⟩
  have k2:Kb 0 w w2:=by rw [hw2];exact kb_alloc2 _ _ _ _
  have b0:w2.cell? ⟨w.heap.size,6,none⟩=some (.slice (some AN) d.n cnn):=by
    rw [hw2];exact (kb_alloc 0 _ _).cell (cell_of (alloc_new _ _ _) rfl)
  have b1:w2.cell? ⟨w.heap.size+1,0,none⟩=some (.slice (some GP) d.n cp):=by
    have e:(w.alloc (.cells #[.string d.x,.int .i64 d.l,.int .i64 d.m,.bool d.r,.slice v1 v2 v3,.slice u1 u2 u3,.slice (some AN) d.n cnn] 48)).heap.size=w.heap.size+1:=World.size_alloc _ _
    rw [hw2,← e]
    exact cell_of (alloc_new _ _ _) rfl
  have HC:Hid (∀ W,Kb 0 w2 W→W.cell? ⟨w.heap.size,6,none⟩=some (.slice (some AN) d.n cnn)∧W.cell? ⟨w.heap.size+1,0,none⟩=some (.slice (some GP) d.n cp)∧(∀ k,k < d.n→W.cell? (GP.add k)=some (.int .i64 (PA k)))∧(∀ i,i < d.n→NodeC 0 W (AN.add (i*8)) (d.N i))∧Kb 0 w W):=(fun W k=>⟨k.cell b0,k.cell b1,fun j hj=>(k2.trans k).cell (hrp j hj),fun i hi=>(hra i hi).keep zq (k2.trans k),k2.trans k⟩:∀ W,_)
  have HB:Hid (Fok d∧(∃ DA,Grn d.N d.n PA DA)∧0≤x∧d.m≤x):=(⟨ok,hg,hx,by omega⟩:_∧_)
  have HW:Hid (w2=((w.alloc (.cells #[.string d.x,.int .i64 d.l,.int .i64 d.m,.bool d.r,.slice v1 v2 v3,.slice u1 u2 u3,.slice (some AN) d.n cnn] 48)).alloc (.cells #[.slice (some GP) d.n cp,.slice e1 e2 e3] 75))):=hw2
  have cp0:=(k2.cell (hrp t ht))
  rw [hw2] at cp0
  have htI:(t:Int) < (d.n:Int):=by omega
  have HT:Hid (t < d.n):=ht
  clear hra hrp hw2 b0 b1 k2 hR ht ok hg hx
  go_enter Tryz.func56,Tryz.ntmps56
  go_wp2_with fail
  rw [← (uh HW)]
  clear HW cp0
  go_loopw [9,10] (fun s9 s10 wr=>∃ b:Nat,s9 = .int .i64 (b:Int)∧s10 = .int .i64 (PA b)∧b < d.n∧Hid (Kb 0 w2 wr∧(SS d.N d.n d.m x t↔SS d.N d.n d.m x b))) (fun s9 _ _=>d.n - (intOf s9).toNat)
  case atStart=>exact ⟨t,rfl,rfl,HT,(⟨Kb.refl _ _,Iff.rfl⟩:_∧_)⟩
  case round =>
    clear HT
    obtain ⟨wo,rfl⟩:∃ wo,wo=wr:=⟨_,rfl⟩
    obtain ⟨b,rfl,rfl,hb,HX⟩:=hrel
    obtain ⟨kw,hiff⟩:=(uh HX)
    obtain ⟨c6,c0,hrp,hra,kww⟩:=(uh HC) wo kw
    obtain ⟨ok,⟨DA,hg⟩,hx,hm'⟩:=(uh HB)
    by_cases hlast:b+1=d.n
    · have eb:b=d.n - 1:=by omega
      have hv:PA b = -1:=by rw [eb];exact hg.1
      have hF:R=false:=by
        rw [show R = _ from HR]
        refine dc_f (fun g=>?_)
        have:=hiff.1 g
        rw [eb,ss_top ok.tree] at this
        omega
      subst hF
      have HKW:Hid (Kb 0 w wo):=kww
      rw [hv]
      clear HX hiff hrp hra kww kw HR HC HB hv eb hlast hg ok hx hm' hm c6 c0
      go_wp2_with fail
      go_ret
      exact ⟨rfl,HKW⟩
    obtain ⟨m,hmn,hpm,i,hi,hki⟩:=(hg.2.1 b (by omega)).2.1 (ok.tree.one b (by omega))
    have hkid:Kid d.N d.n m i b:=⟨hmn,hi,hki⟩
    have hbm:=hkid.lt ok.tree
    have hmI:(m:Int) < (d.n:Int):=by omega
    have cm:=hrp m hmn
    have hss:=ss_kid (m:=d.m) (x:=x) ok.tree hkid
    obtain ⟨vr,vk,hcel,hvr,hvk⟩:=hra m hmn
    obtain ⟨pr,cr,rfl,-⟩:=id hvr
    obtain ⟨pk,ck,rfl,-⟩:=id hvk
    have hqm:=ok.hq m hmn
    have hqI:((d.N m).q:Int)≤200:=by omega
    have hst:=hst0
    have HPL:Hid (∀ W,Kb 0 wo W→Calls Tryz.prog 76 #[.slice pk (d.N m).q ck,.int .i64 (b:Int)] W fun e w'=>e = .returned (.int .i64 (i:Int))∧w'=W):=(fun W k=>(sp_place (b:Int) W (hvk.keep k).row (by omega)).mono (fun e w' ⟨r,he,hr,hw⟩=>by
      refine ⟨?_,hw⟩
      rcases hr with ⟨_,hn⟩ | ⟨j,rfl,j1,j2,j3⟩
      · exact absurd hki (hn i hi)
      · have:=(hkid.uniq (t':=m) (i':=j) ⟨hmn,j1,Classical.not_not.1 j2⟩ ok.tree).2
        rw [he,this]):∀ W,_)
    have HDE:Hid (∀ W,Kb 0 wo W→Calls Tryz.prog 77 #[.agg #[.int .i64 (d.N m).a.k,.int .i64 (d.N m).a.l,.int .i64 (d.N m).a.o,.int .i64 (d.N m).a.m,.float .f64 (d.N m).a.g,.string (d.N m).a.x,.slice pr (d.N m).p cr,.slice pk (d.N m).q ck],.int .i64 x] W fun e w'=>e = .returned (.bool (dc (Dcl (d.N m).a (d.N m).p (d.N m).R x)))∧Kb 0 W w'):=(fun W k=>sp_declares (d.N m).a pr (d.N m).p cr _ ⟨_,_,_,rfl⟩ x W (hvr.keep k) (ok.hp m hmn):∀ W,_)
    obtain ⟨W3,hW3⟩:∃ W3,W3=wo.alloc (.cells #[.int .i64 (d.N m).a.k,.int .i64 (d.N m).a.l,.int .i64 (d.N m).a.o,.int .i64 (d.N m).a.m,.float .f64 (d.N m).a.g,.string (d.N m).a.x,.slice pr (d.N m).p cr,.slice pk (d.N m).q ck] 59):=⟨_,rfl⟩
    have k3:Kb 0 wo W3:=by rw [hW3];exact kb_alloc _ _ _
    have q3:W3.heap[wo.heap.size]? = some (.cells #[.int .i64 (d.N m).a.k,.int .i64 (d.N m).a.l,.int .i64 (d.N m).a.o,.int .i64 (d.N m).a.m,.float .f64 (d.N m).a.g,.string (d.N m).a.x,.slice pr (d.N m).p cr,.slice pk (d.N m).q ck] 59 (0,0)):=by rw [hW3];exact alloc_new _ _ _
    have HM:Hid (m < d.n∧b < m):=(⟨hmn,hbm⟩:_∧_)
    have HRR:Hid (Kb 0 w2 W3∧W3.heap[wo.heap.size]? = some (.cells #[.int .i64 (d.N m).a.k,.int .i64 (d.N m).a.l,.int .i64 (d.N m).a.o,.int .i64 (d.N m).a.m,.float .f64 (d.N m).a.g,.string (d.N m).a.x,.slice pr (d.N m).p cr,.slice pk (d.N m).q ck] 59 (0,0))):=(⟨kw.trans k3,q3⟩:_∧_)
    have HW3:Hid (W3=wo.alloc (.cells #[.int .i64 (d.N m).a.k,.int .i64 (d.N m).a.l,.int .i64 (d.N m).a.o,.int .i64 (d.N m).a.m,.float .f64 (d.N m).a.g,.string (d.N m).a.x,.slice pr (d.N m).p cr,.slice pk (d.N m).q ck] 59)):=hW3
    have n7:W3.cell? ⟨wo.heap.size,7,none⟩=some (.slice pk (d.N m).q ck):=cell_of q3 rfl
    have n0:W3.cell? ⟨wo.heap.size,0,none⟩=some (.int .i64 (d.N m).a.k):=cell_of q3 rfl
    have n1:W3.cell? ⟨wo.heap.size,1,none⟩=some (.int .i64 (d.N m).a.l):=cell_of q3 rfl
    have n2:W3.cell? ⟨wo.heap.size,2,none⟩=some (.int .i64 (d.N m).a.o):=cell_of q3 rfl
    have n3:W3.cell? ⟨wo.heap.size,3,none⟩=some (.int .i64 (d.N m).a.m):=cell_of q3 rfl
    have n4:W3.cell? ⟨wo.heap.size,4,none⟩=some (.float .f64 (d.N m).a.g):=cell_of q3 rfl
    have n5:W3.cell? ⟨wo.heap.size,5,none⟩=some (.string (d.N m).a.x):=cell_of q3 rfl
    have n6:W3.cell? ⟨wo.heap.size,6,none⟩=some (.slice pr (d.N m).p cr):=cell_of q3 rfl
    have c0':W3.cell? ⟨w.heap.size+1,0,none⟩=some (.slice (some GP) d.n cp):=k3.cell c0
    have cm':W3.cell? (GP.add m)=some (.int .i64 (PA m)):=k3.cell cm
    have c6':W3.cell? ⟨w.heap.size,6,none⟩=some (.slice (some AN) d.n cnn):=k3.cell c6
    have HPL3:Hid (Calls Tryz.prog 76 #[.slice pk (d.N m).q ck,.int .i64 (b:Int)] W3 fun e w'=>e = .returned (.int .i64 (i:Int))∧w'=W3):=(uh HPL) W3 k3
    have HKK:Hid (Kb 0 wo W3):=k3
    obtain ⟨d0,d1,d2,d3,d4,d5,d6,d7⟩:=hcel
    rw [hpm]
    have hge:(0:Int)≤(m:Int):=by omega
    have hiI:(i:Int) < ((d.N m).q:Int):=by omega
    have HALL:Hid ((SS d.N d.n d.m x t↔(SS d.N d.n d.m x m∨∃ j,j < i∧LetAt d.N m j x)∨(FoL d.N m∧i+1=(d.N m).q∧Rfs d.N m x))∧Kid d.N d.n m i b∧Fok d∧RowB 0 wo (.slice pk (d.N m).q ck) (d.N m).q (fun j=>.int .i64 ((d.N m).K j))∧Kb 0 w wo):=(⟨hiff.trans hss,hkid,ok,hvk,kww⟩:_∧_)
    clear HX hiff hrp hra kww kw HB hss hkid hmn hbm hpm hi hki hvr hvk hg ok hx hm' hqm c0 cm k3 q3 hW3 hlast hb HPL
    go_wp2_with fail
    rw [← (uh HW3)]
    clear HW3 d0 d1 d2 d3 d4 d5 d6 d7 c6
    refine (uh HPL3).mono ?_
    rintro e w4 ⟨rfl,hw4⟩
    rw [hw4]
    clear hw4
    clear HPL3
    obtain ⟨qq,hqq⟩:∃ qq:Nat,((d.N m).q:Int) - 1=(qq:Int):=⟨(d.N m).q - 1,by omega⟩
    by_cases h7:(d.N m).a.k=7
    · skip
      have g7:=beq1 h7
      have g1:((d.N m).a.k == 1)=false:=by simp;omega
      have g8:((d.N m).a.k == 8)=false:=by simp;omega
      have g12:((d.N m).a.k == 12)=false:=by simp;omega
      have hfol:FoL d.N m:=by unfold FoL;omega
      obtain ⟨hall,hkid,ok,hvk,kww⟩:=(uh HALL)
      have hnl:¬ ∃ j,j < i∧LetAt d.N m j x:=fun ⟨j,hj,c,e1,e2,_⟩=>by
        have:=ok.lett m j c ⟨hkid.1,Nat.lt_trans hj hkid.2.1,e1⟩ e2
        omega
      by_cases hl:i+1=(d.N m).q
      · have hle:((i:Int) == (qq:Int))=true:=by simp;omega
        by_cases hd:Rfs d.N m x
        · have hT:R=true:=(uh HR).trans (dc_t (hall.2 (.inr ⟨hfol,hl,hd⟩)))
          subst hT
          have HD2:Hid (Calls Tryz.prog 77 #[.agg #[.int .i64 (d.N m).a.k,.int .i64 (d.N m).a.l,.int .i64 (d.N m).a.o,.int .i64 (d.N m).a.m,.float .f64 (d.N m).a.g,.string (d.N m).a.x,.slice pr (d.N m).p cr,.slice pk (d.N m).q ck],.int .i64 x] W3 fun e w'=>e = .returned (.bool true)∧Kb 0 W3 w'):=by
            have:=(uh HDE) W3 HKK
            rw [dc_t (show Dcl (d.N m).a (d.N m).p (d.N m).R x from ⟨by unfold FoL at hfol;omega,hd.imp (fun j hj=>⟨hj.1,hj.2.symm⟩)⟩)] at this
            exact this
          have HKW:Hid (Kb 0 w W3):=kww.trans HKK
          clear HR HDE HALL hall hkid ok hvk kww hnl hl hd hfol h7 HC HM HRR HKK
          generalize (d.N m).a.k=kk at *
          go_wp2_with fail
          refine (uh HD2).mono ?_
          rintro e w5 ⟨rfl,k5⟩
          have HK5:Hid (Kb 0 w w5):=(uh HKW).trans k5
          clear k5 HD2
          go_wp2_with fail
          go_ret
          exact ⟨rfl,HK5⟩
        · have HN:Hid (∀ w5,Kb 0 W3 w5→Kb 0 w2 w5∧(SS d.N d.n d.m x t↔SS d.N d.n d.m x m)):=(fun w5 k5=>⟨HRR.1.trans k5,hall.trans ⟨fun g=>g.elim (fun g=>g.elim id (fun g=>absurd g hnl)) (fun g=>absurd g.2.2 hd),fun g=>.inl (.inl g)⟩⟩:∀ w5,_)
          have HD2:Hid (Calls Tryz.prog 77 #[.agg #[.int .i64 (d.N m).a.k,.int .i64 (d.N m).a.l,.int .i64 (d.N m).a.o,.int .i64 (d.N m).a.m,.float .f64 (d.N m).a.g,.string (d.N m).a.x,.slice pr (d.N m).p cr,.slice pk (d.N m).q ck],.int .i64 x] W3 fun e w'=>e = .returned (.bool false)∧Kb 0 W3 w'):=by
            have:=(uh HDE) W3 HKK
            rw [dc_f (show ¬ Dcl (d.N m).a (d.N m).p (d.N m).R x from fun g=>hd (g.2.imp (fun j hj=>⟨hj.1,hj.2.symm⟩)))] at this
            exact this
          clear HR HDE HALL hall hkid ok hvk kww hnl hl hd hfol h7 HC HRR HKK
          generalize (d.N m).a.k=kk at *
          go_wp2_with fail
          refine (uh HD2).mono ?_
          rintro e w5 ⟨rfl,k5⟩
          have HK5:Hid (Kb 0 w2 w5∧(SS d.N d.n d.m x t↔SS d.N d.n d.m x m)):=(uh HN) w5 k5
          have c05:w5.cell? ⟨w.heap.size+1,0,none⟩=some (.slice (some GP) d.n cp):=k5.cell c0'
          have cm5:w5.cell? (GP.add m)=some (.int .i64 (PA m)):=k5.cell cm'
          clear k5 HD2 HN
          go_wp2_with fail
          go_roundw
          case rel=>exact ⟨m,rfl,rfl,HM.1,HK5⟩
          case measure=>have:=HM.2;have:=HM.1;simp [intOf];omega
      · have hle:((i:Int) == (qq:Int))=false:=by simp;omega
        have HN:Hid (Kb 0 w2 W3∧(SS d.N d.n d.m x t↔SS d.N d.n d.m x m)):=(⟨HRR.1,hall.trans ⟨fun g=>g.elim (fun g=>g.elim id (fun g=>absurd g hnl)) (fun g=>absurd g.2.1 hl),fun g=>.inl (.inl g)⟩⟩:_∧_)
        clear HR HDE HALL hall hkid ok hvk kww hnl hl hfol h7 HC HRR HKK
        generalize (d.N m).a.k=kk at *
        go_wp2_with fail
        go_roundw
        case rel=>exact ⟨m,rfl,rfl,HM.1,HN⟩
        case measure=>have:=HM.2;have:=HM.1;simp [intOf];omega
    by_cases h8:(d.N m).a.k=8
    · skip
      have g8:=beq1 h8
      have g1:((d.N m).a.k == 1)=false:=by simp;omega
      have g7:((d.N m).a.k == 7)=false:=by simp;omega
      have g12:((d.N m).a.k == 12)=false:=by simp;omega
      have hfol:FoL d.N m:=by unfold FoL;omega
      obtain ⟨hall,hkid,ok,hvk,kww⟩:=(uh HALL)
      have hnl:¬ ∃ j,j < i∧LetAt d.N m j x:=fun ⟨j,hj,c,e1,e2,_⟩=>by
        have:=ok.lett m j c ⟨hkid.1,Nat.lt_trans hj hkid.2.1,e1⟩ e2
        omega
      by_cases hl:i+1=(d.N m).q
      · have hle:((i:Int) == (qq:Int))=true:=by simp;omega
        by_cases hd:Rfs d.N m x
        · have hT:R=true:=(uh HR).trans (dc_t (hall.2 (.inr ⟨hfol,hl,hd⟩)))
          subst hT
          have HD2:Hid (Calls Tryz.prog 77 #[.agg #[.int .i64 (d.N m).a.k,.int .i64 (d.N m).a.l,.int .i64 (d.N m).a.o,.int .i64 (d.N m).a.m,.float .f64 (d.N m).a.g,.string (d.N m).a.x,.slice pr (d.N m).p cr,.slice pk (d.N m).q ck],.int .i64 x] W3 fun e w'=>e = .returned (.bool true)∧Kb 0 W3 w'):=by
            have:=(uh HDE) W3 HKK
            rw [dc_t (show Dcl (d.N m).a (d.N m).p (d.N m).R x from ⟨by unfold FoL at hfol;omega,hd.imp (fun j hj=>⟨hj.1,hj.2.symm⟩)⟩)] at this
            exact this
          have HKW:Hid (Kb 0 w W3):=kww.trans HKK
          clear HR HDE HALL hall hkid ok hvk kww hnl hl hd hfol h8 HC HM HRR HKK
          generalize (d.N m).a.k=kk at *
          go_wp2_with fail
          refine (uh HD2).mono ?_
          rintro e w5 ⟨rfl,k5⟩
          have HK5:Hid (Kb 0 w w5):=(uh HKW).trans k5
          clear k5 HD2
          go_wp2_with fail
          go_ret
          exact ⟨rfl,HK5⟩
        · have HN:Hid (∀ w5,Kb 0 W3 w5→Kb 0 w2 w5∧(SS d.N d.n d.m x t↔SS d.N d.n d.m x m)):=(fun w5 k5=>⟨HRR.1.trans k5,hall.trans ⟨fun g=>g.elim (fun g=>g.elim id (fun g=>absurd g hnl)) (fun g=>absurd g.2.2 hd),fun g=>.inl (.inl g)⟩⟩:∀ w5,_)
          have HD2:Hid (Calls Tryz.prog 77 #[.agg #[.int .i64 (d.N m).a.k,.int .i64 (d.N m).a.l,.int .i64 (d.N m).a.o,.int .i64 (d.N m).a.m,.float .f64 (d.N m).a.g,.string (d.N m).a.x,.slice pr (d.N m).p cr,.slice pk (d.N m).q ck],.int .i64 x] W3 fun e w'=>e = .returned (.bool false)∧Kb 0 W3 w'):=by
            have:=(uh HDE) W3 HKK
            rw [dc_f (show ¬ Dcl (d.N m).a (d.N m).p (d.N m).R x from fun g=>hd (g.2.imp (fun j hj=>⟨hj.1,hj.2.symm⟩)))] at this
            exact this
          clear HR HDE HALL hall hkid ok hvk kww hnl hl hd hfol h8 HC HRR HKK
          generalize (d.N m).a.k=kk at *
          go_wp2_with fail
          refine (uh HD2).mono ?_
          rintro e w5 ⟨rfl,k5⟩
          have HK5:Hid (Kb 0 w2 w5∧(SS d.N d.n d.m x t↔SS d.N d.n d.m x m)):=(uh HN) w5 k5
          have c05:w5.cell? ⟨w.heap.size+1,0,none⟩=some (.slice (some GP) d.n cp):=k5.cell c0'
          have cm5:w5.cell? (GP.add m)=some (.int .i64 (PA m)):=k5.cell cm'
          clear k5 HD2 HN
          go_wp2_with fail
          go_roundw
          case rel=>exact ⟨m,rfl,rfl,HM.1,HK5⟩
          case measure=>have:=HM.2;have:=HM.1;simp [intOf];omega
      · have hle:((i:Int) == (qq:Int))=false:=by simp;omega
        have HN:Hid (Kb 0 w2 W3∧(SS d.N d.n d.m x t↔SS d.N d.n d.m x m)):=(⟨HRR.1,hall.trans ⟨fun g=>g.elim (fun g=>g.elim id (fun g=>absurd g hnl)) (fun g=>absurd g.2.1 hl),fun g=>.inl (.inl g)⟩⟩:_∧_)
        clear HR HDE HALL hall hkid ok hvk kww hnl hl hfol h8 HC HRR HKK
        generalize (d.N m).a.k=kk at *
        go_wp2_with fail
        go_roundw
        case rel=>exact ⟨m,rfl,rfl,HM.1,HN⟩
        case measure=>have:=HM.2;have:=HM.1;simp [intOf];omega
    by_cases h12:(d.N m).a.k=12
    · skip
      have g12:=beq1 h12
      have g1:((d.N m).a.k == 1)=false:=by simp;omega
      have g7:((d.N m).a.k == 7)=false:=by simp;omega
      have g8:((d.N m).a.k == 8)=false:=by simp;omega
      have hfol:FoL d.N m:=by unfold FoL;omega
      obtain ⟨hall,hkid,ok,hvk,kww⟩:=(uh HALL)
      have hnl:¬ ∃ j,j < i∧LetAt d.N m j x:=fun ⟨j,hj,c,e1,e2,_⟩=>by
        have:=ok.lett m j c ⟨hkid.1,Nat.lt_trans hj hkid.2.1,e1⟩ e2
        omega
      by_cases hl:i+1=(d.N m).q
      · have hle:((i:Int) == (qq:Int))=true:=by simp;omega
        by_cases hd:Rfs d.N m x
        · have hT:R=true:=(uh HR).trans (dc_t (hall.2 (.inr ⟨hfol,hl,hd⟩)))
          subst hT
          have HD2:Hid (Calls Tryz.prog 77 #[.agg #[.int .i64 (d.N m).a.k,.int .i64 (d.N m).a.l,.int .i64 (d.N m).a.o,.int .i64 (d.N m).a.m,.float .f64 (d.N m).a.g,.string (d.N m).a.x,.slice pr (d.N m).p cr,.slice pk (d.N m).q ck],.int .i64 x] W3 fun e w'=>e = .returned (.bool true)∧Kb 0 W3 w'):=by
            have:=(uh HDE) W3 HKK
            rw [dc_t (show Dcl (d.N m).a (d.N m).p (d.N m).R x from ⟨by unfold FoL at hfol;omega,hd.imp (fun j hj=>⟨hj.1,hj.2.symm⟩)⟩)] at this
            exact this
          have HKW:Hid (Kb 0 w W3):=kww.trans HKK
          clear HR HDE HALL hall hkid ok hvk kww hnl hl hd hfol h12 HC HM HRR HKK
          generalize (d.N m).a.k=kk at *
          go_wp2_with fail
          refine (uh HD2).mono ?_
          rintro e w5 ⟨rfl,k5⟩
          have HK5:Hid (Kb 0 w w5):=(uh HKW).trans k5
          clear k5 HD2
          go_wp2_with fail
          go_ret
          exact ⟨rfl,HK5⟩
        · have HN:Hid (∀ w5,Kb 0 W3 w5→Kb 0 w2 w5∧(SS d.N d.n d.m x t↔SS d.N d.n d.m x m)):=(fun w5 k5=>⟨HRR.1.trans k5,hall.trans ⟨fun g=>g.elim (fun g=>g.elim id (fun g=>absurd g hnl)) (fun g=>absurd g.2.2 hd),fun g=>.inl (.inl g)⟩⟩:∀ w5,_)
          have HD2:Hid (Calls Tryz.prog 77 #[.agg #[.int .i64 (d.N m).a.k,.int .i64 (d.N m).a.l,.int .i64 (d.N m).a.o,.int .i64 (d.N m).a.m,.float .f64 (d.N m).a.g,.string (d.N m).a.x,.slice pr (d.N m).p cr,.slice pk (d.N m).q ck],.int .i64 x] W3 fun e w'=>e = .returned (.bool false)∧Kb 0 W3 w'):=by
            have:=(uh HDE) W3 HKK
            rw [dc_f (show ¬ Dcl (d.N m).a (d.N m).p (d.N m).R x from fun g=>hd (g.2.imp (fun j hj=>⟨hj.1,hj.2.symm⟩)))] at this
            exact this
          clear HR HDE HALL hall hkid ok hvk kww hnl hl hd hfol h12 HC HRR HKK
          generalize (d.N m).a.k=kk at *
          go_wp2_with fail
          refine (uh HD2).mono ?_
          rintro e w5 ⟨rfl,k5⟩
          have HK5:Hid (Kb 0 w2 w5∧(SS d.N d.n d.m x t↔SS d.N d.n d.m x m)):=(uh HN) w5 k5
          have c05:w5.cell? ⟨w.heap.size+1,0,none⟩=some (.slice (some GP) d.n cp):=k5.cell c0'
          have cm5:w5.cell? (GP.add m)=some (.int .i64 (PA m)):=k5.cell cm'
          clear k5 HD2 HN
          go_wp2_with fail
          go_roundw
          case rel=>exact ⟨m,rfl,rfl,HM.1,HK5⟩
          case measure=>have:=HM.2;have:=HM.1;simp [intOf];omega
      · have hle:((i:Int) == (qq:Int))=false:=by simp;omega
        have HN:Hid (Kb 0 w2 W3∧(SS d.N d.n d.m x t↔SS d.N d.n d.m x m)):=(⟨HRR.1,hall.trans ⟨fun g=>g.elim (fun g=>g.elim id (fun g=>absurd g hnl)) (fun g=>absurd g.2.1 hl),fun g=>.inl (.inl g)⟩⟩:_∧_)
        clear HR HDE HALL hall hkid ok hvk kww hnl hl hfol h12 HC HRR HKK
        generalize (d.N m).a.k=kk at *
        go_wp2_with fail
        go_roundw
        case rel=>exact ⟨m,rfl,rfl,HM.1,HN⟩
        case measure=>have:=HM.2;have:=HM.1;simp [intOf];omega
    have g7:=bne h7
    have g8:=bne h8
    have g12:=bne h12
    obtain ⟨hall,hkid,ok,hvk,kww⟩:=(uh HALL)
    have hnf:¬ FoL d.N m:=by unfold FoL;omega
    by_cases h1:(d.N m).a.k=1
    case neg =>
      have g1:=bne h1
      have hnl:¬ ∃ j,j < i∧LetAt d.N m j x:=fun ⟨j,hj,c,e1,e2,_⟩=>by
        have:=ok.lett m j c ⟨hkid.1,Nat.lt_trans hj hkid.2.1,e1⟩ e2
        omega
      have HN:Hid (Kb 0 w2 W3∧(SS d.N d.n d.m x t↔SS d.N d.n d.m x m)):=(⟨HRR.1,hall.trans ⟨fun g=>g.elim (fun g=>g.elim id (fun g=>absurd g hnl)) (fun g=>absurd g.1 hnf),fun g=>.inl (.inl g)⟩⟩:_∧_)
      clear HR HDE HALL hall hkid ok hvk kww hnl hnf h1 h7 h8 h12 HC HRR HKK
      generalize (d.N m).a.k=kk at *
      go_wp2_with fail
      go_roundw
      case rel=>exact ⟨m,rfl,rfl,HM.1,HN⟩
      case measure=>have:=HM.2;have:=HM.1;simp [intOf];omega
    have g1:=beq1 h1
    clear HDE hvk h1 h7 h8 h12
    have HAL:Hid ((SS d.N d.n d.m x t↔(SS d.N d.n d.m x m∨∃ j,j < i∧LetAt d.N m j x))∧Kid d.N d.n m i b∧Fok d∧Kb 0 w wo):=(⟨hall.trans ⟨fun g=>g.elim id (fun g=>absurd g.1 hnf),.inl⟩,hkid,ok,kww⟩:_∧_)
    clear hall hkid ok kww hnf
    generalize hkk:(d.N m).a.k=kk at *
    clear hkk
    go_wp2_with fail
    go_loopw [13] (fun s13 wr=>∃ j:Nat,s13 = .int .i64 (j:Int)∧j≤i∧Hid (Kb 0 W3 wr∧∀ j',j' < j→¬ LetAt d.N m j' x)) (fun s13 _=>i - (intOf s13).toNat)
    case atStart=>exact ⟨0,rfl,Nat.zero_le _,(⟨Kb.refl _ _,fun j hj=>by omega⟩:_∧_)⟩
    case round =>
      obtain ⟨j,rfl,hj,HJ⟩:=hrel
      obtain ⟨kx,hno⟩:=(uh HJ)
      obtain ⟨hall,hkid,ok,kww⟩:=(uh HAL)
      obtain ⟨k23,q3⟩:=(uh HRR)
      rcases Nat.lt_or_ge j i with hji | hji
      case inr =>
        have ej:j=i:=by omega
        have HN:Hid (Kb 0 w2 wr∧(SS d.N d.n d.m x t↔SS d.N d.n d.m x m)):=(⟨k23.trans kx,hall.trans ⟨fun g=>g.elim id (fun ⟨j',h1,h2⟩=>absurd h2 (hno j' (by omega))),.inl⟩⟩:_∧_)
        have c05:wr.cell? ⟨w.heap.size+1,0,none⟩=some (.slice (some GP) d.n cp):=kx.cell c0'
        have cm5:wr.cell? (GP.add m)=some (.int .i64 (PA m)):=kx.cell cm'
        have n05:wr.cell? ⟨wo.heap.size,0,none⟩=some (.int .i64 kk):=kx.cell n0
        have hjI:¬ (j:Int) < (i:Int):=by omega
        clear HJ hno hall hkid ok kww k23 q3 HAL HRR HR HC HKK kx n0 n7 c0' cm' c6' hj hji ej HALL
        go_wp2_with fail
        go_roundw
        case rel=>exact ⟨m,rfl,rfl,HM.1,HN⟩
        case measure=>have:=HM.2;have:=HM.1;simp [intOf];omega
      have hjI:(j:Int) < (i:Int):=by omega
      have hjq:j < (d.N m).q:=by have:=hkid.2.1;omega
      have hjqI:(j:Int) < ((d.N m).q:Int):=by omega
      obtain ⟨c,hc⟩:=Int.eq_ofNat_of_zero_le (ok.tree.kid m hkid.1 j hjq).1
      have hcm:=(ok.tree.kid m hkid.1 j hjq).2
      have hmn:=hkid.1
      have hcn:c < d.n:=by omega
      have hcI:(c:Int) < (d.n:Int):=by omega
      obtain ⟨-,-,-,hra,kwx⟩:=(uh HC) wr (k23.trans kx)
      obtain ⟨vrc,vkc,⟨d0,d1,d2,d3,d4,d5,d6,d7⟩,hvr,hvk⟩:=hra c hcn
      obtain ⟨prc,crc,rfl,-⟩:=id hvr
      obtain ⟨pkc,ckc,rfl,-⟩:=id hvk
      obtain ⟨hall2,_,_,hrow,_⟩:=(uh HALL)
      obtain ⟨pk',ck',hpe,hrk⟩:=hrow.keep ((uh HKK).trans kx)
      obtain ⟨bk,hbk,-,-,hrb⟩:=hrk (by omega)
      obtain ⟨ep,-,-⟩:pk=pk'∧(d.N m).q=(d.N m).q∧ck=ck':=by simpa using hpe
      have qk:wr.cell? (bk.add j)=some (.int .i64 ((d.N m).K j)):=hrb j hjq
      rw [hc] at qk
      have hpk:pk=some bk:=ep.trans hbk
      have n75:wr.cell? ⟨wo.heap.size,7,none⟩=some (.slice (some bk) (d.N m).q ck):=by rw [← hpk];exact kx.cell n7
      have c65:wr.cell? ⟨w.heap.size,6,none⟩=some (.slice (some AN) d.n cnn):=kx.cell c6'
      have HDE:Hid (∀ W,Kb 0 wr W→Calls Tryz.prog 77 #[.agg #[.int .i64 (d.N c).a.k,.int .i64 (d.N c).a.l,.int .i64 (d.N c).a.o,.int .i64 (d.N c).a.m,.float .f64 (d.N c).a.g,.string (d.N c).a.x,.slice prc (d.N c).p crc,.slice pkc (d.N c).q ckc],.int .i64 x] W fun e w'=>e = .returned (.bool (dc (Dcl (d.N c).a (d.N c).p (d.N c).R x)))∧Kb 0 W w'):=(fun W k=>sp_declares (d.N c).a prc (d.N c).p crc _ ⟨_,_,_,rfl⟩ x W (hvr.keep k) (ok.hp c hcn):∀ W,_)
      have hLA:LetAt d.N m j x↔(d.N c).a.k=2∧Rfs d.N c x:=⟨fun ⟨c',e1,h1,h2⟩=>by
        have:c'=c:=Int.ofNat_inj.1 (e1.symm.trans hc)
        subst this;exact ⟨h1,h2⟩,fun ⟨h1,h2⟩=>⟨c,hc,h1,h2⟩⟩
      have HNX:Hid (¬ LetAt d.N m j x→∀ j',j' < j+1→¬ LetAt d.N m j' x):=(fun g j' hj'=>by
        by_cases e:j'=j
        · rw [e];exact g
        · exact hno j' (by omega):_→_)
      have HTT:Hid (LetAt d.N m j x→R=true):=(fun g=>(uh HR).trans (dc_t (hall.2 (.inr ⟨j,hji,g⟩))):_→_)
      have HKX:Hid (Kb 0 W3 wr∧Kb 0 w wr):=(⟨kx,kwx⟩:_∧_)
      obtain ⟨W5,hW5⟩:∃ W5,W5=(wr.alloc (.cells #[.int .i64 (d.N c).a.k,.int .i64 (d.N c).a.l,.int .i64 (d.N c).a.o,.int .i64 (d.N c).a.m,.float .f64 (d.N c).a.g,.string (d.N c).a.x,.slice prc (d.N c).p crc,.slice pkc (d.N c).q ckc] 59)).drew:=⟨_,rfl⟩
      have k5:Kb 0 wr W5:=by rw [hW5];exact (kb_alloc 0 _ _).drew
      have q5:W5.heap[wr.heap.size]? = some (.cells #[.int .i64 (d.N c).a.k,.int .i64 (d.N c).a.l,.int .i64 (d.N c).a.o,.int .i64 (d.N c).a.m,.float .f64 (d.N c).a.g,.string (d.N c).a.x,.slice prc (d.N c).p crc,.slice pkc (d.N c).q ckc] 59 (0,0)):=by rw [hW5];exact alloc_new _ _ _
      have y0:W5.cell? ⟨wr.heap.size,0,none⟩=some (.int .i64 (d.N c).a.k):=cell_of q5 rfl
      have HY:Hid (W5.heap[wr.heap.size]? = some (.cells #[.int .i64 (d.N c).a.k,.int .i64 (d.N c).a.l,.int .i64 (d.N c).a.o,.int .i64 (d.N c).a.m,.float .f64 (d.N c).a.g,.string (d.N c).a.x,.slice prc (d.N c).p crc,.slice pkc (d.N c).q ckc] 59 (0,0))∧Kb 0 wr W5):=(⟨q5,k5⟩:_∧_)
      have HW5:Hid (W5=(wr.alloc (.cells #[.int .i64 (d.N c).a.k,.int .i64 (d.N c).a.l,.int .i64 (d.N c).a.o,.int .i64 (d.N c).a.m,.float .f64 (d.N c).a.g,.string (d.N c).a.x,.slice prc (d.N c).p crc,.slice pkc (d.N c).q ckc] 59)).drew):=hW5
      rw [hpk]
      clear HJ hno hall hkid ok kww k23 q3 HAL HRR HR HC HKK kx n0 n7 c0' cm' c6' hj hji hc hcm hmn hcn hra kwx hvr hvk hall2 hrow hpe hrk hbk hrb ep hpk HALL k5 q5 hW5
      have d0a:=fun o=>(kb_alloc 0 wr o).cell d0
      have d1a:=fun o=>(kb_alloc 0 wr o).cell d1
      have d2a:=fun o=>(kb_alloc 0 wr o).cell d2
      have d3a:=fun o=>(kb_alloc 0 wr o).cell d3
      have d4a:=fun o=>(kb_alloc 0 wr o).cell d4
      have d5a:=fun o=>(kb_alloc 0 wr o).cell d5
      have d6a:=fun o=>(kb_alloc 0 wr o).cell d6
      have d7a:=fun o=>(kb_alloc 0 wr o).cell d7
      have c65a:=fun o=>(kb_alloc 0 wr o).cell c65
      have n75a:=fun o=>(kb_alloc 0 wr o).cell n75
      have qka:=fun o=>(kb_alloc 0 wr o).cell qk
      have mixed:Tryz.prog.follows .mixedOrders=true:=by kernel_rfl
      go_upto_region 13 with fail
      go_cut [14] from 93 (fun s14 wc=>s14 = .pointer (some ⟨wr.heap.size,0,none⟩)∧W5=wc)
      case first =>
        clear HDE hLA HNX HTT HKX HY y0
        go_region_with (fail)
        all_goals
          go_wp2_with fail
          go_meet
          exact ⟨rfl,HW5⟩
      case rest =>
        obtain ⟨rfl,rfl⟩:=hcut
        have y1:W5.cell? ⟨wr.heap.size,1,none⟩=some (.int .i64 (d.N c).a.l):=cell_of HY.1 rfl
        have y2:W5.cell? ⟨wr.heap.size,2,none⟩=some (.int .i64 (d.N c).a.o):=cell_of HY.1 rfl
        have y3:W5.cell? ⟨wr.heap.size,3,none⟩=some (.int .i64 (d.N c).a.m):=cell_of HY.1 rfl
        have y4:W5.cell? ⟨wr.heap.size,4,none⟩=some (.float .f64 (d.N c).a.g):=cell_of HY.1 rfl
        have y5:W5.cell? ⟨wr.heap.size,5,none⟩=some (.string (d.N c).a.x):=cell_of HY.1 rfl
        have y6:W5.cell? ⟨wr.heap.size,6,none⟩=some (.slice prc (d.N c).p crc):=cell_of HY.1 rfl
        have y7:W5.cell? ⟨wr.heap.size,7,none⟩=some (.slice pkc (d.N c).q ckc):=cell_of HY.1 rfl
        clear d0 d1 d2 d3 d4 d5 d6 d7 d0a d1a d2a d3a d4a d5a d6a d7a c65 c65a n75 n75a qk qka HW5
        by_cases hk2:(d.N c).a.k=2
        · have gk:=beq1 hk2
          by_cases hd:Rfs d.N c x
          · have hT:R=true:=(uh HTT) (hLA.2 ⟨hk2,hd⟩)
            subst hT
            have HD2:Hid (Calls Tryz.prog 77 #[.agg #[.int .i64 (d.N c).a.k,.int .i64 (d.N c).a.l,.int .i64 (d.N c).a.o,.int .i64 (d.N c).a.m,.float .f64 (d.N c).a.g,.string (d.N c).a.x,.slice prc (d.N c).p crc,.slice pkc (d.N c).q ckc],.int .i64 x] W5 fun e w'=>e = .returned (.bool true)∧Kb 0 W5 w'):=by
              have:=(uh HDE) W5 HY.2
              rw [dc_t (show Dcl (d.N c).a (d.N c).p (d.N c).R x from ⟨.inl hk2,hd.imp (fun j hj=>⟨hj.1,hj.2.symm⟩)⟩)] at this
              exact this
            have HKW:Hid (Kb 0 w W5):=HKX.2.trans HY.2
            clear HDE hLA HNX HTT HKX HY hk2 hd HM
            generalize (d.N c).a.k=kc at *
            go_wp2_with fail
            refine (uh HD2).mono ?_
            rintro e w6 ⟨rfl,k6⟩
            have HK6:Hid (Kb 0 w w6):=(uh HKW).trans k6
            clear k6 HD2 y0 y1 y2 y3 y4 y5 y6 y7
            go_wp2_with fail
            go_ret
            exact ⟨rfl,HK6⟩
          · have HD2 : Hid (Calls Tryz.prog 77 #[.agg #[.int .i64 (d.N c).a.k, .int .i64 (d.N c).a.l, .int .i64 (d.N c).a.o, .int .i64 (d.N c).a.m, .float .f64 (d.N c).a.g, .string (d.N c).a.x, .slice prc (d.N c).p crc, .slice pkc (d.N c).q ckc], .int .i64 x] W5 fun e w' => e = .returned (.bool false) ∧ Kb 0 W5 w') := by
              have:=(uh HDE) W5 HY.2
              rw [dc_f (show ¬ Dcl (d.N c).a (d.N c).p (d.N c).R x from fun g=>hd (g.2.imp (fun j hj=>⟨hj.1,hj.2.symm⟩)))] at this
              exact this
            have HN:Hid (∀ w6,Kb 0 W5 w6→Kb 0 W3 w6∧∀ j',j' < j+1→¬ LetAt d.N m j' x):=(fun w6 k6=>⟨(HKX.1.trans HY.2).trans k6,(uh HNX) (fun g=>hd (hLA.1 g).2)⟩:∀ w6,_)
            clear HDE hLA HNX HTT HKX HY hk2 hd
            generalize (d.N c).a.k=kc at *
            go_wp2_with fail
            refine (uh HD2).mono ?_
            rintro e w6 ⟨rfl,k6⟩
            have HK6:Hid (Kb 0 W3 w6∧∀ j',j' < j+1→¬ LetAt d.N m j' x):=(uh HN) w6 k6
            clear k6 HD2 y0 y1 y2 y3 y4 y5 y6 y7 HN
            go_wp2_with fail
            go_roundw
            case rel=>exact ⟨j+1,by go_num,by omega,HK6⟩
            case measure=>simp [intOf];omega
        · have gk:=bne hk2
          have HK6:Hid (Kb 0 W3 W5∧∀ j',j' < j+1→¬ LetAt d.N m j' x):=(⟨HKX.1.trans HY.2,(uh HNX) (fun g=>hk2 (hLA.1 g).1)⟩:_∧_)
          clear HDE hLA HNX HTT HKX HY hk2
          generalize (d.N c).a.k=kc at *
          go_wp2_with fail
          go_roundw
          case rel=>exact ⟨j+1,by go_num,by omega,HK6⟩
          case measure=>simp [intOf];omega
end Go.Proofs.YtfpidccjcemcjaaGreat.Fo
