import Derived.Test.YtjakooihcbdcaaaGreatDoorMZsq
import Derived.Test.YtjakooihcbdcaaaGreatDoorMTmv
import Derived.Test.YtjakooihcbdcaaaGreatDoorMTnb
import Derived.Test.YtjakooihcbdcaaaGreatDoorMTmz
import Derived.Test.YtjakooihcbdcaaaGreatDoorMChb
set_option maxHeartbeats 8000000
namespace Go.Proofs.YtjakooihcbdcaaaGreatDoor.Fo
open Go.ChangeShapes Go.WideShapes Go.ChangeAt Go.RowKit
set_option linter.unusedVariables false
set_option maxRecDepth 100000
theorem sp_fol {av : Nat → Prop} {np : Nat} {d : Pd} {pn : Option Addr} {cn i : Nat} {vu vc vd vt0 vg0 vt1 vg1 : Value} {s : Sv} {T : List Int} {G : List Gv} (w : World) (hrow : RowI 0 w (.slice pn d.n cn) d.n d.N) (hi : i < d.n) (hn : d.n ≤ 1048576) (hx : IsSl vu ∧ IsSl vc ∧ IsSl vd) (r0 : Rz av w vt0 s.1) (r1 : Rg av w vg0 s.2) (r2 : Rz av w vt1 T) (r3 : Rg av w vg1 G) (hav : ∀ k, w.heap.size ≤ k → av k) (hlen : s.1.length ≤ 250 ∧ T.length = s.1.length) (ht : Tok np d (d.N i)) (hg : (s.1.length : Int) = d.g) (h41 : (d.N i).o = 41 → (T.set (d.N i).c.toNat (s.1.getD (d.N i).c.toNat 0), G) = s) :
  Calls Tryz.prog 65 #[.agg #[.string d.x,.int .i64 d.l,.int .i64 d.m,.bool d.r,.int .i64 d.g,vu,vc,.slice pn d.n cn,vd],.int .i64 i,.agg #[.bool true,vt0,vg0],vt1,vg1] w (FoA av (fol (d.N i) i s T G) w):=by
 have fa:∀ o:Nat,(d.N i).o=(o:Int)→∀ j,j < 4→(rg np d (pcl (pr o j))).1≤fld (d.N i) j∧fld (d.N i) j≤(rg np d (pcl (pr o j))).2:=fun o ho j hj=>by
  have:=ht.2.2 j hj;rw [show (d.N i).o.toNat=o by omega] at this;exact this
 rcases hd:d.N i with ⟨o,oa,ob,oc,od⟩;rw [hd] at fa h41;rw [← hd];by_cases h:o=29
 ·exact fo_29 w hrow hi hn hx hd r0 r1 r2 r3 hav hlen h
 have n29:=h;clear h;by_cases h:o=30
 ·exact fo_30 w hrow hi hn hx hd r0 r1 r2 r3 hav hlen h
 have n30:=h;clear h;by_cases h:o=19
 ·have h0 : 0≤oa∧_:=fa 19 h 0 (by omega);exact fo_19 w hrow hi hn hx hd r0 r1 r2 r3 hav hlen h h0.1
 have n19:=h;clear h;by_cases h:o=20
 ·have h0 : 0≤ob∧_:=fa 20 h 1 (by omega);exact fo_20 w hrow hi hn hx hd r0 r1 r2 r3 hav hlen h h0.1
 have n20:=h;clear h;by_cases h:o=21
 ·have h0 : 0≤ob∧_:=fa 21 h 1 (by omega);exact fo_21 w hrow hi hn hx hd r0 r1 r2 r3 hav hlen h h0.1
 have n21:=h;clear h;by_cases h:o=38
 ·have h0 : 0≤ob∧_:=fa 38 h 1 (by omega);exact fo_38 w hrow hi hn hx hd r0 r1 r2 r3 hav hlen h h0.1
 have n38:=h;clear h;by_cases h:o=39
 ·have h0 : 0≤ob∧_:=fa 39 h 1 (by omega);exact fo_39 w hrow hi hn hx hd r0 r1 r2 r3 hav hlen h h0.1
 have n39:=h;clear h;by_cases h:o=41
 ·have h0 : 0≤ob∧_:=fa 41 h 1 (by omega);have h2 : 0≤oc∧oc≤d.g - 1:=fa 41 h 2 (by omega);exact fo_41 w hrow hi hn hx hd r0 r1 r2 r3 hav hlen h h0.1 ⟨h2.1,by omega⟩ (h41 h)
 have n41:=h;clear h;by_cases h:o=31
 ·have h0 : 0≤oa∧_:=fa 31 h 0 (by omega);have h2 : 0≤ob∧ob≤d.g - 2:=fa 31 h 1 (by omega);exact fo_31 w hrow hi hn hx hd r0 r1 r2 r3 hav hlen h h0.1 ⟨h2.1,by omega⟩
 exact fo_oth w hrow hi hn hx hd r0 r1 r2 r3 hav hlen ⟨n19,n29,n30,n20,n21,n38,n39,n41,h⟩
theorem put1_len (r:Nat) (x:Int) (T:List Int):(put1 r x T).length=T.length:=by
 unfold put1
 repeat' split
 all_goals simp
theorem put_len (a:Iv) (T:List Int):(put a T).length=T.length:=by
 have:∀ j,(putn a T j).length=T.length:=fun j=>by
  induction j with
  | zero=>rfl
  | succ j ih=>show (put1 _ _ (putn a T j)).length = _;rw [put1_len,ih]
 exact this 4
theorem rd1_T {r:Nat} {x:Int} {s s':Rs} (h:rd1 r x s=some s') (hx:wts r = []∨¬ x < 0):s'.T=s.T:=by
 unfold rd1 at h;split at h
 ·cases h;rfl
 ·rename_i hw
  have hx:=hx.resolve_left hw;split at h
  ·cases h
   first | rw [if_neg hx] | skip
   split <;> rfl
  ·cases h
theorem rd1_K {r:Nat} {x:Int} {s s':Rs} (h:rd1 r x s=some s') (hk:∀ k,k ∈ s.K→0≤k):∀ k,k ∈ s'.K→0≤k:=by
 unfold rd1 at h;split at h
 ·cases h;exact hk
 ·split at h
  ·cases h;split
   ·rename_i hx
    intro k hk';rw [List.mem_append] at hk';rcases hk' with q | q
    ·exact hk k q
    ·have:k=rgt x:=by simpa using q
     rw [this];unfold rgt;rw [if_pos hx];omega
   ·split
    ·exact hk
    ·exact hk
  ·cases h
theorem rdn_K {a:Iv} {T:List Int}:∀ (j:Nat) (s:Rs),rdn a T j=some s→∀ k,k ∈ s.K→0≤k
 | 0,s,h=>by cases h;intro k hk;cases hk
 | j+1,s,h=>by
  cases hr:rdn a T j with
  | none =>
   have h':(rdn a T j).bind (rd1 (pr a.o.toNat j) (fld a j))=some s:=h;rw [hr] at h';cases h'
  | some s' =>
   rw [rdn_next hr] at h;exact rd1_K h (rdn_K j s' hr)
theorem rdn_T {a:Iv} {T:List Int} (hx:∀ j,j < 4→wts (pr a.o.toNat j) = []∨¬ fld a j < 0):∀ (j:Nat) (s:Rs),j≤4→rdn a T j=some s→s.T=T
 | 0,s,_,h=>by cases h;rfl
 | j+1,s,hj,h=>by
  cases hr:rdn a T j with
  | none =>
   have h':(rdn a T j).bind (rd1 (pr a.o.toNat j) (fld a j))=some s:=h;rw [hr] at h';cases h'
  | some s' =>
   rw [rdn_next hr] at h;rw [rd1_T h (hx j (by omega))];exact rdn_T hx j s' (by omega) hr
theorem set_back (T:List Int) (k:Nat) (x:Int):(T.set k x).set k (T.getD k 0)=T:=by
 apply List.ext_getElem?;intro j;rw [List.getElem?_set,List.getElem?_set,List.length_set];by_cases e:k=j
 ·subst e;rw [if_pos rfl];split
  ·rename_i h
   rw [List.getD_eq_getElem?_getD,List.getElem?_eq_getElem h];rfl
  ·rename_i h
   rw [List.getElem?_eq_none (by omega)]
 ·rw [if_neg e,if_neg e]
theorem h41_of {np:Nat} {d:Pd} {a:Iv} {s:Sv} {r:Rs} (ht:Tok np d a) (hr:rd a s.1=some r) (ho:a.o=41):((put a r.T).set a.c.toNat (s.1.getD a.c.toNat 0),gbh a s.2)=s:=by
 have e:a.o.toNat=41:=by omega
 have h0:=ht.2.2 0 (by omega);rw [e] at h0;have h0 : 0≤a.a∧_:=h0
 have hT:r.T=s.1:=rdn_T (fun j hj=>by
  rw [e];rcases (by omega:j=0∨j=1∨j=2∨j=3) with rfl | rfl | rfl | rfl
  ·exact .inr (by show ¬ a.a < 0;omega)
  ·exact .inl (by decide)
  ·exact .inl (by decide)
  ·exact .inl (by decide)) 4 r (Nat.le_refl _) hr
 have hp:put a r.T=s.1.set a.c.toNat 3:=by
  rw [hT];show put1 (pr a.o.toNat 3) _ (put1 (pr a.o.toNat 2) a.c (put1 (pr a.o.toNat 1) _ (put1 (pr a.o.toNat 0) _ s.1))) = _;rw [e];rfl
 have hg:gbh a s.2=s.2:=by unfold gbh;simp [ho]
 rw [hp,set_back,hg]
theorem still {a:Iv} {T:List Int} (ho:a.o=32):rd a T=some ⟨T,[],[]⟩∧put a T=T:=by
 have e:a.o.toNat=32:=by omega
 have st:∀ j,j < 4→rdn a T j=some ⟨T,[],[]⟩→rdn a T (j+1)=some ⟨T,[],[]⟩:=fun j hj hh=>by
  rw [rdn_next hh,e];unfold rd1;rw [if_pos (by rcases (by omega:j=0∨j=1∨j=2∨j=3) with rfl | rfl | rfl | rfl <;> decide)]
 refine ⟨st 3 (by omega) (st 2 (by omega) (st 1 (by omega) (st 0 (by omega) rfl))),?_⟩;show put1 (pr a.o.toNat 3) _ (put1 (pr a.o.toNat 2) _ (put1 (pr a.o.toNat 1) _ (put1 (pr a.o.toNat 0) _ T))) = _;rw [e];rfl
theorem kpt_mem {G:List Gv} {r:Int} (h0 : 0≤r) (h:r < kpt G):∃ g,g ∈ G∧g.1=true∧r < g.2.1:=by
 apply Classical.byContradiction;intro q
 have:kpt G≤r:=(above_iff h0).1 (fun g hg h1=>by
  apply Classical.byContradiction;intro q2
  exact q ⟨g,hg,h1,by omega⟩)
 omega
theorem kept_iff {np:Nat} {d:Pd} {a:Iv} {G:List Gv} {A:List Int} {r:Rs} (ht:Tok np d a) (hr:rd a A=some r) (hG:Gok d G) (hl:(A.length:Int)=d.g):KeptP a G (mk a 4 r.K) A (put a r.T)↔spr a G A (put a r.T) r.K:=by
 have hlen:(put a r.T).length=A.length:=by rw [put_len];exact (rdn_len 4 r hr).1
 have h40:a.o=40→0≤a.a:=fun e=>by
  have:=ht.2.2 0 (by omega);rw [show a.o.toNat=40 by omega] at this;have : 0≤a.a∧_:=this;exact this.1
 have hkm:∀ k,k ∈ mk a 4 r.K→0≤k:=fun k hk=>by
  unfold mk at hk;rcases List.mem_append.1 hk with q | q
  ·exact rdn_K 4 r hr k q
  ·by_cases e:a.o=40
   ·rw [if_pos ⟨e,by omega⟩] at q;have:k=a.a:=by simpa using q
    rw [this];exact h40 e
   ·rw [if_neg (fun q=>e q.1)] at q;cases q
 constructor
 ·intro h
  have hk:∀ k,k ∈ mk a 4 r.K→kpt G≤k:=fun k hk=>(above_iff (hkm k hk)).1 (fun g hg h1=>by
   obtain ⟨j,hj⟩:=List.getElem?_of_mem hg
   exact (h j g (List.getElem?_eq_some_iff.1 hj).1 hj h1).1 k hk)
  refine ⟨fun q=>?_,?_,fun k hk'=>hk k (List.mem_append_left _ hk')⟩
  ·have:=hk a.a (by unfold mk;rw [if_pos ⟨q.1,by omega⟩];simp);omega
  ·by_cases e32:a.o=32
   ·obtain ⟨s1,s2⟩:=still (T:=A) e32;rw [hr] at s1;cases s1;rw [s2]
   ·apply List.ext_getElem?;intro j;rw [List.getElem?_take,List.getElem?_take];split
    ·rename_i hj
     obtain ⟨g,hg,h1,h2⟩:=kpt_mem (G:=G) (r:=(j:Int)) (by omega) (by have:=kpt_nn G;omega);obtain ⟨y,hy⟩:=List.getElem?_of_mem hg;exact ((h y g (List.getElem?_eq_some_iff.1 hy).1 hy h1).2 (fun q=>e32 q.1) j h2).symm
    ·rfl
 ·rintro ⟨h1,h2,h3⟩ j g hj hg hgt;have hle:g.2.1≤kpt G:=(above_iff (kpt_nn G)).2 (Int.le_refl _) g (List.mem_of_getElem? hg) hgt;refine ⟨fun k hk=>?_,fun _ y hy=>?_⟩
  ·unfold mk at hk;rcases List.mem_append.1 hk with q | q
   ·have:=h3 k q;omega
   ·by_cases e:a.o=40
    ·rw [if_pos ⟨e,by omega⟩] at q;have:k=a.a:=by simpa using q
     have:¬ a.a < kpt G:=fun q=>h1 ⟨e,q⟩;omega
    ·rw [if_neg (fun q=>e q.1)] at q;cases q
  ·have e:=congrArg (fun l=>l[y]?) h2;simp only [List.getElem?_take] at e;rw [if_pos (by omega),if_pos (by omega)] at e;exact e.symm
theorem gok_bh {np:Nat} {d:Pd} {a:Iv} {G:List Gv} (ht:Tok np d a) (h:Gok d G) (hf:gfit a G):Gok d (gbh a G):=by
 have hdl:∀ g,g ∈ G.dropLast→0≤g.2.1∧g.2.1≤d.g:=fun g hg=>h.2 g (List.dropLast_subset _ hg);have hdn:G.dropLast.length≤50:=by rw [List.length_dropLast];have:=h.1;omega
 unfold gbh;split
 ·rename_i e
  have h1:=ht.2.2 1 (by omega);rw [show a.o.toNat=31 by omega] at h1;have h1 : 0≤a.b∧a.b≤d.g - 2:=h1;unfold gfit at hf;simp [e] at hf;refine ⟨by simp;omega,fun g hg=>?_⟩;rcases List.mem_append.1 hg with q | q
  ·exact h.2 g q
  ·have:g=(true,a.b,a.a):=by simpa using q
   rw [this];exact ⟨h1.1,by show a.b≤d.g;omega⟩
 split
 ·rename_i _ e
  have h1:=ht.2.2 0 (by omega);rw [show a.o.toNat=33 by omega] at h1;have h1 : 0≤a.a∧a.a≤d.g:=h1;unfold gfit at hf;simp [e] at hf;refine ⟨by simp;omega,fun g hg=>?_⟩;rcases List.mem_append.1 hg with q | q
  ·exact h.2 g q
  ·have:g=(false,a.a,0):=by simpa using q
   rw [this];exact h1
 split
 ·rename_i _ _ e
  have h1:=ht.2.2 0 (by omega);rw [show a.o.toNat=34 by omega] at h1;have h1 : 0≤a.a∧a.a≤d.g:=h1;unfold gfit at hf;simp [e] at hf;have hne:G ≠ []:=fun q=>by rw [q] at hf;simp [dfr] at hf
  obtain ⟨m,g,hL⟩:=last_of hne;rw [hL.2.2.2.2.2.2];refine ⟨by simp;have:=hL.1;have:=h.1;omega,fun g' hg'=>?_⟩;rcases List.mem_append.1 hg' with q | q
  ·exact hdl g' q
  ·have:g'=(g.1,a.a,g.2.2):=by simpa using q
   rw [this];exact h1
 split
 ·exact ⟨hdn,hdl⟩
 ·exact h
theorem fol_okk {np:Nat} {d:Pd} {i:Nat} {s:Sv} {T:List Int} {G:List Gv} (hI:Iok np d i) (hi:i < d.n) (hs:Sok' d s) (hT:T.length=s.1.length) (hG:Gok d G):∀ x,x ∈ fol (d.N i) i s T G→x.1 < d.n∧Sok' d x.2:=by
 intro x hx
 have fa:∀ o:Nat,(d.N i).o=(o:Int)→∀ j,j < 4→(rg np d (pcl (pr o j))).1≤fld (d.N i) j∧fld (d.N i) j≤(rg np d (pcl (pr o j))).2:=fun o ho j hj=>by
  have:=hI.1.2.2 j hj;rw [show (d.N i).o.toNat=o by omega] at this;exact this
 have hTG:Sok' d (T,G):=⟨by show (T.length:Int)=d.g;rw [hT];exact hs.1,hG⟩
 unfold fol at hx;rcases List.mem_append.1 hx with q | q
 ·split at q
  ·cases q
  ·rename_i he
   have:x=(i+1,(T,G)):=by simpa using q
   rw [this];refine ⟨?_,hTG⟩;show i+1 < d.n;have:i+1 ≠ d.n:=fun e=>he (hI.2 e);omega
 ·obtain ⟨t,ht,rfl⟩:=List.mem_map.1 q
  have ht2 : 0≤t∧t≤(d.n:Int) - 1:=by
   unfold tgt at ht;split at ht
   ·rename_i e
    have:t=(d.N i).a:=by simpa using ht
    rw [this];rcases e with e | e
    ·exact fa 19 e 0 (by omega)
    ·exact fa 31 e 0 (by omega)
   split at ht
   ·rename_i _ e
    have:t=(d.N i).b:=by simpa using ht
    rw [this];rcases e with e | e | e | e | e
    ·exact fa 20 e 1 (by omega)
    ·exact fa 21 e 1 (by omega)
    ·exact fa 38 e 1 (by omega)
    ·exact fa 39 e 1 (by omega)
    ·exact fa 41 e 1 (by omega)
   ·cases ht
  refine ⟨by show t.toNat < d.n;omega,?_⟩;show Sok' d (att (d.N i) s T G);unfold att;split
  ·exact hs
  split
  ·rename_i _ e
   have h1 : 0≤(d.N i).b∧(d.N i).b≤d.g - 2:=fa 31 e 1 (by omega);refine ⟨?_,hs.2⟩;have hsl:=hs.1;show ((tcl s.1 (d.N i).b).length:Int)=d.g;unfold tcl;rw [List.length_append,List.length_take,List.length_cons,List.length_cons,List.length_replicate];omega
  ·exact hTG
theorem stp_ok {np:Nat} {F:Nat→Pd} {d:Pd} {i:Nat} {s:Sv} (hI:Iok np d i) (hi:i < d.n) (hs:Sok' d s) (h0:(stp F (d.N i) i s).1=0):∀ x,x ∈ (stp F (d.N i) i s).2→x.1 < d.n∧Sok' d x.2:=by
 unfold stp at h0 ⊢;split at h0
 ·simp at h0
 rename_i hb
 rw [if_neg hb];split at h0
 ·simp at h0
 ·rename_i r hr
  first | rw [hr] | skip
  try dsimp only
  split at h0
  ·simp at h0
  rename_i hf
  split at h0
  ·simp at h0
  rename_i hsp
  rw [if_neg hf,if_neg hsp];exact fol_okk hI hi hs (by rw [put_len];exact (rdn_len 4 r hr).1) (gok_bh hI.1 hs.2 (Classical.not_not.1 hf))
theorem t0_len {d:Pd} {p:Nat} (h:Hd p d):((t0 d).length:Int)=d.g:=by
 obtain ⟨_,_,⟨g0,g1⟩,⟨m0,m1⟩,_⟩:=h;unfold t0;split
 ·rename_i hr
  rw [if_pos hr] at m1;rw [List.length_append,List.length_replicate,List.length_cons,List.length_replicate];omega
 ·rename_i hr
  rw [if_neg hr] at m1;rw [List.length_append,List.length_replicate,List.length_replicate];omega
theorem wit_ok {np p:Nat} {F:Nat→Pd} {d:Pd} (hI:∀ i,i < d.n→Iok np d i) (h0 : 0 < d.n) (hd:Hd p d):∀ k,SOk d (wit F d k)
 | 0=>by
  refine ⟨by simp,fun i hi=>?_,fun i s hs=>?_⟩
  ·have:i=0:=by simpa using hi
   subst this;exact ⟨h0,by simp [upd]⟩
  ·unfold upd at hs;split at hs
   ·rename_i e
    subst e;cases hs;exact ⟨h0,t0_len hd,by simp,fun g hg=>by cases hg⟩
   ·cases hs
 | k+1=>by
  have ih:=wit_ok (F:=F) hI h0 hd k;show SOk d (wst F d (wit F d k));cases hw:wit F d k with
  | bad c n=>trivial
  | ok M D =>
   rw [hw] at ih;have ih:Inv d M D:=ih;cases D with
   | nil=>exact ih
   | cons i D =>
    show SOk d (match M i with | none=>St.ok M (i :: D) | some s=>nxt F d M D i s);cases hm:M i with
    | none=>exact ih
    | some s =>
     dsimp only;have hT:Inv d M D:=⟨(List.pairwise_cons.1 ih.so).2,fun j hj=>ih.du j (List.mem_cons_of_mem _ hj),ih.st⟩
     obtain ⟨hi,hs⟩:=ih.st i s hm;unfold nxt;split
     ·rename_i hz
      exact fold_ok _ _ hT (stp_ok (hI i hi) hi hs hz)
     ·trivial
def WrR (F:Nat→Pd) (d:Pd) (c n:Nat):Prop:=∃ k,wit F d k = .bad c n∨∃ M,wit F d k = .ok M []∧((c=0∧n=0∧∀ i,M i ≠ none→¬ Cy (Es d) i)∨(c=14∧M n ≠ none∧Cy (Es d) n∧∀ i,i < n→M i ≠ none→¬ Cy (Es d) i))
theorem WrR.uniq {F:Nat→Pd} {d:Pd} {c n c' n':Nat} (h:WrR F d c n) (h':WrR F d c' n'):c=c'∧n=n':=by
 obtain ⟨k,h⟩:=h;obtain ⟨k',h'⟩:=h';have t:Tm (wit F d k):=by rcases h with h | ⟨M,h,_⟩;exact .inr ⟨_,_,h⟩;exact .inl ⟨_,h⟩
 have t':Tm (wit F d k'):=by rcases h' with h | ⟨M,h,_⟩;exact .inr ⟨_,_,h⟩;exact .inl ⟨_,h⟩
 have e:=tm_uniq t t';rcases h with h | ⟨M,h,h1⟩ <;> rcases h' with h' | ⟨M',h',h1'⟩
 ·rw [h,h'] at e;cases e;exact ⟨rfl,rfl⟩
 ·rw [h,h'] at e;cases e
 ·rw [h,h'] at e;cases e
 ·rw [h,h'] at e;cases e;rcases h1 with ⟨rfl,rfl,a⟩ | ⟨rfl,a,b,q⟩ <;> rcases h1' with ⟨rfl,rfl,a'⟩ | ⟨rfl,a',b',q'⟩
  ·exact ⟨rfl,rfl⟩
  ·exact absurd b' (a n' a')
  ·exact absurd b (a' n a)
  ·refine ⟨rfl,?_⟩;rcases Nat.lt_trichotomy n n' with z | z | z
   ·exact absurd b (q' n z a)
   ·exact z
   ·exact absurd b' (q n' z a')
def Av (SB DB:Nat) (k:Nat):Prop:=k ≠ SB∧k ≠ DB
def SC (av:Nat→Prop) (W:World) (SB j:Nat) (m:Option Sv):Prop :=
 match m with
 | none=>W.cell? ⟨SB,j*3,none⟩=some (.bool false)∧(∃ u,W.cell? ⟨SB,j*3+1,none⟩=some u)∧∃ u,W.cell? ⟨SB,j*3+2,none⟩=some u
 | some s=>W.cell? ⟨SB,j*3,none⟩=some (.bool true)∧∃ vt vg,W.cell? ⟨SB,j*3+1,none⟩=some vt∧W.cell? ⟨SB,j*3+2,none⟩=some vg∧Rz av W vt s.1∧Rg av W vg s.2
theorem SC.on {SB DB:Nat} {W W':World} {j:Nat} {m:Option Sv} (h:SC (Av SB DB) W SB j m) (hc:∀ t,t < 3→W'.cell? ⟨SB,j*3+t,none⟩=W.cell? ⟨SB,j*3+t,none⟩) (k:∀ b,b ≠ SB→b ≠ DB→b < W.heap.size→W'.heap[b]? = W.heap[b]?):SC (Av SB DB) W' SB j m:=by
 cases m with
 | none=>exact ⟨(hc 0 (by omega)).trans h.1,by rw [hc 1 (by omega)];exact h.2.1,by rw [hc 2 (by omega)];exact h.2.2⟩
 | some s =>
  obtain ⟨h1,vt,vg,h2,h3,h4,h5⟩:=h;exact ⟨(hc 0 (by omega)).trans h1,vt,vg,(hc 1 (by omega)).trans h2,(hc 2 (by omega)).trans h3,h4.on (fun b hb hl=>k b hb.1 hb.2 hl),h5.on (fun b hb hl=>k b hb.1 hb.2 hl)⟩
structure MW (w5:World) (SB DB n:Nat) (M:Nat→Option Sv) (D:List Nat) (W:World):Prop where
 os:W.os=w5.os
 output:W.output=w5.output
 size:w5.heap.size≤W.heap.size
 block:∀ b,b < w5.heap.size→b ≠ SB→b ≠ DB→W.heap[b]? = w5.heap[b]?
 du:∀ j,j < n→W.cell? ⟨DB,j,none⟩=some (.bool (dc (j ∈ D)))
 dz:∀ j,W.frozen? ⟨DB,j,none⟩=false
 sz:∀ j,W.frozen? ⟨SB,j,none⟩=false
 st:∀ j,j < n→SC (Av SB DB) W SB j (M j)
 sl:SB < w5.heap.size
 dl:DB < w5.heap.size
 ne:SB ≠ DB
theorem MW.kb {w5:World} {SB DB n:Nat} {M:Nat→Option Sv} {D:List Nat} {W W':World} (h:MW w5 SB DB n M D W) (k:Kb 0 W W'):MW w5 SB DB n M D W':=by
 have hs:=h.size;have h1:=h.sl;have h2:=h.dl;have eb:∀ b,b < W.heap.size→W'.heap[b]? = W.heap[b]?:=fun b hb=>k.block b zq hb;refine ⟨k.os.trans h.os,k.output.trans h.output,Nat.le_trans hs k.size,fun b hb a c=>(eb b (by omega)).trans (h.block b hb a c),fun j hj=>(World.cell?_of_block (eb DB (by omega))).trans (h.du j hj),fun j=>(World.frozen?_of_block (eb DB (by omega))).trans (h.dz j),fun j=>(World.frozen?_of_block (eb SB (by omega))).trans (h.sz j),fun j hj=>(h.st j hj).on (fun t _=>World.cell?_of_block (eb SB (by omega))) (fun b _ _ hl=>eb b hl),h1,h2,h.ne⟩
theorem MW.old {w w5:World} {SB DB n:Nat} {M:Nat→Option Sv} {D:List Nat} {W:World} (h:MW w5 SB DB n M D W) (k:Kb 0 w w5) (h1:w.heap.size≤SB) (h2:w.heap.size≤DB):Kb 0 w W :=
 ⟨h.os.trans k.os,h.output.trans k.output,Nat.le_trans k.size h.size,fun b _ hb=>(h.block b (Nat.lt_of_lt_of_le hb k.size) (by omega) (by omega)).trans (k.block b zq hb)⟩
theorem MW.due {w5:World} {SB DB n:Nat} {M:Nat→Option Sv} {D D':List Nat} {W:World} (h:MW w5 SB DB n M D W) {x:Nat} {v:Bool} (hx:x < n) (hD:∀ j,j < n→dc (j ∈ D')=if j=x then v else dc (j ∈ D)):MW w5 SB DB n M D' (W.setCell ⟨DB,x,none⟩ (.bool v)):=by
 have hne:=h.ne;have eb:∀ b,b ≠ DB→(W.setCell ⟨DB,x,none⟩ (.bool v)).heap[b]? = W.heap[b]?:=fun b hb=>Below.heap_setCell _ _ _ _ hb;refine ⟨h.os,h.output,by simpa using h.size,fun b hb a c=>(eb b c).trans (h.block b hb a c),fun j hj=>?_,fun j=>by rw [set_fz];exact h.dz j,fun j=>(World.frozen?_of_block (eb SB hne)).trans (h.sz j),fun j hj=>(h.st j hj).on (fun t _=>World.cell?_of_block (eb SB hne)) (fun b _ hb _=>eb b hb),h.sl,h.dl,hne⟩;rw [hD j hj];by_cases e:j=x
 ·subst e;rw [if_pos rfl];exact set_eq _ _ _ _ _ (h.du j hj)
 ·rw [if_neg e,set_ne _ _ _ _ _ e];exact h.du j hj
def set3 (W:World) (SB x:Nat) (vt vg:Value):World:=((W.setCell ⟨SB,x*3,none⟩ (.bool true)).setCell ⟨SB,x*3+1,none⟩ vt).setCell ⟨SB,x*3+2,none⟩ vg
theorem MW.new {w5:World} {SB DB n:Nat} {M:Nat→Option Sv} {D:List Nat} {W:World} (h:MW w5 SB DB n M D W) {x:Nat} {vt vg:Value} {s:Sv} (hx:x < n) (r1:Rz (Av SB DB) W vt s.1) (r2:Rg (Av SB DB) W vg s.2):MW w5 SB DB n (upd M x s) D (set3 W SB x vt vg):=by
 have hne:=h.ne;have eb:∀ b,b ≠ SB→(set3 W SB x vt vg).heap[b]? = W.heap[b]?:=fun b hb=>((Below.heap_setCell _ _ _ _ hb).trans (Below.heap_setCell _ _ _ _ hb)).trans (Below.heap_setCell _ _ _ _ hb)
 have hex:(∃ u,W.cell? ⟨SB,x*3,none⟩=some u)∧(∃ u,W.cell? ⟨SB,x*3+1,none⟩=some u)∧∃ u,W.cell? ⟨SB,x*3+2,none⟩=some u:=by
  have:=h.st x hx;cases hm:M x with
  | none=>rw [hm] at this;exact ⟨⟨_,this.1⟩,this.2⟩
  | some s' =>
   rw [hm] at this;obtain ⟨h1,vt',vg',h2,h3,_⟩:=this;exact ⟨⟨_,h1⟩,⟨_,h2⟩,⟨_,h3⟩⟩
 obtain ⟨⟨u0,e0⟩,⟨u1,e1⟩,⟨u2,e2⟩⟩:=hex;have far:∀ j,j ≠ x*3→j ≠ x*3+1→j ≠ x*3+2→(set3 W SB x vt vg).cell? ⟨SB,j,none⟩=W.cell? ⟨SB,j,none⟩:=fun j a b c=>by unfold set3;rw [set_ne _ _ _ _ _ c,set_ne _ _ _ _ _ b,set_ne _ _ _ _ _ a]
 refine ⟨h.os,h.output,by unfold set3;simpa using h.size,fun b hb a c=>(eb b a).trans (h.block b hb a c),fun j hj=>(World.cell?_of_block (eb DB (fun e=>hne e.symm))).trans (h.du j hj),fun j=>(World.frozen?_of_block (eb DB (fun e=>hne e.symm))).trans (h.dz j),fun j=>by unfold set3;rw [set_fz,set_fz,set_fz];exact h.sz j,fun j hj=>?_,h.sl,h.dl,hne⟩;unfold upd;by_cases e:j=x
 ·subst e;rw [if_pos rfl];refine ⟨?_,vt,vg,?_,?_,r1.on (fun b hb _=>eb b hb.1),r2.on (fun b hb _=>eb b hb.1)⟩
  ·unfold set3;rw [set_ne _ _ _ _ _ (by omega),set_ne _ _ _ _ _ (by omega)];exact set_eq _ _ _ _ _ e0
  ·unfold set3;rw [set_ne _ _ _ _ _ (by omega)];exact set_eq _ _ _ _ _ (by rw [set_ne _ _ _ _ _ (by omega)];exact e1)
  ·unfold set3;exact set_eq _ _ _ _ _ (by rw [set_ne _ _ _ _ _ (by omega),set_ne _ _ _ _ _ (by omega)];exact e2)
 ·rw [if_neg e];exact (h.st j hj).on (fun t ht=>far _ (by omega) (by omega) (by omega)) (fun b hb _ _=>eb b hb)
noncomputable def fre (W:World) (SB n:Nat):Nat:=(List.range n).countP (fun j=>dc (W.cell? ⟨SB,j*3,none⟩=some (.bool false)))
noncomputable def onD (W:World) (DB n:Nat):Nat:=(List.range n).countP (fun j=>dc (W.cell? ⟨DB,j,none⟩=some (.bool true)))
noncomputable def freM (M:Nat→Option Sv) (n:Nat):Nat:=(List.range n).countP (fun j=>(M j).isNone)
noncomputable def onL (D:List Nat) (n:Nat):Nat:=(List.range n).countP (fun j=>dc (j ∈ D))
theorem MW.meas {w5:World} {SB DB n:Nat} {M:Nat→Option Sv} {D:List Nat} {W:World} (h:MW w5 SB DB n M D W):fre W SB n=freM M n∧onD W DB n=onL D n:=by
 constructor
 ·unfold fre freM;apply List.countP_congr;intro j hj;have:=h.st j (List.mem_range.1 hj);cases hm:M j with
  | none=>rw [hm] at this;rw [this.1];simp [dc]
  | some s=>rw [hm] at this;rw [this.1];simp [dc]
 ·unfold onD onL;apply List.countP_congr;intro j hj;rw [h.du j (List.mem_range.1 hj)];by_cases c:j ∈ D <;> simp [dc,c]
theorem freM_uns (M:Nat→Option Sv) (n:Nat):freM M n=unsB (fun j=>(M j).isSome) n:=by
 unfold freM unsB;apply List.countP_congr;intro j _;cases hM:M j <;> simp [hM]
theorem onL_uns (D:List Nat) (n:Nat):onL D n=unsB (fun j=>!dc (j ∈ D)) n:=by
 unfold onL unsB;apply List.countP_congr;intro j _
 simp
theorem freM_upd {M:Nat→Option Sv} {n x:Nat} {s:Sv} (hx:x < n) (hm:M x=none):freM (upd M x s) n+1=freM M n:=by
 rw [freM_uns,freM_uns];have:=unsB_set (Sn:=fun j=>(M j).isSome) hx (by simp [hm]);rw [← this]
 congr 1
 unfold unsB;apply List.countP_congr;intro j _;unfold upd;by_cases e:j=x <;> simp [e]
theorem onL_add {D D':List Nat} {n x:Nat} (hx:x < n) (hn:x ∉ D) (h:∀ j,j ∈ D'↔j=x∨j ∈ D):onL D' n=onL D n+1:=by
 rw [onL_uns,onL_uns];have:=unsB_set (Sn:=fun j=>!dc (j ∈ D')) hx (by simp [dc,(h x).2 (.inl rfl)]);rw [← this]
 congr 1
 unfold unsB;apply List.countP_congr;intro j _;by_cases e:j=x
 ·subst e;simp [dc,hn]
 ·have:j ∈ D'↔j ∈ D:=by rw [h j];simp [e]
  simp [e,dc,this]
noncomputable def mu (n:Nat) (st:St):Nat:=match st with | .ok M D=>2*freM M n+onL D n | .bad _ _=>0
theorem adv_mu {d:Pd} {st:St} {x:Nat × Sv} (h:SOk d st) (hx:x.1 < d.n):mu d.n (adv st x)≤mu d.n st:=by
 cases st with
 | bad c n=>exact Nat.le_refl _
 | ok M D =>
  have h:Inv d M D:=h;unfold adv;dsimp only;cases hm:M x.1 with
  | none =>
   dsimp only;show 2*freM (upd M x.1 x.2) d.n+onL (insD D x.1) d.n≤2*freM M d.n+onL D d.n;have h1:=freM_upd (s:=x.2) hx hm;have h2:=onL_add (D':=insD D x.1) hx (fun q=>(h.du _ q).2 hm) (fun j=>insD_mem);omega
  | some s =>
   dsimp only;split
   ·exact Nat.le_refl _
   ·exact Nat.zero_le _
theorem onL_cons {D:List Nat} {n i:Nat} (hi:i < n) (h:(i :: D).Pairwise (· < ·)):onL (i :: D) n=onL D n+1 :=
 onL_add hi (fun q=>by have:=(List.pairwise_cons.1 h).1 i q;omega) (fun j=>List.mem_cons)
def tf (g r:Nat):List Int:=List.replicate r 1 ++ List.replicate (g - r) 0
theorem tf_len {g r:Nat} (h:r≤g):(tf g r).length=g:=by unfold tf;rw [List.length_append,List.length_replicate,List.length_replicate];omega
theorem tf_step {g r:Nat} (h:r < g) (x:Int):(tf g r).set r x=List.replicate r 1 ++ x :: List.replicate (g - r - 1) 0:=by
 unfold tf;rw [List.set_append_right _ _ (by simp),List.length_replicate,Nat.sub_self,show g - r=(g - r - 1)+1 by omega,List.replicate_succ,List.set_cons_zero]
 simp
theorem tf_next {g r:Nat} (h:r < g):(tf g r).set r 1=tf g (r+1):=by
 rw [tf_step h];unfold tf;rw [List.replicate_succ',List.append_assoc,show g - r - 1=g - (r+1) by omega];rfl
theorem tf_end {d:Pd} {p:Nat} (h:Hd p d):(d.r=true→(tf d.g.toNat d.m.toNat).set d.m.toNat 3=t0 d)∧(¬ d.r=true→tf d.g.toNat d.m.toNat=t0 d)∧d.m.toNat≤d.g.toNat∧(d.r=true→d.m.toNat < d.g.toNat):=by
 obtain ⟨_,_,⟨g0,g1⟩,⟨m0,m1⟩,_⟩:=h;refine ⟨fun hr=>?_,fun hr=>?_,?_,fun hr=>?_⟩
 ·rw [if_pos hr] at m1;rw [tf_step (by omega)];unfold t0;rw [if_pos hr]
 ·unfold t0 tf;rw [if_neg hr]
 ·split at m1 <;> omega
 ·rw [if_pos hr] at m1;omega
theorem made_ints (w:World) (base g:Nat) (hb:base≤w.heap.size) (hg:g≤1000):(w.alloc (.cells (madeCells (.int .i64 0:Value).cells (g*1)) 3)).ownsRow base 3 1 (.slice (some ⟨w.heap.size,0,none⟩) g g) g (iv (tf g 0)):=by
 have:=World.ownsRow_lit (base:=base) (e:=3) (size:=1) w (madeCells (.int .i64 0:Value).cells (g*1)) g hb (by unfold maxLen;omega) (by simp [madeCells])
 have e:(madeCells (.int .i64 0:Value).cells (g*1)).toList=iv (tf g 0):=by
  apply List.ext_getElem?;intro j;unfold iv tf;rw [Nat.sub_zero,List.replicate_zero,List.nil_append,List.getElem?_map,List.getElem?_replicate];rcases Nat.lt_or_ge j g with h | h
  ·rw [if_pos h];have:=made_at w (.int .i64 0) 1 3 g rfl j 0 h (by omega);rw [World.cell?_alloc_mark] at this;rw [Array.getElem?_toList];rw [show (Value.int .i64 0).cells[0]? = some (.int .i64 0) from rfl,show j*1+0=j by omega] at this;rw [this];rfl
  ·rw [if_neg (by omega)];simp [madeCells,h]
 rw [e] at this;exact this
def WtA (r:Nat) (w:World) (e:Ending) (w':World):Prop:=∃ v,e = .returned v∧((wts r = []∧v = .slice none 0 0)∨(wts r ≠ []∧∃ b cap,v = .slice (some b) (wts r).length cap))∧Rz (fun k=>w.heap.size≤k) w' v (wts r)∧Kb 0 w w'
theorem rz_lit (w:World) (T:List Int) (hT:T ≠ []):Rz (fun k=>w.heap.size≤k) (w.alloc (.cells (iv T).toArray 3)) (.slice (some ⟨w.heap.size,0,none⟩) T.length T.length) T:=by
 refine ⟨_,_,rfl,Nat.le_refl _,fun _=>⟨_,rfl,Nat.le_refl _,fun j x hx=>?_⟩⟩;refine qr_cells w (iv T).toArray 3 (iv T) (by simp) j _ ?_;unfold iv;rw [List.getElem?_map,hx];rfl
theorem wt_nil (r:Nat) (w:World) (h:wts r = []):WtA r w (.returned (.slice none 0 0)) w:=⟨_,rfl,.inl ⟨h,rfl⟩,by rw [h];exact ⟨none,0,rfl,Nat.le_refl _,fun q=>by simp at q⟩,Kb.refl _ _⟩
theorem wt_lit (r:Nat) (w:World) (h:wts r ≠ []):WtA r w (.returned (.slice (some ⟨w.heap.size,0,none⟩) (wts r).length (wts r).length)) (w.alloc (.cells (iv (wts r)).toArray 3)):=⟨_,rfl,.inr ⟨h,_,_,rfl⟩,rz_lit w _ h,kb_alloc _ _ _⟩
theorem im_wants (r:Nat) (hr:r < 24) (w:World):Calls Tryz.prog 168 #[.int .u8 r] w (WtA r w):=by
 rcases (by omega:r=0∨r=1∨r=2∨r=3∨r=4∨r=5∨r=6∨r=7∨r=8∨r=9∨r=10∨r=11∨r=12∨r=13∨r=14∨r=15∨r=16∨r=17∨r=18∨r=19∨r=20∨r=21∨r=22∨r=23) with rfl | rfl | rfl | rfl | rfl | rfl | rfl | rfl | rfl | rfl | rfl | rfl | rfl | rfl | rfl | rfl | rfl | rfl | rfl | rfl | rfl | rfl | rfl | rfl
 all_goals
  clear hr;go_enter Tryz.func168,Tryz.ntmps168;go_wp2_with fail;refine bodyPost_ret (by simp [results,Tryz.results168,go_sem];rfl) rfl ?_
  first
   | exact wt_nil _ w (by decide)
   | exact wt_lit _ w (by decide)
theorem im_kept {av : Nat → Prop} {C : Nat} {G : List Gv} {vg : Value} (w : World) (hc : w.cell? ⟨C, 7, none⟩ = some vg) (r : Rg av w vg G) (hn : G.length ≤ 1000) (hg : ∀ g, g ∈ G → -1000 ≤ g.2.1 ∧ g.2.1 ≤ 1000) :
  Calls Tryz.prog 170 #[.pointer (some ⟨C,0,none⟩)] w fun e w'=>e = .returned (.int .i64 (kpt G))∧Kb 0 w w':=by
 obtain ⟨pg,cg,rfl,-,r1⟩:=r;have HA:Hid ((0 < G.length→∃ a:Addr,pg=some a∧av a.block∧∀ j x,G[j]? = some x→CelG w (a.add (j*3)) x)∧∀ g,g ∈ G → -1000≤g.2.1∧g.2.1≤1000):=(⟨r1,hg⟩:_∧_)
 have nI:(G.length:Int)≤1000:=by omega
 clear r1 hg hn;go_enter Tryz.func170,Tryz.ntmps170;go_wp2_with fail
 go_loopw [3,12] (fun s3 s12 wr=>∃ i:Nat,s12 = .int .i64 i∧i≤G.length∧s3 = .int .i64 ((G.take i).foldl kp1 0)∧Hid (Kb 0 w wr)) (fun _ s12 _=>G.length - (intOf s12).toNat)
 case atStart=>exact ⟨0,rfl,Nat.zero_le _,rfl,Kb.refl _ _⟩
 case round =>
  obtain ⟨i,rfl,hi,rfl,HX⟩:=hrel;have kw:=(uh HX)
  clear HX;rcases Nat.lt_or_ge i G.length with h | h
  ·have iI:(i:Int) < (G.length:Int):=by omega
   obtain ⟨r1,hg⟩:=(uh HA)
   obtain ⟨a,rfl,-,hrow⟩:=r1 (by omega);obtain ⟨x,hx⟩:∃ x,G[i]? = some x:=⟨_,List.getElem?_eq_getElem h⟩
   have q0:=kw.cell (hrow i x hx).c0;have q1:=kw.cell (hrow i x hx).c1;have q2:=kw.cell (hrow i x hx).c2;have e:(G.take (i+1)).foldl kp1 0=kp1 ((G.take i).foldl kp1 0) x:=by rw [take_app G i x hx,List.foldl_append];rfl
   have HE:Hid ((G.take (i+1)).foldl kp1 0=kp1 ((G.take i).foldl kp1 0) x):=e;have HK:Hid (∀ o,Kb 0 w (wr.alloc o)):=(fun o=>kw.alloc o:∀ o,_)
   have hx1:=hg x (List.mem_of_getElem? hx);clear kw hrow r1 hg e hx h;obtain ⟨x1,x2,x3⟩:=x;dsimp only at q0 q1 q2 hx1;obtain ⟨m,hm⟩:∃ m,m=(G.take i).foldl kp1 0:=⟨_,rfl⟩
   rw [← hm] at HE ⊢;clear hm;cases x1 with
   | false =>
    have HE2:Hid ((G.take (i+1)).foldl kp1 0=m):=HE;clear HE;go_wp2_with fail;go_roundw
    case rel=>exact ⟨i+1,by go_num,by omega,by rw [(uh HE2)],(uh HK) _⟩
    case measure=>simp [intOf];omega
   | true =>
    have HE2:Hid ((G.take (i+1)).foldl kp1 0=max m x2):=HE;clear HE;go_wp2_with fail;go_roundw
    case rel=>exact ⟨i+1,by go_num,by omega,by rw [(uh HE2)];first | rfl | (congr 1;omega) | simp [Int.max_def],(uh HK) _⟩
    case measure=>simp [intOf];omega
  ·have iI:¬ (i:Int) < (G.length:Int):=by omega
   have e:(G.take i).foldl kp1 0=kpt G:=by rw [List.take_of_length_le h];rfl
   rw [e];have HK:Hid (Kb 0 w wr):=kw;clear kw e;go_wp2_with fail;go_ret;exact ⟨rfl,HK⟩
theorem im_eqi {av bv : Nat → Prop} {T T2 : List Int} {va vb : Value} (w : World) (h1 : Rz av w va T) (h2 : Rz bv w vb T2) (hn : T.length ≤ 1000 ∧ T2.length ≤ 1000) :
    Calls Tryz.prog 124 #[va,vb] w fun e w'=>e = .returned (.bool (dc (T=T2)))∧Kb 0 w w':=by
  obtain ⟨pa,ca,rfl,-,a1⟩:=h1;obtain ⟨pb,cb,rfl,-,a2⟩:=h2;have HA:Hid ((0 < T.length→∃ a:Addr,pa=some a∧av a.block∧∀ j x,T[j]? = some x→w.cell? (a.add j)=some (.int .i64 x))∧(0 < T2.length→∃ a:Addr,pb=some a∧bv a.block∧∀ j x,T2[j]? = some x→w.cell? (a.add j)=some (.int .i64 x))):=(⟨a1,a2⟩:_∧_)
  have n1:(T.length:Int)≤1000:=by omega
  have n2:(T2.length:Int)≤1000:=by omega
  obtain ⟨R,hR⟩:∃ R,R=dc (T=T2):=⟨_,rfl⟩
  rw [← hR];have HR:Hid (R=dc (T=T2)):=hR;clear hR a1 a2 hn;by_cases e1:T.length=T2.length
  rotate_left
  · have hF:R=false:=by rw [(uh HR)];exact dc_f (fun q=>e1 (by rw [q]))
    have g1:((T.length:Int) == (T2.length:Int))=false:=bne (by omega);subst hF;clear HA HR e1 n1 n2;go_enter Tryz.func124,Tryz.ntmps124;go_wp2_with fail;go_ret;exact ⟨rfl,Kb.refl _ _⟩
  have HE:Hid (T.length=T2.length):=e1;rw [← e1];clear e1 n2;go_enter Tryz.func124,Tryz.ntmps124;go_wp2_with fail
  go_loopw [13] (fun sl wr=>∃ i:Nat,sl = .int .i64 i∧i≤T.length∧Hid (Kb 0 w wr∧∀ j,j < i→T[j]? = T2[j]?)) (fun sl _=>T.length - (intOf sl).toNat)
  case atStart=>exact ⟨0,rfl,Nat.zero_le _,(⟨Kb.refl _ _,fun j h=>by omega⟩:_∧_)⟩
  case round =>
    obtain ⟨i,rfl,hi,HX⟩:=hrel;obtain ⟨kw,hX⟩:=(uh HX)
    clear HX;rcases Nat.lt_or_ge i T.length with h | h
    · have hI:(i:Int) < (T.length:Int):=by omega
      obtain ⟨A1,A2⟩:=(uh HA)
      have E1:=(uh HE)
      obtain ⟨a,rfl,-,ra⟩:=A1 (by omega);obtain ⟨b,rfl,-,rb⟩:=A2 (by omega);obtain ⟨p,hp⟩:∃ p,T[i]? = some p:=⟨_,List.getElem?_eq_getElem h⟩
      obtain ⟨q,hq⟩:∃ q,T2[i]? = some q:=⟨_,List.getElem?_eq_getElem (by omega)⟩
      have s1:=kw.cell (ra i p hp);have s2:=kw.cell (rb i q hq);by_cases e:p=q
      · have HN : Hid (∀ m, Kb 0 w (wr.drewN m) ∧ ∀ j, j < i + 1 → T[j]? = T2[j]?) := (fun m => ⟨kw.drewN m, fun j hj => by
          by_cases ej:j=i
          · subst ej;rw [hp,hq,e]
          · exact hX j (by omega)⟩:∀ m,_)
        have g3:(p == q)=true:=beq1 e;clear hX kw ra rb A1 A2 hp hq E1;go_wp2_with fail
        go_quiet (skip)
        go_wp2_with fail;go_roundw
        case rel=>exact ⟨i+1,by go_num,by omega,(uh HN) _⟩
        case measure=>simp [intOf];omega
      · have hF : R = false := by
          rw [(uh HR)];refine dc_f (fun z=>e ?_);have:=hp;rw [z,hq] at this
          simpa using this.symm
        have g3:(p == q)=false:=bne e;subst hF;have HN:Hid (∀ m,Kb 0 w (wr.drewN m)):=(fun m=>kw.drewN m:∀ m,_)
        clear hX kw ra rb A1 A2 hp hq E1 HR;go_wp2_with fail
        go_quiet (skip)
        go_wp2_with fail;go_ret;exact ⟨rfl,(uh HN) _⟩
    · have hI:¬ (i:Int) < (T.length:Int):=by omega
      have hTT:T=T2:=List.ext_getElem? (fun j=>by
        rcases Nat.lt_or_ge j T.length with hj | hj
        · exact hX j (by omega)
        · rw [List.getElem?_eq_none hj,List.getElem?_eq_none (by have:=(uh HE);omega)])
      have hT:R=true:=by rw [(uh HR)];exact dc_t hTT
      subst hT;have HK:Hid (Kb 0 w wr):=kw;clear hX kw hTT HR HA;go_wp2_with fail;go_ret;exact ⟨rfl,HK⟩
theorem im_eqg {av bv : Nat → Prop} {T T2 : List Gv} {va vb : Value} (w : World) (h1 : Rg av w va T) (h2 : Rg bv w vb T2) (hn : T.length ≤ 1000 ∧ T2.length ≤ 1000) :
    Calls Tryz.prog 125 #[va,vb] w fun e w'=>e = .returned (.bool (dc (T=T2)))∧Kb 0 w w':=by
  obtain ⟨pa,ca,rfl,-,a1⟩:=h1;obtain ⟨pb,cb,rfl,-,a2⟩:=h2;have HA:Hid ((0 < T.length→∃ a:Addr,pa=some a∧av a.block∧∀ j x,T[j]? = some x→CelG w (a.add (j*3)) x)∧(0 < T2.length→∃ a:Addr,pb=some a∧bv a.block∧∀ j x,T2[j]? = some x→CelG w (a.add (j*3)) x)):=(⟨a1,a2⟩:_∧_)
  have n1:(T.length:Int)≤1000:=by omega
  have n2:(T2.length:Int)≤1000:=by omega
  obtain ⟨R,hR⟩:∃ R,R=dc (T=T2):=⟨_,rfl⟩
  rw [← hR];have HR:Hid (R=dc (T=T2)):=hR;clear hR a1 a2 hn;by_cases e1:T.length=T2.length
  rotate_left
  · have hF:R=false:=by rw [(uh HR)];exact dc_f (fun q=>e1 (by rw [q]))
    have g1:((T.length:Int) == (T2.length:Int))=false:=bne (by omega);subst hF;clear HA HR e1 n1 n2;go_enter Tryz.func125,Tryz.ntmps125;go_wp2_with fail;go_ret;exact ⟨rfl,Kb.refl _ _⟩
  have HE:Hid (T.length=T2.length):=e1;rw [← e1];clear e1 n2;go_enter Tryz.func125,Tryz.ntmps125;go_wp2_with fail
  go_loopw [13] (fun sl wr=>∃ i:Nat,sl = .int .i64 i∧i≤T.length∧Hid (Kb 0 w wr∧∀ j,j < i→T[j]? = T2[j]?)) (fun sl _=>T.length - (intOf sl).toNat)
  case atStart=>exact ⟨0,rfl,Nat.zero_le _,(⟨Kb.refl _ _,fun j h=>by omega⟩:_∧_)⟩
  case round =>
    obtain ⟨i,rfl,hi,HX⟩:=hrel;obtain ⟨kw,hX⟩:=(uh HX)
    clear HX;rcases Nat.lt_or_ge i T.length with h | h
    · have hI:(i:Int) < (T.length:Int):=by omega
      obtain ⟨A1,A2⟩:=(uh HA)
      have E1:=(uh HE)
      obtain ⟨a,rfl,-,ra⟩:=A1 (by omega);obtain ⟨b,rfl,-,rb⟩:=A2 (by omega);obtain ⟨p,hp⟩:∃ p,T[i]? = some p:=⟨_,List.getElem?_eq_getElem h⟩
      obtain ⟨q,hq⟩:∃ q,T2[i]? = some q:=⟨_,List.getElem?_eq_getElem (by omega)⟩
      have s1:=kw.cell (ra i p hp).c0;have s2:=kw.cell (ra i p hp).c1;have s3:=kw.cell (ra i p hp).c2;have s4:=kw.cell (rb i q hq).c0;have s5:=kw.cell (rb i q hq).c1;have s6:=kw.cell (rb i q hq).c2;by_cases e:p=q
      · have HN : Hid (∀ m, Kb 0 w (wr.drewN m) ∧ ∀ j, j < i + 1 → T[j]? = T2[j]?) := (fun m => ⟨kw.drewN m, fun j hj => by
          by_cases ej:j=i
          · subst ej;rw [hp,hq,e]
          · exact hX j (by omega)⟩:∀ m,_)
        have g3:=fun w=>neq_guard p q w;rw [dc_f (fun g=>g e)] at g3;clear hX kw ra rb A1 A2 hp hq E1;go_wp2_with fail
        go_quiet (skip)
        go_wp2_with fail;go_roundw
        case rel=>exact ⟨i+1,by go_num,by omega,(uh HN) _⟩
        case measure=>simp [intOf];omega
      · have hF : R = false := by
          rw [(uh HR)];refine dc_f (fun z=>e ?_);have:=hp;rw [z,hq] at this
          simpa using this.symm
        have g3:=fun w=>neq_guard p q w;rw [dc_t e] at g3;subst hF;have HN:Hid (∀ m,Kb 0 w (wr.drewN m)):=(fun m=>kw.drewN m:∀ m,_)
        clear hX kw ra rb A1 A2 hp hq E1 HR;go_wp2_with fail
        go_quiet (skip)
        go_wp2_with fail;go_ret;exact ⟨rfl,(uh HN) _⟩
    · have hI:¬ (i:Int) < (T.length:Int):=by omega
      have hTT:T=T2:=List.ext_getElem? (fun j=>by
        rcases Nat.lt_or_ge j T.length with hj | hj
        · exact hX j (by omega)
        · rw [List.getElem?_eq_none hj,List.getElem?_eq_none (by have:=(uh HE);omega)])
      have hT:R=true:=by rw [(uh HR)];exact dc_t hTT
      subst hT;have HK:Hid (Kb 0 w wr):=kw;clear hX kw hTT HR HA;go_wp2_with fail;go_ret;exact ⟨rfl,HK⟩
theorem im_index {av : Nat → Prop} {T : List Int} {va : Value} (x : Int) (w : World) (h1 : Rz av w va T) (hn : T.length ≤ 1000) :
  Calls Tryz.prog 186 #[va,.int .i64 x] w fun e w'=>∃ r:Int,e = .returned (.int .i64 r)∧(0≤r↔x ∈ T)∧w'=w:=by
 obtain ⟨pa,ca,rfl,-,a1⟩:=h1;have HA:Hid (0 < T.length→∃ a:Addr,pa=some a∧av a.block∧∀ j x,T[j]? = some x→w.cell? (a.add j)=some (.int .i64 x)):=a1;have n1:(T.length:Int)≤1000:=by omega
 clear a1 hn;go_enter Tryz.func186,Tryz.ntmps186;go_wp2_with fail
 go_loopw [8] (fun sl wr=>∃ i:Nat,sl = .int .i64 i∧i≤T.length∧wr=w∧Hid (∀ j,j < i→T[j]? ≠ some x)) (fun sl _=>T.length - (intOf sl).toNat)
 case atStart=>exact ⟨0,rfl,Nat.zero_le _,rfl,(fun j h=>by omega:∀ j,_)⟩
 case round =>
  obtain ⟨i,rfl,hi,rfl,HX⟩:=hrel
  rename World=>w
  have hX:=(uh HX)
  clear HX;rcases Nat.lt_or_ge i T.length with h | h
  ·have hI:(i:Int) < (T.length:Int):=by omega
   obtain ⟨a,rfl,-,ra⟩:=(uh HA) (by omega)
   obtain ⟨p,hp⟩:∃ p,T[i]? = some p:=⟨_,List.getElem?_eq_getElem h⟩
   have s1:=ra i p hp;by_cases e:x=p
   ·have g3:(x == p)=true:=beq1 e;have HZ:Hid (0≤(i:Int)↔x ∈ T):=(⟨fun _=>by rw [e];exact List.mem_of_getElem? hp,fun _=>by omega⟩:_↔_)
    clear hX ra hp e HA;go_wp2_with fail;go_ret;exact ⟨_,rfl,HZ,rfl⟩
   ·have g3:=bne e
    have HN:Hid (∀ j,j < i+1→T[j]? ≠ some x):=(fun j hj=>by
     by_cases ej:j=i
     ·subst ej;rw [hp];intro q;exact e (by simpa using q.symm)
     ·exact hX j (by omega):∀ j,_)
    clear hX ra hp e HA;go_wp2_with fail;go_roundw
    case rel=>exact ⟨i+1,by go_num,by omega,by simp,HN⟩
    case measure=>simp [intOf];omega
  ·have hI:¬ (i:Int) < (T.length:Int):=by omega
   have HZ:Hid (0≤(-1:Int)↔x ∈ T):=(⟨fun q=>by omega,fun q=>by
    obtain ⟨j,hj⟩:=List.getElem?_of_mem q
    exact absurd hj (hX j (by have:=(List.getElem?_eq_some_iff.1 hj).1;omega))⟩:_↔_)
   clear hX HA;go_wp2_with fail;go_ret;exact ⟨_,rfl,HZ,rfl⟩
theorem im_contains {av : Nat → Prop} {T : List Int} {va : Value} (x : Int) (w : World) (h1 : Rz av w va T) (hn : T.length ≤ 1000) :
  Calls Tryz.prog 169 #[va,.int .i64 x] w fun e w'=>e = .returned (.bool (dc (x ∈ T)))∧w'=w:=by
 have HI:=im_index x w h1 hn;obtain ⟨pa,ca,rfl,-,-⟩:=h1;obtain ⟨R,hR⟩:∃ R,R=dc (x ∈ T):=⟨_,rfl⟩
 rw [← hR];clear hn;go_enter Tryz.func169,Tryz.ntmps169;go_wp2_with fail;refine HI.mono ?_;rintro e w2 ⟨r,rfl,hr,rfl⟩;by_cases c:x ∈ T
 ·have g:=hr.2 c;rw [dc_t c] at hR;subst hR;clear hr HI c;go_wp2_with fail;go_ret;exact ⟨by first | rfl | simp | simp [g],rfl⟩
 ·have g:¬ 0≤r:=fun q=>c (hr.1 q);rw [dc_f c] at hR;subst hR;clear hr HI c;go_wp2_with fail;go_ret;exact ⟨by first | rfl | (simp;omega),rfl⟩
