import Derived.Test.YtohbcpfjjimdnaaGreatDoorMTnb
import Derived.Test.YtohbcpfjjimdnaaGreatDoorMTmz
set_option maxHeartbeats 8000000
namespace Go.Proofs.YtohbcpfjjimdnaaGreatDoor.Fo
open Go.ChangeShapes Go.WideShapes Go.ChangeAt Go.RowKit
set_option linter.unusedVariables false
set_option maxRecDepth 100000
variable {np i r n SB DB j b:Nat}{d:Pd}{s:Sv}{T:List Int}{G:List Gv}{x:Int}{s':Rs}{a:Iv}{F:Nat->Pd}{c:Array Value}{W W' w5:World}{m:Option Sv}{v va vb:Value}{t:TypeId}{M:Nat->Option Sv}{D:List Nat}
theorem sp_fol{av:Nat->Prop}{pn:Option Addr}{cn:Nat}{vu vc vd vt0 vg0 vt1 vg1:Value}(w:World)(hrow:RowI 0 w (.slice pn d.n cn) d.n d.N)(hi:i<d.n)(hn:d.n<=1048576)(hx:IsSl vu/\IsSl vc/\IsSl vd)(r0:Rz av w vt0 s.1)(r1:Rg av w vg0 s.2)(r2:Rz av w vt1 T)(r3:Rg av w vg1 G)(hav:∀k,w.heap.size<=k->av k)(hlen:s.1.length<=250/\T.length=s.1.length)(ht:Tok np d (d.N i))(hg:(s.1.length:Int)=d.g)(h41:(d.N i).o=41->(T.set (d.N i).c.toNat (s.1.getD (d.N i).c.toNat 0),G)=s):
  Calls Tryz.prog 38 #[.agg #[.string d.x,.int .i64 d.l,.int .i64 d.m,.bool d.r,.int .i64 d.g,vu,vc,.slice pn d.n cn,vd],.int .i64 i,.agg #[.bool true,vt0,vg0],vt1,vg1] w (FoA av (fol (d.N i) i s T G) w):=by
 have fa:∀o:Nat,(d.N i).o=(o:Int)->∀j,j<4->(rg np d (pcl (pr o j))).1<=fld (d.N i) j/\fld (d.N i) j<=(rg np d (pcl (pr o j))).2:=λo ho j hj=>by
  have:=ht.2.2 j hj;rw[show(d.N i).o.toNat=o by omega]at this;exact this
 rcases hd:d.N i with⟨o,oa,ob,oc,od⟩;rw[hd]at fa h41;rw[<-hd];by_cases h:o=29
 ·exact fo_29 w hrow hi hn hx hd r0 r1 r2 r3 hav hlen h
 have n29:=h;clear h;by_cases h:o=30
 ·exact fo_30 w hrow hi hn hx hd r0 r1 r2 r3 hav hlen h
 have n30:=h;clear h;by_cases h:o=19
 ·have h0:0<=oa/\_:=fa 19 h 0 (by omega);exact fo_19 w hrow hi hn hx hd r0 r1 r2 r3 hav hlen h h0.1
 have n19:=h;clear h;by_cases h:o=20
 ·have h0:0<=ob/\_:=fa 20 h 1 (by omega);exact fo_20 w hrow hi hn hx hd r0 r1 r2 r3 hav hlen h h0.1
 have n20:=h;clear h;by_cases h:o=21
 ·have h0:0<=ob/\_:=fa 21 h 1 (by omega);exact fo_21 w hrow hi hn hx hd r0 r1 r2 r3 hav hlen h h0.1
 have n21:=h;clear h;by_cases h:o=38
 ·have h0:0<=ob/\_:=fa 38 h 1 (by omega);exact fo_38 w hrow hi hn hx hd r0 r1 r2 r3 hav hlen h h0.1
 have n38:=h;clear h;by_cases h:o=39
 ·have h0:0<=ob/\_:=fa 39 h 1 (by omega);exact fo_39 w hrow hi hn hx hd r0 r1 r2 r3 hav hlen h h0.1
 have n39:=h;clear h;by_cases h:o=41
 ·have h0:0<=ob/\_:=fa 41 h 1 (by omega);have h2:0<=oc/\oc<=d.g-1:=fa 41 h 2 (by omega);exact fo_41 w hrow hi hn hx hd r0 r1 r2 r3 hav hlen h h0.1 ⟨h2.1,by omega⟩ (h41 h)
 have n41:=h;clear h;by_cases h:o=31
 ·have h0:0<=oa/\_:=fa 31 h 0 (by omega);have h2:0<=ob/\ob<=d.g-2:=fa 31 h 1 (by omega);exact fo_31 w hrow hi hn hx hd r0 r1 r2 r3 hav hlen h h0.1 ⟨h2.1,by omega⟩
 exact fo_oth w hrow hi hn hx hd r0 r1 r2 r3 hav hlen ⟨n19,n29,n30,n20,n21,n38,n39,n41,h⟩
theorem put1_len(r:Nat)(x:Int)(T:List Int):(put1 r x T).length=T.length:=by
 unfold put1
 repeat' split
 all_goals simp
theorem put_len(a:Iv)(T:List Int):(put a T).length=T.length:=by
 have:∀j,(putn a T j).length=T.length:=λj=>by
  induction j with
  |zero=>rfl
  |succ j ih=>show(put1 _ _ (putn a T j)).length=_;rw[put1_len,ih]
 exact this 4
theorem rd1_T{s:Rs}(h:rd1 r x s=some s')(hx:wts r=[]\/¬x<0):s'.T=s.T:=by
 unfold rd1 at h;split at h
 ·cases h;rfl
 ·rename_i hw
  have hx:=hx.resolve_left hw;split at h
  ·cases h
   first|rw[if_neg hx]|skip
   split<;>rfl
  ·cases h
theorem rd1_K{s:Rs}(h:rd1 r x s=some s')(hk:∀k,k ∈ s.K->0<=k):∀k,k ∈ s'.K->0<=k:=by
 unfold rd1 at h;split at h
 ·cases h;exact hk
 ·split at h
  ·cases h;split
   ·rename_i hx
    intro k hk';rw[List.mem_append]at hk';rcases hk' with q|q
    ·exact hk k q
    ·have:k=rgt x:=by simpa using q
     rw[this];unfold rgt;rw[if_pos hx];omega
   ·split
    ·exact hk
    ·exact hk
  ·cases h
theorem rdn_K {a:Iv} {T:List Int}:∀(j:Nat) (s:Rs),rdn a T j=some s->∀k,k ∈ s.K->0<=k
 |0,s,h=>by cases h;intro k hk;cases hk
 |j+1,s,h=>by
  cases hr:rdn a T j with
  |none=>
   have h':(rdn a T j).bind (rd1 (pr a.o.toNat j) (fld a j))=some s:=h;rw[hr]at h';cases h'
  |some s'=>
   rw[rdn_next hr]at h;exact rd1_K h (rdn_K j s' hr)
theorem rdn_T {a:Iv} {T:List Int} (hx:∀j,j<4->wts (pr a.o.toNat j)=[]\/¬fld a j<0):∀(j:Nat) (s:Rs),j<=4->rdn a T j=some s->s.T=T
 |0,s,_,h=>by cases h;rfl
 |j+1,s,hj,h=>by
  cases hr:rdn a T j with
  |none=>
   have h':(rdn a T j).bind (rd1 (pr a.o.toNat j) (fld a j))=some s:=h;rw[hr]at h';cases h'
  |some s'=>
   rw[rdn_next hr]at h;rw[rd1_T h (hx j (by omega))];exact rdn_T hx j s' (by omega) hr
theorem set_back(T:List Int)(k:Nat)(x:Int):(T.set k x).set k (T.getD k 0)=T:=by
 apply List.ext_getElem?;intro j;rw[List.getElem?_set,List.getElem?_set,List.length_set];by_cases e:k=j
 ·subst e;rw[if_pos rfl];split
  ·rename_i h
   rw[List.getD_eq_getElem?_getD,List.getElem?_eq_getElem h];rfl
  ·rename_i h
   rw[List.getElem?_eq_none (by omega)]
 ·rw[if_neg e,if_neg e]
theorem h41_of{r:Rs}(ht:Tok np d a)(hr:rd a s.1=some r)(ho:a.o=41):((put a r.T).set a.c.toNat (s.1.getD a.c.toNat 0),gbh a s.2)=s:=by
 have e:a.o.toNat=41:=by omega
 have h0:=ht.2.2 0 (by omega);rw[e]at h0;have h0:0<=a.a/\_:=h0
 have hT:r.T=s.1:=rdn_T (λj hj=>by
  rw[e];rcases(by omega:j=0\/j=1\/j=2\/j=3)with rfl|rfl|rfl|rfl
  ·exact .inr (by show ¬a.a<0;omega)
  ·exact .inl (by decide)
  ·exact .inl (by decide)
  ·exact .inl (by decide)) 4 r (Nat.le_refl _) hr
 have hp:put a r.T=s.1.set a.c.toNat 3:=by
  rw[hT];show put1 (pr a.o.toNat 3) _ (put1 (pr a.o.toNat 2) a.c (put1 (pr a.o.toNat 1) _ (put1 (pr a.o.toNat 0) _ s.1)))=_;rw[e];rfl
 have hg:gbh a s.2=s.2:=by unfold gbh;simp[ho]
 rw[hp,set_back,hg]
theorem still(ho:a.o=32):rd a T=some ⟨T,[],[]⟩/\put a T=T:=by
 have e:a.o.toNat=32:=by omega
 have st:∀j,j<4->rdn a T j=some ⟨T,[],[]⟩->rdn a T (j+1)=some ⟨T,[],[]⟩:=λj hj hh=>by
  rw[rdn_next hh,e];unfold rd1;rw[if_pos (by rcases(by omega:j=0\/j=1\/j=2\/j=3)with rfl|rfl|rfl|rfl<;>decide)]
 refine⟨st 3 (by omega) (st 2 (by omega) (st 1 (by omega) (st 0 (by omega) rfl))),?_⟩;show put1 (pr a.o.toNat 3) _ (put1 (pr a.o.toNat 2) _ (put1 (pr a.o.toNat 1) _ (put1 (pr a.o.toNat 0) _ T)))=_;rw[e];rfl
theorem kpt_mem{r:Int}(h0:0<=r)(h:r<kpt G):∃g,g ∈ G/\g.1=true/\r<g.2.1:=by
 apply Classical.byContradiction;intro q
 have:kpt G<=r:=(above_iff h0).1 (λg hg h1=>by
  apply Classical.byContradiction;intro q2
  exact q ⟨g,hg,h1,by omega⟩)
 omega
theorem kept_iff{A:List Int}{r:Rs}(ht:Tok np d a)(hr:rd a A=some r)(hG:Gok d G)(hl:(A.length:Int)=d.g):KeptP a G (mk a 4 r.K) A (put a r.T)↔spr a G A (put a r.T) r.K:=by
 have hlen:(put a r.T).length=A.length:=by rw[put_len];exact(rdn_len 4 r hr).1
 have h40:a.o=40->0<=a.a:=λe=>by
  have:=ht.2.2 0 (by omega);rw[show a.o.toNat=40 by omega]at this;have:0<=a.a/\_:=this;exact this.1
 have hkm:∀k,k ∈ mk a 4 r.K->0<=k:=λk hk=>by
  unfold mk at hk;rcases List.mem_append.1 hk with q|q
  ·exact rdn_K 4 r hr k q
  ·by_cases e:a.o=40
   ·rw[if_pos ⟨e,by omega⟩]at q;have:k=a.a:=by simpa using q
    rw[this];exact h40 e
   ·rw[if_neg (λq=>e q.1)]at q;cases q
 constructor
 ·intro h
  have hk:∀k,k ∈ mk a 4 r.K->kpt G<=k:=λk hk=>(above_iff (hkm k hk)).1 (λg hg h1=>by
   obtain⟨j,hj⟩:=List.getElem?_of_mem hg
   exact(h j g (List.getElem?_eq_some_iff.1 hj).1 hj h1).1 k hk)
  refine⟨λq=>?_,?_,λk hk'=>hk k (List.mem_append_left _ hk')⟩
  ·have:=hk a.a (by unfold mk;rw[if_pos ⟨q.1,by omega⟩];simp);omega
  ·by_cases e32:a.o=32
   ·obtain⟨s1,s2⟩:=still (T:=A) e32;rw[hr]at s1;cases s1;rw[s2]
   ·apply List.ext_getElem?;intro j;rw[List.getElem?_take,List.getElem?_take];split
    ·rename_i hj
     obtain⟨g,hg,h1,h2⟩:=kpt_mem (G:=G) (r:=(j:Int)) (by omega) (by have:=kpt_nn G;omega);obtain⟨y,hy⟩:=List.getElem?_of_mem hg;exact((h y g (List.getElem?_eq_some_iff.1 hy).1 hy h1).2 (λq=>e32 q.1) j h2).symm
    ·rfl
 ·rintro⟨h1,h2,h3⟩ j g hj hg hgt;have hle:g.2.1<=kpt G:=(above_iff (kpt_nn G)).2 (Int.le_refl _) g (List.mem_of_getElem? hg) hgt;refine⟨λk hk=>?_,λ_ y hy=>?_⟩
  ·unfold mk at hk;rcases List.mem_append.1 hk with q|q
   ·have:=h3 k q;omega
   ·by_cases e:a.o=40
    ·rw[if_pos ⟨e,by omega⟩]at q;have:k=a.a:=by simpa using q
     have:¬a.a<kpt G:=λq=>h1 ⟨e,q⟩;omega
    ·rw[if_neg (λq=>e q.1)]at q;cases q
  ·have e:=congrArg (λl=>l[y]?) h2;simp only[List.getElem?_take]at e;rw[if_pos (by omega),if_pos (by omega)]at e;exact e.symm
theorem gok_bh(ht:Tok np d a)(h:Gok d G)(hf:gfit a G):Gok d (gbh a G):=by
 have hdl:∀g,g ∈ G.dropLast->0<=g.2.1/\g.2.1<=d.g:=λg hg=>h.2 g (List.dropLast_subset _ hg);have hdn:G.dropLast.length<=50:=by rw[List.length_dropLast];have:=h.1;omega
 unfold gbh;split
 ·rename_i e
  have h1:=ht.2.2 1 (by omega);rw[show a.o.toNat=31 by omega]at h1;have h1:0<=a.b/\a.b<=d.g-2:=h1;unfold gfit at hf;simp[e]at hf;refine⟨by simp;omega,λg hg=>?_⟩;rcases List.mem_append.1 hg with q|q
  ·exact h.2 g q
  ·have:g=(true,a.b,a.a):=by simpa using q
   rw[this];exact⟨h1.1,by show a.b<=d.g;omega⟩
 split
 ·rename_i _ e
  have h1:=ht.2.2 0 (by omega);rw[show a.o.toNat=33 by omega]at h1;have h1:0<=a.a/\a.a<=d.g:=h1;unfold gfit at hf;simp[e]at hf;refine⟨by simp;omega,λg hg=>?_⟩;rcases List.mem_append.1 hg with q|q
  ·exact h.2 g q
  ·have:g=(false,a.a,0):=by simpa using q
   rw[this];exact h1
 split
 ·rename_i _ _ e
  have h1:=ht.2.2 0 (by omega);rw[show a.o.toNat=34 by omega]at h1;have h1:0<=a.a/\a.a<=d.g:=h1;unfold gfit at hf;simp[e]at hf;have hne:G≠ []:=λq=>by rw[q]at hf;simp[dfr]at hf
  obtain⟨m,g,hL⟩:=last_of hne;rw[hL.2.2.2.2.2.2];refine⟨by simp;have:=hL.1;have:=h.1;omega,λg' hg'=>?_⟩;rcases List.mem_append.1 hg' with q|q
  ·exact hdl g' q
  ·have:g'=(g.1,a.a,g.2.2):=by simpa using q
   rw[this];exact h1
 split
 ·exact⟨hdn,hdl⟩
 ·exact h
theorem fol_okk(hI:Iok np d i)(hi:i<d.n)(hs:Sok' d s)(hT:T.length=s.1.length)(hG:Gok d G):∀x,x ∈ fol (d.N i) i s T G->x.1<d.n/\Sok' d x.2:=by
 intro x hx
 have fa:∀o:Nat,(d.N i).o=(o:Int)->∀j,j<4->(rg np d (pcl (pr o j))).1<=fld (d.N i) j/\fld (d.N i) j<=(rg np d (pcl (pr o j))).2:=λo ho j hj=>by
  have:=hI.1.2.2 j hj;rw[show(d.N i).o.toNat=o by omega]at this;exact this
 have hTG:Sok' d (T,G):=⟨by show(T.length:Int)=d.g;rw[hT];exact hs.1,hG⟩
 unfold fol at hx;rcases List.mem_append.1 hx with q|q
 ·split at q
  ·cases q
  ·rename_i he
   have:x=(i+1,(T,G)):=by simpa using q
   rw[this];refine⟨?_,hTG⟩;show i+1<d.n;have:i+1≠d.n:=λe=>he (hI.2 e);omega
 ·obtain⟨t,ht,rfl⟩:=List.mem_map.1 q
  have ht2:0<=t/\t<=(d.n:Int)-1:=by
   unfold tgt at ht;split at ht
   ·rename_i e
    have:t=(d.N i).a:=by simpa using ht
    rw[this];rcases e with e|e
    ·exact fa 19 e 0 (by omega)
    ·exact fa 31 e 0 (by omega)
   split at ht
   ·rename_i _ e
    have:t=(d.N i).b:=by simpa using ht
    rw[this];rcases e with e|e|e|e|e
    ·exact fa 20 e 1 (by omega)
    ·exact fa 21 e 1 (by omega)
    ·exact fa 38 e 1 (by omega)
    ·exact fa 39 e 1 (by omega)
    ·exact fa 41 e 1 (by omega)
   ·cases ht
  refine⟨by show t.toNat<d.n;omega,?_⟩;show Sok' d (att (d.N i) s T G);unfold att;split
  ·exact hs
  split
  ·rename_i _ e
   have h1:0<=(d.N i).b/\(d.N i).b<=d.g-2:=fa 31 e 1 (by omega);refine⟨?_,hs.2⟩;have hsl:=hs.1;show((tcl s.1 (d.N i).b).length:Int)=d.g;unfold tcl;rw[List.length_append,List.length_take,List.length_cons,List.length_cons,List.length_replicate];omega
  ·exact hTG
theorem stp_ok(hI:Iok np d i)(hi:i<d.n)(hs:Sok' d s)(h0:(stp F (d.N i) i s).1=0):∀x,x ∈ (stp F (d.N i) i s).2->x.1<d.n/\Sok' d x.2:=by
 unfold stp at h0⊢;split at h0
 ·simp at h0
 rename_i hb
 rw[if_neg hb];split at h0
 ·simp at h0
 ·rename_i r hr
  first|rw[hr]|skip
  try dsimp only
  split at h0
  ·simp at h0
  rename_i hf
  split at h0
  ·simp at h0
  rename_i hsp
  rw[if_neg hf,if_neg hsp];exact fol_okk hI hi hs (by rw[put_len];exact(rdn_len 4 r hr).1) (gok_bh hI.1 hs.2 (Classical.not_not.1 hf))
theorem t0_len{p:Nat}(h:Hd p d):((t0 d).length:Int)=d.g:=by
 obtain⟨_,_,⟨g0,g1⟩,⟨m0,m1⟩,_⟩:=h;unfold t0;split
 ·rename_i hr
  rw[if_pos hr]at m1;rw[List.length_append,List.length_replicate,List.length_cons,List.length_replicate];omega
 ·rename_i hr
  rw[if_neg hr]at m1;rw[List.length_append,List.length_replicate,List.length_replicate];omega
theorem wit_ok {np p:Nat} {F:Nat->Pd} {d:Pd} (hI:∀i,i<d.n->Iok np d i) (h0:0<d.n) (hd:Hd p d):∀k,SOk d (wit F d k)
 |0=>by
  refine⟨by simp,λi hi=>?_,λi s hs=>?_⟩
  ·have:i=0:=by simpa using hi
   subst this;exact⟨h0,by simp[upd]⟩
  ·unfold upd at hs;split at hs
   ·rename_i e
    subst e;cases hs;exact⟨h0,t0_len hd,by simp,λg hg=>by cases hg⟩
   ·cases hs
 |k+1=>by
  have ih:=wit_ok (F:=F) hI h0 hd k;show SOk d (wst F d (wit F d k));cases hw:wit F d k with
  |bad c n=>trivial
  |ok M D=>
   rw[hw]at ih;have ih:Inv d M D:=ih;cases D with
   |nil=>exact ih
   |cons i D=>
    show SOk d (match M i with|none=>St.ok M (i::D)|some s=>nxt F d M D i s);cases hm:M i with
    |none=>exact ih
    |some s=>
     dsimp only;have hT:Inv d M D:=⟨(List.pairwise_cons.1 ih.so).2,λj hj=>ih.du j (List.mem_cons_of_mem _ hj),ih.st⟩
     obtain⟨hi,hs⟩:=ih.st i s hm;unfold nxt;split
     ·rename_i hz
      exact fold_ok _ _ hT (stp_ok (hI i hi) hi hs hz)
     ·trivial
def WrR(F:Nat->Pd)(d:Pd)(c n:Nat):Prop:=∃k,wit F d k=.bad c n\/∃M,wit F d k=.ok M []/\((c=0/\n=0/\∀i,M i≠none->¬Cy (Es d) i)\/(c=14/\M n≠none/\Cy (Es d) n/\∀i,i<n->M i≠none->¬Cy (Es d) i))
theorem WrR.uniq{c c' n':Nat}(h:WrR F d c n)(h':WrR F d c' n'):c=c'/\n=n':=by
 obtain⟨k,h⟩:=h;obtain⟨k',h'⟩:=h';have t:Tm (wit F d k):=by rcases h with h|⟨M,h,_⟩;exact .inr ⟨_,_,h⟩;exact .inl ⟨_,h⟩
 have t':Tm (wit F d k'):=by rcases h' with h|⟨M,h,_⟩;exact .inr ⟨_,_,h⟩;exact .inl ⟨_,h⟩
 have e:=tm_uniq t t';rcases h with h|⟨M,h,h1⟩<;>rcases h' with h'|⟨M',h',h1'⟩
 ·rw[h,h']at e;cases e;exact⟨rfl,rfl⟩
 ·rw[h,h']at e;cases e
 ·rw[h,h']at e;cases e
 ·rw[h,h']at e;cases e;rcases h1 with⟨rfl,rfl,a⟩|⟨rfl,a,b,q⟩<;>rcases h1' with⟨rfl,rfl,a'⟩|⟨rfl,a',b',q'⟩
  ·exact⟨rfl,rfl⟩
  ·exact absurd b' (a n' a')
  ·exact absurd b (a' n a)
  ·refine⟨rfl,?_⟩;rcases Nat.lt_trichotomy n n' with z|z|z
   ·exact absurd b (q' n z a)
   ·exact z
   ·exact absurd b' (q n' z a')
def Av(SB DB:Nat)(k:Nat):Prop:=k≠SB/\k≠DB
def SC(av:Nat->Prop)(W:World)(SB j:Nat)(m:Option Sv):Prop:=
 match m with
 |none=>W.cell? ⟨SB,j*3,none⟩=some (.bool false)/\W.cell? ⟨SB,j*3+1,none⟩=some (.slice none 0 0)/\W.cell? ⟨SB,j*3+2,none⟩=some (.slice none 0 0)
 |some s=>W.cell? ⟨SB,j*3,none⟩=some (.bool true)/\∃vt vg,W.cell? ⟨SB,j*3+1,none⟩=some vt/\W.cell? ⟨SB,j*3+2,none⟩=some vg/\Rz av W vt s.1/\Rg av W vg s.2
theorem SC.on(h:SC (Av SB DB) W SB j m)(hc:∀t,t<3->W'.cell? ⟨SB,j*3+t,none⟩=W.cell? ⟨SB,j*3+t,none⟩)(k:∀b,b≠SB->b≠DB->b<W.heap.size->W'.heap[b]? =W.heap[b]?):SC (Av SB DB) W' SB j m:=by
 cases m with
 |none=>exact⟨(hc 0 (by omega)).trans h.1,by rw[hc 1 (by omega)];exact h.2.1,by rw[hc 2 (by omega)];exact h.2.2⟩
 |some s=>
  obtain⟨h1,vt,vg,h2,h3,h4,h5⟩:=h;exact⟨(hc 0 (by omega)).trans h1,vt,vg,(hc 1 (by omega)).trans h2,(hc 2 (by omega)).trans h3,h4.on (λb hb hl=>k b hb.1 hb.2 hl),h5.on (λb hb hl=>k b hb.1 hb.2 hl)⟩
theorem SC.kb{av:Nat->Prop}(h:SC av W SB j m)(k:Kb 0 W W'):SC av W' SB j m:=by
 cases m with
 |none=>exact⟨k.cell h.1,k.cell h.2.1,k.cell h.2.2⟩
 |some s=>
  obtain⟨h1,vt,vg,h2,h3,h4,h5⟩:=h;exact⟨k.cell h1,vt,vg,k.cell h2,k.cell h3,h4.kb k,h5.kb k⟩
theorem arr_same(h:c[j]? =some v):c.setIfInBounds j v=c:=by
 apply Array.ext_getElem?;intro i;rw[Array.getElem?_setIfInBounds];split
 ·rename_i e
  subst e;split
  ·exact h.symm
  ·rename_i q
   rw[Array.getElem?_eq_none (by omega)]
 ·rfl
theorem set_same(h:W.heap[b]? =some (.cells c t (0,0)))(hc:c[j]? =some v):Kb 0 W (W.setCell ⟨b,j,none⟩ v)/\(W.setCell ⟨b,j,none⟩ v).heap[b]? =some (.cells c t (0,0)):=by
 have e1:(W.setCell ⟨b,j,none⟩ v).heap[b]? =some (.cells c t (0,0)):=by rw[set_known v h,arr_same hc]
 refine⟨⟨rfl,rfl,by rw[World.size_setCell];exact Nat.le_refl _,λg _ hg=>?_⟩,e1⟩;by_cases e:g=b
 ·subst e;rw[e1,h]
 ·exact Below.heap_setCell _ _ _ _ e
theorem zero_kb(h:W.heap[b]? =some (.cells #[.int .i64 0,.int .i64 0,.int .i64 0] t (0,0))):Kb 0 W (((W.setCell ⟨b,0,none⟩ (.int .i64 0)).setCell ⟨b,1,none⟩ (.int .i64 0)).setCell ⟨b,2,none⟩ (.int .i64 0)):=by
 obtain⟨k1,h1⟩:=set_same (j:=0) (v:=.int .i64 0) h rfl;obtain⟨k2,h2⟩:=set_same (j:=1) (v:=.int .i64 0) h1 rfl;obtain⟨k3,-⟩:=set_same (j:=2) (v:=.int .i64 0) h2 rfl;exact(k1.trans k2).trans k3
def StR(F:Nat->Pd)(d:Pd)(v:Value)(W:World):Prop:=∃(k:Nat) (M:Nat->Option Sv) (SB:Nat) (av:Nat->Prop),wit F d k=.ok M []/\v=.slice (some ⟨SB,0,none⟩) d.n d.n/\∀j,j<d.n->SC av W SB j (M j)
theorem StR.kb(h:StR F d v W)(k:Kb 0 W W'):StR F d v W':=by
 obtain⟨n,M,SB,av,h1,h2,h3⟩:=h;exact⟨n,M,SB,av,h1,h2,λj hj=>(h3 j hj).kb k⟩
structure MW (w5:World) (SB DB n:Nat) (M:Nat->Option Sv) (D:List Nat) (W:World):Prop where
 os:W.os=w5.os
 output:W.output=w5.output
 size:w5.heap.size<=W.heap.size
 block:∀b,b<w5.heap.size->b≠SB->b≠DB->W.heap[b]? =w5.heap[b]?
 du:∀j,j<n->W.cell? ⟨DB,j,none⟩=some (.bool (dc (j ∈ D)))
 dz:∀j,W.frozen? ⟨DB,j,none⟩=false
 sz:∀j,W.frozen? ⟨SB,j,none⟩=false
 st:∀j,j<n->SC (Av SB DB) W SB j (M j)
 sl:SB<w5.heap.size
 dl:DB<w5.heap.size
 ne:SB≠DB
theorem MW.kb(h:MW w5 SB DB n M D W)(k:Kb 0 W W'):MW w5 SB DB n M D W':=by
 have hs:=h.size;have h1:=h.sl;have h2:=h.dl;have eb:∀b,b<W.heap.size->W'.heap[b]? =W.heap[b]?:=λb hb=>k.block b zq hb;refine⟨k.os.trans h.os,k.output.trans h.output,Nat.le_trans hs k.size,λb hb a c=>(eb b (by omega)).trans (h.block b hb a c),λj hj=>(World.cell?_of_block (eb DB (by omega))).trans (h.du j hj),λj=>(World.frozen?_of_block (eb DB (by omega))).trans (h.dz j),λj=>(World.frozen?_of_block (eb SB (by omega))).trans (h.sz j),λj hj=>(h.st j hj).on (λt _=>World.cell?_of_block (eb SB (by omega))) (λb _ _ hl=>eb b hl),h1,h2,h.ne⟩
theorem MW.old{w:World}(h:MW w5 SB DB n M D W)(k:Kb 0 w w5)(h1:w.heap.size<=SB)(h2:w.heap.size<=DB):Kb 0 w W:=
 ⟨h.os.trans k.os,h.output.trans k.output,Nat.le_trans k.size h.size,λb _ hb=>(h.block b (Nat.lt_of_lt_of_le hb k.size) (by omega) (by omega)).trans (k.block b zq hb)⟩
theorem MW.due{D':List Nat}(h:MW w5 SB DB n M D W){x:Nat}{v:Bool}(hx:x<n)(hD:∀j,j<n->dc (j ∈ D')=if j=x then v else dc (j ∈ D)):MW w5 SB DB n M D' (W.setCell ⟨DB,x,none⟩ (.bool v)):=by
 have hne:=h.ne;have eb:∀b,b≠DB->(W.setCell ⟨DB,x,none⟩ (.bool v)).heap[b]? =W.heap[b]?:=λb hb=>Below.heap_setCell _ _ _ _ hb;refine⟨h.os,h.output,by simpa using h.size,λb hb a c=>(eb b c).trans (h.block b hb a c),λj hj=>?_,λj=>by rw[set_fz];exact h.dz j,λj=>(World.frozen?_of_block (eb SB hne)).trans (h.sz j),λj hj=>(h.st j hj).on (λt _=>World.cell?_of_block (eb SB hne)) (λb _ hb _=>eb b hb),h.sl,h.dl,hne⟩;rw[hD j hj];by_cases e:j=x
 ·subst e;rw[if_pos rfl];exact set_eq _ _ _ _ _ (h.du j hj)
 ·rw[if_neg e,set_ne _ _ _ _ _ e];exact h.du j hj
def set3(W:World)(SB x:Nat)(vt vg:Value):World:=((W.setCell ⟨SB,x*3,none⟩ (.bool true)).setCell ⟨SB,x*3+1,none⟩ vt).setCell ⟨SB,x*3+2,none⟩ vg
theorem MW.new(h:MW w5 SB DB n M D W){x:Nat}{vt vg:Value}(hx:x<n)(r1:Rz (Av SB DB) W vt s.1)(r2:Rg (Av SB DB) W vg s.2):MW w5 SB DB n (upd M x s) D (set3 W SB x vt vg):=by
 have hne:=h.ne;have eb:∀b,b≠SB->(set3 W SB x vt vg).heap[b]? =W.heap[b]?:=λb hb=>((Below.heap_setCell _ _ _ _ hb).trans (Below.heap_setCell _ _ _ _ hb)).trans (Below.heap_setCell _ _ _ _ hb)
 have hex:(∃u,W.cell? ⟨SB,x*3,none⟩=some u)/\(∃u,W.cell? ⟨SB,x*3+1,none⟩=some u)/\∃u,W.cell? ⟨SB,x*3+2,none⟩=some u:=by
  have:=h.st x hx;cases hm:M x with
  |none=>rw[hm]at this;exact⟨⟨_,this.1⟩,⟨_,this.2.1⟩,⟨_,this.2.2⟩⟩
  |some s'=>
   rw[hm]at this;obtain⟨h1,vt',vg',h2,h3,_⟩:=this;exact⟨⟨_,h1⟩,⟨_,h2⟩,⟨_,h3⟩⟩
 obtain⟨⟨u0,e0⟩,⟨u1,e1⟩,⟨u2,e2⟩⟩:=hex;have far:∀j,j≠x*3->j≠x*3+1->j≠x*3+2->(set3 W SB x vt vg).cell? ⟨SB,j,none⟩=W.cell? ⟨SB,j,none⟩:=λj a b c=>by unfold set3;rw[set_ne _ _ _ _ _ c,set_ne _ _ _ _ _ b,set_ne _ _ _ _ _ a]
 refine⟨h.os,h.output,by unfold set3;simpa using h.size,λb hb a c=>(eb b a).trans (h.block b hb a c),λj hj=>(World.cell?_of_block (eb DB (λe=>hne e.symm))).trans (h.du j hj),λj=>(World.frozen?_of_block (eb DB (λe=>hne e.symm))).trans (h.dz j),λj=>by unfold set3;rw[set_fz,set_fz,set_fz];exact h.sz j,λj hj=>?_,h.sl,h.dl,hne⟩;unfold upd;by_cases e:j=x
 ·subst e;rw[if_pos rfl];refine⟨?_,vt,vg,?_,?_,r1.on (λb hb _=>eb b hb.1),r2.on (λb hb _=>eb b hb.1)⟩
  ·unfold set3;rw[set_ne _ _ _ _ _ (by omega),set_ne _ _ _ _ _ (by omega)];exact set_eq _ _ _ _ _ e0
  ·unfold set3;rw[set_ne _ _ _ _ _ (by omega)];exact set_eq _ _ _ _ _ (by rw[set_ne _ _ _ _ _ (by omega)];exact e1)
  ·unfold set3;exact set_eq _ _ _ _ _ (by rw[set_ne _ _ _ _ _ (by omega),set_ne _ _ _ _ _ (by omega)];exact e2)
 ·rw[if_neg e];exact(h.st j hj).on (λt ht=>far _ (by omega) (by omega) (by omega)) (λb hb _ _=>eb b hb)
noncomputable def fre(W:World)(SB n:Nat):Nat:=(List.range n).countP (λj=>dc (W.cell? ⟨SB,j*3,none⟩=some (.bool false)))
noncomputable def onD(W:World)(DB n:Nat):Nat:=(List.range n).countP (λj=>dc (W.cell? ⟨DB,j,none⟩=some (.bool true)))
noncomputable def freM(M:Nat->Option Sv)(n:Nat):Nat:=(List.range n).countP (λj=>(M j).isNone)
noncomputable def onL(D:List Nat)(n:Nat):Nat:=(List.range n).countP (λj=>dc (j ∈ D))
theorem MW.meas(h:MW w5 SB DB n M D W):fre W SB n=freM M n/\onD W DB n=onL D n:=by
 constructor
 ·unfold fre freM;apply List.countP_congr;intro j hj;have:=h.st j (List.mem_range.1 hj);cases hm:M j with
  |none=>rw[hm]at this;rw[this.1];simp[dc]
  |some s=>rw[hm]at this;rw[this.1];simp[dc]
 ·unfold onD onL;apply List.countP_congr;intro j hj;rw[h.du j (List.mem_range.1 hj)];by_cases c:j ∈ D<;>simp[dc,c]
def Tr(_:Nat):Prop:=True
theorem Rz.rowv{av:Nat->Prop}(h:Rz av W v T):RowV W v T.length (λi=>.int .i64 (T.getD i 0)):=by
 obtain⟨pa,ca,h1,h0,h2⟩:=h;refine⟨pa,ca,h1,λhn=>?_⟩;obtain⟨a,e1,-,e3⟩:=h2 hn;exact⟨a,e1,h0,λi hi=>e3 i _ (by rw[List.getElem?_eq_getElem hi];simp[hi])⟩
theorem gv_1(g:Gv)(w:World):Calls Tryz.prog 91 #[.agg #[.bool g.1,.int .i64 g.2.1,.int .i64 g.2.2],.agg #[.bool g.1,.int .i64 g.2.1,.int .i64 g.2.2]] w λe w'=>e=.returned (.bool true)/\Kb 0 w w':=by
 obtain⟨b,y,z⟩:=g;have h1:(z !=z)=false:=by simp
 have h3:(y !=y)=false:=by simp
 cases b
 all_goals
  go_enter Tryz.func91,Tryz.ntmps91;go_wp2_with fail;go_ret;exact⟨rfl,kb_alloc2 _ _ _ _⟩
theorem eq_guards{av bv:Nat->Prop}(w:World)(ha:Rg av w va G)(hb:Rg bv w vb G)(hn:G.length<=1048576):
  Calls Tryz.prog 48 #[va,vb] w λe w'=>e=.returned (.bool true)/\Kb 0 w w':=by
 obtain⟨pa,ca,rfl,hca,ha2⟩:=ha;obtain⟨pb,cb,rfl,hcb,hb2⟩:=hb;obtain⟨n,hnn⟩:∃n,n=G.length:=⟨_,rfl⟩
 have HA:Hid ((0<n->∃a:Addr,pa=some a/\n<=ca/\∀j x,G[j]? =some x->CelG w (a.add (j*3)) x)/\(0<n->∃a:Addr,pb=some a/\n<=cb/\∀j x,G[j]? =some x->CelG w (a.add (j*3)) x)/\n=G.length):=(⟨λq=>by
  obtain⟨a,e1,-,e2⟩:=ha2 (by omega);exact⟨a,e1,by omega,e2⟩,λq=>by
  obtain⟨a,e1,-,e2⟩:=hb2 (by omega)
  exact⟨a,e1,by omega,e2⟩,hnn⟩:_/\_)
 rw[<-hnn];have hnI:(n:Int)<=1048576:=by omega
 clear ha2 hb2 hn hca hcb hnn;go_enter Tryz.func48,Tryz.ntmps48;go_wp2_with fail
 go_loopw [5] (λs5 wr=>∃i:Nat,s5=.int .i64 i/\i<=n/\Hid (Kb 0 w wr)) (λs5 _=>n-(intOf s5).toNat)
 case atStart=>exact⟨0,rfl,Nat.zero_le _,Kb.refl _ _⟩
 case round=>
  obtain⟨i,rfl,hin,HB⟩:=hrel;rcases Nat.lt_or_ge i n with hi|hi
  ·obtain⟨hA1,hA2,hA3⟩:=(uh HA)
   obtain⟨qa,rfl,hca,hra⟩:=hA1 (by omega);obtain⟨qb,rfl,hcb,hrb⟩:=hA2 (by omega);obtain⟨g,hg⟩:∃g,G[i]? =some g:=⟨_,List.getElem?_eq_getElem (by omega)⟩
   have hiI:(i:Int)<(n:Int):=by omega
   have a0:=(uh HB).cell (hra i g hg).c0;have a1:=(uh HB).cell (hra i g hg).c1;have a2:=(uh HB).cell (hra i g hg).c2;have b0:=(uh HB).cell (hrb i g hg).c0;have b1:=(uh HB).cell (hrb i g hg).c1;have b2:=(uh HB).cell (hrb i g hg).c2
   have heq:∀W',W'.heap=wr.heap->W'.os=wr.os->W'.output=wr.output->Calls Tryz.prog 91 #[.agg #[.bool g.1,.int .i64 g.2.1,.int .i64 g.2.2],.agg #[.bool g.1,.int .i64 g.2.1,.int .i64 g.2.2]] W' λe w'=>e=.returned (.bool true)/\Kb 0 wr w':=λW' h0 h1 h2=>by
    have kk:Kb 0 wr W':=⟨h1,h2,by rw[h0];exact Nat.le_refl _,λk _ _=>by rw[h0]⟩
    refine(gv_1 g W').mono ?_;rintro e w' ⟨rfl,k⟩;exact⟨rfl,kk.trans k⟩
   clear hra hrb hA1 hA2 hA3 hg;obtain⟨xb,xy,xz⟩:=g;dsimp only at a0 a1 a2 b0 b1 b2 heq
   have HKEEP:Hid (∀(W':World),Kb 0 wr W'->W'.cell? (qa.add (i*3))=some (.bool xb)/\W'.cell? ⟨(qa.add (i*3)).block,(qa.add (i*3)).off+1,none⟩=some (.int .i64 xy)/\W'.cell? ⟨(qa.add (i*3)).block,(qa.add (i*3)).off+2,none⟩=some (.int .i64 xz)/\W'.cell? (qb.add (i*3))=some (.bool xb)/\W'.cell? ⟨(qb.add (i*3)).block,(qb.add (i*3)).off+1,none⟩=some (.int .i64 xy)/\W'.cell? ⟨(qb.add (i*3)).block,(qb.add (i*3)).off+2,none⟩=some (.int .i64 xz)):=by
    show ∀(W':World),_;intro W' k;exact⟨k.cell a0,k.cell a1,k.cell a2,k.cell b0,k.cell b1,k.cell b2⟩
   have HEQ:Hid (∀W',W'.heap=wr.heap->W'.os=wr.os->W'.output=wr.output->Calls Tryz.prog 91 #[.agg #[.bool xb,.int .i64 xy,.int .i64 xz],.agg #[.bool xb,.int .i64 xy,.int .i64 xz]] W' λe w'=>e=.returned (.bool true)/\Kb 0 wr w'):=heq;clear hin heq;go_wp2_with fail
   go_region_held_law (λW'=>W'.cell? (qa.add (i*3))=some (.bool xb)/\W'.cell? ⟨(qa.add (i*3)).block,(qa.add (i*3)).off+1,none⟩=some (.int .i64 xy)/\W'.cell? ⟨(qa.add (i*3)).block,(qa.add (i*3)).off+2,none⟩=some (.int .i64 xz)/\W'.cell? (qb.add (i*3))=some (.bool xb)/\W'.cell? ⟨(qb.add (i*3)).block,(qb.add (i*3)).off+1,none⟩=some (.int .i64 xy)/\W'.cell? ⟨(qb.add (i*3)).block,(qb.add (i*3)).off+2,none⟩=some (.int .i64 xz)) (first|exact⟨a0,a1,a2,b0,b1,b2⟩|exact(uh HKEEP) _ k5)
    ((go_at_call 91;refine((uh HEQ) _ (by exact rfl) (by exact rfl) (by exact rfl)).mono ?_;rintro e w5 ⟨rfl,k5⟩))
   all_goals
    have HB5:Hid (Kb 0 w w5):=(uh HB).trans k5;clear HB HKEEP HEQ k5 a0 a1 a2 b0 b1 b2;go_wp2_with fail;go_roundw
    case rel=>exact⟨i+1,by go_num,by omega,HB5⟩
    case measure=>simp[intOf];omega
  ·obtain rfl:i=n:=by omega
   clear HA;go_wp2_with fail;go_ret;exact⟨rfl,HB⟩
def tyS(m:Option Sv):List Int:=match m with|none=>[]|some s=>s.1
def guS(m:Option Sv):List Gv:=match m with|none=>[]|some s=>s.2
def ScR(W:World)(SB j:Nat)(m:Option Sv):Prop:=W.cell? ⟨SB,j*3,none⟩=some (.bool m.isSome)/\∃vt vg,W.cell? ⟨SB,j*3+1,none⟩=some vt/\W.cell? ⟨SB,j*3+2,none⟩=some vg/\Rz Tr W vt (tyS m)/\Rg Tr W vg (guS m)
theorem ScR.kb(h:ScR W SB j m)(k:Kb 0 W W'):ScR W' SB j m:=by
 obtain⟨h1,vt,vg,h2,h3,h4,h5⟩:=h;exact⟨k.cell h1,vt,vg,k.cell h2,k.cell h3,h4.kb k,h5.kb k⟩
theorem SC.scrA{av:Nat->Prop}(h:SC av W SB j m):W.cell? ⟨SB,j*3,none⟩=some (.bool m.isSome)/\∃vt vg,W.cell? ⟨SB,j*3+1,none⟩=some vt/\W.cell? ⟨SB,j*3+2,none⟩=some vg/\Rz av W vt (tyS m)/\Rg av W vg (guS m):=by
 cases m with
 |none=>exact⟨h.1,_,_,h.2.1,h.2.2,⟨none,0,rfl,Nat.le_refl _,λq=>by simp[tyS]at q⟩,⟨none,0,rfl,Nat.le_refl _,λq=>by simp[guS]at q⟩⟩
 |some s=>exact h
theorem SC.scr{av:Nat->Prop}(h:SC av W SB j m):ScR W SB j m:=by
 obtain⟨h1,vt,vg,h2,h3,h4,h5⟩:=h.scrA;exact⟨h1,vt,vg,h2,h3,h4.imp (λ_ _ _=>trivial),h5.imp (λ_ _ _=>trivial)⟩
theorem SC.toA{av:Nat->Prop}(h:SC av W SB j m)(hc:∀t,t<3->∀u,W.cell? ⟨SB,j*3+t,none⟩=some u->W'.cell? ⟨SB,j*3+t,none⟩=some u)(k:∀b,av b->b<W.heap.size->W'.heap[b]? =W.heap[b]?):SC av W' SB j m:=by
 cases m with
 |none=>exact⟨hc 0 (by omega) _ h.1,hc 1 (by omega) _ h.2.1,hc 2 (by omega) _ h.2.2⟩
 |some s=>
  obtain⟨h1,vt,vg,h2,h3,h4,h5⟩:=h;exact⟨hc 0 (by omega) _ h1,vt,vg,hc 1 (by omega) _ h2,hc 2 (by omega) _ h3,h4.on (λb hb hl=>k b hb hl),h5.on (λb hb hl=>k b hb hl)⟩
def RowSt(W:World)(v:Value)(n:Nat)(S:Nat->Option Sv):Prop:=∃pa ca,v=.slice pa n ca/\(0<n->∃SB,pa=some ⟨SB,0,none⟩/\n<=ca/\∀j,j<n->ScR W SB j (S j))
theorem RowSt.kb{S:Nat->Option Sv}(h:RowSt W v n S)(k:Kb 0 W W'):RowSt W' v n S:=by
 obtain⟨pa,ca,h1,h2⟩:=h;refine⟨pa,ca,h1,λhn=>?_⟩;obtain⟨SB,e1,e2,e3⟩:=h2 hn;exact⟨SB,e1,e2,λj hj=>(e3 j hj).kb k⟩
def SmS(n:Nat)(S:Nat->Option Sv):Prop:=n<=6000/\∀j,j<n->(tyS (S j)).length<=1000/\(guS (S j)).length<=1000
theorem eq_state{r:Bool}{ga gb:Value}(w:World)(h1:Rz Tr w va T)(h2:Rz Tr w vb T)(h3:Rg Tr w ga G)(h4:Rg Tr w gb G)(hT:T.length<=1000)(hG:G.length<=1000):
  Calls Tryz.prog 22 #[.agg #[.bool r,va,ga],.agg #[.bool r,vb,gb]] w λe w'=>e=.returned (.bool true)/\Kb 0 w w':=by
 have HI:Hid (∀W,Kb 0 w W->Calls Tryz.prog 47 #[va,vb] W λe w'=>e=.returned (.bool true)/\Kb 0 W w'):=(λW k=>(eq_ints W (h1.kb k).rowv (h2.kb k).rowv (by omega)).mono (by
  rintro e w' ⟨rfl,d,rfl⟩
  exact⟨rfl,(Kb.refl 0 W).drewN d⟩):∀W,_)
 have HG:Hid (∀W,Kb 0 w W->Calls Tryz.prog 48 #[ga,gb] W λe w'=>e=.returned (.bool true)/\Kb 0 W w'):=(λW k=>eq_guards W (h3.kb k) (h4.kb k) (by omega):∀W,_)
 obtain⟨p1,c1,rfl,-⟩:=h1;obtain⟨p2,c2,rfl,-⟩:=h2;obtain⟨p3,c3,rfl,-⟩:=h3;obtain⟨p4,c4,rfl,-⟩:=h4;generalize T.length=n1 at*;generalize G.length=n2 at*;obtain⟨w1,hw1⟩:∃w1,w1=(w.alloc (.cells #[.bool r,.slice p1 n1 c1,.slice p3 n2 c3] 58)).alloc (.cells #[.bool r,.slice p2 n1 c2,.slice p4 n2 c4] 58):=⟨_,rfl⟩
 obtain⟨b0,b1,bs,k1⟩:=two_new' w _ _ _ _ w1 hw1;have HC:Hid (∀W,Kb 0 w1 W->Kb 0 w W/\W.cell? ⟨w.heap.size,2,none⟩=some (.slice p3 n2 c3)/\W.cell? ⟨w.heap.size+1,2,none⟩=some (.slice p4 n2 c4)):=(λW k=>⟨k1.trans k,k.cell (cell_of b0 rfl),k.cell (cell_of b1 rfl)⟩:∀W,_)
 have HW1:Hid (w1=(w.alloc (.cells #[.bool r,.slice p1 n1 c1,.slice p3 n2 c3] 58)).alloc (.cells #[.bool r,.slice p2 n1 c2,.slice p4 n2 c4] 58)):=hw1;have x0:w1.cell? ⟨w.heap.size,0,none⟩=some (.bool r):=cell_of b0 rfl;have y0:w1.cell? ⟨w.heap.size+1,0,none⟩=some (.bool r):=cell_of b1 rfl;have x1:w1.cell? ⟨w.heap.size,1,none⟩=some (.slice p1 n1 c1):=cell_of b0 rfl;have y1:w1.cell? ⟨w.heap.size+1,1,none⟩=some (.slice p2 n1 c2):=cell_of b1 rfl;have hr:(r !=r)=false:=by cases r<;>rfl
 clear hw1 b0 b1 bs hT hG;go_enter Tryz.func22,Tryz.ntmps22;go_upto_region 1 with fail;rw[<-(uh HW1)];clear HW1;go_wp2_with fail;refine((uh HI) w1 k1).mono ?_;rintro e w2 ⟨rfl,k2⟩;obtain⟨k12,x2,y2⟩:=(uh HC) w2 k2;have HG2:=(uh HG) w2 k12;have HK:Hid (Kb 0 w w2):=k12;clear HI HG HC k1 k2 k12 x0 x1 y0 y1;go_wp2_with fail;refine HG2.mono ?_;rintro e w3 ⟨rfl,k3⟩;have HK3:Hid (Kb 0 w w3):=(uh HK).trans k3;clear HK k3 HG2;go_wp2_with fail;go_ret;exact⟨rfl,HK3⟩
