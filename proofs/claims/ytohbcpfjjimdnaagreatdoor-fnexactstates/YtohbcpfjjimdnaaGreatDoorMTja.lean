import Derived.Test.YtohbcpfjjimdnaaGreatDoorMZaa
namespace Go.Proofs.YtohbcpfjjimdnaaGreatDoor.Fo
set_option linter.unusedVariables false
variable {E:Nat->Nat->Prop}{x y z n i:Nat}{Q:List Nat}
inductive Rc (E:Nat->Nat->Prop):Nat->Nat->Prop
 |refl (x:Nat):Rc E x x
 |step {x y z:Nat}:E x y->Rc E y z->Rc E x z
theorem Rc.trans(h:Rc E x y)(k:Rc E y z):Rc E x z:=by
 induction h with
 |refl x=>exact k
 |step e _ ih=>exact .step e (ih k)
theorem Rc.one(h:E x y):Rc E x y:=.step h (.refl _)
theorem Rc.closed{Z:Nat->Prop}(hz:∀x,Z x->∀y,E x y->Z y)(h:Rc E x y)(hx:Z x):Z y:=by
 induction h with
 |refl x=>exact hx
 |step e _ ih=>exact ih (hz _ hx _ e)
def Cy(E:Nat->Nat->Prop)(x:Nat):Prop:=∃y,E x y/\Rc E y x
theorem cy_of(h:Rc E x y)(k:Rc E y x)(hn:x≠y):Cy E x:=by
 cases h with
 |refl=>exact absurd rfl hn
 |step e r=>exact⟨_,e,r.trans k⟩
structure Ts where
 m:Nat
 t:Nat->Nat
 b:Nat->Nat
 w:List Nat
 l:Nat
def Dn(S:Ts)(x:Nat):Prop:=S.t x≠0/\x ∉ S.w
structure Tv (n:Nat) (E:Nat->Nat->Prop) (S:Ts):Prop where
 mm:∃L:List Nat,L.Nodup/\L.length=S.m/\∀x,S.t x≠0↔x ∈ L
 tn:∀x,S.t x≠0->x<n/\S.t x<=S.m
 wt:∀x,x ∈ S.w->S.t x≠0
 dn:∀x,Dn S x->S.b x=n+1/\(∀y,E x y->Dn S y)/\(Cy E x->S.l<=x)
 bk:∀x,x ∈ S.w->S.b x<=S.t x/\∃y,y ∈ S.w/\S.t y=S.b x/\Rc E x y
 ls:S.l<=n/\(S.l<n->Cy E S.l)
theorem nodup_le:∀(n:Nat) (L:List Nat),L.Nodup->(∀x,x ∈ L->x<n)->L.length<=n
  |0,L,_,h=>by
    cases L with
    |nil=>exact Nat.le_refl _
    |cons x r=>exact absurd (h x (List.mem_cons_self ..)) (by omega)
  |n+1,L,hn,h=>by
    by_cases hm:n ∈ L
    · have h1:(L.erase n).length=L.length-1:=List.length_erase_of_mem hm
      have h2:=nodup_le n (L.erase n) (hn.erase n) (λx hx=>by
        have h3:=h x (List.mem_of_mem_erase hx);have h4:x≠n:=λe=>by subst e;exact(List.Nodup.not_mem_erase hn) hx
        omega)
      have h5:0<L.length:=List.length_pos_of_mem hm;omega
    · have := nodup_le n L hn (fun x hx => by
        have h3:=h x hx;have h4:x≠n:=λe=>by subst e;exact hm hx
        omega)
      omega
theorem Tv.mn{S:Ts}(h:Tv n E S):S.m<=n:=by
 obtain⟨L,h1,h2,h3⟩:=h.mm;rw[<-h2];exact nodup_le n L h1 (λx hx=>(h.tn x ((h3 x).2 hx)).1)
structure Mt (n:Nat) (E:Nat->Nat->Prop) (S:Ts) (i:Nat) (S':Ts):Prop where
 tv:Tv n E S'
 tk:∀x,S.t x≠0->S'.t x=S.t x
 bo:∀x,S.t x≠0->S'.b x=S.b x
 ex:∃u,S'.w=S.w++u/\(∀x,x ∈ u->S.t x=0/\S'.b x<S'.t x)/\((S'.b i<S'.t i/\i ∈ u)\/(u=[]/\S'.b i=n+1))
 mt:S'.t i≠0
 nw:∀x,S.t x=0->S'.t x≠0->Rc E i x/\S.m<S'.t x/\(∀y,E x y->S'.t y≠0)/\∀y,y ∈ S.w->E x y->S'.b i<=S.t y
 ml:S.m<=S'.m
 ll:S'.l<=S.l
structure Lp (n:Nat) (E:Nat->Nat->Prop) (S:Ts) (i:Nat) (Q:List Nat) (K:Ts):Prop where
 tv:Tv n E K
 tk:∀x,S.t x≠0->K.t x=S.t x
 bo:∀x,S.t x≠0->K.b x=S.b x
 ex:∃u,K.w=S.w++i::u/\∀x,x ∈ u->S.t x=0/\x≠i/\K.b x<K.t x
 ti:K.t i=S.m+1
 nw:∀x,S.t x=0->x≠i->K.t x≠0->Rc E i x/\S.m+1<K.t x/\(∀y,E x y->K.t y≠0)/\∀y,y ∈ S.w->E x y->K.b i<=S.t y
 qs:∀y,y ∈ Q->K.t y≠0/\(y ∈ S.w->K.b i<=S.t y)/\(y=i->K.l<=i)
 ll:K.l<=S.l
theorem Lp.mem{S K:Ts}(h:Lp n E S i Q K):i ∈ K.w:=by
 obtain⟨u,e,_⟩:=h.ex;rw[e];simp
theorem Lp.ml{S K:Ts}(h:Lp n E S i Q K):S.m+1<=K.m:=by
 have h1:=h.ti;have h2:=(h.tv.tn i (by omega)).2;omega
def Ts.meet(S:Ts)(i:Nat):Ts:=⟨S.m+1,λx=>if x=i then S.m+1 else S.t x,λx=>if x=i then S.m+1 else S.b x,S.w++[i],S.l⟩
theorem lp_start{S:Ts}(h:Tv n E S)(hi:i<n)(h0:S.t i=0):Lp n E S i [] (S.meet i):=by
 have hw:i ∉ S.w:=λq=>h.wt i q h0;have ht:∀x,x≠i->(S.meet i).t x=S.t x:=λx hx=>if_neg hx;have hb:∀x,x≠i->(S.meet i).b x=S.b x:=λx hx=>if_neg hx;have hti:(S.meet i).t i=S.m+1:=if_pos rfl;have hbi:(S.meet i).b i=S.m+1:=if_pos rfl;have hne:∀x,S.t x≠0->x≠i:=λx hx e=>by subst e;exact hx h0
 have hd:∀x,Dn (S.meet i) x->Dn S x:=λx hx=>by
  have h1:x ∉ S.w++[i]:=hx.2;have h2:x≠i:=λe=>h1 (by simp[e]);exact⟨by rw[<-ht x h2];exact hx.1,λq=>h1 (by simp[q])⟩
 have hd2:∀x,Dn S x->Dn (S.meet i) x:=λx hx=>by
  have h2:=hne x hx.1;refine⟨by rw[ht x h2];exact hx.1,λq=>?_⟩;have q:x ∈ S.w++[i]:=q;simp at q;exact q.elim hx.2 h2
 refine⟨⟨?_,?_,?_,?_,?_,h.ls⟩,λx hx=>ht x (hne x hx),λx hx=>hb x (hne x hx),⟨[],rfl,λx hx=>(by cases hx)⟩,hti,λx h1 h2 h3=>absurd (by rw[ht x h2];exact h1) h3,λy hy=>(by cases hy),Nat.le_refl _⟩
 ·obtain⟨L,l1,l2,l3⟩:=h.mm;refine⟨i::L,List.nodup_cons.2 ⟨λq=>(l3 i).2 q h0,l1⟩,by simp[l2,Ts.meet],λx=>?_⟩;by_cases e:x=i
  ·subst e;rw[hti];simp
  ·rw[ht x e,l3 x];simp[e]
 ·intro x hx;by_cases e:x=i
  ·subst e;rw[hti];exact⟨hi,Nat.le_refl _⟩
  ·rw[ht x e]at hx⊢;have:=h.tn x hx;exact⟨this.1,by show S.t x<=S.m+1;omega⟩
 ·intro x hx;have hx:x ∈ S.w++[i]:=hx;simp at hx;rcases hx with hx|rfl
  ·have:=h.wt x hx;rw[ht x (hne x this)];exact this
  ·rw[hti];omega
 ·intro x hx;have hx0:=hd x hx;obtain⟨a,b,c⟩:=h.dn x hx0;exact⟨by rw[hb x (hne x hx0.1)];exact a,λy hy=>hd2 y (b y hy),c⟩
 ·intro x hx;have hx:x ∈ S.w++[i]:=hx;simp at hx;rcases hx with hx|rfl
  ·obtain⟨a,y,hy,e,r⟩:=h.bk x hx;have hx0:=hne x (h.wt x hx);have hy0:=hne y (h.wt y hy);exact⟨by rw[ht x hx0,hb x hx0];exact a,y,(show y ∈ S.w++[i] by simp[hy]),by rw[ht y hy0,hb x hx0];exact e,r⟩
  ·exact⟨by rw[hti,hbi];exact Nat.le_refl _,x,(show x ∈ S.w++[x] by simp),by rw[hti,hbi],.refl _⟩
def Ts.edge(K:Ts)(i z:Nat):Ts:=⟨K.m,K.t,λx=>if x=i then min (K.b i) (K.b z)else K.b x,K.w,if z=i then min K.l i else K.l⟩
theorem Tv.edge{K:Ts}(h:Tv n E K)(hi:i ∈ K.w)(hz:K.t z≠0)(he:E i z):Tv n E (K.edge i z):=by
  have hin:=(h.tn i (h.wt i hi)).1
  have hll:(K.edge i z).l<=K.l:=by
    show(if z=i then min K.l i else K.l)<=K.l;split
    · exact Nat.min_le_left _ _
    · exact Nat.le_refl _
  have hmn:=h.mn;obtain⟨b1,y1,hy1,e1,r1⟩:=h.bk i hi;have hbe:(K.edge i z).b i=min (K.b i) (K.b z):=if_pos rfl;have hbx:∀x,x≠i->(K.edge i z).b x=K.b x:=λx hx=>if_neg hx;refine⟨h.mm,h.tn,h.wt,λx hx=>?_,λx hx=>?_,?_⟩
  · obtain⟨a,b,c⟩:=h.dn x hx;have hxi:x≠i:=λe=>hx.2 (by rw[e];exact hi);exact⟨by rw[hbx x hxi];exact a,b,λq=>Nat.le_trans hll (c q)⟩
  · by_cases e:x=i
    · subst e;rw[hbe];refine⟨Nat.le_trans (Nat.min_le_left _ _) b1,?_⟩;by_cases hlt:K.b z<K.b x
      · have hw : z ∈ K.w := by
          apply Classical.byContradiction;intro q;have:=(h.dn z ⟨hz,q⟩).1;have:=(h.tn x (h.wt x hi)).2;omega
        obtain⟨_,y,hy,ey,r⟩:=h.bk z hw;exact⟨y,hy,by show K.t y=_;rw[ey];omega,.step he r⟩
      · exact⟨y1,hy1,by show K.t y1=_;rw[e1];omega,r1⟩
    · rw[hbx x e];exact h.bk x hx
  · refine⟨Nat.le_trans hll h.ls.1,λq=>?_⟩;have hl:(K.edge i z).l=if z=i then min K.l i else K.l:=rfl
    rw[hl]at q⊢;by_cases e:z=i
    · rw[if_pos e]at q⊢;subst e;by_cases e2:K.l<=z
      · rw[Nat.min_eq_left e2]at q⊢;exact h.ls.2 q
      · rw[Nat.min_eq_right (by omega)];exact⟨z,he,.refl _⟩
    · rw[if_neg e]at q⊢;exact h.ls.2 q
theorem Lp.met{S K:Ts}(hS:Tv n E S)(h:Lp n E S i Q K)(h0:S.t i=0)(hz:K.t z≠0)(he:E i z):Lp n E S i (Q++[z]) (K.edge i z):=by
 have hi:=h.mem;have hbe:(K.edge i z).b i=min (K.b i) (K.b z):=if_pos rfl;have hbx:∀x,x≠i->(K.edge i z).b x=K.b x:=λx hx=>if_neg hx;have hle:(K.edge i z).b i<=K.b i:=by rw[hbe];exact Nat.min_le_left _ _
 have hll:(K.edge i z).l<=K.l:=by
  show(if z=i then min K.l i else K.l)<=K.l;split
  ·exact Nat.min_le_left _ _
  ·exact Nat.le_refl _
 have hne:∀x,S.t x≠0->x≠i:=λx hx e=>by subst e;exact hx h0
 obtain⟨u,eu,hu⟩:=h.ex;refine⟨h.tv.edge hi hz he,h.tk,λx hx=>by rw[hbx x (hne x hx)];exact h.bo x hx,⟨u,eu,λx hx=>?_⟩,h.ti,λx h1 h2 h3=>?_,λy hy=>?_,Nat.le_trans hll h.ll⟩
 ·obtain⟨a,b,c⟩:=hu x hx;exact⟨a,b,by rw[hbx x b];exact c⟩
 ·obtain⟨a,b,c,d⟩:=h.nw x h1 h2 h3;exact⟨a,b,c,λy hy e=>Nat.le_trans hle (d y hy e)⟩
 ·rw[List.mem_append]at hy;rcases hy with hy|hy
  ·obtain⟨a,b,c⟩:=h.qs y hy;exact⟨a,λq=>Nat.le_trans hle (b q),λq=>Nat.le_trans hll (c q)⟩
  ·have hy:y=z:=by simpa using hy
   subst hy;refine⟨hz,λq=>?_,λq=>?_⟩
   ·have hw:y ∈ K.w:=by rw[eu];simp[q]
    have h1:=(h.tv.bk y hw).1;have h2:K.t y=S.t y:=h.tk y (hS.wt y q);rw[hbe];have:=Nat.min_le_right (K.b i) (K.b y);omega
   ·show(if y=i then min K.l i else K.l)<=i;rw[if_pos q];exact Nat.min_le_right _ _
theorem Lp.again{S K K2:Ts}(hS:Tv n E S)(h:Lp n E S i Q K)(h0:S.t i=0)(hz:K.t z=0)(he:E i z)(hm:Mt n E K z K2):Lp n E S i (Q++[z]) (K2.edge i z):=by
 have hi:=h.mem;have hti:=h.ti;have hKi:K.t i≠0:=by omega
 have hzi:z≠i:=λe=>by subst e;exact hKi hz
 have hml:=h.ml;obtain⟨u,eu,hu⟩:=h.ex;obtain⟨u2,eu2,hu2,hor⟩:=hm.ex;have hi2:i ∈ K2.w:=by rw[eu2];simp[hi]
 have hne:∀x,S.t x≠0->x≠i:=λx hx e=>by subst e;exact hx h0
 have hKo:∀x,S.t x≠0->K.t x≠0:=λx hx=>by rw[h.tk x hx];exact hx
 have hbi:K2.b i=K.b i:=hm.bo i hKi;have hbe:(K2.edge i z).b i=min (K2.b i) (K2.b z):=if_pos rfl;have hbx:∀x,x≠i->(K2.edge i z).b x=K2.b x:=λx hx=>if_neg hx;have hle:(K2.edge i z).b i<=K.b i:=by rw[hbe,hbi];exact Nat.min_le_left _ _
 have hle2:(K2.edge i z).b i<=K2.b z:=by rw[hbe];exact Nat.min_le_right _ _
 have hl:(K2.edge i z).l=K2.l:=if_neg hzi;refine⟨hm.tv.edge hi2 hm.mt he,λx hx=>?_,λx hx=>?_,⟨u++u2,?_,λx hx=>?_⟩,?_,λx h1 h2 h3=>?_,λy hy=>?_,?_⟩
 ·show K2.t x=S.t x;rw[hm.tk x (hKo x hx)];exact h.tk x hx
 ·rw[hbx x (hne x hx),hm.bo x (hKo x hx)];exact h.bo x hx
 ·show K2.w=_;rw[eu2,eu];simp
 ·rw[List.mem_append]at hx;rcases hx with hx|hx
  ·obtain⟨a,b,c⟩:=hu x hx;have hKx:K.t x≠0:=h.tv.wt x (by rw[eu];simp[hx]);refine⟨a,b,?_⟩;rw[hbx x b,hm.bo x hKx];show K.b x<K2.t x;rw[hm.tk x hKx];exact c
  ·obtain⟨a,b⟩:=hu2 x hx;have hxi:x≠i:=λe=>by subst e;exact hKi a
   refine⟨?_,hxi,by rw[hbx x hxi];exact b⟩;apply Classical.byContradiction;intro q;exact hKo x q a
 ·show K2.t i=S.m+1;rw[hm.tk i hKi];exact hti
 ·have h3:K2.t x≠0:=h3;by_cases hx:K.t x=0
  ·obtain⟨a,b,c,d⟩:=hm.nw x hx h3;refine⟨.step he a,by show S.m+1<K2.t x;omega,c,λy hy e=>?_⟩;have hyw:y ∈ K.w:=by rw[eu];simp[hy]
   have h4:=d y hyw e;have h5:=h.tk y (hS.wt y hy);omega
  ·obtain⟨a,b,c,d⟩:=h.nw x h1 h2 hx;refine⟨a,?_,λy e=>?_,λy hy e=>Nat.le_trans hle (d y hy e)⟩
   ·show S.m+1<K2.t x;rw[hm.tk x hx];exact b
   ·show K2.t y≠0;rw[hm.tk y (c y e)];exact c y e
 ·rw[List.mem_append]at hy;rcases hy with hy|hy
  ·obtain⟨a,b,c⟩:=h.qs y hy;refine⟨by show K2.t y≠0;rw[hm.tk y a];exact a,λq=>Nat.le_trans hle (b q),λq=>?_⟩;rw[hl];exact Nat.le_trans hm.ll (c q)
  ·have hy:y=z:=by simpa using hy
   subst hy;refine⟨hm.mt,λq=>?_,λq=>absurd q hzi⟩;exact absurd hz (hKo y (hS.wt y q))
 ·rw[hl];exact Nat.le_trans hm.ll h.ll
theorem Lp.stay{S K:Ts}(h:Lp n E S i Q K)(h0:S.t i=0)(hQ:∀y,E i y->y ∈ Q)(hb:K.b i<K.t i):Mt n E S i K:=by
 obtain⟨u,eu,hu⟩:=h.ex;have hti:=h.ti;refine⟨h.tv,h.tk,h.bo,⟨i::u,eu,λx hx=>?_,.inl ⟨hb,by simp⟩⟩,by omega,λx h1 h2=>?_,by have:=h.ml;omega,h.ll⟩
 ·rcases List.mem_cons.1 hx with rfl|hx
  ·exact⟨h0,hb⟩
  ·exact⟨(hu x hx).1,(hu x hx).2.2⟩
 ·by_cases e:x=i
  ·subst e;exact⟨.refl _,by omega,λy hy=>(h.qs y (hQ y hy)).1,λy hy e=>(h.qs y (hQ y e)).2.1 hy⟩
  ·obtain⟨a,b,c,d⟩:=h.nw x h1 e h2;exact⟨a,by omega,c,d⟩
def lmin:List Nat->Nat->Nat
 | [],l=>l
 |x::r,l=>lmin r (min l x)
theorem lmin_le:∀(L:List Nat) (l:Nat),lmin L l<=l/\∀x,x ∈ L->lmin L l<=x
 | [],l=>⟨Nat.le_refl _,λx hx=>by cases hx⟩
 |y::r,l=>by
  obtain⟨a,b⟩:=lmin_le r (min l y);refine⟨Nat.le_trans a (Nat.min_le_left _ _),λx hx=>?_⟩;rcases List.mem_cons.1 hx with rfl|hx
  ·exact Nat.le_trans a (Nat.min_le_right _ _)
  ·exact b x hx
theorem lmin_in:∀(L:List Nat) (l:Nat),lmin L l=l\/lmin L l ∈ L
 | [],l=>.inl rfl
 |y::r,l=>by
  rcases lmin_in r (min l y)with h|h
  ·by_cases e:l<=y
   ·rw[Nat.min_eq_left e]at h;exact .inl (by show lmin r (min l y)=l;rw[Nat.min_eq_left e];exact h)
   ·rw[Nat.min_eq_right (by omega)]at h;exact .inr (by show lmin r (min l y)∈ _;rw[Nat.min_eq_right (by omega),h];simp)
  ·exact .inr (by show lmin r (min l y)∈ _;simp[h])
def Ts.pop(K:Ts)(n:Nat)(W R:List Nat):Ts:=⟨K.m,K.t,λx=>if x ∈ R then n+1 else K.b x,W,if 1<R.length then lmin R K.l else K.l⟩
theorem Lp.pop{S K:Ts}{u:List Nat}(hS:Tv n E S)(h:Lp n E S i Q K)(h0:S.t i=0)(hQ:∀y,y ∈ Q↔E i y)(hb:¬K.b i<K.t i)(eu:K.w=S.w++i::u):Mt n E S i (K.pop n S.w (i::u)):=by
  obtain⟨u',eu',hu'⟩:=h.ex
  obtain rfl:u'=u:=by
    have:=eu'.symm.trans eu
    simpa using this
  have hu:=hu';have hti:=h.ti
  have hbi:K.b i=S.m+1:=by
    have:=(h.tv.bk i h.mem).1;omega
  have hnew:∀x,x ∈ i::u'->S.t x=0:=λx hx=>by
    rcases List.mem_cons.1 hx with rfl|hx
    · exact h0
    · exact(hu x hx).1
  have hKt:∀x,x ∈ i::u'->K.t x≠0:=λx hx=>h.tv.wt x (by rw[eu,List.mem_append];exact .inr hx);have hnS:∀x,x ∈ i::u'->x ∉ S.w:=λx hx q=>hS.wt x q (hnew x hx)
  have hout:∀x,x ∈ i::u'->∀y,E x y->K.t y≠0/\y ∉ S.w:=λx hx y e=>by
    have key:∀q:y ∈ S.w,K.b i<=S.t y->False:=λq hq=>by
      have:=(hS.tn y (hS.wt y q)).2;omega
    rcases List.mem_cons.1 hx with rfl|hx
    · obtain⟨a,b,_⟩:=h.qs y ((hQ y).2 e);exact⟨a,λq=>key q (b q)⟩
    · obtain⟨a,b,c⟩:=hu x hx;obtain⟨_,_,c2,d2⟩:=h.nw x a b (hKt x (by simp[hx]));exact⟨c2 y e,λq=>key q (d2 y q e)⟩
  have hsplit:∀y,K.t y≠0->y ∉ S.w->Dn K y\/y ∈ i::u':=λy h1 h2=>by
    by_cases q:y ∈ i::u'
    · exact .inr q
    · refine .inl ⟨h1,λq2=>?_⟩;rw[eu,List.mem_append]at q2;exact q2.elim h2 q
  have hDn:∀x,Dn (K.pop n S.w (i::u')) x↔K.t x≠0/\x ∉ S.w:=λx=>Iff.rfl;have hDK:∀x,Dn K x->x ∉ S.w:=λx hx q=>hx.2 (by rw[eu];simp[q])
  have hZ:∀x,(K.t x≠0/\x ∉ S.w)->∀y,E x y->(K.t y≠0/\y ∉ S.w):=λx hx y e=>by
    rcases hsplit x hx.1 hx.2 with q|q
    · have:=(h.tv.dn x q).2.1 y e;exact⟨this.1,hDK y this⟩
    · exact hout x q y e
  have hback:∀k x,x ∈ u'->K.t x<=k->Rc E x i:=by
    intro k
    induction k with
    |zero=>intro x hx hk;exact absurd (hKt x (by simp[hx])) (by omega)
    |succ k ih=>
      intro x hx hk;obtain⟨a,b,c⟩:=hu x hx;obtain⟨_,y,hy,ey,r⟩:=h.tv.bk x (by rw[eu];simp[hx]);have hyZ:=Rc.closed (Z:=λy=>K.t y≠0/\y ∉ S.w) hZ r ⟨hKt x (by simp[hx]),hnS x (by simp[hx])⟩;rw[eu,List.mem_append]at hy;rcases hy with hy|hy
      · exact absurd hy hyZ.2
      · rcases List.mem_cons.1 hy with rfl|hy
        · exact r
        · exact r.trans (ih y hy (by omega))
  have hto:∀x,x ∈ u'->Rc E i x:=λx hx=>(h.nw x (hu x hx).1 (hu x hx).2.1 (hKt x (by simp[hx]))).1
  have hcy:1<(i::u').length->∀x,x ∈ i::u'->Cy E x:=λhl x hx=>by
    rcases List.mem_cons.1 hx with rfl|hx
    · obtain ⟨y, hy⟩ : ∃ y, y ∈ u' := by
        cases u' with
        |nil=>simp at hl
        |cons y r=>exact⟨y,by simp⟩
      exact cy_of (hto y hy) (hback _ y hy (Nat.le_refl _)) (λe=>(hu y hy).2.1 e.symm)
    · exact cy_of (hback _ x hx (Nat.le_refl _)) (hto x hx) (hu x hx).2.1
  have hl:(K.pop n S.w (i::u')).l=if 1<(i::u').length then lmin (i::u') K.l else K.l:=rfl
  have hll:(K.pop n S.w (i::u')).l<=K.l:=by
    rw[hl];split
    · exact(lmin_le _ _).1
    · exact Nat.le_refl _
  have hbR:∀x,x ∈ i::u'->(K.pop n S.w (i::u')).b x=n+1:=λx hx=>if_pos hx;have hbO:∀x,x ∉ i::u'->(K.pop n S.w (i::u')).b x=K.b x:=λx hx=>if_neg hx;have hnR:∀x,S.t x≠0->x ∉ i::u':=λx hx q=>hx (hnew x q);refine⟨⟨h.tv.mm,h.tv.tn,λx hx=>?_,λx hx=>?_,λx hx=>?_,?_⟩,h.tk,λx hx=>?_,⟨[],by show S.w=S.w++[];simp,λx hx=>(by cases hx),.inr ⟨rfl,hbR i (by simp)⟩⟩,by show K.t i≠0;omega,λx h1 h2=>?_,by show S.m<=K.m;have:=h.ml;omega,Nat.le_trans hll h.ll⟩
  · have hx:x ∈ S.w:=hx;show K.t x≠0;rw[h.tk x (hS.wt x hx)];exact hS.wt x hx
  · have hx2:=(hDn x).1 hx;rcases hsplit x hx2.1 hx2.2 with q|q
    · obtain⟨a,b,c⟩:=h.tv.dn x q;have hxR:x ∉ i::u':=λq2=>q.2 (by rw[eu,List.mem_append];exact .inr q2);exact⟨by rw[hbO x hxR];exact a,λy e=>(hDn y).2 (hZ x hx2 y e),λq2=>Nat.le_trans hll (c q2)⟩
    · refine⟨hbR x q,λy e=>(hDn y).2 (hZ x hx2 y e),λhc=>?_⟩;rw[hl];by_cases hlen:1<(i::u').length
      · rw[if_pos hlen];exact(lmin_le _ _).2 x q
      · rw[if_neg hlen]
        have hu0:u'=[]:=by
          cases u' with
          |nil=>rfl
          |cons y r=>simp at hlen
        subst hu0;have hxi:x=i:=by simpa using q
        subst hxi;obtain⟨z,ez,rz⟩:=hc;by_cases ezx:z=x
        · subst ezx;exact(h.qs z ((hQ z).2 ez)).2.2 rfl
        · obtain⟨z1,z2⟩:=hout x q z ez;rcases hsplit z z1 z2 with qz|qz
          · have:=Rc.closed (Z:=Dn K) (λx hx y e=>(h.tv.dn x hx).2.1 y e) rz qz;exact absurd h.mem this.2
          · exact absurd (by simpa using qz) ezx
  · have hx:x ∈ S.w:=hx;have hx0:=hS.wt x hx;obtain⟨a,y,hy,e,r⟩:=hS.bk x hx;refine⟨?_,y,hy,?_,r⟩
    · rw[hbO x (hnR x hx0)];show K.b x<=K.t x;rw[h.bo x hx0,h.tk x hx0];exact a
    · rw[hbO x (hnR x hx0),h.bo x hx0];show K.t y=S.b x;rw[h.tk y (hS.wt y hy)];exact e
  · refine⟨Nat.le_trans hll h.tv.ls.1,λq=>?_⟩;rw[hl]at q⊢;by_cases hlen:1<(i::u').length
    · rw[if_pos hlen]at q⊢;rcases lmin_in (i::u') K.l with e|e
      · rw[e]at q⊢;exact h.tv.ls.2 q
      · exact hcy hlen _ e
    · rw[if_neg hlen]at q⊢;exact h.tv.ls.2 q
  · rw[hbO x (hnR x hx)];exact h.bo x hx
  · have h2:K.t x≠0:=h2;by_cases e:x=i
    · subst e;refine⟨.refl _,by show S.m<K.t x;omega,λy hy=>(hout x (by simp) y hy).1,λy hy e=>absurd hy (hout x (by simp) y e).2⟩
    · obtain⟨a,b,c,d⟩:=h.nw x h1 e h2;refine⟨a,by show S.m<K.t x;omega,c,λy hy e2=>?_⟩;have h5:=d y hy e2;have h6:=(hS.tn y (hS.wt y hy)).2;omega
theorem Tv.least{S:Ts}(h:Tv n E S)(hw:S.w=[]){R:Nat->Prop}(hR:∀x,R x->S.t x≠0):S.l<=n/\(S.l<n->Cy E S.l)/\∀x,R x->Cy E x->S.l<=x:=
 ⟨h.ls.1,h.ls.2,λx hx hc=>(h.dn x ⟨hR x hx,by rw[hw];simp⟩).2.2 hc⟩
