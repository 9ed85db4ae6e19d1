import Derived.Test.YtkhdehngobkkfaaGreatDoorASdj
set_option maxRecDepth 100000
set_option maxHeartbeats 4000000
namespace Go.Proofs.YtkhdehngobkkfaaGreatDoor
open Go.ChangeShapes Go.WideShapes Go.ChangeAt Go.RowKit
set_option linter.unusedVariables false
variable {T:ByteArray}{L:List UInt8}{p e:Nat}{st:Bool}
theorem name_ok(T:ByteArray)(L:List UInt8)(hT:T.data.toList=L)(hlen:L.length<=40)(t:Tk)(ht:0<L.length->∀w,Calls Tryz.prog 97 #[.string T,.int .i64 0] w (NumP w t.kind 0 t.to t.num t.text))(z:Bool)(hz:(0<L.length/\isL (lk L 0)=true/\t.kind=1/\t.to=L.length/\z=true)\/(¬(0<L.length/\isL (lk L 0)=true/\t.kind=1/\t.to=L.length)/\z=false))(w:World):
    Calls Tryz.prog 73 #[.string T] w λe w'=>e=.returned (.bool z)/\Below w.heap.size w w':=by
  have hs:T.size=L.length:=by rw[<-hT];simp
  by_cases h0:L.length=0
  · have hz0 : z = false := by
      rcases hz with h|h
      · omega
      · exact h.2
    have hT0:(T.size:Int)=0:=by omega
    subst hz0;clear ht hz hT hlen hs h0;go_enter Tryz.func73,Tryz.ntmps73;go_wp2_with fail;go_ret;exact⟨rfl,Below.refl _ _⟩
  · have hT0:((T.size:Int)==0)=false:=by rw[beq_eq_false_iff_ne];omega
    have hTe:¬T=ByteArray.empty:=λg=>by rw[g]at hs;exact h0 (by rw[<-hs];rfl)
    have hT40:¬(40:Int)<(T.size:Int):=by omega
    have hix:∀W:World,(Instr.index 9 (.string T) (.int .i64 0)).run Tryz.prog W=.ok (.int .u8 ((lk L 0).toNat:Int)) W:=λW=>ix T L hT 0 _ (lk_at (show 0<L.length by omega)) W;have hp:=spec_isL (lk L 0);cases hP:isL (lk L 0)with
    |false=>
      have hz0:z=false:=by
        rcases hz with h|h
        · rw[hP]at h;exact absurd h.2.1 (by decide)
        · exact h.2
      subst hz0;rw[hP]at hp;clear ht hz hT hlen hs h0 hP;generalize ((lk L 0).toNat:Int)=x0 at*;go_enter Tryz.func73,Tryz.ntmps73;go_wp2_with fail;refine(hp _).mono ?_;rintro e w1 ⟨rfl,rfl⟩;go_wp2_with fail;go_ret;exact⟨rfl,Below.refl _ _⟩
    |true=>
      rw[hP]at hp;have hrd:=ht (by omega) w
      have HZ:Hid ((t.kind=1/\t.to=L.length/\z=true)\/(¬(t.kind=1/\t.to=L.length)/\z=false)):=by
        rcases hz with h|h
        · exact .inl ⟨h.2.2.1,h.2.2.2.1,h.2.2.2.2⟩
        · exact .inr ⟨λg=>h.1 ⟨by omega,hP,g⟩,h.2⟩
      have HS:Hid (T.size=L.length):=hs;clear ht hz hT hlen h0 hP hs;generalize ((lk L 0).toNat:Int)=x0 at*;go_enter Tryz.func73,Tryz.ntmps73;go_wp2_with fail;refine(hp _).mono ?_;rintro e w1 ⟨rfl,hw1⟩;rw[hw1];clear hp hw1;go_wp2_with fail;refine hrd.mono ?_;rintro e w2 ⟨hb2,hy,hn⟩;have HB:Hid (∀x:Obj,Below w.heap.size w (w2.alloc x)):=(λx=>hb2.alloc hb2.size _:∀x:Obj,Below w.heap.size w (w2.alloc x))
      by_cases hk0:t.kind=0
      · obtain⟨a,b,c,d,m,tt,he⟩:=hn hk0;subst he
        have hz0:z=false:=by
          rcases(uh HZ)with h|h
          · omega
          · exact h.2
        subst hz0;have hto:¬(t.to:Int)<0:=by omega
        clear hrd hb2 hy hn hk0 HZ;generalize (t.to:Int)=tz at*;unfold tokV;go_wp2_with fail;go_ret;exact⟨rfl,(uh HB) _⟩
      · have he:=hy hk0;subst he;clear hrd hb2 hy hn hk0;by_cases h1:t.kind=1
        · by_cases h2:t.to=L.length
          · have hz1 : z = true := by
              rcases(uh HZ)with h|h
              · exact h.2.2
              · exact absurd ⟨h1,h2⟩ h.1
            subst hz1;rw[h1,show(t.to:Int)=(T.size:Int) by rw[h2,show T.size=L.length from HS]];clear HZ h1 h2 HS;unfold tokV;go_wp2_with fail;go_ret;exact⟨rfl,(uh HB) _⟩
          · have hz1 : z = false := by
              rcases(uh HZ)with h|h
              · exact absurd h.2.1 h2
              · exact h.2
            subst hz1;have h3:((t.to:Int)==(T.size:Int))=false:=by rw[beq_eq_false_iff_ne,show T.size=L.length from HS];omega
            rw[h1];clear HZ h1 h2;generalize (t.to:Int)=tz at*;unfold tokV;go_wp2_with fail;go_ret;exact⟨rfl,(uh HB) _⟩
        · have hz1 : z = false := by
            rcases(uh HZ)with h|h
            · exact absurd h.1 h1
            · exact h.2
          subst hz1;have h3:(t.kind==1)=false:=by simpa using h1
          clear HZ h1;generalize t.kind=kk at*;generalize (t.to:Int)=tz at*;unfold tokV;go_wp2_with fail;go_ret;exact⟨rfl,(uh HB) _⟩
theorem name_ok_big(T:ByteArray)(h:(40:Int)<(T.size:Int))(w:World):Calls Tryz.prog 73 #[.string T] w λe w'=>e=.returned (.bool false)/\Below w.heap.size w w':=by
 have h0:((T.size:Int)==0)=false:=by rw[beq_eq_false_iff_ne];omega
 have hTe:¬T=ByteArray.empty:=λg=>by rw[g]at h;exact absurd h (by decide)
 go_enter Tryz.func73,Tryz.ntmps73;go_wp2_with fail;go_ret;exact⟨rfl,Below.refl _ _⟩
theorem flt_ok(T:ByteArray)(L:List UInt8)(hT:T.data.toList=L)(hlen:L.length<=40)(t:Tk)(ht:0<L.length->∀w,Calls Tryz.prog 97 #[.string T,.int .i64 0] w (NumP w t.kind 0 t.to t.num t.text))(z:Bool)(hz:(0<L.length/\isD (lk L 0)=true/\t.kind=3/\t.to=L.length/\z=true)\/(¬(0<L.length/\isD (lk L 0)=true/\t.kind=3/\t.to=L.length)/\z=false))(w:World):
    Calls Tryz.prog 72 #[.string T] w λe w'=>e=.returned (.bool z)/\Below w.heap.size w w':=by
  have hs:T.size=L.length:=by rw[<-hT];simp
  by_cases h0:L.length=0
  · have hz0 : z = false := by
      rcases hz with h|h
      · omega
      · exact h.2
    have hT0:(T.size:Int)=0:=by omega
    subst hz0;clear ht hz hT hlen hs h0;go_enter Tryz.func72,Tryz.ntmps72;go_wp2_with fail;go_ret;exact⟨rfl,Below.refl _ _⟩
  · have hT0:((T.size:Int)==0)=false:=by rw[beq_eq_false_iff_ne];omega
    have hTe:¬T=ByteArray.empty:=λg=>by rw[g]at hs;exact h0 (by rw[<-hs];rfl)
    have hT40:¬(40:Int)<(T.size:Int):=by omega
    have hix:∀W:World,(Instr.index 9 (.string T) (.int .i64 0)).run Tryz.prog W=.ok (.int .u8 ((lk L 0).toNat:Int)) W:=λW=>ix T L hT 0 _ (lk_at (show 0<L.length by omega)) W;have hp:=spec_isD (lk L 0);cases hP:isD (lk L 0)with
    |false=>
      have hz0:z=false:=by
        rcases hz with h|h
        · rw[hP]at h;exact absurd h.2.1 (by decide)
        · exact h.2
      subst hz0;rw[hP]at hp;clear ht hz hT hlen hs h0 hP;generalize ((lk L 0).toNat:Int)=x0 at*;go_enter Tryz.func72,Tryz.ntmps72;go_wp2_with fail;refine(hp _).mono ?_;rintro e w1 ⟨rfl,rfl⟩;go_wp2_with fail;go_ret;exact⟨rfl,Below.refl _ _⟩
    |true=>
      rw[hP]at hp;have hrd:=ht (by omega) w
      have HZ:Hid ((t.kind=3/\t.to=L.length/\z=true)\/(¬(t.kind=3/\t.to=L.length)/\z=false)):=by
        rcases hz with h|h
        · exact .inl ⟨h.2.2.1,h.2.2.2.1,h.2.2.2.2⟩
        · exact .inr ⟨λg=>h.1 ⟨by omega,hP,g⟩,h.2⟩
      have HS:Hid (T.size=L.length):=hs;clear ht hz hT hlen h0 hP hs;generalize ((lk L 0).toNat:Int)=x0 at*;go_enter Tryz.func72,Tryz.ntmps72;go_wp2_with fail;refine(hp _).mono ?_;rintro e w1 ⟨rfl,hw1⟩;rw[hw1];clear hp hw1;go_wp2_with fail;refine hrd.mono ?_;rintro e w2 ⟨hb2,hy,hn⟩;have HB:Hid (∀x:Obj,Below w.heap.size w (w2.alloc x)):=(λx=>hb2.alloc hb2.size _:∀x:Obj,Below w.heap.size w (w2.alloc x))
      by_cases hk0:t.kind=0
      · obtain⟨a,b,c,d,m,tt,he⟩:=hn hk0;subst he
        have hz0:z=false:=by
          rcases(uh HZ)with h|h
          · omega
          · exact h.2
        subst hz0;have hto:¬(t.to:Int)<0:=by omega
        clear hrd hb2 hy hn hk0 HZ;generalize (t.to:Int)=tz at*;unfold tokV;go_wp2_with fail;go_ret;exact⟨rfl,(uh HB) _⟩
      · have he:=hy hk0;subst he;clear hrd hb2 hy hn hk0;by_cases h1:t.kind=3
        · by_cases h2:t.to=L.length
          · have hz1 : z = true := by
              rcases(uh HZ)with h|h
              · exact h.2.2
              · exact absurd ⟨h1,h2⟩ h.1
            subst hz1;rw[h1,show(t.to:Int)=(T.size:Int) by rw[h2,show T.size=L.length from HS]];clear HZ h1 h2 HS;unfold tokV;go_wp2_with fail;go_ret;exact⟨rfl,(uh HB) _⟩
          · have hz1 : z = false := by
              rcases(uh HZ)with h|h
              · exact absurd h.2.1 h2
              · exact h.2
            subst hz1;have h3:((t.to:Int)==(T.size:Int))=false:=by rw[beq_eq_false_iff_ne,show T.size=L.length from HS];omega
            rw[h1];clear HZ h1 h2;generalize (t.to:Int)=tz at*;unfold tokV;go_wp2_with fail;go_ret;exact⟨rfl,(uh HB) _⟩
        · have hz1 : z = false := by
            rcases(uh HZ)with h|h
            · exact absurd h.1 h1
            · exact h.2
          subst hz1;have h3:(t.kind==3)=false:=by simpa using h1
          clear HZ h1;generalize t.kind=kk at*;generalize (t.to:Int)=tz at*;unfold tokV;go_wp2_with fail;go_ret;exact⟨rfl,(uh HB) _⟩
theorem flt_ok_big(T:ByteArray)(h:(40:Int)<(T.size:Int))(w:World):Calls Tryz.prog 72 #[.string T] w λe w'=>e=.returned (.bool false)/\Below w.heap.size w w':=by
 have h0:((T.size:Int)==0)=false:=by rw[beq_eq_false_iff_ne];omega
 have hTe:¬T=ByteArray.empty:=λg=>by rw[g]at h;exact absurd h (by decide)
 go_enter Tryz.func72,Tryz.ntmps72;go_wp2_with fail;go_ret;exact⟨rfl,Below.refl _ _⟩
theorem ssv_ne(X:List UInt8):ssv X≠1/\ssv X≠3:=by
 unfold ssv;split
 ·exact⟨by omega,by omega⟩
 ·split
  ·exact⟨by omega,by omega⟩
  ·exact⟨by decide,by decide⟩
theorem Tko.name{t:Tk}(h:Tko T L p t)(hk:t.kind=1):isL (lk L p)=true/\t.text=T.extract p t.to:=by
 cases h with
 |nl _=>simp at hk
 |word m hL hm=>
  refine⟨hL,?_⟩
  have h22:¬m<22:=λg=>by
   have hk2:wkI m=1:=hk;unfold wkI at hk2;rw[if_pos g]at hk2;omega
  show wkT m _=_;unfold wkT;rw[if_neg h22]
 |num kd tn nu tx hD _ hn=>
  exfalso;have hk2:kd=1:=hk;cases hn<;>omega
 |hex ok tn n _ h=>cases ok<;>simp at hk
 |str ok tn t _ h=>cases ok<;>simp at hk
 |sign m kd tn _ _ _ _ hm hk2=>
  exfalso;have hk3:kd=1:=hk;rcases hk2 with⟨_,h,_⟩|⟨_,h,_⟩
  ·exact(ssv_ne _).1 (h.symm.trans hk3)
  ·omega
theorem Tko.flt {T:ByteArray} {L:List UInt8} {p:Nat} {t:Tk} (h:Tko T L p t) (hk:t.kind=3):isD (lk L p)=true/\t.text=T.extract p t.to:=by
 cases h with
 |nl _=>simp at hk
 |word m hL hm=>
  exfalso;have hk2:wkI m=3:=hk;unfold wkI at hk2;split at hk2<;>omega
 |num kd tn nu tx hD _ hn=>
  have hk2:kd=3:=hk;refine⟨hD,?_⟩;cases hn with
  |bad _ _=>omega
  |flt _ _=>rfl
  |int _ v _ _=>omega
  |big _ _ _=>rfl
 |hex ok tn n _ h=>cases ok<;>simp at hk
 |str ok tn t _ h=>cases ok<;>simp at hk
 |sign m kd tn _ _ _ _ hm hk2=>
  exfalso;have hk3:kd=3:=hk;rcases hk2 with⟨_,h,_⟩|⟨_,h,_⟩
  ·exact(ssv_ne _).2 (h.symm.trans hk3)
  ·omega
theorem extract_whole{q:Nat}(h:T.extract p q=T)(h1:p<q)(h2:q<=T.size):p=0/\q=T.size:=by
 have:=congrArg ByteArray.size h;rw[ByteArray.size_extract]at this;omega
theorem extract_self(T:ByteArray):T.extract 0 T.size=T:=by
 apply ByteArray.ext
 simp
theorem one_tok(hT:T.data.toList=L){tk:Nat->Tk}(htk:∀p,p<L.length->Tko T L p (tk p)){xs:List (Nat×Int)}(hrun:Run L tk (bl L 0) 1 xs e st)(kd:Int)(pr:UInt8->Bool)(hk0:kd≠0)
  (hA:∀p t,Tko T L p t->t.kind=kd->pr (lk L p)=true/\t.text=T.extract p t.to) (hb:∀c,pr c=true->¬(c.toNat=32\/c.toNat=9\/c.toNat=13)/\c.toNat≠45) (n:Nat) (hn:n=if st=true then 0 else xs.length):
  (n=1/\(tvs tk xs 0).k=kd/\(tvs tk xs 0).x=T)↔(0<L.length/\pr (lk L 0)=true/\(tk 0).kind=kd/\(tk 0).to=L.length):=by
 have hs:T.size=L.length:=by rw[<-hT];simp
 have ok:=tko_ok htk;constructor
 ·rintro⟨h1,h2,h3⟩
  have hst:st=false:=by
   cases st with
   |false=>rfl
   |true=>rw[if_pos rfl]at hn;omega
  subst hst;rw[if_neg (by decide)]at hn;rcases hrun.inv with⟨r1,_⟩|⟨r1,_⟩|⟨ts,r1,r2,r3,r4⟩
  ·rw[r1]at hn;simp at hn;omega
  ·rw[r1]at hn;simp at hn;omega
  ·rw[r1]at h2 h3;have h2':(tk (bl L 0)).kind=kd:=h2;have h3':(tk (bl L 0)).text=T:=h3;obtain⟨a1,a2⟩:=hA _ _ (htk _ r2) h2';have a3:=ok.lt _ r2 r3;have a4:=ok.le _ r2;obtain⟨b1,b2⟩:=extract_whole (a2.symm.trans h3') a3 (by omega);rw[b1]at a1 h2' b2 r2;exact⟨r2,a1,h2',by omega⟩
 ·rintro⟨h1,h2,h3,h4⟩;obtain⟨g1,g2⟩:=hb _ h2;have hb0:bl L 0=0:=bl_other (lk_at h1) g1 (λg=>g2 g.1);rw[hb0]at hrun;rcases hrun.inv with⟨_,r2,_⟩|⟨_,_,r3,_⟩|⟨ts,r1,r2,r3,r4⟩
  ·omega
  ·omega
  ·rw[h4,bl_end (Nat.le_refl _)]at r4;rcases r4.inv with⟨q1,q2,q3,q4⟩|⟨_,q2,_⟩|⟨_,_,q2,_⟩
   ·subst q4;rw[if_neg (by decide),r1,q1]at hn;rw[r1,q1];refine⟨hn,h3,?_⟩;show(tk 0).text=T;rw[(hA _ _ (htk 0 h1) h3).2,h4,<-hs];exact extract_self T
   ·omega
   ·omega
theorem isL_far(c:UInt8)(h:isL c=true):¬(c.toNat=32\/c.toNat=9\/c.toNat=13)/\c.toNat≠45:=by
 unfold isL at h;simp at h;omega
theorem isD_far(c:UInt8)(h:isD c=true):¬(c.toNat=32\/c.toNat=9\/c.toNat=13)/\c.toNat≠45:=by
 have:=digit_nat h;omega
def TxtC(sf:Nat)(kd:Int)(T R:ByteArray):Prop:=(∃z:Bool,(∀w,Calls Tryz.prog sf #[.string T] w λe w'=>e=.returned (.bool z)/\Below w.heap.size w w')/\R=(if z=true then T else⟨#[]⟩)/\(z=true->0<T.size))/\
 ∀(f t l nn:Int) (w:World),Gd w->Calls Tryz.prog 128 #[.agg #[.int .i64 kd,.int .i64 f,.int .i64 t,.int .i64 l,.int .i64 nn,.string T],.int .i64 40] w λe w'=>e=.returned (.string R)/\Rd.Kept w w'
theorem scan_c(T:ByteArray)(L:List UInt8)(hT:T.data.toList=L)(hlen:L.length<=40){tk:Nat->Tk}(htk:∀p,p<L.length->Tko T L p (tk p)){xs:List (Nat×Int)}(hrun:Run L tk (bl L 0) 1 xs e st):
  ∃(o:Bool) (a:Int),∀w,Gd w->Calls Tryz.prog 133 #[.string T] w λen w'=>Rd.Kept w w'/\∃v,en=.returned (.agg #[.bool o,.int .i64 a,v])/\Own w' w.heap.size v (if st=true then 0 else xs.length) (tvs tk xs):=by
 have hs:T.size=L.length:=by rw[<-hT];simp
 have ok:=tko_ok htk;have hxl:xs.length<=65536:=by have:=run_len ok hrun (bl_le L 0 zq);omega
 have h6:=λw (hg:Gd w)=>impl_scan T L hT (by omega) tk ok xs e st hrun w hg (λB hB=>tko_impl hT (by omega) hB htk) hxl;cases st with
 |true=>exact⟨false,e,λw hg=>(h6 w hg).mono λen w' hh=>⟨hh.1,.slice none 0 0,by obtain⟨v,hv,_⟩:=hh.2;exact hv,own_nil _ _ _⟩⟩
 |false=>exact⟨true,0,λw hg=>(h6 w hg).mono λen w' hh=>⟨hh.1,by obtain⟨v,hv,ho⟩:=hh.2;exact⟨v,hv,own_row (ho rfl)⟩⟩⟩
theorem txt_any(sf:Nat)(kd:Int)(pr:UInt8->Bool)(hk0:kd≠0)(T:ByteArray)(hb:∀c,pr c=true->¬(c.toNat=32\/c.toNat=9\/c.toNat=13)/\c.toNat≠45)
    (hA:∀L p t,Tko T L p t->t.kind=kd->pr (lk L p)=true/\t.text=T.extract p t.to)
    (hbig:(40:Int)<(T.size:Int)->∀w,Calls Tryz.prog sf #[.string T] w λe w'=>e=.returned (.bool false)/\Below w.heap.size w w')
    (hok:∀(L:List UInt8) (hT:T.data.toList=L) (hlen:L.length<=40) (t:Tk) (ht:0<L.length->∀w,Calls Tryz.prog 97 #[.string T,.int .i64 0] w (NumP w t.kind 0 t.to t.num t.text)) (z:Bool) (hz:(0<L.length/\pr (lk L 0)=true/\t.kind=kd/\t.to=L.length/\z=true)\/(¬(0<L.length/\pr (lk L 0)=true/\t.kind=kd/\t.to=L.length)/\z=false)) (w:World),
      Calls Tryz.prog sf #[.string T] w λe w'=>e=.returned (.bool z)/\Below w.heap.size w w'):∃R,TxtC sf kd T R:=by
  by_cases h40:(40:Int)<(T.size:Int)
  · exact⟨⟨#[]⟩,⟨false,hbig h40,rfl,λh=>by cases h⟩,λf t l nn w _=>tok_big T kd f t l nn h40 w⟩
  · obtain⟨L,hT⟩:∃L,T.data.toList=L:=⟨_,rfl⟩
    have hs:T.size=L.length:=by rw[<-hT];simp
    obtain⟨tk,htk⟩:=tk_any T L;have ok:=tko_ok htk;obtain⟨xs,e,st,hrun⟩:=run_any ok L.length (bl L 0) 1 (bl_le L 0 zq) (by omega);obtain⟨o,a,h6⟩:=scan_c T L hT (by omega) htk hrun;have key:=one_tok hT htk hrun kd pr hk0 (λp t=>hA L p t) hb _ rfl;have hrd:0<L.length->∀w,Calls Tryz.prog 97 #[.string T,.int .i64 0] w (NumP w (tk 0).kind 0 (tk 0).to (tk 0).num (tk 0).text):=λh0 w=>tko_spec hT (by omega) htk 0 w h0;by_cases hc:0<L.length/\pr (lk L 0)=true/\(tk 0).kind=kd/\(tk 0).to=L.length
    · have hk:=key.2 hc
      exact⟨T,⟨true,λw=>hok L hT (by omega) (tk 0) hrd true (.inl ⟨hc.1,hc.2.1,hc.2.2.1,hc.2.2.2,rfl⟩) w,rfl,λ_=>by have:=hc.1;omega⟩,
        λf t l nn w hg=>impl_tok T kd f t l nn h40 o a _ _ h6 T (.inl ⟨hk.1,hk.2.1,hk.2.2,rfl⟩) w hg⟩
    · exact ⟨⟨#[]⟩, ⟨false, fun w => hok L hT (by omega) (tk 0) hrd false (.inr ⟨hc, rfl⟩) w, rfl, fun h => by cases h⟩,
        λf t l nn w hg=>impl_tok T kd f t l nn h40 o a _ _ h6 ⟨#[]⟩ (.inr ⟨λh1 h2 h3=>hc (key.1 ⟨h1,h2,h3⟩),rfl⟩) w hg⟩
theorem txt_name(T:ByteArray):∃R,TxtC 73 1 T R:=
 txt_any _ 1 isL (by decide) T isL_far (λL p t h hk=>h.name hk) (λh w=>name_ok_big T h w) (λL hT hlen t ht z hz w=>name_ok T L hT hlen t ht z hz w)
theorem txt_flt(T:ByteArray):∃R,TxtC 72 3 T R:=
 txt_any _ 3 isD (by decide) T isD_far (λL p t h hk=>h.flt hk) (λh w=>flt_ok_big T h w) (λL hT hlen t ht z hz w=>flt_ok T L hT hlen t ht z hz w)
theorem qr_cells_d(w:World)(c:Array Value)(t:TypeId)(l:List Value)(hl:c.toList=l):∀j u,l[j]? =some u->(w.alloc (.cells c t)).drew.cell? ((⟨w.heap.size,0,none⟩:Addr).add j)=some u:=qr_cells w c t l hl
def FinQ(w wr:World)(L:List UInt8)(k:Nat)(x:UInt8)(v:Value):Prop:=
 ∀(m:List UInt8) (o:Obj) (v':Value) (w1:World),qel x=m->w1.ownsRow w.heap.size 5 1 v' ((quo L k).length+m.length) (Lib.byteCells (quo L k)++Lib.byteCells m)->(wr.alloc o).grownBy w1 v.ownBlock->Hid (QR w (quo L (k+1)) v' w1)
def FinC(w wr:World)(L:List UInt8)(v:Value):Prop:=
 ∀(o:Obj) (v':Value) (w1:World),w1.ownsRow w.heap.size 5 1 v' ((quo L L.length).length+1) (Lib.byteCells (quo L L.length)++Lib.byteCells [34])->(wr.alloc o).grownBy w1 v.ownBlock->(convert 38 9 v').run Tryz.prog w1=.ok (Value.string (ByteArray.mk (quo L L.length++[34]).toArray)) w1/\Below w.heap.size w w1
theorem spec_quote(T:ByteArray)(L:List UInt8)(hT:T.data.toList=L)(hlen:L.length<=4000)(w:World):
  Calls Tryz.prog 81 #[.string T] w λe w'=>e=.returned (.string ⟨(quo L L.length++[34]).toArray⟩)/\Below w.heap.size w w':=by
 have hsz:T.size=L.length:=by rw[<-hT];simp
 have HX:=λk c hk=>ix T L hT k c hk;obtain⟨i0,hi,hz0,hz1,hz2⟩:=info_parts info5;have HI:Hid (Tryz.prog.info? 5=some i0):=hi
 have h0:QR w (quo L 0) (.slice (some ⟨w.heap.size,0,none⟩) 1 1) (w.alloc (.cells #[.int .u8 34] 5)):=by
  rw[quo_zero];exact⟨World.ownsRow_lit w #[.int .u8 34] 1 (Nat.le_refl _) (by unfold maxLen;omega) (by simp),(Below.refl _ w).alloc (Nat.le_refl _) _⟩
 have H0:Hid (QR w (quo L 0) (.slice (some ⟨w.heap.size,0,none⟩) 1 1) (w.alloc (.cells #[.int .u8 34] 5))):=h0;clear h0;go_enter Tryz.func81,Tryz.ntmps81;go_wp2_with fail
 go_loopw [4,5] (λs i wr=>∃(k:Nat) (v:Value),v=s/\k<=L.length/\i=.int .i64 k/\Hid (QR w (quo L k) v wr)) (λ_ i _=>L.length-(intOf i).toNat)
 case atStart=>exact⟨0,_,rfl,by omega,rfl,H0⟩
 case round=>
  clear H0;obtain⟨k,v,hv,hk,rfl,HQ⟩:=hrel;subst hv;have hQ:=(uh HQ)
  have hql:=quo_len L k;have hbs:=hQ.2.size;have howna:=λo:Obj=>hQ.1.alloc o;have hownd:∀o:Obj,((wr.drew).alloc o).ownsRow w.heap.size 5 1 v (quo L k).length (Lib.byteCells (quo L k)):=λo=>hQ.1.alloc o;by_cases hkn:k<L.length
  ·have hxx:L[k]? =some L[k]:=List.getElem?_eq_getElem hkn;have hgx:=HX k L[k] hxx;have hqs:=quo_succ L k L[k] hxx;generalize L[k]=x at hgx hqs;have hxl:=x.toNat_lt;clear HX hT hxx
   have fin:∀(m:List UInt8) (o:Obj) (v':Value) (w1:World),qel x=m->w1.ownsRow w.heap.size 5 1 v' ((quo L k).length+m.length) (Lib.byteCells (quo L k)++Lib.byteCells m)->(wr.alloc o).grownBy w1 v.ownBlock->Hid (QR w (quo L (k+1)) v' w1):=by
    intro m o v' w1 hm ho hg;show QR w (quo L (k+1)) v' w1;rw[hqs,hm];exact qr_step hQ ho hg
   have FIN:FinQ w wr L k x v:=fin;clear hqs fin;have hkk:(k:Int)<4000:=by omega
   by_cases hc:x.toNat=10
   ·have hq:qel x=[92,110]:=by unfold qel;rw[if_pos hc]
    have hxi:(x.toNat:Int)=10:=by omega
    rw[hxi]at hgx;clear hc hxi;go_wp2_with (at_builtin;refine wpList_append_own _ rfl (.tmp 24) (.tmp 25) 38 rfl w.heap.size 5 i0 (.int .u8 0) 1 1 Tryz.underlying38 HI hz0 hz1 hz2 rfl (by decide) _ _ _ rfl (howna _) ⟨wr.heap.size,0,none⟩ 2 2 [.int .u8 92,.int .u8 110] rfl rfl (qr_cells wr #[.int .u8 92,.int .u8 110] 5 _ rfl) (bc_one [92,110]) (by unfold maxLen;omega) (by omega) (by simp;omega) ?_;intro v' w1 hown1 hgrow1 _);have HN:=FIN [92,110] _ _ _ hq hown1 hgrow1;clear FIN hown1 hgrow1 HQ hQ howna;go_wp2_with fail;go_roundw
    case rel=>exact⟨k+1,_,rfl,by omega,by go_num,HN⟩
    case measure=>simp[intOf];omega
   have n10:=hc;clear hc;by_cases hc:x.toNat=9
   ·have hq:qel x=[92,116]:=by unfold qel;rw[if_neg n10,if_pos hc]
    have hxi:(x.toNat:Int)=9:=by omega
    rw[hxi]at hgx;clear hc hxi n10;go_wp2_with (at_builtin;refine wpList_append_own _ rfl (.tmp 30) (.tmp 31) 38 rfl w.heap.size 5 i0 (.int .u8 0) 1 1 Tryz.underlying38 HI hz0 hz1 hz2 rfl (by decide) _ _ _ rfl (howna _) ⟨wr.heap.size,0,none⟩ 2 2 [.int .u8 92,.int .u8 116] rfl rfl (qr_cells wr #[.int .u8 92,.int .u8 116] 5 _ rfl) (bc_one [92,116]) (by unfold maxLen;omega) (by omega) (by simp;omega) ?_;intro v' w1 hown1 hgrow1 _);have HN:=FIN [92,116] _ _ _ hq hown1 hgrow1;clear FIN hown1 hgrow1 HQ hQ howna;go_wp2_with fail;go_roundw
    case rel=>exact⟨k+1,_,rfl,by omega,by go_num,HN⟩
    case measure=>simp[intOf];omega
   have n9:=hc;clear hc;by_cases hc:x.toNat=34
   ·have hq:qel x=[92,34]:=by unfold qel;rw[if_neg n10,if_neg n9,if_pos hc]
    have hxi:(x.toNat:Int)=34:=by omega
    rw[hxi]at hgx;clear hc hxi n10 n9;go_wp2_with (at_builtin;refine wpList_append_own _ rfl (.tmp 40) (.tmp 42) 38 rfl w.heap.size 5 i0 (.int .u8 0) 1 1 Tryz.underlying38 HI hz0 hz1 hz2 rfl (by decide) _ _ _ rfl (howna _) ⟨wr.heap.size,0,none⟩ 2 2 [.int .u8 92,.int .u8 34] rfl rfl (qr_cells wr #[.int .u8 92,.int .u8 34] 5 _ rfl) (bc_one [92,34]) (by unfold maxLen;omega) (by omega) (by simp;omega) ?_;intro v' w1 hown1 hgrow1 _);have HN:=FIN [92,34] _ _ _ hq hown1 hgrow1;clear FIN hown1 hgrow1 HQ hQ howna;go_wp2_with fail;go_roundw
    case rel=>exact⟨k+1,_,rfl,by omega,by go_num,HN⟩
    case measure=>simp[intOf];omega
   have n34:=hc;clear hc;by_cases hc:x.toNat=92
   ·have hq:qel x=[92,92]:=by unfold qel;rw[if_neg n10,if_neg n9,if_neg n34,if_pos hc]
    have hxi:(x.toNat:Int)=92:=by omega
    rw[hxi]at hgx;clear hc hxi n10 n9 n34;go_wp2_with (at_builtin;refine wpList_append_own _ rfl (.tmp 40) (.tmp 42) 38 rfl w.heap.size 5 i0 (.int .u8 0) 1 1 Tryz.underlying38 HI hz0 hz1 hz2 rfl (by decide) _ _ _ rfl (howna _) ⟨wr.heap.size,0,none⟩ 2 2 [.int .u8 92,.int .u8 92] rfl rfl (qr_cells wr #[.int .u8 92,.int .u8 92] 5 _ rfl) (bc_one [92,92]) (by unfold maxLen;omega) (by omega) (by simp;omega) ?_;intro v' w1 hown1 hgrow1 _);have HN:=FIN [92,92] _ _ _ hq hown1 hgrow1;clear FIN hown1 hgrow1 HQ hQ howna;go_wp2_with fail;go_roundw
    case rel=>exact⟨k+1,_,rfl,by omega,by go_num,HN⟩
    case measure=>simp[intOf];omega
   have n92:=hc;clear hc;by_cases hc:x.toNat<32\/126<x.toNat
   ·have hq:qel x=[92,120,hx (x.toNat / 16),hx (x.toNat%16)]:=by unfold qel;rw[if_neg n10,if_neg n9,if_neg n34,if_neg n92,if_pos hc]
    have hi1:=ixh (x.toNat / 16) (by omega);have hi2:=ixh (x.toNat%16) (by omega);have i1:((x.toNat:Int)==10)=false:=by simp;omega
    have i2:((x.toNat:Int)==9)=false:=by simp;omega
    have i3:((x.toNat:Int)==34)=false:=by simp;omega
    have i4:((x.toNat:Int)==92)=false:=by simp;omega
    have hcc:(x.toNat:Int)<32\/(¬(x.toNat:Int)<32/\126<(x.toNat:Int)):=by omega
    have hxe:(Lib.byteCells [92,120,hx (x.toNat / 16),hx (x.toNat%16)])=[.int .u8 92,.int .u8 120,.int .u8 ((hx (x.toNat / 16)).toNat:Int),.int .u8 ((hx (x.toNat%16)).toNat:Int)]:=rfl;have h1c:=bc_one [92,120,hx (x.toNat / 16),hx (x.toNat%16)];rw[hxe]at h1c;rw[show((x.toNat / 16:Nat):Int)=(x.toNat:Int) / 16 by omega]at hi1;rw[show((x.toNat%16:Nat):Int)=(x.toNat:Int)%16 by omega]at hi2;generalize hd1:((hx (x.toNat / 16)).toNat:Int)=d1 at hi1 h1c hxe;generalize hd2:((hx (x.toNat%16)).toNat:Int)=d2 at hi2 h1c hxe;generalize hd0:(x.toNat:Int)=xi at hgx hi1 hi2 i1 i2 i3 i4 hcc;have hx0:0<=xi:=by omega
    have hx1:xi<256:=by omega
    have hbt:bits BinOp.and IntKind.u8 xi 15=xi%16:=by go_bits;trivial
    generalize xi%16=r2 at hbt hi2;clear n10 n9 n34 n92 hc;rcases hcc with hcc|⟨i5,hcc⟩
    all_goals
     go_wp2_with fail
     go_region_held_law (λ_=>True) (trivial) ((refine step_append_own rfl (.tmp 51) (.tmp 60) 38 rfl w.heap.size 5 i0 (.int .u8 0) 1 1 Tryz.underlying38 HI hz0 hz1 hz2 rfl (by decide) v _ _ rfl (hownd _) ⟨wr.heap.size,0,none⟩ 4 4 [.int .u8 92,.int .u8 120,.int .u8 d1,.int .u8 d2] rfl rfl (qr_cells_d wr #[.int .u8 92,.int .u8 120,.int .u8 d1,.int .u8 d2] 5 _ rfl) h1c (by unfold maxLen;omega) (by omega) (by simp;omega) ?_;intro v' w1 hown1 hgrow1 _))
     all_goals
      have HN:=FIN [92,120,hx (x.toNat / 16),hx (x.toNat%16)] (.cells #[.int .u8 92,.int .u8 120,.int .u8 d1,.int .u8 d2] 5) _ _ hq (by rw[hxe];exact hown1) (by obtain⟨g1,g2,g3,g4,g5⟩:=hgrow1;exact⟨g1,g2,g3,g4,g5⟩);clear FIN hown1 hgrow1 HQ hQ howna hownd;go_wp2_with fail;go_roundw
      case rel=>exact⟨k+1,_,rfl,by omega,by go_num,HN⟩
      case measure=>simp[intOf];omega
   ·have hq:qel x=[x]:=by unfold qel;rw[if_neg n10,if_neg n9,if_neg n34,if_neg n92,if_neg hc]
    have i1:((x.toNat:Int)==10)=false:=by simp;omega
    have i2:((x.toNat:Int)==9)=false:=by simp;omega
    have i3:((x.toNat:Int)==34)=false:=by simp;omega
    have i4:((x.toNat:Int)==92)=false:=by simp;omega
    have i5:¬(x.toNat:Int)<32:=by omega
    have i6:¬126<(x.toNat:Int):=by omega
    clear n10 n9 n34 n92 hc;have hxe:(Lib.byteCells [x])=[.int .u8 x.toNat]:=rfl;have h1c:∀u ∈ [Value.int .u8 x.toNat],u.oneCell'=true:=bc_one [x];generalize hxi:(x.toNat:Int)=xi at hgx i1 i2 i3 i4 i5 i6 hxe h1c;go_wp2_with (at_builtin;refine wpList_append_own _ rfl (.tmp 17) (.tmp 19) 38 rfl w.heap.size 5 i0 (.int .u8 0) 1 1 Tryz.underlying38 HI hz0 hz1 hz2 rfl (by decide) _ _ _ rfl (howna _) ⟨wr.heap.size,0,none⟩ 1 1 [.int .u8 xi] rfl rfl (qr_cells wr #[.int .u8 xi] 5 _ rfl) h1c (by unfold maxLen;omega) (by omega) (by simp;omega) ?_;intro v' w1 hown1 hgrow1 _);have HN:=FIN [x] _ _ _ hq (by rw[hxe];exact hown1) hgrow1;clear FIN hown1 hgrow1 HQ hQ howna hownd;go_wp2_with fail;go_roundw
    case rel=>exact⟨k+1,_,rfl,by omega,by go_num,HN⟩
    case measure=>simp[intOf];omega
  ·obtain rfl:k=L.length:=by omega
   have HC:FinC w wr L v:=
    (λo v' w1 ho hg=>by
     have hN:=qr_step (m:=[34]) hQ ho hg
     exact⟨conv_row (by simp) hN,hN.2⟩)
   clear HX hT;go_wp2_with (at_builtin;refine wpList_append_own _ rfl (.tmp 62) (.tmp 63) 38 rfl w.heap.size 5 i0 (.int .u8 0) 1 1 Tryz.underlying38 HI hz0 hz1 hz2 rfl (by decide) _ _ _ rfl (howna _) ⟨wr.heap.size,0,none⟩ 1 1 [.int .u8 34] rfl rfl (qr_cells wr #[.int .u8 34] 5 _ rfl) (bc_one [34]) (by unfold maxLen;omega) (by omega) (by simp;omega) ?_;intro v' w1 hown1 hgrow1 _);obtain⟨hcv,hbl⟩:=HC _ _ _ hown1 hgrow1;clear HC hown1 hgrow1 HQ hQ howna hownd;go_wp2_with fail;rw[hcv];go_wp2_with fail;go_ret;exact⟨rfl,hbl⟩
