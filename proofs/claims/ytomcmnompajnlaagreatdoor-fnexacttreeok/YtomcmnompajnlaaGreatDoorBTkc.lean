import Derived.Test.YtomcmnompajnlaaGreatDoorBSdj
namespace Go.Proofs.YtomcmnompajnlaaGreatDoor
open Go.ChangeShapes Go.WideShapes Go.ChangeAt Go.RowKit
set_option linter.unusedVariables false
theorem ssv_ne (X:List UInt8):ssv X ≠ 1∧ssv X ≠ 3:=by
  unfold ssv
  split
  · exact ⟨by omega,by omega⟩
  · split
    · exact ⟨by omega,by omega⟩
    · exact ⟨by decide,by decide⟩
theorem Tko.name {T:ByteArray} {L:List UInt8} {p:Nat} {t:Tk} (h:Tko T L p t) (hk:t.kind=1):isL (lk L p)=true∧t.text=T.extract p t.to:=by
  cases h with
  | nl _=>simp at hk
  | word m hL hm =>
    refine ⟨hL,?_⟩
    have h22:¬ m < 22:=fun g=>by
      have hk2:wkI m=1:=hk
      unfold wkI at hk2
      rw [if_pos g] at hk2
      omega
    show wkT m _ = _
    unfold wkT
    rw [if_neg h22]
  | num kd tn nu tx hD _ hn =>
    exfalso
    have hk2:kd=1:=hk
    cases hn <;> omega
  | hex ok tn n _ h=>cases ok <;> simp at hk
  | str ok tn t _ h=>cases ok <;> simp at hk
  | sign m kd tn _ _ _ _ hm hk2 =>
    exfalso
    have hk3:kd=1:=hk
    rcases hk2 with ⟨_,h,_⟩ | ⟨_,h,_⟩
    · exact (ssv_ne _).1 (h.symm.trans hk3)
    · omega
theorem Tko.flt {T:ByteArray} {L:List UInt8} {p:Nat} {t:Tk} (h:Tko T L p t) (hk:t.kind=3):isD (lk L p)=true∧t.text=T.extract p t.to:=by
  cases h with
  | nl _=>simp at hk
  | word m hL hm =>
    exfalso
    have hk2:wkI m=3:=hk
    unfold wkI at hk2
    split at hk2 <;> omega
  | num kd tn nu tx hD _ hn =>
    have hk2:kd=3:=hk
    refine ⟨hD,?_⟩
    cases hn with
    | bad _ _=>omega
    | flt _ _=>rfl
    | int _ v _ _=>omega
    | big _ _ _=>rfl
  | hex ok tn n _ h=>cases ok <;> simp at hk
  | str ok tn t _ h=>cases ok <;> simp at hk
  | sign m kd tn _ _ _ _ hm hk2 =>
    exfalso
    have hk3:kd=3:=hk
    rcases hk2 with ⟨_,h,_⟩ | ⟨_,h,_⟩
    · exact (ssv_ne _).2 (h.symm.trans hk3)
    · omega
theorem extract_whole {T:ByteArray} {p q:Nat} (h:T.extract p q=T) (h1:p < q) (h2:q≤T.size):p=0∧q=T.size:=by
  have:=congrArg ByteArray.size h
  rw [ByteArray.size_extract] at this
  omega
theorem extract_self (T:ByteArray):T.extract 0 T.size=T:=by
  apply ByteArray.ext
  simp
theorem one_tok {T : ByteArray} {L : List UInt8} (hT : T.data.toList = L) {tk : Nat → Tk} (htk : ∀ p, p < L.length → Tko T L p (tk p)) {xs : List (Nat × Int)} {e : Nat} {st : Bool} (hrun : Run L tk (bl L 0) 1 xs e st) (kd : Int) (pr : UInt8 → Bool) (hk0 : kd ≠ 0)
    (hA:∀ p t,Tko T L p t→t.kind=kd→pr (lk L p)=true∧t.text=T.extract p t.to) (hb:∀ c,pr c=true→¬ (c.toNat=32∨c.toNat=9∨c.toNat=13)∧c.toNat ≠ 45) (n:Nat) (hn:n=if st=true then 0 else xs.length) :
    (n=1∧(tvs tk xs 0).k=kd∧(tvs tk xs 0).x=T)↔(0 < L.length∧pr (lk L 0)=true∧(tk 0).kind=kd∧(tk 0).to=L.length):=by
  have hs:T.size=L.length:=by rw [← hT];simp
  have ok:=tko_ok htk
  constructor
  · rintro ⟨h1,h2,h3⟩
    have hst:st=false:=by
      cases st with
      | false=>rfl
      | true=>rw [if_pos rfl] at hn;omega
    subst hst
    rw [if_neg (by decide)] at hn
    rcases hrun.inv with ⟨r1,_⟩ | ⟨r1,_⟩ | ⟨ts,r1,r2,r3,r4⟩
    · rw [r1] at hn;simp at hn;omega
    · rw [r1] at hn;simp at hn;omega
    · rw [r1] at h2 h3
      have h2':(tk (bl L 0)).kind=kd:=h2
      have h3':(tk (bl L 0)).text=T:=h3
      obtain ⟨a1,a2⟩:=hA _ _ (htk _ r2) h2'
      have a3:=ok.lt _ r2 r3
      have a4:=ok.le _ r2
      obtain ⟨b1,b2⟩:=extract_whole (a2.symm.trans h3') a3 (by omega)
      rw [b1] at a1 h2' b2 r2
      exact ⟨r2,a1,h2',by omega⟩
  · rintro ⟨h1,h2,h3,h4⟩
    obtain ⟨g1,g2⟩:=hb _ h2
    have hb0:bl L 0=0:=bl_other (lk_at h1) g1 (fun g=>g2 g.1)
    rw [hb0] at hrun
    rcases hrun.inv with ⟨_,r2,_⟩ | ⟨_,_,r3,_⟩ | ⟨ts,r1,r2,r3,r4⟩
    · omega
    · omega
    · rw [h4,bl_end (Nat.le_refl _)] at r4
      rcases r4.inv with ⟨q1,q2,q3,q4⟩ | ⟨_,q2,_⟩ | ⟨_,_,q2,_⟩
      · subst q4
        rw [if_neg (by decide),r1,q1] at hn
        rw [r1,q1]
        refine ⟨hn,h3,?_⟩
        show (tk 0).text=T
        rw [(hA _ _ (htk 0 h1) h3).2,h4,← hs]
        exact extract_self T
      · omega
      · omega
theorem isL_far (c:UInt8) (h:isL c=true):¬ (c.toNat=32∨c.toNat=9∨c.toNat=13)∧c.toNat ≠ 45:=by
  unfold isL at h
  simp at h
  omega
theorem isD_far (c:UInt8) (h:isD c=true):¬ (c.toNat=32∨c.toNat=9∨c.toNat=13)∧c.toNat ≠ 45:=by
  have:=digit_nat h
  omega
def TxtC (sf:Nat) (kd:Int) (T R:ByteArray):Prop:=(∃ z:Bool,(∀ w,Calls Tryz.prog sf #[.string T] w fun e w'=>e = .returned (.bool z)∧Below w.heap.size w w')∧R=(if z=true then T else ⟨#[]⟩)∧(z=true→0 < T.size)) ∧
  ∀ (f t l nn:Int) (w:World),Gd w→Calls Tryz.prog 153 #[.agg #[.int .i64 kd,.int .i64 f,.int .i64 t,.int .i64 l,.int .i64 nn,.string T],.int .i64 40] w fun e w'=>e = .returned (.string R)∧Rd.Kept w w'
theorem scan_c (T : ByteArray) (L : List UInt8) (hT : T.data.toList = L) (hlen : L.length ≤ 40) {tk : Nat → Tk} (htk : ∀ p, p < L.length → Tko T L p (tk p)) {xs : List (Nat × Int)} {e : Nat} {st : Bool} (hrun : Run L tk (bl L 0) 1 xs e st) :
    ∃ (o:Bool) (a:Int),∀ w,Gd w→Calls Tryz.prog 164 #[.string T] w fun en w'=>Rd.Kept w w'∧∃ v,en = .returned (.agg #[.bool o,.int .i64 a,v])∧Own w' w.heap.size v (if st=true then 0 else xs.length) (tvs tk xs):=by
  have hs:T.size=L.length:=by rw [← hT];simp
  have ok:=tko_ok htk
  have hxl:xs.length≤65536:=by have:=run_len ok hrun (bl_le L 0 (Nat.zero_le _));omega
  have h6:=fun w (hg:Gd w)=>impl_scan T L hT (by omega) tk ok xs e st hrun w hg (fun B hB=>tko_impl hT (by omega) hB htk) hxl
  cases st with
  | true=>exact ⟨false,e,fun w hg=>(h6 w hg).mono fun en w' hh=>⟨hh.1,.slice none 0 0,by obtain ⟨v,hv,_⟩:=hh.2;exact hv,own_nil _ _ _⟩⟩
  | false=>exact ⟨true,0,fun w hg=>(h6 w hg).mono fun en w' hh=>⟨hh.1,by obtain ⟨v,hv,ho⟩:=hh.2;exact ⟨v,hv,own_row (ho rfl)⟩⟩⟩
theorem txt_any (sf : Nat) (kd : Int) (pr : UInt8 → Bool) (hk0 : kd ≠ 0) (T : ByteArray) (hb : ∀ c, pr c = true → ¬ (c.toNat = 32 ∨ c.toNat = 9 ∨ c.toNat = 13) ∧ c.toNat ≠ 45)
    (hA:∀ L p t,Tko T L p t→t.kind=kd→pr (lk L p)=true∧t.text=T.extract p t.to)
    (hbig:(40:Int) < (T.size:Int)→∀ w,Calls Tryz.prog sf #[.string T] w fun e w'=>e = .returned (.bool false)∧Below w.heap.size w w')
    (hok:∀ (L:List UInt8) (hT:T.data.toList=L) (hlen:L.length≤40) (t:Tk) (ht : 0 < L.length→∀ w,Calls Tryz.prog 130 #[.string T,.int .i64 0] w (NumP w t.kind 0 t.to t.num t.text)) (z:Bool) (hz:(0 < L.length∧pr (lk L 0)=true∧t.kind=kd∧t.to=L.length∧z=true)∨(¬ (0 < L.length∧pr (lk L 0)=true∧t.kind=kd∧t.to=L.length)∧z=false)) (w:World),
      Calls Tryz.prog sf #[.string T] w fun e w'=>e = .returned (.bool z)∧Below w.heap.size w w'):∃ R,TxtC sf kd T R:=by
  by_cases h40:(40:Int) < (T.size:Int)
  · exact ⟨⟨#[]⟩,⟨false,hbig h40,rfl,fun h=>by cases h⟩,fun f t l nn w _=>tok_big T kd f t l nn h40 w⟩
  · obtain ⟨L,hT⟩:∃ L,T.data.toList=L:=⟨_,rfl⟩
    have hs:T.size=L.length:=by rw [← hT];simp
    obtain ⟨tk,htk⟩:=tk_any T L
    have ok:=tko_ok htk
    obtain ⟨xs,e,st,hrun⟩:=run_any ok L.length (bl L 0) 1 (bl_le L 0 (Nat.zero_le _)) (by omega)
    obtain ⟨o,a,h6⟩:=scan_c T L hT (by omega) htk hrun
    have key:=one_tok hT htk hrun kd pr hk0 (fun p t=>hA L p t) hb _ rfl
    have hrd : 0 < L.length→∀ w,Calls Tryz.prog 130 #[.string T,.int .i64 0] w (NumP w (tk 0).kind 0 (tk 0).to (tk 0).num (tk 0).text):=fun h0 w=>tko_spec hT (by omega) htk 0 w h0
    by_cases hc : 0 < L.length∧pr (lk L 0)=true∧(tk 0).kind=kd∧(tk 0).to=L.length
    · have hk:=key.2 hc
      exact ⟨T,⟨true,fun w=>hok L hT (by omega) (tk 0) hrd true (.inl ⟨hc.1,hc.2.1,hc.2.2.1,hc.2.2.2,rfl⟩) w,rfl,fun _=>by have:=hc.1;omega⟩,
        fun f t l nn w hg=>impl_tok T kd f t l nn h40 o a _ _ h6 T (.inl ⟨hk.1,hk.2.1,hk.2.2,rfl⟩) w hg⟩
    · exact ⟨⟨#[]⟩, ⟨false, fun w => hok L hT (by omega) (tk 0) hrd false (.inr ⟨hc, rfl⟩) w, rfl, fun h => by cases h⟩,
        fun f t l nn w hg=>impl_tok T kd f t l nn h40 o a _ _ h6 ⟨#[]⟩ (.inr ⟨fun h1 h2 h3=>hc (key.1 ⟨h1,h2,h3⟩),rfl⟩) w hg⟩
theorem txt_name (T:ByteArray):∃ R,TxtC 104 1 T R :=
  txt_any _ 1 isL (by decide) T isL_far (fun L p t h hk=>h.name hk) (fun h w=>name_ok_big T h w) (fun L hT hlen t ht z hz w=>name_ok T L hT hlen t ht z hz w)
theorem txt_flt (T:ByteArray):∃ R,TxtC 103 3 T R :=
  txt_any _ 3 isD (by decide) T isD_far (fun L p t h hk=>h.flt hk) (fun h w=>flt_ok_big T h w) (fun L hT hlen t ht z hz w=>flt_ok T L hT hlen t ht z hz w)
end Go.Proofs.YtomcmnompajnlaaGreatDoor
