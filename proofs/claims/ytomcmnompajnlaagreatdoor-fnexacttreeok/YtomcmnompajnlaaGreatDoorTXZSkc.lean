import Derived.Test.YtomcmnompajnlaaGreatDoorTXZBaw
set_option maxRecDepth 100000
set_option maxHeartbeats 8000000
namespace Go.Proofs.YtomcmnompajnlaaGreatDoor.Fo.Po
open Go.ChangeShapes Go.WideShapes Go.ChangeAt Go.RowKit
set_option linter.unusedVariables false
theorem sp_exprs {a : Fv} {vn vk v : Value} {q n : Nat} {K : Nat → Int} {F : Nat → Gv} (w : World) (hf : RowF w v n F) (hr : RowV w vk q (fun i => .int .i64 (K i))) (hvn : ∃ pn p cn, vn = .slice pn p cn) (x y : Int) (i0 k0 : Nat) (hx : x = (i0 : Int)) (hy : y = (k0 : Int)) (hk : k0 ≤ q) (hi0 : i0 ≤ 1048576) (hq : q ≤ 1048576) (hn : n ≤ 1048576) (hK : ∀ j, j < q → 0 ≤ K j ∧ K j < (n : Int)) :
  Calls Tryz.prog 119 #[.agg #[v],fmv a vn vk,.int .i64 x,.int .i64 y] w fun e w'=>e = .returned (.bool (dc (∀ j,i0≤j→j < k0→20≤kdk F K j∧kdk F K j≤37)))∧Below w.heap.size w w':=by
 subst hx
 subst hy
 obtain ⟨pn,p,cn,rfl⟩:=hvn
 obtain ⟨pk,ck,rfl,hk2⟩:=hr
 obtain ⟨pf,cf,rfl,hf2⟩:=hf
 have HC:Hid (∀ j,j < q→0≤K j∧K j < (n:Int)∧∃ b c:Addr,pk=some b∧pf=some c∧q≤ck∧n≤cf∧(∀ (x y:Obj) (d:Nat),(((w.alloc x).alloc y).drewN d).cell? (b.add j)=some (.int .i64 (K j)))∧∀ (x y:Obj) (d:Nat),(((w.alloc x).alloc y).drewN d).cell? (c.add ((K j).toNat*10))=some (.int .i64 (kdk F K j))):=(fun j hj=>by
  obtain ⟨h0,h1⟩:=hK j hj
  obtain ⟨b,rfl,hcb,hrb⟩:=hk2 (by omega)
  obtain ⟨c,rfl,hcc,hrc⟩:=hf2 (by omega)
  have q0:=hrb j hj
  obtain ⟨un,uk,hc,_,_⟩:=hrc (K j).toNat (by omega)
  have e0:=hc.c0
  exact ⟨h0,h1,b,c,rfl,rfl,hcb,hcc,fun x y d=>((bdn (bel2 w x y) d).cell (lt_of_cell' q0)).trans q0,fun x y d=>((bdn (bel2 w x y) d).cell (lt_of_cell' e0)).trans e0⟩:∀ j,_)
 obtain ⟨R,hR⟩:∃ R,R=dc (∀ j,i0≤j→j < k0→20≤kdk F K j∧kdk F K j≤37):=⟨_,rfl⟩
 have HR:Hid (R=dc (∀ j,i0≤j→j < k0→20≤kdk F K j∧kdk F K j≤37)):=hR
 rw [← hR]
 have hqI:(q:Int)≤1048576:=by omega
 have hnI:(n:Int)≤1048576:=by omega
 have hkI:(k0:Int)≤(q:Int):=by omega
 have hi0I:(i0:Int)≤1048576:=by omega
 clear hR hK hk2 hf2
 unfold fmv
 obtain ⟨k,f,t,l,o,m,g,tx⟩:=a
 dsimp only
 go_enter Tryz.func119,Tryz.ntmps119
 go_wp2_with fail
 obtain ⟨W2,hW2⟩:∃ W2,W2=(w.alloc (.cells #[.slice pf n cf] 56)).alloc (.cells #[.int .i64 k,.int .i64 f,.int .i64 t,.int .i64 l,.int .i64 o,.int .i64 m,.float .f64 g,.string tx,.slice pn p cn,.slice pk q ck] 102):=⟨_,rfl⟩
 rw [← hW2]
 have c0:W2.cell? ⟨w.heap.size,0,none⟩=some (.slice pf n cf):=by
  rw [hW2]
  rw [World.cell?_alloc_past _ _ _ (by simp),World.cell?_alloc_at _ _ _ _ rfl];rfl
 have c9:W2.cell? ⟨w.heap.size+1,9,none⟩=some (.slice pk q ck):=by
  rw [hW2]
  rw [World.cell?_alloc_at _ _ _ _ (by simp)];rfl
 have HB:Hid (∀ d,Below w.heap.size w (W2.drewN d)):=(fun d=>by rw [hW2];exact bdn (bel2 _ _ _) _:∀ d,_)
 have HC2:Hid (∀ j,j < q→0≤K j∧K j < (n:Int)∧∃ b c:Addr,pk=some b∧pf=some c∧q≤ck∧n≤cf∧W2.cell? (b.add j)=some (.int .i64 (K j))∧W2.cell? (c.add ((K j).toNat*10))=some (.int .i64 (kdk F K j))):=(fun j hj=>by
  obtain ⟨h0,h1,b,c,e1,e2,h2,h3,h4,h5⟩:=(show ∀ j,j < q→_ from HC) j hj
  exact ⟨h0,h1,b,c,e1,e2,h2,h3,by rw [hW2];exact h4 _ _ 0,by rw [hW2];exact h5 _ _ 0⟩:∀ j,_)
 clear hW2 HC
 go_loopw [9] (fun s9 wr=>∃ i:Nat,s9 = .int .i64 (i:Int)∧i≤max i0 k0∧Hid (wr.heap=W2.heap∧Below w.heap.size w wr)∧Hid (i0≤i∧∀ j,i0≤j→j < i→20≤kdk F K j∧kdk F K j≤37)) (fun s9 _=>k0 - (intOf s9).toNat)
 case atStart=>exact ⟨i0,rfl,by omega,(⟨rfl,(show ∀ d,Below w.heap.size w (W2.drewN d) from HB) 0⟩:_∧_),(⟨Nat.le_refl _,fun j h1 h2=>by omega⟩:_∧_)⟩
 case round =>
  obtain ⟨i,rfl,hin,HW,HI⟩:=hrel
  have hW:=(show wr.heap=W2.heap∧Below w.heap.size w wr from HW)
  have hcw:∀ p:Addr,wr.cell? p=W2.cell? p:=fun p=>World.cell?_of_block (by rw [hW.1])
  have hI:=(show i0≤i∧∀ j,i0≤j→j < i→20≤kdk F K j∧kdk F K j≤37 from HI)
  rcases Nat.lt_or_ge i k0 with hi | hi
  ·have hiI:(i:Int) < (k0:Int):=by omega
   have hiq:(i:Int) < (q:Int):=by omega
   obtain ⟨h0,h1,b,c,rfl,rfl,h2,h3,h4,h5⟩:=(show ∀ j,j < q→_ from HC2) i (by omega)
   rw [← hcw] at h4 h5 c0 c9
   have HW2:Hid (∀ d,(wr.drewN d).heap=W2.heap∧Below w.heap.size w (wr.drewN d)):=(fun d=>⟨hW.1,bdn hW.2 d⟩:∀ d,_)
   clear hcw hW
   by_cases hg : 20≤kdk F K i∧kdk F K i≤37
   ·have he:∀ w,Calls Tryz.prog 137 #[.int .i64 (kdk F K i)] w fun e w'=>e = .returned (.bool true)∧w'=w:=fun w=>by have:=sp_expr (kdk F K i) w;rw [dc_t hg] at this;exact this
    have HX:Hid (i0≤i+1∧∀ j,i0≤j→j < i+1→20≤kdk F K j∧kdk F K j≤37):=(⟨by omega,fun j h1 h2=>by
     by_cases e:j=i
     ·rw [e];exact hg
     ·exact hI.2 j h1 (by omega)⟩:_∧_)
    clear hI HI HC2 hg
    generalize kdk F K i=z at *
    generalize K i=y at *
    go_wp2_with fail
    go_quiet ((go_at_call 137;exact Calls.quiet_of_same (he _)))
    go_wp2_with fail
    go_roundw
    case rel=>exact ⟨i+1,by go_num,by omega,(show ∀ d,(wr.drewN d).heap=W2.heap∧Below w.heap.size w (wr.drewN d) from HW2) _,HX⟩
    case measure=>simp [intOf];omega
   ·have he:∀ w,Calls Tryz.prog 137 #[.int .i64 (kdk F K i)] w fun e w'=>e = .returned (.bool false)∧w'=w:=fun w=>by have:=sp_expr (kdk F K i) w;rw [dc_f hg] at this;exact this
    have HX:Hid (R=false):=(show R=dc (∀ j,i0≤j→j < k0→20≤kdk F K j∧kdk F K j≤37) from HR).trans (dc_f (fun g=>hg (g i hI.1 hi)))
    clear hI HI HC2 hg
    generalize kdk F K i=z at *
    generalize K i=y at *
    go_wp2_with fail
    go_quiet ((go_at_call 137;exact Calls.quiet_of_same (he _)))
    go_wp2_with fail
    go_ret
    exact ⟨by rw [show R=false from HX];rfl,((show ∀ d,(wr.drewN d).heap=W2.heap∧Below w.heap.size w (wr.drewN d) from HW2) _).2⟩
  ·have hiI:¬ (i:Int) < (k0:Int):=by omega
   have HX:Hid (R=true):=(show R=dc (∀ j,i0≤j→j < k0→20≤kdk F K j∧kdk F K j≤37) from HR).trans (dc_t (fun j h1 h2=>hI.2 j h1 (by omega)))
   clear hI HI HC2 hcw hW
   go_wp2_with fail
   go_ret
   exact ⟨by rw [show R=true from HX];rfl,HW.2⟩
structure Bx (W:World) (b:Nat) (a:Fv) (vn vk:Value):Prop where
 c0:W.cell? ⟨b,0,none⟩=some (.int .i64 a.k)
 c1:W.cell? ⟨b,1,none⟩=some (.int .i64 a.f)
 c2:W.cell? ⟨b,2,none⟩=some (.int .i64 a.t)
 c3:W.cell? ⟨b,3,none⟩=some (.int .i64 a.l)
 c4:W.cell? ⟨b,4,none⟩=some (.int .i64 a.o)
 c5:W.cell? ⟨b,5,none⟩=some (.int .i64 a.m)
 c6:W.cell? ⟨b,6,none⟩=some (.float .f64 a.g)
 c7:W.cell? ⟨b,7,none⟩=some (.string a.x)
 c8:W.cell? ⟨b,8,none⟩=some vn
 c9:W.cell? ⟨b,9,none⟩=some vk
theorem Bx.below {W W':World} {b:Nat} {a:Fv} {vn vk:Value} (h:Bx W b a vn vk) (hb:Below W.heap.size W W'):Bx W' b a vn vk:=by
 have hl:=lt_of_cell h.c0
 have e:∀ j,W'.cell? ⟨b,j,none⟩=W.cell? ⟨b,j,none⟩:=fun j=>hb.cell (p:=⟨b,j,none⟩) hl
 exact ⟨(e _).trans h.c0,(e _).trans h.c1,(e _).trans h.c2,(e _).trans h.c3,(e _).trans h.c4,(e _).trans h.c5,(e _).trans h.c6,(e _).trans h.c7,(e _).trans h.c8,(e _).trans h.c9⟩
theorem Bx.new (W:World) (a:Fv) (vn vk:Value) (t:TypeId):Bx (W.alloc (.cells #[.int .i64 a.k,.int .i64 a.f,.int .i64 a.t,.int .i64 a.l,.int .i64 a.o,.int .i64 a.m,.float .f64 a.g,.string a.x,vn,vk] t)) W.heap.size a vn vk:=by
 have e:∀ j,(W.alloc (.cells #[.int .i64 a.k,.int .i64 a.f,.int .i64 a.t,.int .i64 a.l,.int .i64 a.o,.int .i64 a.m,.float .f64 a.g,.string a.x,vn,vk] t)).cell? ⟨W.heap.size,j,none⟩=(#[.int .i64 a.k,.int .i64 a.f,.int .i64 a.t,.int .i64 a.l,.int .i64 a.o,.int .i64 a.m,.float .f64 a.g,.string a.x,vn,vk]:Array Value)[j]?:=fun j=>World.cell?_alloc_at _ _ _ _ rfl
 exact ⟨e 0,e 1,e 2,e 3,e 4,e 5,e 6,e 7,e 8,e 9⟩
def br (a:Fv) (p:Nat) (op num text names:Bool):Prop:=(op=true∨a.o=0)∧(num=true∨a.m=0)∧fz a.g∧(text=true∨a.x=⟨#[]⟩)∧(names=true∨p=0)
def ex (F:Nat→Gv) (K:Nat→Int) (i k:Nat):Prop:=∀ j,i≤j→j < k→20≤kdk F K j∧kdk F K j≤37
structure Sy (nm:ByteArray→Prop) (W2:World) (b:Nat) (v:Value) (n:Nat) (F:Nat→Gv) (a:Fv) (vn vk:Value) (p:Nat) (A:Nat→ByteArray) (q:Nat) (K:Nat→Int):Prop where
 hn:NmS nm
 hga:a.g < 18446744073709551616
 ct:W2.cell? ⟨b,0,none⟩=some v
 bx:Bx W2 (b+1) a vn vk
 rf:RowF W2 v n F
 rn:RowV W2 vn p (fun i=>.string (A i))
 rk:RowV W2 vk q (fun i=>.int .i64 (K i))
 hp:p≤1048576
 hq:q≤1048576
 hnn:n≤1048576
 hk:∀ j,j < q→0≤K j∧K j < (n:Int)
section
variable {nm:ByteArray→Prop} {W2:World} {b:Nat} {v:Value} {n:Nat} {F:Nat→Gv} {a:Fv} {vn vk:Value} {p:Nat} {A:Nat→ByteArray} {q:Nat} {K:Nat→Int}
theorem Sy.bare (s:Sy nm W2 b v n F a vn vk p A q K) (op num text names:Bool) (W:World) (hb:Below W2.heap.size W2 W):Calls Tryz.prog 117 #[fmv a vn vk,.bool op,.bool num,.bool text,.bool names] W fun e w'=>e = .returned (.bool (dc (br a p op num text names)))∧Below W2.heap.size W2 w':=by
 obtain ⟨pn,cn,rfl,_⟩:=s.rn
 obtain ⟨pk,ck,rfl,_⟩:=s.rk
 have hp:=s.hp
 exact (sp_bare a s.hga pn p cn _ ⟨pk,q,ck,rfl⟩ op num text names W (by omega)).mono fun e w' h=>⟨h.1,below_to hb h.2⟩
theorem Sy.named (s:Sy nm W2 b v n F a vn vk p A q K) (x y:Int) (hx : 0≤x) (hy:y≤1000) (W:World) (hb:Below W2.heap.size W2 W):Calls Tryz.prog 118 #[fmv a vn vk,.int .i64 x,.int .i64 y] W fun e w'=>e = .returned (.bool (dc (nd nm p A x y)))∧Below W2.heap.size W2 w':=by
 obtain ⟨pk,ck,hv,_⟩:=s.rk
 exact (sp_named s.hn W (s.rn.below hb) ⟨pk,q,ck,hv⟩ x y s.hp hx hy).mono fun e w' h=>⟨h.1,below_to hb h.2⟩
theorem Sy.kid (s:Sy nm W2 b v n F a vn vk p A q K) (x:Int) (i:Nat) (hx:x=(i:Int)) (hi:i < q) (W:World) (hb:Below W2.heap.size W2 W):Calls Tryz.prog 116 #[.agg #[v],fmv a vn vk,.int .i64 x] W fun e w'=>e = .returned (.int .i64 (kdk F K i))∧Below W2.heap.size W2 w':=by
 obtain ⟨pn,cn,hv,_⟩:=s.rn
 exact (sp_kid W (s.rf.below hb) (s.rk.below hb) ⟨pn,p,cn,hv⟩ x i hx hi s.hq s.hnn (s.hk i hi).1 (s.hk i hi).2).mono fun e w' h=>⟨h.1,below_to hb h.2⟩
theorem Sy.exprs (s:Sy nm W2 b v n F a vn vk p A q K) (x y:Int) (i k:Nat) (hx:x=(i:Int)) (hy:y=(k:Int)) (hk:k≤q) (hi:i≤1048576) (W:World) (hb:Below W2.heap.size W2 W):Calls Tryz.prog 119 #[.agg #[v],fmv a vn vk,.int .i64 x,.int .i64 y] W fun e w'=>e = .returned (.bool (dc (ex F K i k)))∧Below W2.heap.size W2 w':=by
 obtain ⟨pn,cn,hv,_⟩:=s.rn
 exact (sp_exprs W (s.rf.below hb) (s.rk.below hb) ⟨pn,p,cn,hv⟩ x y i k hx hy hk hi s.hq s.hnn s.hk).mono fun e w' h=>⟨h.1,below_to hb h.2⟩
end
structure Sx (nm:ByteArray→Prop) (w:World) (v:Value) (n:Nat) (F:Nat→Gv) (vn vk:Value) (p:Nat) (A:Nat→ByteArray) (q:Nat) (K:Nat→Int):Prop where
 hn:NmS nm
 rf:RowF w v n F
 rn:RowV w vn p (fun i=>.string (A i))
 rk:RowV w vk q (fun i=>.int .i64 (K i))
 hp:p≤1048576
 hq:q≤1048576
 hnn:n≤1048576
 hk:∀ j,j < q→0≤K j∧K j < (n:Int)
theorem Sx.below {nm:ByteArray→Prop} {w W:World} {v:Value} {n:Nat} {F:Nat→Gv} {vn vk:Value} {p:Nat} {A:Nat→ByteArray} {q:Nat} {K:Nat→Int} (s:Sx nm w v n F vn vk p A q K) (hb:Below w.heap.size w W):Sx nm W v n F vn vk p A q K :=
 ⟨s.hn,s.rf.below hb,s.rn.below hb,s.rk.below hb,s.hp,s.hq,s.hnn,s.hk⟩
theorem Sx.sy {nm : ByteArray → Prop} {w : World} {v : Value} {n : Nat} {F : Nat → Gv} {vn vk : Value} {p : Nat} {A : Nat → ByteArray} {q : Nat} {K : Nat → Int} (s : Sx nm w v n F vn vk p A q K) (a : Fv) (hga : a.g < 18446744073709551616) (t1 t2 : TypeId) :
  Sy nm ((w.alloc (.cells #[v] t1)).alloc (.cells #[.int .i64 a.k,.int .i64 a.f,.int .i64 a.t,.int .i64 a.l,.int .i64 a.o,.int .i64 a.m,.float .f64 a.g,.string a.x,vn,vk] t2)) w.heap.size v n F a vn vk p A q K:=by
 have hb:=bel2 w (.cells #[v] t1) (.cells #[.int .i64 a.k,.int .i64 a.f,.int .i64 a.t,.int .i64 a.l,.int .i64 a.o,.int .i64 a.m,.float .f64 a.g,.string a.x,vn,vk] t2)
 refine ⟨s.hn,hga,?_,?_,s.rf.below hb,s.rn.below hb,s.rk.below hb,s.hp,s.hq,s.hnn,s.hk⟩
 ·rw [World.cell?_alloc_past _ _ _ (by simp),World.cell?_alloc_at _ _ _ _ rfl];rfl
 ·have:=Bx.new (w.alloc (.cells #[v] t1)) a vn vk t2
  simpa using this
theorem st_2 {nm : ByteArray → Prop} {w : World} {v : Value} {n : Nat} {F : Nat → Gv} {vn vk : Value} {p : Nat} {A : Nat → ByteArray} {q : Nat} {K : Nat → Int} (s : Sx nm w v n F vn vk p A q K) (a : Fv) (hga : a.g < 18446744073709551616) (hk : a.k = 2) :
  Calls Tryz.prog 86 #[.agg #[v],fmv a vn vk] w fun e w'=>e = .returned (.bool (dc (br a p false false false true∧nd nm p A 1 200∧ex F K 0 q)))∧Below w.heap.size w w':=by
 have hs:=s.sy a hga 56 102
 obtain ⟨W2,hW2⟩:∃ W2,W2=(w.alloc (.cells #[v] 56)).alloc (.cells #[.int .i64 a.k,.int .i64 a.f,.int .i64 a.t,.int .i64 a.l,.int .i64 a.o,.int .i64 a.m,.float .f64 a.g,.string a.x,vn,vk] 102):=⟨_,rfl⟩
 rw [← hW2] at hs
 have HBL:Hid (∀ W,Below W2.heap.size W2 W→Below w.heap.size w W):=(fun W hb=>by rw [hW2] at hb;exact (bel2 w _ _).trans (hb.mono (bel2 w _ _).size):∀ W,_)
 have HSY:Hid (Sy nm W2 w.heap.size v n F a vn vk p A q K):=hs
 have hqI:(q:Int)≤1048576:=by have:=s.hq;omega
 obtain ⟨pn,cn,rfl,_⟩:=s.rn
 obtain ⟨pk,ck,rfl,_⟩:=s.rk
 obtain ⟨pf,cf,rfl,_⟩:=s.rf
 have HSQ:Hid (q≤1048576):=s.hq
 obtain ⟨R,hR⟩:∃ R,R=dc (br a p false false false true∧nd nm p A 1 200∧ex F K 0 q):=⟨_,rfl⟩
 have HR:Hid (R=dc (br a p false false false true∧nd nm p A 1 200∧ex F K 0 q)):=hR
 rw [← hR]
 clear hs s hR hga
 obtain ⟨k,f,t,l,o,m,g,x⟩:=a
 dsimp only at hk
 subst hk
 go_enter Tryz.func86,Tryz.ntmps86
 unfold fmv
 dsimp only at hW2
 go_wp2_with fail
 rw [← hW2]
 clear hW2
 have B0:Below W2.heap.size W2 W2:=Below.refl _ _
 obtain ⟨c0,c1,c2,c3,c4,c5,c6,c7,c8,c9⟩:=(show Sy nm W2 w.heap.size _ n F _ _ _ p A q K from HSY).bx
 have ct:=(show Sy nm W2 w.heap.size _ n F _ _ _ p A q K from HSY).ct
 dsimp only at c0 c1 c2 c3 c4 c5 c6 c7
 go_wp2_with fail
 refine ((show Sy nm W2 w.heap.size _ n F _ _ _ p A _ K from HSY).bare false false false true _ B0).mono ?_
 rintro e w1 ⟨rfl,B1⟩
 clear c0 c1 c2 c3 c4 c5 c6 c7 c8 c9 ct
 obtain ⟨c0,c1,c2,c3,c4,c5,c6,c7,c8,c9⟩:=(show Sy nm W2 w.heap.size _ n F _ _ _ p A _ K from HSY).bx.below B1
 have ct:=(B1.cell (p:=⟨w.heap.size,0,none⟩) (lt_of_cell (show Sy nm W2 w.heap.size _ n F _ _ _ p A _ K from HSY).ct)).trans (show Sy nm W2 w.heap.size _ n F _ _ _ p A _ K from HSY).ct
 dsimp only at c0 c1 c2 c3 c4 c5 c6 c7
 by_cases h0:br ⟨2,f,t,l,o,m,g,x⟩ p false false false true
 ·rw [dc_t h0]
  have HH0:Hid (br ⟨2,f,t,l,o,m,g,x⟩ p false false false true):=h0
  clear h0
  go_wp2_with fail
  refine ((show Sy nm W2 w.heap.size _ n F _ _ _ p A _ K from HSY).named 1 200 (by omega) (by omega) _ B1).mono ?_
  rintro e w2 ⟨rfl,B2⟩
  clear c0 c1 c2 c3 c4 c5 c6 c7 c8 c9 ct
  obtain ⟨c0,c1,c2,c3,c4,c5,c6,c7,c8,c9⟩:=(show Sy nm W2 w.heap.size _ n F _ _ _ p A _ K from HSY).bx.below B2
  have ct:=(B2.cell (p:=⟨w.heap.size,0,none⟩) (lt_of_cell (show Sy nm W2 w.heap.size _ n F _ _ _ p A _ K from HSY).ct)).trans (show Sy nm W2 w.heap.size _ n F _ _ _ p A _ K from HSY).ct
  dsimp only at c0 c1 c2 c3 c4 c5 c6 c7
  by_cases h1:nd nm p A 1 200
  ·rw [dc_t h1]
   have HH1:Hid (nd nm p A 1 200):=h1
   clear h1
   go_wp2_with fail
   refine ((show Sy nm W2 w.heap.size _ n F _ _ _ p A _ K from HSY).exprs _ _ 0 q rfl (by first | rfl | omega) (by omega) (by omega) _ B2).mono ?_
   rintro e w3 ⟨rfl,B3⟩
   clear c0 c1 c2 c3 c4 c5 c6 c7 c8 c9 ct
   obtain ⟨c0,c1,c2,c3,c4,c5,c6,c7,c8,c9⟩:=(show Sy nm W2 w.heap.size _ n F _ _ _ p A _ K from HSY).bx.below B3
   have ct:=(B3.cell (p:=⟨w.heap.size,0,none⟩) (lt_of_cell (show Sy nm W2 w.heap.size _ n F _ _ _ p A _ K from HSY).ct)).trans (show Sy nm W2 w.heap.size _ n F _ _ _ p A _ K from HSY).ct
   dsimp only at c0 c1 c2 c3 c4 c5 c6 c7
   by_cases h2:ex F K 0 q
   ·rw [dc_t h2]
    have HH2:Hid (ex F K 0 q):=h2
    clear h2
    go_wp2_with fail
    go_ret
    exact ⟨by rw [show R = _ from HR,dc_t ⟨HH0,HH1,HH2⟩];rfl,(show ∀ W,Below W2.heap.size W2 W→Below w.heap.size w W from HBL) _ B3⟩
   ·rw [dc_f h2]
    have HN9:Hid (¬ (ex F K 0 q)):=h2
    clear h2
    go_wp2_with fail
    go_ret
    exact ⟨by rw [show R = _ from HR,dc_f (fun g=>HN9 g.2.2)];rfl,(show ∀ W,Below W2.heap.size W2 W→Below w.heap.size w W from HBL) _ B3⟩
  ·rw [dc_f h1]
   have HN9:Hid (¬ (nd nm p A 1 200)):=h1
   clear h1
   go_wp2_with fail
   go_ret
   exact ⟨by rw [show R = _ from HR,dc_f (fun g=>HN9 g.2.1)];rfl,(show ∀ W,Below W2.heap.size W2 W→Below w.heap.size w W from HBL) _ B2⟩
 ·rw [dc_f h0]
  have HN9:Hid (¬ (br ⟨2,f,t,l,o,m,g,x⟩ p false false false true)):=h0
  clear h0
  go_wp2_with fail
  go_ret
  exact ⟨by rw [show R = _ from HR,dc_f (fun g=>HN9 g.1)];rfl,(show ∀ W,Below W2.heap.size W2 W→Below w.heap.size w W from HBL) _ B1⟩
end Go.Proofs.YtomcmnompajnlaaGreatDoor.Fo.Po
