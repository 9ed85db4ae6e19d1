import Derived.Test.YtnmeemjoodoalaaGreatDoorMZaa
import Derived.Test.YtnmeemjoodoalaaGreatDoorMVah
namespace Go.Proofs.YtnmeemjoodoalaaGreatDoor.Fo
open Go.ChangeShapes Go.WideShapes Go.ChangeAt Go.RowKit
set_option linter.unusedVariables false
set_option maxRecDepth 100000
structure Iv where
  o : Int
  a : Int
  b : Int
  c : Int
  d : Int
structure Mv where
  x : ByteArray
  g : Int
  f : Int
  t : Int
structure Pd where
  x : ByteArray
  l : Int
  m : Int
  r : Bool
  g : Int
  u : Nat
  U : Nat → Bool × Int
  c : Nat
  C : Nat → Vv
  n : Nat
  N : Nat → Iv
  d : Nat
  D : Nat → Mv
instance : Inhabited Iv:=⟨⟨0,0,0,0,0⟩⟩
instance : Inhabited Mv:=⟨⟨⟨#[]⟩,0,0,0⟩⟩
instance : Inhabited Vv:=⟨⟨0,0,0,⟨#[]⟩,0⟩⟩
instance : Inhabited Pd:=⟨⟨⟨#[]⟩,0,0,false,0,0,fun _=>(false,0),0,fun _=>default,0,fun _=>default,0,fun _=>default⟩⟩
def upv (a : Bool × Int) : Value:=.agg #[.bool a.1,.int .i64 a.2]
def insv (a : Iv) : Value:=.agg #[.int .i64 a.o,.int .i64 a.a,.int .i64 a.b,.int .i64 a.c,.int .i64 a.d]
def namv (a : Mv) : Value:=.agg #[.string a.x,.int .i64 a.g,.int .i64 a.f,.int .i64 a.t]
def valv (a : Vv) : Value:=.agg #[.int .i64 a.k,.int .i64 a.m,.float .f64 a.g,.string a.x,.int .i64 a.r]
def prov (f : Pd) (vu vc vn vd : Value) : Value:=.agg #[.string f.x,.int .i64 f.l,.int .i64 f.m,.bool f.r,.int .i64 f.g,vu,vc,vn,vd]
theorem Kb.of_grown {a w : World} (h : Grown a w) (hs : a.heap.size ≤ w.heap.size) (b : Nat) : Kb b a w:=⟨h.1.1,h.1.2.1,hs,fun k _ hk=>grown_block h hk⟩
structure CelU (W : World) (b : Addr) (a : Bool × Int) : Prop where
  c0 : W.cell? b = some (.bool a.1)
  c1 : W.cell? ⟨b.block,b.off + 1,none⟩ = some (.int .i64 a.2)
theorem CelU.keep {W W' : World} {c : Nat} {b : Addr} {a : Bool × Int} (h : CelU W b a) (hb : c ≤ b.block) (k : Kb c W W') : CelU W' b a :=
  ⟨k.cellA hb h.c0,k.cellA hb h.c1⟩
theorem CelU.of {W : World} {g o : Nat} {a : Bool × Int} (h : ∀ t,t < 2 → W.cell? ⟨g,o + t,none⟩ = ([.bool a.1,.int .i64 a.2] : List Value)[t]?) : CelU W ⟨g,o,none⟩ a :=
  ⟨h 0 (by omega),h 1 (by omega)⟩
def UpC (b : Nat) (W : World) (p : Addr) (a : Bool × Int) : Prop:=CelU W p a
theorem UpC.keep {b : Nat} {W W' : World} {p : Addr} {a : Bool × Int} (h : UpC b W p a) (hb : b ≤ p.block) (k : Kb b W W') : UpC b W' p a:=CelU.keep h hb k
theorem UpC.mono {b c : Nat} {W : World} {p : Addr} {a : Bool × Int} (h : UpC b W p a) (hc : c ≤ b) : UpC c W p a:=h
def RowU (b : Nat) (W : World) (v : Value) (n : Nat) (U : Nat → Bool × Int) : Prop :=
  ∃ pa cap,v = .slice pa n cap ∧ (0 < n → ∃ a : Addr,pa = some a ∧ n ≤ cap ∧ b ≤ a.block ∧ ∀ i,i < n → UpC b W (a.add (i * 2)) (U i))
theorem RowU.keep {b : Nat} {W W' : World} {v : Value} {n : Nat} {U : Nat → Bool × Int} (h : RowU b W v n U) (k : Kb b W W') : RowU b W' v n U:=by
  obtain ⟨pa,cap,h1,h2⟩:=h
  refine ⟨pa,cap,h1,fun hn=>?_⟩
  obtain ⟨a,e1,e2,e0,e3⟩:=h2 hn
  exact ⟨a,e1,e2,e0,fun i hi=>(e3 i hi).keep (by rw [add_block];exact e0) k⟩
theorem RowU.mono {b c : Nat} {W : World} {v : Value} {n : Nat} {U : Nat → Bool × Int} (h : RowU b W v n U) (hc : c ≤ b) : RowU c W v n U:=by
  obtain ⟨pa,cap,h1,h2⟩:=h
  refine ⟨pa,cap,h1,fun hn=>?_⟩
  obtain ⟨a,e1,e2,e0,e3⟩:=h2 hn
  exact ⟨a,e1,e2,Nat.le_trans hc e0,fun i hi=>(e3 i hi).mono hc⟩
structure CelI (W : World) (b : Addr) (a : Iv) : Prop where
  c0 : W.cell? b = some (.int .i64 a.o)
  c1 : W.cell? ⟨b.block,b.off + 1,none⟩ = some (.int .i64 a.a)
  c2 : W.cell? ⟨b.block,b.off + 2,none⟩ = some (.int .i64 a.b)
  c3 : W.cell? ⟨b.block,b.off + 3,none⟩ = some (.int .i64 a.c)
  c4 : W.cell? ⟨b.block,b.off + 4,none⟩ = some (.int .i64 a.d)
theorem CelI.keep {W W' : World} {c : Nat} {b : Addr} {a : Iv} (h : CelI W b a) (hb : c ≤ b.block) (k : Kb c W W') : CelI W' b a :=
  ⟨k.cellA hb h.c0,k.cellA hb h.c1,k.cellA hb h.c2,k.cellA hb h.c3,k.cellA hb h.c4⟩
theorem CelI.of {W : World} {g o : Nat} {a : Iv} (h : ∀ t,t < 5 → W.cell? ⟨g,o + t,none⟩ = ([.int .i64 a.o,.int .i64 a.a,.int .i64 a.b,.int .i64 a.c,.int .i64 a.d] : List Value)[t]?) : CelI W ⟨g,o,none⟩ a :=
  ⟨h 0 (by omega),h 1 (by omega),h 2 (by omega),h 3 (by omega),h 4 (by omega)⟩
def InsC (b : Nat) (W : World) (p : Addr) (a : Iv) : Prop:=CelI W p a
theorem InsC.keep {b : Nat} {W W' : World} {p : Addr} {a : Iv} (h : InsC b W p a) (hb : b ≤ p.block) (k : Kb b W W') : InsC b W' p a:=CelI.keep h hb k
theorem InsC.mono {b c : Nat} {W : World} {p : Addr} {a : Iv} (h : InsC b W p a) (hc : c ≤ b) : InsC c W p a:=h
def RowI (b : Nat) (W : World) (v : Value) (n : Nat) (N : Nat → Iv) : Prop :=
  ∃ pa cap,v = .slice pa n cap ∧ (0 < n → ∃ a : Addr,pa = some a ∧ n ≤ cap ∧ b ≤ a.block ∧ ∀ i,i < n → InsC b W (a.add (i * 5)) (N i))
theorem RowI.keep {b : Nat} {W W' : World} {v : Value} {n : Nat} {N : Nat → Iv} (h : RowI b W v n N) (k : Kb b W W') : RowI b W' v n N:=by
  obtain ⟨pa,cap,h1,h2⟩:=h
  refine ⟨pa,cap,h1,fun hn=>?_⟩
  obtain ⟨a,e1,e2,e0,e3⟩:=h2 hn
  exact ⟨a,e1,e2,e0,fun i hi=>(e3 i hi).keep (by rw [add_block];exact e0) k⟩
theorem RowI.mono {b c : Nat} {W : World} {v : Value} {n : Nat} {N : Nat → Iv} (h : RowI b W v n N) (hc : c ≤ b) : RowI c W v n N:=by
  obtain ⟨pa,cap,h1,h2⟩:=h
  refine ⟨pa,cap,h1,fun hn=>?_⟩
  obtain ⟨a,e1,e2,e0,e3⟩:=h2 hn
  exact ⟨a,e1,e2,Nat.le_trans hc e0,fun i hi=>(e3 i hi).mono hc⟩
structure CelM (W : World) (b : Addr) (a : Mv) : Prop where
  c0 : W.cell? b = some (.string a.x)
  c1 : W.cell? ⟨b.block,b.off + 1,none⟩ = some (.int .i64 a.g)
  c2 : W.cell? ⟨b.block,b.off + 2,none⟩ = some (.int .i64 a.f)
  c3 : W.cell? ⟨b.block,b.off + 3,none⟩ = some (.int .i64 a.t)
theorem CelM.keep {W W' : World} {c : Nat} {b : Addr} {a : Mv} (h : CelM W b a) (hb : c ≤ b.block) (k : Kb c W W') : CelM W' b a :=
  ⟨k.cellA hb h.c0,k.cellA hb h.c1,k.cellA hb h.c2,k.cellA hb h.c3⟩
theorem CelM.of {W : World} {g o : Nat} {a : Mv} (h : ∀ t,t < 4 → W.cell? ⟨g,o + t,none⟩ = ([.string a.x,.int .i64 a.g,.int .i64 a.f,.int .i64 a.t] : List Value)[t]?) : CelM W ⟨g,o,none⟩ a :=
  ⟨h 0 (by omega),h 1 (by omega),h 2 (by omega),h 3 (by omega)⟩
def NamC (b : Nat) (W : World) (p : Addr) (a : Mv) : Prop:=CelM W p a
theorem NamC.keep {b : Nat} {W W' : World} {p : Addr} {a : Mv} (h : NamC b W p a) (hb : b ≤ p.block) (k : Kb b W W') : NamC b W' p a:=CelM.keep h hb k
theorem NamC.mono {b c : Nat} {W : World} {p : Addr} {a : Mv} (h : NamC b W p a) (hc : c ≤ b) : NamC c W p a:=h
def RowM (b : Nat) (W : World) (v : Value) (n : Nat) (D : Nat → Mv) : Prop :=
  ∃ pa cap,v = .slice pa n cap ∧ (0 < n → ∃ a : Addr,pa = some a ∧ n ≤ cap ∧ b ≤ a.block ∧ ∀ i,i < n → NamC b W (a.add (i * 4)) (D i))
theorem RowM.keep {b : Nat} {W W' : World} {v : Value} {n : Nat} {D : Nat → Mv} (h : RowM b W v n D) (k : Kb b W W') : RowM b W' v n D:=by
  obtain ⟨pa,cap,h1,h2⟩:=h
  refine ⟨pa,cap,h1,fun hn=>?_⟩
  obtain ⟨a,e1,e2,e0,e3⟩:=h2 hn
  exact ⟨a,e1,e2,e0,fun i hi=>(e3 i hi).keep (by rw [add_block];exact e0) k⟩
theorem RowM.mono {b c : Nat} {W : World} {v : Value} {n : Nat} {D : Nat → Mv} (h : RowM b W v n D) (hc : c ≤ b) : RowM c W v n D:=by
  obtain ⟨pa,cap,h1,h2⟩:=h
  refine ⟨pa,cap,h1,fun hn=>?_⟩
  obtain ⟨a,e1,e2,e0,e3⟩:=h2 hn
  exact ⟨a,e1,e2,Nat.le_trans hc e0,fun i hi=>(e3 i hi).mono hc⟩
structure CelV (W : World) (b : Addr) (a : Vv) : Prop where
  c0 : W.cell? b = some (.int .i64 a.k)
  c1 : W.cell? ⟨b.block,b.off + 1,none⟩ = some (.int .i64 a.m)
  c2 : W.cell? ⟨b.block,b.off + 2,none⟩ = some (.float .f64 a.g)
  c3 : W.cell? ⟨b.block,b.off + 3,none⟩ = some (.string a.x)
  c4 : W.cell? ⟨b.block,b.off + 4,none⟩ = some (.int .i64 a.r)
theorem CelV.keep {W W' : World} {c : Nat} {b : Addr} {a : Vv} (h : CelV W b a) (hb : c ≤ b.block) (k : Kb c W W') : CelV W' b a :=
  ⟨k.cellA hb h.c0,k.cellA hb h.c1,k.cellA hb h.c2,k.cellA hb h.c3,k.cellA hb h.c4⟩
theorem CelV.of {W : World} {g o : Nat} {a : Vv} (h : ∀ t,t < 5 → W.cell? ⟨g,o + t,none⟩ = ([.int .i64 a.k,.int .i64 a.m,.float .f64 a.g,.string a.x,.int .i64 a.r] : List Value)[t]?) : CelV W ⟨g,o,none⟩ a :=
  ⟨h 0 (by omega),h 1 (by omega),h 2 (by omega),h 3 (by omega),h 4 (by omega)⟩
def ValC (b : Nat) (W : World) (p : Addr) (a : Vv) : Prop:=CelV W p a
theorem ValC.keep {b : Nat} {W W' : World} {p : Addr} {a : Vv} (h : ValC b W p a) (hb : b ≤ p.block) (k : Kb b W W') : ValC b W' p a:=CelV.keep h hb k
theorem ValC.mono {b c : Nat} {W : World} {p : Addr} {a : Vv} (h : ValC b W p a) (hc : c ≤ b) : ValC c W p a:=h
def RowW (b : Nat) (W : World) (v : Value) (n : Nat) (C : Nat → Vv) : Prop :=
  ∃ pa cap,v = .slice pa n cap ∧ (0 < n → ∃ a : Addr,pa = some a ∧ n ≤ cap ∧ b ≤ a.block ∧ ∀ i,i < n → ValC b W (a.add (i * 5)) (C i))
theorem RowW.keep {b : Nat} {W W' : World} {v : Value} {n : Nat} {C : Nat → Vv} (h : RowW b W v n C) (k : Kb b W W') : RowW b W' v n C:=by
  obtain ⟨pa,cap,h1,h2⟩:=h
  refine ⟨pa,cap,h1,fun hn=>?_⟩
  obtain ⟨a,e1,e2,e0,e3⟩:=h2 hn
  exact ⟨a,e1,e2,e0,fun i hi=>(e3 i hi).keep (by rw [add_block];exact e0) k⟩
theorem RowW.mono {b c : Nat} {W : World} {v : Value} {n : Nat} {C : Nat → Vv} (h : RowW b W v n C) (hc : c ≤ b) : RowW c W v n C:=by
  obtain ⟨pa,cap,h1,h2⟩:=h
  refine ⟨pa,cap,h1,fun hn=>?_⟩
  obtain ⟨a,e1,e2,e0,e3⟩:=h2 hn
  exact ⟨a,e1,e2,Nat.le_trans hc e0,fun i hi=>(e3 i hi).mono hc⟩
structure CelP (W : World) (b : Addr) (f : Pd) (vu vc vn vd : Value) : Prop where
  c0 : W.cell? b = some (.string f.x)
  c1 : W.cell? ⟨b.block,b.off + 1,none⟩ = some (.int .i64 f.l)
  c2 : W.cell? ⟨b.block,b.off + 2,none⟩ = some (.int .i64 f.m)
  c3 : W.cell? ⟨b.block,b.off + 3,none⟩ = some (.bool f.r)
  c4 : W.cell? ⟨b.block,b.off + 4,none⟩ = some (.int .i64 f.g)
  c5 : W.cell? ⟨b.block,b.off + 5,none⟩ = some (vu)
  c6 : W.cell? ⟨b.block,b.off + 6,none⟩ = some (vc)
  c7 : W.cell? ⟨b.block,b.off + 7,none⟩ = some (vn)
  c8 : W.cell? ⟨b.block,b.off + 8,none⟩ = some (vd)
theorem CelP.keep {W W' : World} {c : Nat} {b : Addr} {f : Pd} {vu vc vn vd : Value} (h : CelP W b f vu vc vn vd) (hb : c ≤ b.block) (k : Kb c W W') : CelP W' b f vu vc vn vd :=
  ⟨k.cellA hb h.c0,k.cellA hb h.c1,k.cellA hb h.c2,k.cellA hb h.c3,k.cellA hb h.c4,k.cellA hb h.c5,k.cellA hb h.c6,k.cellA hb h.c7,k.cellA hb h.c8⟩
theorem CelP.of {W : World} {g o : Nat} {f : Pd} {vu vc vn vd : Value} (h : ∀ t,t < 9 → W.cell? ⟨g,o + t,none⟩ = ([.string f.x,.int .i64 f.l,.int .i64 f.m,.bool f.r,.int .i64 f.g,vu,vc,vn,vd] : List Value)[t]?) : CelP W ⟨g,o,none⟩ f vu vc vn vd :=
  ⟨h 0 (by omega),h 1 (by omega),h 2 (by omega),h 3 (by omega),h 4 (by omega),h 5 (by omega),h 6 (by omega),h 7 (by omega),h 8 (by omega)⟩
def ProC (b : Nat) (W : World) (p : Addr) (f : Pd) : Prop:=∃ vu vc vn vd,CelP W p f vu vc vn vd ∧ RowU b W vu f.u f.U ∧ RowW b W vc f.c f.C ∧ RowI b W vn f.n f.N ∧ RowM b W vd f.d f.D
theorem ProC.keep {b : Nat} {W W' : World} {p : Addr} {f : Pd} (h : ProC b W p f) (hb : b ≤ p.block) (k : Kb b W W') : ProC b W' p f:=by
  obtain ⟨vu,vc,vn,vd,h1,h2,h3,h4,h5⟩:=h
  exact ⟨vu,vc,vn,vd,h1.keep hb k,h2.keep k,h3.keep k,h4.keep k,h5.keep k⟩
theorem ProC.mono {b c : Nat} {W : World} {p : Addr} {f : Pd} (h : ProC b W p f) (hc : c ≤ b) : ProC c W p f:=by
  obtain ⟨vu,vc,vn,vd,h1,h2,h3,h4,h5⟩:=h
  exact ⟨vu,vc,vn,vd,h1,h2.mono hc,h3.mono hc,h4.mono hc,h5.mono hc⟩
def RowP (b : Nat) (W : World) (v : Value) (n : Nat) (F : Nat → Pd) : Prop :=
  ∃ pa cap,v = .slice pa n cap ∧ (0 < n → ∃ a : Addr,pa = some a ∧ n ≤ cap ∧ b ≤ a.block ∧ ∀ i,i < n → ProC b W (a.add (i * 9)) (F i))
theorem RowP.keep {b : Nat} {W W' : World} {v : Value} {n : Nat} {F : Nat → Pd} (h : RowP b W v n F) (k : Kb b W W') : RowP b W' v n F:=by
  obtain ⟨pa,cap,h1,h2⟩:=h
  refine ⟨pa,cap,h1,fun hn=>?_⟩
  obtain ⟨a,e1,e2,e0,e3⟩:=h2 hn
  exact ⟨a,e1,e2,e0,fun i hi=>(e3 i hi).keep (by rw [add_block];exact e0) k⟩
theorem RowP.mono {b c : Nat} {W : World} {v : Value} {n : Nat} {F : Nat → Pd} (h : RowP b W v n F) (hc : c ≤ b) : RowP c W v n F:=by
  obtain ⟨pa,cap,h1,h2⟩:=h
  refine ⟨pa,cap,h1,fun hn=>?_⟩
  obtain ⟨a,e1,e2,e0,e3⟩:=h2 hn
  exact ⟨a,e1,e2,Nat.le_trans hc e0,fun i hi=>(e3 i hi).mono hc⟩
end Go.Proofs.YtnmeemjoodoalaaGreatDoor.Fo
