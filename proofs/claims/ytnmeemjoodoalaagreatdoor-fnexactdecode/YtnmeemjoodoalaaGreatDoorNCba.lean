import Derived.Test.YtnmeemjoodoalaaGreatDoorNZaa
import Derived.Test.YtnmeemjoodoalaaGreatDoorNVai
import Derived.Deep.RegionHeldLaw
set_option maxHeartbeats 8000000
namespace Go.Proofs.YtnmeemjoodoalaaGreatDoor.Fo
open Go.ChangeShapes Go.WideShapes Go.ChangeAt Go.RowKit
set_option linter.unusedVariables false
set_option maxRecDepth 100000
structure Iv where
  o : Int
  a : Int
  b : Int
  c : Int
  d : Int
structure Mv where
  x : ByteArray
  g : Int
  f : Int
  t : Int
structure Pd where
  x : ByteArray
  l : Int
  m : Int
  r : Bool
  g : Int
  u : Nat
  U : Nat → Bool × Int
  c : Nat
  C : Nat → Vv
  n : Nat
  N : Nat → Iv
  d : Nat
  D : Nat → Mv
instance : Inhabited Iv:=⟨⟨0,0,0,0,0⟩⟩
instance : Inhabited Mv:=⟨⟨⟨#[]⟩,0,0,0⟩⟩
instance : Inhabited Vv:=⟨⟨0,0,0,⟨#[]⟩,0⟩⟩
instance : Inhabited Pd:=⟨⟨⟨#[]⟩,0,0,false,0,0,fun _=>(false,0),0,fun _=>default,0,fun _=>default,0,fun _=>default⟩⟩
def upv (a : Bool × Int) : Value:=.agg #[.bool a.1,.int .i64 a.2]
def insv (a : Iv) : Value:=.agg #[.int .i64 a.o,.int .i64 a.a,.int .i64 a.b,.int .i64 a.c,.int .i64 a.d]
def namv (a : Mv) : Value:=.agg #[.string a.x,.int .i64 a.g,.int .i64 a.f,.int .i64 a.t]
def valv (a : Vv) : Value:=.agg #[.int .i64 a.k,.int .i64 a.m,.float .f64 a.g,.string a.x,.int .i64 a.r]
def prov (f : Pd) (vu vc vn vd : Value) : Value:=.agg #[.string f.x,.int .i64 f.l,.int .i64 f.m,.bool f.r,.int .i64 f.g,vu,vc,vn,vd]
theorem Kb.of_grown {a w : World} (h : Grown a w) (hs : a.heap.size ≤ w.heap.size) (b : Nat) : Kb b a w:=⟨h.1.1,h.1.2.1,hs,fun k _ hk=>grown_block h hk⟩
structure CelU (W : World) (b : Addr) (a : Bool × Int) : Prop where
  c0 : W.cell? b = some (.bool a.1)
  c1 : W.cell? ⟨b.block,b.off + 1,none⟩ = some (.int .i64 a.2)
theorem CelU.keep {W W' : World} {c : Nat} {b : Addr} {a : Bool × Int} (h : CelU W b a) (hb : c ≤ b.block) (k : Kb c W W') : CelU W' b a :=
  ⟨k.cellA hb h.c0,k.cellA hb h.c1⟩
theorem CelU.of {W : World} {g o : Nat} {a : Bool × Int} (h : ∀ t,t < 2 → W.cell? ⟨g,o + t,none⟩ = ([.bool a.1,.int .i64 a.2] : List Value)[t]?) : CelU W ⟨g,o,none⟩ a :=
  ⟨h 0 (by omega),h 1 (by omega)⟩
def UpC (b : Nat) (W : World) (p : Addr) (a : Bool × Int) : Prop:=CelU W p a
theorem UpC.keep {b : Nat} {W W' : World} {p : Addr} {a : Bool × Int} (h : UpC b W p a) (hb : b ≤ p.block) (k : Kb b W W') : UpC b W' p a:=CelU.keep h hb k
theorem UpC.mono {b c : Nat} {W : World} {p : Addr} {a : Bool × Int} (h : UpC b W p a) (hc : c ≤ b) : UpC c W p a:=h
def RowU (b : Nat) (W : World) (v : Value) (n : Nat) (U : Nat → Bool × Int) : Prop :=
  ∃ pa cap,v = .slice pa n cap ∧ (0 < n → ∃ a : Addr,pa = some a ∧ n ≤ cap ∧ b ≤ a.block ∧ ∀ i,i < n → UpC b W (a.add (i * 2)) (U i))
theorem RowU.keep {b : Nat} {W W' : World} {v : Value} {n : Nat} {U : Nat → Bool × Int} (h : RowU b W v n U) (k : Kb b W W') : RowU b W' v n U:=by
  obtain ⟨pa,cap,h1,h2⟩:=h
  refine ⟨pa,cap,h1,fun hn=>?_⟩
  obtain ⟨a,e1,e2,e0,e3⟩:=h2 hn
  exact ⟨a,e1,e2,e0,fun i hi=>(e3 i hi).keep (by rw [add_block];exact e0) k⟩
theorem RowU.mono {b c : Nat} {W : World} {v : Value} {n : Nat} {U : Nat → Bool × Int} (h : RowU b W v n U) (hc : c ≤ b) : RowU c W v n U:=by
  obtain ⟨pa,cap,h1,h2⟩:=h
  refine ⟨pa,cap,h1,fun hn=>?_⟩
  obtain ⟨a,e1,e2,e0,e3⟩:=h2 hn
  exact ⟨a,e1,e2,Nat.le_trans hc e0,fun i hi=>(e3 i hi).mono hc⟩
structure CelI (W : World) (b : Addr) (a : Iv) : Prop where
  c0 : W.cell? b = some (.int .i64 a.o)
  c1 : W.cell? ⟨b.block,b.off + 1,none⟩ = some (.int .i64 a.a)
  c2 : W.cell? ⟨b.block,b.off + 2,none⟩ = some (.int .i64 a.b)
  c3 : W.cell? ⟨b.block,b.off + 3,none⟩ = some (.int .i64 a.c)
  c4 : W.cell? ⟨b.block,b.off + 4,none⟩ = some (.int .i64 a.d)
theorem CelI.keep {W W' : World} {c : Nat} {b : Addr} {a : Iv} (h : CelI W b a) (hb : c ≤ b.block) (k : Kb c W W') : CelI W' b a :=
  ⟨k.cellA hb h.c0,k.cellA hb h.c1,k.cellA hb h.c2,k.cellA hb h.c3,k.cellA hb h.c4⟩
theorem CelI.of {W : World} {g o : Nat} {a : Iv} (h : ∀ t,t < 5 → W.cell? ⟨g,o + t,none⟩ = ([.int .i64 a.o,.int .i64 a.a,.int .i64 a.b,.int .i64 a.c,.int .i64 a.d] : List Value)[t]?) : CelI W ⟨g,o,none⟩ a :=
  ⟨h 0 (by omega),h 1 (by omega),h 2 (by omega),h 3 (by omega),h 4 (by omega)⟩
def InsC (b : Nat) (W : World) (p : Addr) (a : Iv) : Prop:=CelI W p a
theorem InsC.keep {b : Nat} {W W' : World} {p : Addr} {a : Iv} (h : InsC b W p a) (hb : b ≤ p.block) (k : Kb b W W') : InsC b W' p a:=CelI.keep h hb k
theorem InsC.mono {b c : Nat} {W : World} {p : Addr} {a : Iv} (h : InsC b W p a) (hc : c ≤ b) : InsC c W p a:=h
def RowI (b : Nat) (W : World) (v : Value) (n : Nat) (N : Nat → Iv) : Prop :=
  ∃ pa cap,v = .slice pa n cap ∧ (0 < n → ∃ a : Addr,pa = some a ∧ n ≤ cap ∧ b ≤ a.block ∧ ∀ i,i < n → InsC b W (a.add (i * 5)) (N i))
theorem RowI.keep {b : Nat} {W W' : World} {v : Value} {n : Nat} {N : Nat → Iv} (h : RowI b W v n N) (k : Kb b W W') : RowI b W' v n N:=by
  obtain ⟨pa,cap,h1,h2⟩:=h
  refine ⟨pa,cap,h1,fun hn=>?_⟩
  obtain ⟨a,e1,e2,e0,e3⟩:=h2 hn
  exact ⟨a,e1,e2,e0,fun i hi=>(e3 i hi).keep (by rw [add_block];exact e0) k⟩
theorem RowI.mono {b c : Nat} {W : World} {v : Value} {n : Nat} {N : Nat → Iv} (h : RowI b W v n N) (hc : c ≤ b) : RowI c W v n N:=by
  obtain ⟨pa,cap,h1,h2⟩:=h
  refine ⟨pa,cap,h1,fun hn=>?_⟩
  obtain ⟨a,e1,e2,e0,e3⟩:=h2 hn
  exact ⟨a,e1,e2,Nat.le_trans hc e0,fun i hi=>(e3 i hi).mono hc⟩
structure CelM (W : World) (b : Addr) (a : Mv) : Prop where
  c0 : W.cell? b = some (.string a.x)
  c1 : W.cell? ⟨b.block,b.off + 1,none⟩ = some (.int .i64 a.g)
  c2 : W.cell? ⟨b.block,b.off + 2,none⟩ = some (.int .i64 a.f)
  c3 : W.cell? ⟨b.block,b.off + 3,none⟩ = some (.int .i64 a.t)
theorem CelM.keep {W W' : World} {c : Nat} {b : Addr} {a : Mv} (h : CelM W b a) (hb : c ≤ b.block) (k : Kb c W W') : CelM W' b a :=
  ⟨k.cellA hb h.c0,k.cellA hb h.c1,k.cellA hb h.c2,k.cellA hb h.c3⟩
theorem CelM.of {W : World} {g o : Nat} {a : Mv} (h : ∀ t,t < 4 → W.cell? ⟨g,o + t,none⟩ = ([.string a.x,.int .i64 a.g,.int .i64 a.f,.int .i64 a.t] : List Value)[t]?) : CelM W ⟨g,o,none⟩ a :=
  ⟨h 0 (by omega),h 1 (by omega),h 2 (by omega),h 3 (by omega)⟩
def NamC (b : Nat) (W : World) (p : Addr) (a : Mv) : Prop:=CelM W p a
theorem NamC.keep {b : Nat} {W W' : World} {p : Addr} {a : Mv} (h : NamC b W p a) (hb : b ≤ p.block) (k : Kb b W W') : NamC b W' p a:=CelM.keep h hb k
theorem NamC.mono {b c : Nat} {W : World} {p : Addr} {a : Mv} (h : NamC b W p a) (hc : c ≤ b) : NamC c W p a:=h
def RowM (b : Nat) (W : World) (v : Value) (n : Nat) (D : Nat → Mv) : Prop :=
  ∃ pa cap,v = .slice pa n cap ∧ (0 < n → ∃ a : Addr,pa = some a ∧ n ≤ cap ∧ b ≤ a.block ∧ ∀ i,i < n → NamC b W (a.add (i * 4)) (D i))
theorem RowM.keep {b : Nat} {W W' : World} {v : Value} {n : Nat} {D : Nat → Mv} (h : RowM b W v n D) (k : Kb b W W') : RowM b W' v n D:=by
  obtain ⟨pa,cap,h1,h2⟩:=h
  refine ⟨pa,cap,h1,fun hn=>?_⟩
  obtain ⟨a,e1,e2,e0,e3⟩:=h2 hn
  exact ⟨a,e1,e2,e0,fun i hi=>(e3 i hi).keep (by rw [add_block];exact e0) k⟩
theorem RowM.mono {b c : Nat} {W : World} {v : Value} {n : Nat} {D : Nat → Mv} (h : RowM b W v n D) (hc : c ≤ b) : RowM c W v n D:=by
  obtain ⟨pa,cap,h1,h2⟩:=h
  refine ⟨pa,cap,h1,fun hn=>?_⟩
  obtain ⟨a,e1,e2,e0,e3⟩:=h2 hn
  exact ⟨a,e1,e2,Nat.le_trans hc e0,fun i hi=>(e3 i hi).mono hc⟩
structure CelV (W : World) (b : Addr) (a : Vv) : Prop where
  c0 : W.cell? b = some (.int .i64 a.k)
  c1 : W.cell? ⟨b.block,b.off + 1,none⟩ = some (.int .i64 a.m)
  c2 : W.cell? ⟨b.block,b.off + 2,none⟩ = some (.float .f64 a.g)
  c3 : W.cell? ⟨b.block,b.off + 3,none⟩ = some (.string a.x)
  c4 : W.cell? ⟨b.block,b.off + 4,none⟩ = some (.int .i64 a.r)
theorem CelV.keep {W W' : World} {c : Nat} {b : Addr} {a : Vv} (h : CelV W b a) (hb : c ≤ b.block) (k : Kb c W W') : CelV W' b a :=
  ⟨k.cellA hb h.c0,k.cellA hb h.c1,k.cellA hb h.c2,k.cellA hb h.c3,k.cellA hb h.c4⟩
theorem CelV.of {W : World} {g o : Nat} {a : Vv} (h : ∀ t,t < 5 → W.cell? ⟨g,o + t,none⟩ = ([.int .i64 a.k,.int .i64 a.m,.float .f64 a.g,.string a.x,.int .i64 a.r] : List Value)[t]?) : CelV W ⟨g,o,none⟩ a :=
  ⟨h 0 (by omega),h 1 (by omega),h 2 (by omega),h 3 (by omega),h 4 (by omega)⟩
def ValC (b : Nat) (W : World) (p : Addr) (a : Vv) : Prop:=CelV W p a
theorem ValC.keep {b : Nat} {W W' : World} {p : Addr} {a : Vv} (h : ValC b W p a) (hb : b ≤ p.block) (k : Kb b W W') : ValC b W' p a:=CelV.keep h hb k
theorem ValC.mono {b c : Nat} {W : World} {p : Addr} {a : Vv} (h : ValC b W p a) (hc : c ≤ b) : ValC c W p a:=h
def RowW (b : Nat) (W : World) (v : Value) (n : Nat) (C : Nat → Vv) : Prop :=
  ∃ pa cap,v = .slice pa n cap ∧ (0 < n → ∃ a : Addr,pa = some a ∧ n ≤ cap ∧ b ≤ a.block ∧ ∀ i,i < n → ValC b W (a.add (i * 5)) (C i))
theorem RowW.keep {b : Nat} {W W' : World} {v : Value} {n : Nat} {C : Nat → Vv} (h : RowW b W v n C) (k : Kb b W W') : RowW b W' v n C:=by
  obtain ⟨pa,cap,h1,h2⟩:=h
  refine ⟨pa,cap,h1,fun hn=>?_⟩
  obtain ⟨a,e1,e2,e0,e3⟩:=h2 hn
  exact ⟨a,e1,e2,e0,fun i hi=>(e3 i hi).keep (by rw [add_block];exact e0) k⟩
theorem RowW.mono {b c : Nat} {W : World} {v : Value} {n : Nat} {C : Nat → Vv} (h : RowW b W v n C) (hc : c ≤ b) : RowW c W v n C:=by
  obtain ⟨pa,cap,h1,h2⟩:=h
  refine ⟨pa,cap,h1,fun hn=>?_⟩
  obtain ⟨a,e1,e2,e0,e3⟩:=h2 hn
  exact ⟨a,e1,e2,Nat.le_trans hc e0,fun i hi=>(e3 i hi).mono hc⟩
structure CelP (W : World) (b : Addr) (f : Pd) (vu vc vn vd : Value) : Prop where
  c0 : W.cell? b = some (.string f.x)
  c1 : W.cell? ⟨b.block,b.off + 1,none⟩ = some (.int .i64 f.l)
  c2 : W.cell? ⟨b.block,b.off + 2,none⟩ = some (.int .i64 f.m)
  c3 : W.cell? ⟨b.block,b.off + 3,none⟩ = some (.bool f.r)
  c4 : W.cell? ⟨b.block,b.off + 4,none⟩ = some (.int .i64 f.g)
  c5 : W.cell? ⟨b.block,b.off + 5,none⟩ = some (vu)
  c6 : W.cell? ⟨b.block,b.off + 6,none⟩ = some (vc)
  c7 : W.cell? ⟨b.block,b.off + 7,none⟩ = some (vn)
  c8 : W.cell? ⟨b.block,b.off + 8,none⟩ = some (vd)
theorem CelP.keep {W W' : World} {c : Nat} {b : Addr} {f : Pd} {vu vc vn vd : Value} (h : CelP W b f vu vc vn vd) (hb : c ≤ b.block) (k : Kb c W W') : CelP W' b f vu vc vn vd :=
  ⟨k.cellA hb h.c0,k.cellA hb h.c1,k.cellA hb h.c2,k.cellA hb h.c3,k.cellA hb h.c4,k.cellA hb h.c5,k.cellA hb h.c6,k.cellA hb h.c7,k.cellA hb h.c8⟩
theorem CelP.of {W : World} {g o : Nat} {f : Pd} {vu vc vn vd : Value} (h : ∀ t,t < 9 → W.cell? ⟨g,o + t,none⟩ = ([.string f.x,.int .i64 f.l,.int .i64 f.m,.bool f.r,.int .i64 f.g,vu,vc,vn,vd] : List Value)[t]?) : CelP W ⟨g,o,none⟩ f vu vc vn vd :=
  ⟨h 0 (by omega),h 1 (by omega),h 2 (by omega),h 3 (by omega),h 4 (by omega),h 5 (by omega),h 6 (by omega),h 7 (by omega),h 8 (by omega)⟩
def ProC (b : Nat) (W : World) (p : Addr) (f : Pd) : Prop:=∃ vu vc vn vd,CelP W p f vu vc vn vd ∧ RowU b W vu f.u f.U ∧ RowW b W vc f.c f.C ∧ RowI b W vn f.n f.N ∧ RowM b W vd f.d f.D
theorem ProC.keep {b : Nat} {W W' : World} {p : Addr} {f : Pd} (h : ProC b W p f) (hb : b ≤ p.block) (k : Kb b W W') : ProC b W' p f:=by
  obtain ⟨vu,vc,vn,vd,h1,h2,h3,h4,h5⟩:=h
  exact ⟨vu,vc,vn,vd,h1.keep hb k,h2.keep k,h3.keep k,h4.keep k,h5.keep k⟩
theorem ProC.mono {b c : Nat} {W : World} {p : Addr} {f : Pd} (h : ProC b W p f) (hc : c ≤ b) : ProC c W p f:=by
  obtain ⟨vu,vc,vn,vd,h1,h2,h3,h4,h5⟩:=h
  exact ⟨vu,vc,vn,vd,h1,h2.mono hc,h3.mono hc,h4.mono hc,h5.mono hc⟩
def RowP (b : Nat) (W : World) (v : Value) (n : Nat) (F : Nat → Pd) : Prop :=
  ∃ pa cap,v = .slice pa n cap ∧ (0 < n → ∃ a : Addr,pa = some a ∧ n ≤ cap ∧ b ≤ a.block ∧ ∀ i,i < n → ProC b W (a.add (i * 9)) (F i))
theorem RowP.keep {b : Nat} {W W' : World} {v : Value} {n : Nat} {F : Nat → Pd} (h : RowP b W v n F) (k : Kb b W W') : RowP b W' v n F:=by
  obtain ⟨pa,cap,h1,h2⟩:=h
  refine ⟨pa,cap,h1,fun hn=>?_⟩
  obtain ⟨a,e1,e2,e0,e3⟩:=h2 hn
  exact ⟨a,e1,e2,e0,fun i hi=>(e3 i hi).keep (by rw [add_block];exact e0) k⟩
theorem RowP.mono {b c : Nat} {W : World} {v : Value} {n : Nat} {F : Nat → Pd} (h : RowP b W v n F) (hc : c ≤ b) : RowP c W v n F:=by
  obtain ⟨pa,cap,h1,h2⟩:=h
  refine ⟨pa,cap,h1,fun hn=>?_⟩
  obtain ⟨a,e1,e2,e0,e3⟩:=h2 hn
  exact ⟨a,e1,e2,Nat.le_trans hc e0,fun i hi=>(e3 i hi).mono hc⟩
def sm (s : Nat → Nat) : Nat → Nat
  | 0=>0
  | i + 1=>sm s i + s i
theorem sm_mono (s : Nat → Nat) {i n : Nat} (h : i ≤ n) : sm s i ≤ sm s n:=by
  induction n with
  | zero => obtain rfl : i = 0 := by omega
            exact Nat.le_refl _
  | succ n ih =>
    by_cases e : i = n + 1
    · subst e;exact Nat.le_refl _
    · have:=ih (by omega)
      show _ ≤ sm s n + s n
      omega
theorem sm_one (s : Nat → Nat) {i n : Nat} (h : i < n) : s i ≤ sm s n:=by
  have:=sm_mono s (show i + 1 ≤ n from h)
  have e : sm s (i + 1) = sm s i + s i:=rfl
  omega
def Szd (s : Nat) (l : Int) (W : World) : Ending → World → Prop:=fun e w'=>∃ r : Int,e = .returned (.int .i64 r) ∧ (0 ≤ r → r + (s : Int) ≤ l) ∧ -1 ≤ r ∧ r ≤ l ∧ Kb 0 W w'
theorem eq_up (u : Bool × Int) (w : World) : Calls Tryz.prog 147 #[upv u,upv u] w fun e w'=>e = .returned (.bool true) ∧ Kb 0 w w':=by
  unfold upv
  obtain ⟨b,z⟩:=u
  have h1 : (z != z) = false:=by simp
  have h2 : (b != b) = false:=by cases b <;> rfl
  cases b
  all_goals
    go_enter Tryz.func147,Tryz.ntmps147
    go_wp2_with fail
    go_ret
    exact ⟨rfl,kb_alloc2 _ _ _ _⟩
theorem eq_ins (u : Iv) (w : World) : Calls Tryz.prog 149 #[insv u,insv u] w fun e w'=>e = .returned (.bool true) ∧ Kb 0 w w':=by
  unfold insv
  obtain ⟨o,a,b,c,d⟩:=u
  have h1 : (o != o) = false:=by simp
  have h2 : (a != a) = false:=by simp
  have h3 : (b != b) = false:=by simp
  have h4 : (c != c) = false:=by simp
  have h5 : (d != d) = false:=by simp
  go_enter Tryz.func149,Tryz.ntmps149
  go_wp2_with fail
  go_ret
  exact ⟨rfl,kb_alloc2 _ _ _ _⟩
theorem eq_nam (u : Mv) (w : World) : Calls Tryz.prog 150 #[namv u,namv u] w fun e w'=>e = .returned (.bool true) ∧ Kb 0 w w':=by
  unfold namv
  obtain ⟨x,a,b,c⟩:=u
  have h2 : (a != a) = false:=by simp
  have h3 : (b != b) = false:=by simp
  have h4 : (c != c) = false:=by simp
  go_enter Tryz.func150,Tryz.ntmps150
  go_wp2_with fail
  go_ret
  exact ⟨rfl,kb_alloc2 _ _ _ _⟩
theorem eq_valu (u : Vv) (hg : u.g < 18446744073709551616) (w : World) : Calls Tryz.prog 148 #[valv u,valv u] w fun e w'=>e = .returned (.bool true) ∧ Kb 0 w w':=by
  unfold valv
  obtain ⟨k,m,g,x,r⟩:=u
  have hsf:=same_flt g hg
  have e1 : (k != k) = false:=by simp
  have e2 : (m != m) = false:=by simp
  have e3 : (r != r) = false:=by simp
  dsimp only
  clear hg
  go_enter Tryz.func148,Tryz.ntmps148
  go_wp2_with fail
  refine (hsf _).mono ?_
  rintro e w4 ⟨rfl,rfl⟩
  go_wp2_with fail
  go_ret
  exact ⟨rfl,kb_alloc2 _ _ _ _⟩
theorem eq_pro {f : Pd} {vu vc vn vd uu uc un ud : Value} (w : World)
    (g0 : ∀ W',Kb 0 w W' → Calls Tryz.prog 118 #[vu,uu] W' fun e w'=>e = .returned (.bool true) ∧ Kb 0 W' w')
    (g1 : ∀ W',Kb 0 w W' → Calls Tryz.prog 119 #[vc,uc] W' fun e w'=>e = .returned (.bool true) ∧ Kb 0 W' w')
    (g2 : ∀ W',Kb 0 w W' → Calls Tryz.prog 120 #[vn,un] W' fun e w'=>e = .returned (.bool true) ∧ Kb 0 W' w')
    (g3 : ∀ W',Kb 0 w W' → Calls Tryz.prog 121 #[vd,ud] W' fun e w'=>e = .returned (.bool true) ∧ Kb 0 W' w') :
    Calls Tryz.prog 65 #[prov f vu vc vn vd,prov f uu uc un ud] w fun e w'=>e = .returned (.bool true) ∧ Kb 0 w w':=by
  have G0 : Hid (∀ W',Kb 0 w W' → Calls Tryz.prog 118 #[vu,uu] W' fun e w'=>e = .returned (.bool true) ∧ Kb 0 W' w'):=g0
  have G1 : Hid (∀ W',Kb 0 w W' → Calls Tryz.prog 119 #[vc,uc] W' fun e w'=>e = .returned (.bool true) ∧ Kb 0 W' w'):=g1
  have G2 : Hid (∀ W',Kb 0 w W' → Calls Tryz.prog 120 #[vn,un] W' fun e w'=>e = .returned (.bool true) ∧ Kb 0 W' w'):=g2
  have G3 : Hid (∀ W',Kb 0 w W' → Calls Tryz.prog 121 #[vd,ud] W' fun e w'=>e = .returned (.bool true) ∧ Kb 0 W' w'):=g3
  clear g0 g1 g2 g3
  unfold prov
  generalize f.x = x at *
  generalize f.l = l at *
  generalize f.m = m at *
  generalize f.r = r at *
  generalize f.g = g at *
  have e1 : (l != l) = false:=by simp
  have e2 : (m != m) = false:=by simp
  have e3 : (r != r) = false:=by cases r <;> rfl
  have e4 : (g != g) = false:=by simp
  obtain ⟨w2,hw2⟩ : ∃ w2,w2 = (w.alloc (.cells #[.string x,.int .i64 l,.int .i64 m,.bool r,.int .i64 g,vu,vc,vn,vd] 50)).alloc (.cells #[.string x,.int .i64 l,.int .i64 m,.bool r,.int .i64 g,uu,uc,un,ud] 50):=⟨_,rfl⟩
  have k2 : Kb 0 w w2:=by rw [hw2];exact kb_alloc2 _ _ _ _
  have b0 : w2.heap[w.heap.size]? = some (.cells #[.string x,.int .i64 l,.int .i64 m,.bool r,.int .i64 g,vu,vc,vn,vd] 50 (0,0)):=by
    rw [hw2,(kb_alloc 0 _ _).block _ (Nat.zero_le _) (by rw [World.size_alloc];omega)]
    exact alloc_new _ _ _
  have b1 : w2.heap[w.heap.size + 1]? = some (.cells #[.string x,.int .i64 l,.int .i64 m,.bool r,.int .i64 g,uu,uc,un,ud] 50 (0,0)):=by
    have e : (w.alloc (.cells #[.string x,.int .i64 l,.int .i64 m,.bool r,.int .i64 g,vu,vc,vn,vd] 50)).heap.size = w.heap.size + 1:=World.size_alloc _ _
    rw [hw2,← e]
    exact alloc_new _ _ _
  have HK : Hid (Kb 0 w w2 ∧ w2.heap[w.heap.size]? = some (.cells #[.string x,.int .i64 l,.int .i64 m,.bool r,.int .i64 g,vu,vc,vn,vd] 50 (0,0)) ∧ w2.heap[w.heap.size + 1]? = some (.cells #[.string x,.int .i64 l,.int .i64 m,.bool r,.int .i64 g,uu,uc,un,ud] 50 (0,0)) ∧ w.heap.size + 1 < w2.heap.size):=(⟨k2,b0,b1,by rw [hw2];simp⟩ : _ ∧ _)
  have HW : Hid (w2 = (w.alloc (.cells #[.string x,.int .i64 l,.int .i64 m,.bool r,.int .i64 g,vu,vc,vn,vd] 50)).alloc (.cells #[.string x,.int .i64 l,.int .i64 m,.bool r,.int .i64 g,uu,uc,un,ud] 50)):=hw2
  clear hw2 k2 b0 b1
  go_enter Tryz.func65,Tryz.ntmps65
  go_wp2_with fail
  rw [← (show w2 = _ from HW)]
  clear HW
  refine ((show ∀ W',Kb 0 w W' → Calls Tryz.prog 118 #[vu,uu] W' fun e w'=>e = .returned (.bool true) ∧ Kb 0 W' w' from G0) w2 HK.1).mono ?_
  rintro e x0 ⟨rfl,k0⟩
  have HL : Hid (Kb 0 w x0 ∧ x0.heap[w.heap.size]? = some (.cells #[.string x,.int .i64 l,.int .i64 m,.bool r,.int .i64 g,vu,vc,vn,vd] 50 (0,0)) ∧ x0.heap[w.heap.size + 1]? = some (.cells #[.string x,.int .i64 l,.int .i64 m,.bool r,.int .i64 g,uu,uc,un,ud] 50 (0,0)) ∧ w.heap.size + 1 < x0.heap.size):=by
    obtain ⟨q1,q2,q3,q4⟩:=(show Kb 0 w w2 ∧ w2.heap[w.heap.size]? = some (.cells #[.string x,.int .i64 l,.int .i64 m,.bool r,.int .i64 g,vu,vc,vn,vd] 50 (0,0)) ∧ w2.heap[w.heap.size + 1]? = some (.cells #[.string x,.int .i64 l,.int .i64 m,.bool r,.int .i64 g,uu,uc,un,ud] 50 (0,0)) ∧ w.heap.size + 1 < w2.heap.size from HK)
    have q5:=k0.size
    exact ⟨q1.trans k0,(k0.block _ (Nat.zero_le _) (by omega)).trans q2,(k0.block _ (Nat.zero_le _) (by omega)).trans q3,by omega⟩
  clear HK
  have HK:=HL
  clear HL k0 G0
  have c0 : x0.cell? ⟨w.heap.size,6,none⟩ = some (vc):=cell_of HK.2.1 rfl
  have d0 : x0.cell? ⟨w.heap.size + 1,6,none⟩ = some (uc):=cell_of HK.2.2.1 rfl
  go_wp2_with fail
  clear c0 d0
  refine ((show ∀ W',Kb 0 w W' → Calls Tryz.prog 119 #[vc,uc] W' fun e w'=>e = .returned (.bool true) ∧ Kb 0 W' w' from G1) x0 HK.1).mono ?_
  rintro e x1 ⟨rfl,k1⟩
  have HL : Hid (Kb 0 w x1 ∧ x1.heap[w.heap.size]? = some (.cells #[.string x,.int .i64 l,.int .i64 m,.bool r,.int .i64 g,vu,vc,vn,vd] 50 (0,0)) ∧ x1.heap[w.heap.size + 1]? = some (.cells #[.string x,.int .i64 l,.int .i64 m,.bool r,.int .i64 g,uu,uc,un,ud] 50 (0,0)) ∧ w.heap.size + 1 < x1.heap.size):=by
    obtain ⟨q1,q2,q3,q4⟩:=(show Kb 0 w x0 ∧ x0.heap[w.heap.size]? = some (.cells #[.string x,.int .i64 l,.int .i64 m,.bool r,.int .i64 g,vu,vc,vn,vd] 50 (0,0)) ∧ x0.heap[w.heap.size + 1]? = some (.cells #[.string x,.int .i64 l,.int .i64 m,.bool r,.int .i64 g,uu,uc,un,ud] 50 (0,0)) ∧ w.heap.size + 1 < x0.heap.size from HK)
    have q5:=k1.size
    exact ⟨q1.trans k1,(k1.block _ (Nat.zero_le _) (by omega)).trans q2,(k1.block _ (Nat.zero_le _) (by omega)).trans q3,by omega⟩
  clear HK
  have HK:=HL
  clear HL k1 G1
  have c1 : x1.cell? ⟨w.heap.size,7,none⟩ = some (vn):=cell_of HK.2.1 rfl
  have d1 : x1.cell? ⟨w.heap.size + 1,7,none⟩ = some (un):=cell_of HK.2.2.1 rfl
  go_wp2_with fail
  clear c1 d1
  refine ((show ∀ W',Kb 0 w W' → Calls Tryz.prog 120 #[vn,un] W' fun e w'=>e = .returned (.bool true) ∧ Kb 0 W' w' from G2) x1 HK.1).mono ?_
  rintro e x2 ⟨rfl,k2⟩
  have HL : Hid (Kb 0 w x2 ∧ x2.heap[w.heap.size]? = some (.cells #[.string x,.int .i64 l,.int .i64 m,.bool r,.int .i64 g,vu,vc,vn,vd] 50 (0,0)) ∧ x2.heap[w.heap.size + 1]? = some (.cells #[.string x,.int .i64 l,.int .i64 m,.bool r,.int .i64 g,uu,uc,un,ud] 50 (0,0)) ∧ w.heap.size + 1 < x2.heap.size):=by
    obtain ⟨q1,q2,q3,q4⟩:=(show Kb 0 w x1 ∧ x1.heap[w.heap.size]? = some (.cells #[.string x,.int .i64 l,.int .i64 m,.bool r,.int .i64 g,vu,vc,vn,vd] 50 (0,0)) ∧ x1.heap[w.heap.size + 1]? = some (.cells #[.string x,.int .i64 l,.int .i64 m,.bool r,.int .i64 g,uu,uc,un,ud] 50 (0,0)) ∧ w.heap.size + 1 < x1.heap.size from HK)
    have q5:=k2.size
    exact ⟨q1.trans k2,(k2.block _ (Nat.zero_le _) (by omega)).trans q2,(k2.block _ (Nat.zero_le _) (by omega)).trans q3,by omega⟩
  clear HK
  have HK:=HL
  clear HL k2 G2
  have c2 : x2.cell? ⟨w.heap.size,8,none⟩ = some (vd):=cell_of HK.2.1 rfl
  have d2 : x2.cell? ⟨w.heap.size + 1,8,none⟩ = some (ud):=cell_of HK.2.2.1 rfl
  go_wp2_with fail
  clear c2 d2
  refine ((show ∀ W',Kb 0 w W' → Calls Tryz.prog 121 #[vd,ud] W' fun e w'=>e = .returned (.bool true) ∧ Kb 0 W' w' from G3) x2 HK.1).mono ?_
  rintro e x3 ⟨rfl,k3⟩
  have HL : Hid (Kb 0 w x3 ∧ x3.heap[w.heap.size]? = some (.cells #[.string x,.int .i64 l,.int .i64 m,.bool r,.int .i64 g,vu,vc,vn,vd] 50 (0,0)) ∧ x3.heap[w.heap.size + 1]? = some (.cells #[.string x,.int .i64 l,.int .i64 m,.bool r,.int .i64 g,uu,uc,un,ud] 50 (0,0)) ∧ w.heap.size + 1 < x3.heap.size):=by
    obtain ⟨q1,q2,q3,q4⟩:=(show Kb 0 w x2 ∧ x2.heap[w.heap.size]? = some (.cells #[.string x,.int .i64 l,.int .i64 m,.bool r,.int .i64 g,vu,vc,vn,vd] 50 (0,0)) ∧ x2.heap[w.heap.size + 1]? = some (.cells #[.string x,.int .i64 l,.int .i64 m,.bool r,.int .i64 g,uu,uc,un,ud] 50 (0,0)) ∧ w.heap.size + 1 < x2.heap.size from HK)
    have q5:=k3.size
    exact ⟨q1.trans k3,(k3.block _ (Nat.zero_le _) (by omega)).trans q2,(k3.block _ (Nat.zero_le _) (by omega)).trans q3,by omega⟩
  clear HK
  have HK:=HL
  clear HL k3 G3
  go_wp2_with fail
  go_ret
  exact ⟨rfl,HK.1⟩
theorem eq_ups {va vb : Value} {n : Nat} {U : Nat → Bool × Int} (w : World) (ha : RowU 0 w va n U) (hb : RowU 0 w vb n U) (hn : n ≤ 1048576)  :
    Calls Tryz.prog 118 #[va,vb] w fun e w'=>e = .returned (.bool true) ∧ Kb 0 w w':=by
  obtain ⟨pa,ca,rfl,ha2⟩:=ha
  obtain ⟨pb,cb,rfl,hb2⟩:=hb
  have HA : Hid ((0 < n → ∃ a : Addr,pa = some a ∧ n ≤ ca ∧ 0 ≤ a.block ∧ ∀ i,i < n → UpC 0 w (a.add (i * 2)) (U i)) ∧ (0 < n → ∃ a : Addr,pb = some a ∧ n ≤ cb ∧ 0 ≤ a.block ∧ ∀ i,i < n → UpC 0 w (a.add (i * 2)) (U i))):=(⟨ha2,hb2⟩ : _ ∧ _)
  have hnI : (n : Int) ≤ 1048576:=by omega
  clear ha2 hb2 hn
  go_enter Tryz.func118,Tryz.ntmps118
  go_wp2_with fail
  go_loopw [5] (fun s5 wr=>∃ i : Nat,s5 = .int .i64 (i : Int) ∧ i ≤ n ∧ Hid (Kb 0 w wr)) (fun s5 _=>n - (intOf s5).toNat)
  case atStart=>exact ⟨0,rfl,Nat.zero_le _,Kb.refl _ _⟩
  case round =>
    obtain ⟨i,rfl,hin,HB⟩:=hrel
    rcases Nat.lt_or_ge i n with hi | hi
    · have hA:=(show (0 < n → ∃ a : Addr,pa = some a ∧ n ≤ ca ∧ 0 ≤ a.block ∧ ∀ i,i < n → UpC 0 w (a.add (i * 2)) (U i)) ∧ (0 < n → ∃ a : Addr,pb = some a ∧ n ≤ cb ∧ 0 ≤ a.block ∧ ∀ i,i < n → UpC 0 w (a.add (i * 2)) (U i)) from HA)
      obtain ⟨qa,rfl,hca,-,hra⟩:=hA.1 (by omega)
      obtain ⟨qb,rfl,hcb,-,hrb⟩:=hA.2 (by omega)
      have hiI : (i : Int) < (n : Int):=by omega
      have ca:=(hra i hi).keep (Nat.zero_le _) HB
      have cb:=(hrb i hi).keep (Nat.zero_le _) HB
      have heq : ∀ W',Kb 0 wr W' → Calls Tryz.prog 147 #[upv (U i),upv (U i)] W' fun e w'=>e = .returned (.bool true) ∧ Kb 0 W' w':=fun W' _=>eq_up (U i) W'
      replace heq : ∀ W',W'.heap = wr.heap → W'.os = wr.os → W'.output = wr.output → Calls Tryz.prog 147 #[upv (U i),upv (U i)] W' fun e w'=>e = .returned (.bool true) ∧ Kb 0 wr w':=fun W' h0 h1 h2=>by
        have kk : Kb 0 wr W':=⟨h1,h2,by rw [h0];exact Nat.le_refl _,fun k _ _=>by rw [h0]⟩
        refine (heq W' kk).mono ?_
        rintro e w' ⟨rfl,k⟩
        exact ⟨rfl,kk.trans k⟩
      obtain ⟨a0,a1⟩:=ca
      obtain ⟨b0,b1⟩:=cb
      clear hra hrb hA HA
      generalize U i = u at *
      obtain ⟨xb,xz⟩:=u
      unfold upv at heq
      dsimp only at a0 a1 b0 b1 heq
      have HKEEP : Hid (∀ (W' : World),Kb 0 wr W' → W'.cell? (qa.add (i * 2)) = some (.bool xb) ∧ W'.cell? ⟨(qa.add (i * 2)).block,(qa.add (i * 2)).off + 1,none⟩ = some (.int .i64 xz) ∧ W'.cell? (qb.add (i * 2)) = some (.bool xb) ∧ W'.cell? ⟨(qb.add (i * 2)).block,(qb.add (i * 2)).off + 1,none⟩ = some (.int .i64 xz)):=by
        show ∀ (W' : World),_
        intro W' k
        exact ⟨k.cell a0,k.cell a1,k.cell b0,k.cell b1⟩
      have HEQ : Hid (∀ W',W'.heap = wr.heap → W'.os = wr.os → W'.output = wr.output → Calls Tryz.prog 147 #[.agg #[.bool xb,.int .i64 xz],.agg #[.bool xb,.int .i64 xz]] W' fun e w'=>e = .returned (.bool true) ∧ Kb 0 wr w'):=heq
      clear hin heq
      go_wp2_with fail
      go_region_held_law (fun W'=>W'.cell? (qa.add (i * 2)) = some (.bool xb) ∧ W'.cell? ⟨(qa.add (i * 2)).block,(qa.add (i * 2)).off + 1,none⟩ = some (.int .i64 xz) ∧ W'.cell? (qb.add (i * 2)) = some (.bool xb) ∧ W'.cell? ⟨(qb.add (i * 2)).block,(qb.add (i * 2)).off + 1,none⟩ = some (.int .i64 xz)) (first | exact ⟨a0,a1,b0,b1⟩ | exact (show ∀ (W' : World),_ from HKEEP) _ k5)
        ((go_at_call 147;refine ((show ∀ W',W'.heap = wr.heap → W'.os = wr.os → W'.output = wr.output → Calls Tryz.prog 147 #[.agg #[.bool xb,.int .i64 xz],.agg #[.bool xb,.int .i64 xz]] W' fun e w'=>e = .returned (.bool true) ∧ Kb 0 wr w' from HEQ) _ (by exact rfl) (by exact rfl) (by exact rfl)).mono ?_;rintro e w5 ⟨rfl,k5⟩))
      all_goals
        have HB5 : Hid (Kb 0 w w5):=(show Kb 0 w wr from HB).trans k5
        clear HB HKEEP HEQ k5 a0 a1 b0 b1
        go_wp2_with fail
        go_roundw
        case rel=>exact ⟨i + 1,by go_num,by omega,HB5⟩
        case measure=>simp [intOf];omega
    · obtain rfl : i = n:=by omega
      clear HA
      go_wp2_with fail
      go_ret
      exact ⟨rfl,HB⟩
theorem eq_inss {va vb : Value} {n : Nat} {N : Nat → Iv} (w : World) (ha : RowI 0 w va n N) (hb : RowI 0 w vb n N) (hn : n ≤ 1048576)  :
    Calls Tryz.prog 120 #[va,vb] w fun e w'=>e = .returned (.bool true) ∧ Kb 0 w w':=by
  obtain ⟨pa,ca,rfl,ha2⟩:=ha
  obtain ⟨pb,cb,rfl,hb2⟩:=hb
  have HA : Hid ((0 < n → ∃ a : Addr,pa = some a ∧ n ≤ ca ∧ 0 ≤ a.block ∧ ∀ i,i < n → InsC 0 w (a.add (i * 5)) (N i)) ∧ (0 < n → ∃ a : Addr,pb = some a ∧ n ≤ cb ∧ 0 ≤ a.block ∧ ∀ i,i < n → InsC 0 w (a.add (i * 5)) (N i))):=(⟨ha2,hb2⟩ : _ ∧ _)
  have hnI : (n : Int) ≤ 1048576:=by omega
  clear ha2 hb2 hn
  go_enter Tryz.func120,Tryz.ntmps120
  go_wp2_with fail
  go_loopw [5] (fun s5 wr=>∃ i : Nat,s5 = .int .i64 (i : Int) ∧ i ≤ n ∧ Hid (Kb 0 w wr)) (fun s5 _=>n - (intOf s5).toNat)
  case atStart=>exact ⟨0,rfl,Nat.zero_le _,Kb.refl _ _⟩
  case round =>
    obtain ⟨i,rfl,hin,HB⟩:=hrel
    rcases Nat.lt_or_ge i n with hi | hi
    · have hA:=(show (0 < n → ∃ a : Addr,pa = some a ∧ n ≤ ca ∧ 0 ≤ a.block ∧ ∀ i,i < n → InsC 0 w (a.add (i * 5)) (N i)) ∧ (0 < n → ∃ a : Addr,pb = some a ∧ n ≤ cb ∧ 0 ≤ a.block ∧ ∀ i,i < n → InsC 0 w (a.add (i * 5)) (N i)) from HA)
      obtain ⟨qa,rfl,hca,-,hra⟩:=hA.1 (by omega)
      obtain ⟨qb,rfl,hcb,-,hrb⟩:=hA.2 (by omega)
      have hiI : (i : Int) < (n : Int):=by omega
      have ca:=(hra i hi).keep (Nat.zero_le _) HB
      have cb:=(hrb i hi).keep (Nat.zero_le _) HB
      have heq : ∀ W',Kb 0 wr W' → Calls Tryz.prog 149 #[insv (N i),insv (N i)] W' fun e w'=>e = .returned (.bool true) ∧ Kb 0 W' w':=fun W' _=>eq_ins (N i) W'
      replace heq : ∀ W',W'.heap = wr.heap → W'.os = wr.os → W'.output = wr.output → Calls Tryz.prog 149 #[insv (N i),insv (N i)] W' fun e w'=>e = .returned (.bool true) ∧ Kb 0 wr w':=fun W' h0 h1 h2=>by
        have kk : Kb 0 wr W':=⟨h1,h2,by rw [h0];exact Nat.le_refl _,fun k _ _=>by rw [h0]⟩
        refine (heq W' kk).mono ?_
        rintro e w' ⟨rfl,k⟩
        exact ⟨rfl,kk.trans k⟩
      obtain ⟨a0,a1,a2,a3,a4⟩:=ca
      obtain ⟨b0,b1,b2,b3,b4⟩:=cb
      clear hra hrb hA HA
      generalize N i = u at *
      obtain ⟨xo,xa,xb,xc,xd⟩:=u
      unfold insv at heq
      dsimp only at a0 a1 a2 a3 a4 b0 b1 b2 b3 b4 heq
      have HKEEP : Hid (∀ (W' : World),Kb 0 wr W' → W'.cell? (qa.add (i * 5)) = some (.int .i64 xo) ∧ W'.cell? ⟨(qa.add (i * 5)).block,(qa.add (i * 5)).off + 1,none⟩ = some (.int .i64 xa) ∧ W'.cell? ⟨(qa.add (i * 5)).block,(qa.add (i * 5)).off + 2,none⟩ = some (.int .i64 xb) ∧ W'.cell? ⟨(qa.add (i * 5)).block,(qa.add (i * 5)).off + 3,none⟩ = some (.int .i64 xc) ∧ W'.cell? ⟨(qa.add (i * 5)).block,(qa.add (i * 5)).off + 4,none⟩ = some (.int .i64 xd) ∧ W'.cell? (qb.add (i * 5)) = some (.int .i64 xo) ∧ W'.cell? ⟨(qb.add (i * 5)).block,(qb.add (i * 5)).off + 1,none⟩ = some (.int .i64 xa) ∧ W'.cell? ⟨(qb.add (i * 5)).block,(qb.add (i * 5)).off + 2,none⟩ = some (.int .i64 xb) ∧ W'.cell? ⟨(qb.add (i * 5)).block,(qb.add (i * 5)).off + 3,none⟩ = some (.int .i64 xc) ∧ W'.cell? ⟨(qb.add (i * 5)).block,(qb.add (i * 5)).off + 4,none⟩ = some (.int .i64 xd)):=by
        show ∀ (W' : World),_
        intro W' k
        exact ⟨k.cell a0,k.cell a1,k.cell a2,k.cell a3,k.cell a4,k.cell b0,k.cell b1,k.cell b2,k.cell b3,k.cell b4⟩
      have HEQ : Hid (∀ W',W'.heap = wr.heap → W'.os = wr.os → W'.output = wr.output → Calls Tryz.prog 149 #[.agg #[.int .i64 xo,.int .i64 xa,.int .i64 xb,.int .i64 xc,.int .i64 xd],.agg #[.int .i64 xo,.int .i64 xa,.int .i64 xb,.int .i64 xc,.int .i64 xd]] W' fun e w'=>e = .returned (.bool true) ∧ Kb 0 wr w'):=heq
      clear hin heq
      go_wp2_with fail
      go_region_held_law (fun W'=>W'.cell? (qa.add (i * 5)) = some (.int .i64 xo) ∧ W'.cell? ⟨(qa.add (i * 5)).block,(qa.add (i * 5)).off + 1,none⟩ = some (.int .i64 xa) ∧ W'.cell? ⟨(qa.add (i * 5)).block,(qa.add (i * 5)).off + 2,none⟩ = some (.int .i64 xb) ∧ W'.cell? ⟨(qa.add (i * 5)).block,(qa.add (i * 5)).off + 3,none⟩ = some (.int .i64 xc) ∧ W'.cell? ⟨(qa.add (i * 5)).block,(qa.add (i * 5)).off + 4,none⟩ = some (.int .i64 xd) ∧ W'.cell? (qb.add (i * 5)) = some (.int .i64 xo) ∧ W'.cell? ⟨(qb.add (i * 5)).block,(qb.add (i * 5)).off + 1,none⟩ = some (.int .i64 xa) ∧ W'.cell? ⟨(qb.add (i * 5)).block,(qb.add (i * 5)).off + 2,none⟩ = some (.int .i64 xb) ∧ W'.cell? ⟨(qb.add (i * 5)).block,(qb.add (i * 5)).off + 3,none⟩ = some (.int .i64 xc) ∧ W'.cell? ⟨(qb.add (i * 5)).block,(qb.add (i * 5)).off + 4,none⟩ = some (.int .i64 xd)) (first | exact ⟨a0,a1,a2,a3,a4,b0,b1,b2,b3,b4⟩ | exact (show ∀ (W' : World),_ from HKEEP) _ k5)
        ((go_at_call 149;refine ((show ∀ W',W'.heap = wr.heap → W'.os = wr.os → W'.output = wr.output → Calls Tryz.prog 149 #[.agg #[.int .i64 xo,.int .i64 xa,.int .i64 xb,.int .i64 xc,.int .i64 xd],.agg #[.int .i64 xo,.int .i64 xa,.int .i64 xb,.int .i64 xc,.int .i64 xd]] W' fun e w'=>e = .returned (.bool true) ∧ Kb 0 wr w' from HEQ) _ (by exact rfl) (by exact rfl) (by exact rfl)).mono ?_;rintro e w5 ⟨rfl,k5⟩))
      all_goals
        have HB5 : Hid (Kb 0 w w5):=(show Kb 0 w wr from HB).trans k5
        clear HB HKEEP HEQ k5 a0 a1 a2 a3 a4 b0 b1 b2 b3 b4
        go_wp2_with fail
        go_roundw
        case rel=>exact ⟨i + 1,by go_num,by omega,HB5⟩
        case measure=>simp [intOf];omega
    · obtain rfl : i = n:=by omega
      clear HA
      go_wp2_with fail
      go_ret
      exact ⟨rfl,HB⟩
end Go.Proofs.YtnmeemjoodoalaaGreatDoor.Fo
