import Derived.Test.YtomcmnompajnlaaGreatDoorBTud
set_option maxRecDepth 100000
set_option maxHeartbeats 4000000
namespace Go.Proofs.YtomcmnompajnlaaGreatDoor.Fo
open Go.ChangeShapes Go.WideShapes Go.ChangeAt Go.RowKit
set_option linter.unusedVariables false
structure Rw where
  kl:Int
  kh:Int
  nl:Int
  nh:Int
  ol:Int
  oh:Int
  ml:Int
  mh:Int
  t:Int
def rwv (r:Rw):Value:=.agg #[.int .i64 r.kl,.int .i64 r.kh,.int .i64 r.nl,.int .i64 r.nh,.int .i64 r.ol,.int .i64 r.oh,.int .i64 r.ml,.int .i64 r.mh,.int .i64 r.t]
def rwk (k:Int) (q:Nat):Rw :=
  match k.toNat with
  | 1=>⟨0,200,0,0,0,0,0,0,0⟩
  | 2=>⟨0,200,1,200,0,0,0,0,0⟩
  | 3=>⟨1,1,1,1,0,0,0,0,0⟩
  | 4=>⟨1,1,1,1,0,0,0,0,0⟩
  | 5=>⟨2,200,0,0,0,0,1,(q:Int) - 1,0⟩
  | 6=>⟨1,1,0,0,0,0,0,0,0⟩
  | 7=>⟨2,3,0,0,0,0,0,0,0⟩
  | 8=>⟨2,2,0,0,0,0,0,0,0⟩
  | 9=>⟨3,4,1,1,0,0,0,0,0⟩
  | 10=>⟨2,2,1,200,0,0,0,0,0⟩
  | 11=>⟨0,0,0,0,0,0,0,0,0⟩
  | 12=>⟨0,0,0,0,0,0,0,0,0⟩
  | 13=>⟨0,200,0,0,0,0,0,0,0⟩
  | 14=>⟨2,2,1,2,0,0,0,0,0⟩
  | 15=>⟨1,1,0,0,0,0,0,0,0⟩
  | 16=>⟨1,1,0,0,0,0,0,0,0⟩
  | 20=>⟨0,0,0,0,0,0,0,0,0⟩
  | 21=>⟨0,0,0,0,0,0,0,0,0⟩
  | 22=>⟨0,0,0,0,0,0,0,0,0⟩
  | 23=>⟨0,0,0,0,0,0,-9223372036854775808,9223372036854775807,0⟩
  | 24=>⟨0,0,0,0,0,0,0,0,3⟩
  | 25=>⟨0,0,0,0,0,0,0,0,4⟩
  | 26=>⟨0,0,0,0,0,0,0,0,1⟩
  | 27=>⟨0,0,0,0,0,0,0,0,0⟩
  | 28=>⟨2,2,0,0,0,0,0,0,0⟩
  | 29=>⟨2,2,0,0,0,0,0,0,0⟩
  | 30=>⟨1,1,0,0,19,22,0,0,0⟩
  | 31=>⟨2,2,0,0,1,18,0,0,0⟩
  | 32=>⟨2,2,0,0,0,0,0,0,0⟩
  | 33=>⟨1,1,0,0,0,0,0,0,1⟩
  | 34=>⟨1,200,0,0,0,0,0,0,0⟩
  | 35=>⟨0,200,0,0,0,0,0,0,0⟩
  | 36=>⟨1,1,0,200,0,1,0,0,0⟩
  | 37=>⟨1,1,0,0,0,0,0,0,0⟩
  | 40=>⟨1,1,0,0,0,0,0,0,0⟩
  | 41=>⟨2,2,0,0,0,0,0,0,0⟩
  | 42=>⟨1,1,0,0,0,0,0,0,1⟩
  | _=>⟨0,0,0,0,0,0,0,0,0⟩
def Zr (W:World) (b:Nat):Prop:=(W.cell? ⟨b,0,none⟩=some (.int .i64 0)∧W.cell? ⟨b,1,none⟩=some (.int .i64 0)∧W.cell? ⟨b,2,none⟩=some (.int .i64 0)∧W.cell? ⟨b,3,none⟩=some (.int .i64 0)∧W.cell? ⟨b,4,none⟩=some (.int .i64 0)∧W.cell? ⟨b,5,none⟩=some (.int .i64 0)∧W.cell? ⟨b,6,none⟩=some (.int .i64 0)∧W.cell? ⟨b,7,none⟩=some (.int .i64 0)∧W.cell? ⟨b,8,none⟩=some (.int .i64 0))∧(W.frozen? ⟨b,0,none⟩=false∧W.frozen? ⟨b,1,none⟩=false∧W.frozen? ⟨b,2,none⟩=false∧W.frozen? ⟨b,3,none⟩=false∧W.frozen? ⟨b,4,none⟩=false∧W.frozen? ⟨b,5,none⟩=false∧W.frozen? ⟨b,6,none⟩=false∧W.frozen? ⟨b,7,none⟩=false∧W.frozen? ⟨b,8,none⟩=false)
theorem Zr.below {W W':World} {b:Nat} (h:Zr W b) (hb:Below W.heap.size W W'):Zr W' b:=by
  obtain ⟨⟨c0,c1,c2,c3,c4,c5,c6,c7,c8⟩,⟨z0,z1,z2,z3,z4,z5,z6,z7,z8⟩⟩:=h
  have hl:=lt_of_cell c0
  have e:∀ j,W'.cell? ⟨b,j,none⟩=W.cell? ⟨b,j,none⟩:=fun j=>hb.cell (p:=⟨b,j,none⟩) hl
  have g:∀ j,W'.frozen? ⟨b,j,none⟩=W.frozen? ⟨b,j,none⟩:=fun j=>hb.frozen (p:=⟨b,j,none⟩) hl
  exact ⟨⟨(e 0).trans c0,(e 1).trans c1,(e 2).trans c2,(e 3).trans c3,(e 4).trans c4,(e 5).trans c5,(e 6).trans c6,(e 7).trans c7,(e 8).trans c8⟩,⟨(g 0).trans z0,(g 1).trans z1,(g 2).trans z2,(g 3).trans z3,(g 4).trans z4,(g 5).trans z5,(g 6).trans z6,(g 7).trans z7,(g 8).trans z8⟩⟩
theorem Zr.new (W:World) (t:TypeId):Zr (W.alloc (.cells #[.int .i64 0,.int .i64 0,.int .i64 0,.int .i64 0,.int .i64 0,.int .i64 0,.int .i64 0,.int .i64 0,.int .i64 0] t)) W.heap.size:=by
  have e:∀ j,(W.alloc (.cells #[.int .i64 0,.int .i64 0,.int .i64 0,.int .i64 0,.int .i64 0,.int .i64 0,.int .i64 0,.int .i64 0,.int .i64 0] t)).cell? ⟨W.heap.size,j,none⟩=(#[.int .i64 0,.int .i64 0,.int .i64 0,.int .i64 0,.int .i64 0,.int .i64 0,.int .i64 0,.int .i64 0,.int .i64 0]:Array Value)[j]?:=fun j=>World.cell?_alloc_at _ _ _ _ rfl
  have g:∀ j,(W.alloc (.cells #[.int .i64 0,.int .i64 0,.int .i64 0,.int .i64 0,.int .i64 0,.int .i64 0,.int .i64 0,.int .i64 0,.int .i64 0] t)).frozen? ⟨W.heap.size,j,none⟩=false:=fun j=>World.frozen?_alloc_at _ _ _ _ rfl
  exact ⟨⟨e 0,e 1,e 2,e 3,e 4,e 5,e 6,e 7,e 8⟩,⟨g 0,g 1,g 2,g 3,g 4,g 5,g 6,g 7,g 8⟩⟩
theorem Zr.put {W:World} {b:Nat} (h:Zr W b) (x0 x1 x2 x3 x4 x5 x6 x7 x8:Int):(((((((((W.setCell ⟨b,0,none⟩ (.int .i64 x0)).setCell ⟨b,1,none⟩ (.int .i64 x1)).setCell ⟨b,2,none⟩ (.int .i64 x2)).setCell ⟨b,3,none⟩ (.int .i64 x3)).setCell ⟨b,4,none⟩ (.int .i64 x4)).setCell ⟨b,5,none⟩ (.int .i64 x5)).setCell ⟨b,6,none⟩ (.int .i64 x6)).setCell ⟨b,7,none⟩ (.int .i64 x7)).setCell ⟨b,8,none⟩ (.int .i64 x8)).cell? ⟨b,0,none⟩=some (.int .i64 x0)∧(((((((((W.setCell ⟨b,0,none⟩ (.int .i64 x0)).setCell ⟨b,1,none⟩ (.int .i64 x1)).setCell ⟨b,2,none⟩ (.int .i64 x2)).setCell ⟨b,3,none⟩ (.int .i64 x3)).setCell ⟨b,4,none⟩ (.int .i64 x4)).setCell ⟨b,5,none⟩ (.int .i64 x5)).setCell ⟨b,6,none⟩ (.int .i64 x6)).setCell ⟨b,7,none⟩ (.int .i64 x7)).setCell ⟨b,8,none⟩ (.int .i64 x8)).cell? ⟨b,1,none⟩=some (.int .i64 x1)∧(((((((((W.setCell ⟨b,0,none⟩ (.int .i64 x0)).setCell ⟨b,1,none⟩ (.int .i64 x1)).setCell ⟨b,2,none⟩ (.int .i64 x2)).setCell ⟨b,3,none⟩ (.int .i64 x3)).setCell ⟨b,4,none⟩ (.int .i64 x4)).setCell ⟨b,5,none⟩ (.int .i64 x5)).setCell ⟨b,6,none⟩ (.int .i64 x6)).setCell ⟨b,7,none⟩ (.int .i64 x7)).setCell ⟨b,8,none⟩ (.int .i64 x8)).cell? ⟨b,2,none⟩=some (.int .i64 x2)∧(((((((((W.setCell ⟨b,0,none⟩ (.int .i64 x0)).setCell ⟨b,1,none⟩ (.int .i64 x1)).setCell ⟨b,2,none⟩ (.int .i64 x2)).setCell ⟨b,3,none⟩ (.int .i64 x3)).setCell ⟨b,4,none⟩ (.int .i64 x4)).setCell ⟨b,5,none⟩ (.int .i64 x5)).setCell ⟨b,6,none⟩ (.int .i64 x6)).setCell ⟨b,7,none⟩ (.int .i64 x7)).setCell ⟨b,8,none⟩ (.int .i64 x8)).cell? ⟨b,3,none⟩=some (.int .i64 x3)∧(((((((((W.setCell ⟨b,0,none⟩ (.int .i64 x0)).setCell ⟨b,1,none⟩ (.int .i64 x1)).setCell ⟨b,2,none⟩ (.int .i64 x2)).setCell ⟨b,3,none⟩ (.int .i64 x3)).setCell ⟨b,4,none⟩ (.int .i64 x4)).setCell ⟨b,5,none⟩ (.int .i64 x5)).setCell ⟨b,6,none⟩ (.int .i64 x6)).setCell ⟨b,7,none⟩ (.int .i64 x7)).setCell ⟨b,8,none⟩ (.int .i64 x8)).cell? ⟨b,4,none⟩=some (.int .i64 x4)∧(((((((((W.setCell ⟨b,0,none⟩ (.int .i64 x0)).setCell ⟨b,1,none⟩ (.int .i64 x1)).setCell ⟨b,2,none⟩ (.int .i64 x2)).setCell ⟨b,3,none⟩ (.int .i64 x3)).setCell ⟨b,4,none⟩ (.int .i64 x4)).setCell ⟨b,5,none⟩ (.int .i64 x5)).setCell ⟨b,6,none⟩ (.int .i64 x6)).setCell ⟨b,7,none⟩ (.int .i64 x7)).setCell ⟨b,8,none⟩ (.int .i64 x8)).cell? ⟨b,5,none⟩=some (.int .i64 x5)∧(((((((((W.setCell ⟨b,0,none⟩ (.int .i64 x0)).setCell ⟨b,1,none⟩ (.int .i64 x1)).setCell ⟨b,2,none⟩ (.int .i64 x2)).setCell ⟨b,3,none⟩ (.int .i64 x3)).setCell ⟨b,4,none⟩ (.int .i64 x4)).setCell ⟨b,5,none⟩ (.int .i64 x5)).setCell ⟨b,6,none⟩ (.int .i64 x6)).setCell ⟨b,7,none⟩ (.int .i64 x7)).setCell ⟨b,8,none⟩ (.int .i64 x8)).cell? ⟨b,6,none⟩=some (.int .i64 x6)∧(((((((((W.setCell ⟨b,0,none⟩ (.int .i64 x0)).setCell ⟨b,1,none⟩ (.int .i64 x1)).setCell ⟨b,2,none⟩ (.int .i64 x2)).setCell ⟨b,3,none⟩ (.int .i64 x3)).setCell ⟨b,4,none⟩ (.int .i64 x4)).setCell ⟨b,5,none⟩ (.int .i64 x5)).setCell ⟨b,6,none⟩ (.int .i64 x6)).setCell ⟨b,7,none⟩ (.int .i64 x7)).setCell ⟨b,8,none⟩ (.int .i64 x8)).cell? ⟨b,7,none⟩=some (.int .i64 x7)∧(((((((((W.setCell ⟨b,0,none⟩ (.int .i64 x0)).setCell ⟨b,1,none⟩ (.int .i64 x1)).setCell ⟨b,2,none⟩ (.int .i64 x2)).setCell ⟨b,3,none⟩ (.int .i64 x3)).setCell ⟨b,4,none⟩ (.int .i64 x4)).setCell ⟨b,5,none⟩ (.int .i64 x5)).setCell ⟨b,6,none⟩ (.int .i64 x6)).setCell ⟨b,7,none⟩ (.int .i64 x7)).setCell ⟨b,8,none⟩ (.int .i64 x8)).cell? ⟨b,8,none⟩=some (.int .i64 x8):=by
  obtain ⟨⟨c0,c1,c2,c3,c4,c5,c6,c7,c8⟩,_⟩:=h
  refine ⟨?_,?_,?_,?_,?_,?_,?_,?_,?_⟩
  · rw [set_ne _ _ _ _ _ (by omega),set_ne _ _ _ _ _ (by omega),set_ne _ _ _ _ _ (by omega),set_ne _ _ _ _ _ (by omega),set_ne _ _ _ _ _ (by omega),set_ne _ _ _ _ _ (by omega),set_ne _ _ _ _ _ (by omega),set_ne _ _ _ _ _ (by omega)]
    exact set_eq _ _ _ _ _ (by exact c0)
  · rw [set_ne _ _ _ _ _ (by omega),set_ne _ _ _ _ _ (by omega),set_ne _ _ _ _ _ (by omega),set_ne _ _ _ _ _ (by omega),set_ne _ _ _ _ _ (by omega),set_ne _ _ _ _ _ (by omega),set_ne _ _ _ _ _ (by omega)]
    exact set_eq _ _ _ _ _ (by rw [set_ne _ _ _ _ _ (by omega)];exact c1)
  · rw [set_ne _ _ _ _ _ (by omega),set_ne _ _ _ _ _ (by omega),set_ne _ _ _ _ _ (by omega),set_ne _ _ _ _ _ (by omega),set_ne _ _ _ _ _ (by omega),set_ne _ _ _ _ _ (by omega)]
    exact set_eq _ _ _ _ _ (by rw [set_ne _ _ _ _ _ (by omega),set_ne _ _ _ _ _ (by omega)];exact c2)
  · rw [set_ne _ _ _ _ _ (by omega),set_ne _ _ _ _ _ (by omega),set_ne _ _ _ _ _ (by omega),set_ne _ _ _ _ _ (by omega),set_ne _ _ _ _ _ (by omega)]
    exact set_eq _ _ _ _ _ (by rw [set_ne _ _ _ _ _ (by omega),set_ne _ _ _ _ _ (by omega),set_ne _ _ _ _ _ (by omega)];exact c3)
  · rw [set_ne _ _ _ _ _ (by omega),set_ne _ _ _ _ _ (by omega),set_ne _ _ _ _ _ (by omega),set_ne _ _ _ _ _ (by omega)]
    exact set_eq _ _ _ _ _ (by rw [set_ne _ _ _ _ _ (by omega),set_ne _ _ _ _ _ (by omega),set_ne _ _ _ _ _ (by omega),set_ne _ _ _ _ _ (by omega)];exact c4)
  · rw [set_ne _ _ _ _ _ (by omega),set_ne _ _ _ _ _ (by omega),set_ne _ _ _ _ _ (by omega)]
    exact set_eq _ _ _ _ _ (by rw [set_ne _ _ _ _ _ (by omega),set_ne _ _ _ _ _ (by omega),set_ne _ _ _ _ _ (by omega),set_ne _ _ _ _ _ (by omega),set_ne _ _ _ _ _ (by omega)];exact c5)
  · rw [set_ne _ _ _ _ _ (by omega),set_ne _ _ _ _ _ (by omega)]
    exact set_eq _ _ _ _ _ (by rw [set_ne _ _ _ _ _ (by omega),set_ne _ _ _ _ _ (by omega),set_ne _ _ _ _ _ (by omega),set_ne _ _ _ _ _ (by omega),set_ne _ _ _ _ _ (by omega),set_ne _ _ _ _ _ (by omega)];exact c6)
  · rw [set_ne _ _ _ _ _ (by omega)]
    exact set_eq _ _ _ _ _ (by rw [set_ne _ _ _ _ _ (by omega),set_ne _ _ _ _ _ (by omega),set_ne _ _ _ _ _ (by omega),set_ne _ _ _ _ _ (by omega),set_ne _ _ _ _ _ (by omega),set_ne _ _ _ _ _ (by omega),set_ne _ _ _ _ _ (by omega)];exact c7)
  · exact set_eq _ _ _ _ _ (by rw [set_ne _ _ _ _ _ (by omega),set_ne _ _ _ _ _ (by omega),set_ne _ _ _ _ _ (by omega),set_ne _ _ _ _ _ (by omega),set_ne _ _ _ _ _ (by omega),set_ne _ _ _ _ _ (by omega),set_ne _ _ _ _ _ (by omega),set_ne _ _ _ _ _ (by omega)];exact c8)
theorem pt9 {n:Nat} {w W:World} (h:Below n w W) (b:Nat) (hb:n≤b) (x0 x1 x2 x3 x4 x5 x6 x7 x8:Int):Below n w (((((((((W.setCell ⟨b,0,none⟩ (.int .i64 x0)).setCell ⟨b,1,none⟩ (.int .i64 x1)).setCell ⟨b,2,none⟩ (.int .i64 x2)).setCell ⟨b,3,none⟩ (.int .i64 x3)).setCell ⟨b,4,none⟩ (.int .i64 x4)).setCell ⟨b,5,none⟩ (.int .i64 x5)).setCell ⟨b,6,none⟩ (.int .i64 x6)).setCell ⟨b,7,none⟩ (.int .i64 x7)).setCell ⟨b,8,none⟩ (.int .i64 x8)) :=
  (((((((((h.setCell (by show n≤b;exact hb) _).setCell (by show n≤b;exact hb) _).setCell (by show n≤b;exact hb) _).setCell (by show n≤b;exact hb) _).setCell (by show n≤b;exact hb) _).setCell (by show n≤b;exact hb) _).setCell (by show n≤b;exact hb) _).setCell (by show n≤b;exact hb) _).setCell (by show n≤b;exact hb) _)
theorem im_rows (a:Fv) (vn:Value) (pk:Option Addr) (q ck:Nat) (h : 1≤a.k∧a.k≤16) (hq:q≤1048576) (w:World):Calls Tryz.prog 223 #[fmv a vn (.slice pk q ck)] w fun e w'=>e = .returned (rwv (rwk a.k q))∧Below w.heap.size w w':=by
  obtain ⟨k,f,t,l,o,m,x⟩:=a
  have h':k=1∨k=2∨k=3∨k=4∨k=5∨k=6∨k=7∨k=8∨k=9∨k=10∨k=11∨k=12∨k=13∨k=14∨k=15∨k=16:=by
    have h1 : 1≤k:=h.1
    have h2:k≤16:=h.2
    omega
  have hqI:(q:Int)≤1048576:=by omega
  clear h hq
  unfold fmv
  rcases h' with rfl | rfl | rfl | rfl | rfl | rfl | rfl | rfl | rfl | rfl | rfl | rfl | rfl | rfl | rfl | rfl
  · show Calls Tryz.prog 223 _ w fun e w'=>e = .returned (.agg #[.int .i64 0,.int .i64 200,.int .i64 0,.int .i64 0,.int .i64 0,.int .i64 0,.int .i64 0,.int .i64 0,.int .i64 0])∧Below w.heap.size w w'
    go_enter Tryz.func223,Tryz.ntmps223
    go_wp2_with fail
    go_returns
    exact ⟨rfl,by go_grown⟩
  · show Calls Tryz.prog 223 _ w fun e w'=>e = .returned (.agg #[.int .i64 0,.int .i64 200,.int .i64 1,.int .i64 200,.int .i64 0,.int .i64 0,.int .i64 0,.int .i64 0,.int .i64 0])∧Below w.heap.size w w'
    go_enter Tryz.func223,Tryz.ntmps223
    go_wp2_with fail
    go_returns
    exact ⟨rfl,by go_grown⟩
  · show Calls Tryz.prog 223 _ w fun e w'=>e = .returned (.agg #[.int .i64 1,.int .i64 1,.int .i64 1,.int .i64 1,.int .i64 0,.int .i64 0,.int .i64 0,.int .i64 0,.int .i64 0])∧Below w.heap.size w w'
    go_enter Tryz.func223,Tryz.ntmps223
    go_wp2_with fail
    obtain ⟨W2,hW2⟩:∃ W2,W2=(w.alloc (.cells #[.int .i64 3,.int .i64 f,.int .i64 t,.int .i64 l,.int .i64 o,.int .i64 m,.string x,vn,.slice pk q ck] 167)).alloc (.cells #[.int .i64 0,.int .i64 0,.int .i64 0,.int .i64 0,.int .i64 0,.int .i64 0,.int .i64 0,.int .i64 0,.int .i64 0] 140):=⟨_,rfl⟩
    rw [← hW2]
    have HB:Hid (Below w.heap.size w W2):=by show Below w.heap.size w W2;rw [hW2];exact bel2 _ _ _
    have HZ:Hid (Zr W2 (w.heap.size+1)):=by show Zr W2 (w.heap.size+1);rw [hW2];have:=Zr.new (w.alloc (.cells #[.int .i64 3,.int .i64 f,.int .i64 t,.int .i64 l,.int .i64 o,.int .i64 m,.string x,vn,.slice pk q ck] 167)) 140;simpa using this
    clear hW2
    refine (im_just 1 W2).mono ?_
    rintro e V0 ⟨rfl,b0⟩
    have HB0:Hid (Below w.heap.size w V0):=(show Below w.heap.size w W2 from HB).trans (b0.mono (show Below w.heap.size w W2 from HB).size)
    have HZ0:Hid (Zr V0 (w.heap.size+1)):=(show Zr W2 (w.heap.size+1) from HZ).below b0
    clear b0
    go_wp2_with fail
    refine (im_just 1 V0).mono ?_
    rintro e V1 ⟨rfl,b1⟩
    have HB1:Hid (Below w.heap.size w V1):=(show Below w.heap.size w V0 from HB0).trans (b1.mono (show Below w.heap.size w V0 from HB0).size)
    have HZ1:Hid (Zr V1 (w.heap.size+1)):=(show Zr V0 (w.heap.size+1) from HZ0).below b1
    clear b1
    clear HB HZ HB0 HZ0
    have hz:=(show Zr V1 (w.heap.size+1) from HZ1)
    obtain ⟨⟨c0,c1,c2,c3,c4,c5,c6,c7,c8⟩,⟨z0,z1,z2,z3,z4,z5,z6,z7,z8⟩⟩:=hz
    go_wp2_with fail
    obtain ⟨e0,e1,e2,e3,e4,e5,e6,e7,e8⟩:=(show Zr V1 (w.heap.size+1) from HZ1).put (1) (1) (1) (1) (0) (0) (0) (0) (0)
    refine bodyPost_ret (by simp [results,Tryz.results223,go_sem,e0,e1,e2,e3,e4,e5,e6,e7,e8];try rfl) rfl ?_
    exact ⟨rfl,pt9 (show Below w.heap.size w V1 from HB1) _ (by omega) _ _ _ _ _ _ _ _ _⟩
  · show Calls Tryz.prog 223 _ w fun e w'=>e = .returned (.agg #[.int .i64 1,.int .i64 1,.int .i64 1,.int .i64 1,.int .i64 0,.int .i64 0,.int .i64 0,.int .i64 0,.int .i64 0])∧Below w.heap.size w w'
    go_enter Tryz.func223,Tryz.ntmps223
    go_wp2_with fail
    obtain ⟨W2,hW2⟩:∃ W2,W2=(w.alloc (.cells #[.int .i64 4,.int .i64 f,.int .i64 t,.int .i64 l,.int .i64 o,.int .i64 m,.string x,vn,.slice pk q ck] 167)).alloc (.cells #[.int .i64 0,.int .i64 0,.int .i64 0,.int .i64 0,.int .i64 0,.int .i64 0,.int .i64 0,.int .i64 0,.int .i64 0] 140):=⟨_,rfl⟩
    rw [← hW2]
    have HB:Hid (Below w.heap.size w W2):=by show Below w.heap.size w W2;rw [hW2];exact bel2 _ _ _
    have HZ:Hid (Zr W2 (w.heap.size+1)):=by show Zr W2 (w.heap.size+1);rw [hW2];have:=Zr.new (w.alloc (.cells #[.int .i64 4,.int .i64 f,.int .i64 t,.int .i64 l,.int .i64 o,.int .i64 m,.string x,vn,.slice pk q ck] 167)) 140;simpa using this
    clear hW2
    refine (im_just 1 W2).mono ?_
    rintro e V0 ⟨rfl,b0⟩
    have HB0:Hid (Below w.heap.size w V0):=(show Below w.heap.size w W2 from HB).trans (b0.mono (show Below w.heap.size w W2 from HB).size)
    have HZ0:Hid (Zr V0 (w.heap.size+1)):=(show Zr W2 (w.heap.size+1) from HZ).below b0
    clear b0
    go_wp2_with fail
    refine (im_just 1 V0).mono ?_
    rintro e V1 ⟨rfl,b1⟩
    have HB1:Hid (Below w.heap.size w V1):=(show Below w.heap.size w V0 from HB0).trans (b1.mono (show Below w.heap.size w V0 from HB0).size)
    have HZ1:Hid (Zr V1 (w.heap.size+1)):=(show Zr V0 (w.heap.size+1) from HZ0).below b1
    clear b1
    clear HB HZ HB0 HZ0
    have hz:=(show Zr V1 (w.heap.size+1) from HZ1)
    obtain ⟨⟨c0,c1,c2,c3,c4,c5,c6,c7,c8⟩,⟨z0,z1,z2,z3,z4,z5,z6,z7,z8⟩⟩:=hz
    go_wp2_with fail
    obtain ⟨e0,e1,e2,e3,e4,e5,e6,e7,e8⟩:=(show Zr V1 (w.heap.size+1) from HZ1).put (1) (1) (1) (1) (0) (0) (0) (0) (0)
    refine bodyPost_ret (by simp [results,Tryz.results223,go_sem,e0,e1,e2,e3,e4,e5,e6,e7,e8];try rfl) rfl ?_
    exact ⟨rfl,pt9 (show Below w.heap.size w V1 from HB1) _ (by omega) _ _ _ _ _ _ _ _ _⟩
  · show Calls Tryz.prog 223 _ w fun e w'=>e = .returned (.agg #[.int .i64 2,.int .i64 200,.int .i64 0,.int .i64 0,.int .i64 0,.int .i64 0,.int .i64 1,.int .i64 ((q:Int) - 1),.int .i64 0])∧Below w.heap.size w w'
    go_enter Tryz.func223,Tryz.ntmps223
    go_wp2_with fail
    go_returns
    exact ⟨rfl,by go_grown⟩
  · show Calls Tryz.prog 223 _ w fun e w'=>e = .returned (.agg #[.int .i64 1,.int .i64 1,.int .i64 0,.int .i64 0,.int .i64 0,.int .i64 0,.int .i64 0,.int .i64 0,.int .i64 0])∧Below w.heap.size w w'
    go_enter Tryz.func223,Tryz.ntmps223
    go_wp2_with fail
    obtain ⟨W2,hW2⟩:∃ W2,W2=(w.alloc (.cells #[.int .i64 6,.int .i64 f,.int .i64 t,.int .i64 l,.int .i64 o,.int .i64 m,.string x,vn,.slice pk q ck] 167)).alloc (.cells #[.int .i64 0,.int .i64 0,.int .i64 0,.int .i64 0,.int .i64 0,.int .i64 0,.int .i64 0,.int .i64 0,.int .i64 0] 140):=⟨_,rfl⟩
    rw [← hW2]
    have HB:Hid (Below w.heap.size w W2):=by show Below w.heap.size w W2;rw [hW2];exact bel2 _ _ _
    have HZ:Hid (Zr W2 (w.heap.size+1)):=by show Zr W2 (w.heap.size+1);rw [hW2];have:=Zr.new (w.alloc (.cells #[.int .i64 6,.int .i64 f,.int .i64 t,.int .i64 l,.int .i64 o,.int .i64 m,.string x,vn,.slice pk q ck] 167)) 140;simpa using this
    clear hW2
    refine (im_just 1 W2).mono ?_
    rintro e V0 ⟨rfl,b0⟩
    have HB0:Hid (Below w.heap.size w V0):=(show Below w.heap.size w W2 from HB).trans (b0.mono (show Below w.heap.size w W2 from HB).size)
    have HZ0:Hid (Zr V0 (w.heap.size+1)):=(show Zr W2 (w.heap.size+1) from HZ).below b0
    clear b0
    clear HB HZ
    have hz:=(show Zr V0 (w.heap.size+1) from HZ0)
    obtain ⟨⟨c0,c1,c2,c3,c4,c5,c6,c7,c8⟩,⟨z0,z1,z2,z3,z4,z5,z6,z7,z8⟩⟩:=hz
    go_wp2_with fail
    obtain ⟨e0,e1,e2,e3,e4,e5,e6,e7,e8⟩:=(show Zr V0 (w.heap.size+1) from HZ0).put (1) (1) (0) (0) (0) (0) (0) (0) (0)
    refine bodyPost_ret (by simp [results,Tryz.results223,go_sem,e0,e1,e2,e3,e4,e5,e6,e7,e8];try rfl) rfl ?_
    exact ⟨rfl,pt9 (show Below w.heap.size w V0 from HB0) _ (by omega) _ _ _ _ _ _ _ _ _⟩
  · show Calls Tryz.prog 223 _ w fun e w'=>e = .returned (.agg #[.int .i64 2,.int .i64 3,.int .i64 0,.int .i64 0,.int .i64 0,.int .i64 0,.int .i64 0,.int .i64 0,.int .i64 0])∧Below w.heap.size w w'
    go_enter Tryz.func223,Tryz.ntmps223
    go_wp2_with fail
    go_returns
    exact ⟨rfl,by go_grown⟩
  · show Calls Tryz.prog 223 _ w fun e w'=>e = .returned (.agg #[.int .i64 2,.int .i64 2,.int .i64 0,.int .i64 0,.int .i64 0,.int .i64 0,.int .i64 0,.int .i64 0,.int .i64 0])∧Below w.heap.size w w'
    go_enter Tryz.func223,Tryz.ntmps223
    go_wp2_with fail
    obtain ⟨W2,hW2⟩:∃ W2,W2=(w.alloc (.cells #[.int .i64 8,.int .i64 f,.int .i64 t,.int .i64 l,.int .i64 o,.int .i64 m,.string x,vn,.slice pk q ck] 167)).alloc (.cells #[.int .i64 0,.int .i64 0,.int .i64 0,.int .i64 0,.int .i64 0,.int .i64 0,.int .i64 0,.int .i64 0,.int .i64 0] 140):=⟨_,rfl⟩
    rw [← hW2]
    have HB:Hid (Below w.heap.size w W2):=by show Below w.heap.size w W2;rw [hW2];exact bel2 _ _ _
    have HZ:Hid (Zr W2 (w.heap.size+1)):=by show Zr W2 (w.heap.size+1);rw [hW2];have:=Zr.new (w.alloc (.cells #[.int .i64 8,.int .i64 f,.int .i64 t,.int .i64 l,.int .i64 o,.int .i64 m,.string x,vn,.slice pk q ck] 167)) 140;simpa using this
    clear hW2
    refine (im_just 2 W2).mono ?_
    rintro e V0 ⟨rfl,b0⟩
    have HB0:Hid (Below w.heap.size w V0):=(show Below w.heap.size w W2 from HB).trans (b0.mono (show Below w.heap.size w W2 from HB).size)
    have HZ0:Hid (Zr V0 (w.heap.size+1)):=(show Zr W2 (w.heap.size+1) from HZ).below b0
    clear b0
    clear HB HZ
    have hz:=(show Zr V0 (w.heap.size+1) from HZ0)
    obtain ⟨⟨c0,c1,c2,c3,c4,c5,c6,c7,c8⟩,⟨z0,z1,z2,z3,z4,z5,z6,z7,z8⟩⟩:=hz
    go_wp2_with fail
    obtain ⟨e0,e1,e2,e3,e4,e5,e6,e7,e8⟩:=(show Zr V0 (w.heap.size+1) from HZ0).put (2) (2) (0) (0) (0) (0) (0) (0) (0)
    refine bodyPost_ret (by simp [results,Tryz.results223,go_sem,e0,e1,e2,e3,e4,e5,e6,e7,e8];try rfl) rfl ?_
    exact ⟨rfl,pt9 (show Below w.heap.size w V0 from HB0) _ (by omega) _ _ _ _ _ _ _ _ _⟩
  · show Calls Tryz.prog 223 _ w fun e w'=>e = .returned (.agg #[.int .i64 3,.int .i64 4,.int .i64 1,.int .i64 1,.int .i64 0,.int .i64 0,.int .i64 0,.int .i64 0,.int .i64 0])∧Below w.heap.size w w'
    go_enter Tryz.func223,Tryz.ntmps223
    go_wp2_with fail
    obtain ⟨W2,hW2⟩:∃ W2,W2=(w.alloc (.cells #[.int .i64 9,.int .i64 f,.int .i64 t,.int .i64 l,.int .i64 o,.int .i64 m,.string x,vn,.slice pk q ck] 167)).alloc (.cells #[.int .i64 0,.int .i64 0,.int .i64 0,.int .i64 0,.int .i64 0,.int .i64 0,.int .i64 0,.int .i64 0,.int .i64 0] 140):=⟨_,rfl⟩
    rw [← hW2]
    have HB:Hid (Below w.heap.size w W2):=by show Below w.heap.size w W2;rw [hW2];exact bel2 _ _ _
    have HZ:Hid (Zr W2 (w.heap.size+1)):=by show Zr W2 (w.heap.size+1);rw [hW2];have:=Zr.new (w.alloc (.cells #[.int .i64 9,.int .i64 f,.int .i64 t,.int .i64 l,.int .i64 o,.int .i64 m,.string x,vn,.slice pk q ck] 167)) 140;simpa using this
    clear hW2
    refine (im_just 1 W2).mono ?_
    rintro e V0 ⟨rfl,b0⟩
    have HB0:Hid (Below w.heap.size w V0):=(show Below w.heap.size w W2 from HB).trans (b0.mono (show Below w.heap.size w W2 from HB).size)
    have HZ0:Hid (Zr V0 (w.heap.size+1)):=(show Zr W2 (w.heap.size+1) from HZ).below b0
    clear b0
    clear HB HZ
    have hz:=(show Zr V0 (w.heap.size+1) from HZ0)
    obtain ⟨⟨c0,c1,c2,c3,c4,c5,c6,c7,c8⟩,⟨z0,z1,z2,z3,z4,z5,z6,z7,z8⟩⟩:=hz
    go_wp2_with fail
    obtain ⟨e0,e1,e2,e3,e4,e5,e6,e7,e8⟩:=(show Zr V0 (w.heap.size+1) from HZ0).put (3) (4) (1) (1) (0) (0) (0) (0) (0)
    refine bodyPost_ret (by simp [results,Tryz.results223,go_sem,e0,e1,e2,e3,e4,e5,e6,e7,e8];try rfl) rfl ?_
    exact ⟨rfl,pt9 (show Below w.heap.size w V0 from HB0) _ (by omega) _ _ _ _ _ _ _ _ _⟩
  · show Calls Tryz.prog 223 _ w fun e w'=>e = .returned (.agg #[.int .i64 2,.int .i64 2,.int .i64 1,.int .i64 200,.int .i64 0,.int .i64 0,.int .i64 0,.int .i64 0,.int .i64 0])∧Below w.heap.size w w'
    go_enter Tryz.func223,Tryz.ntmps223
    go_wp2_with fail
    obtain ⟨W2,hW2⟩:∃ W2,W2=(w.alloc (.cells #[.int .i64 10,.int .i64 f,.int .i64 t,.int .i64 l,.int .i64 o,.int .i64 m,.string x,vn,.slice pk q ck] 167)).alloc (.cells #[.int .i64 0,.int .i64 0,.int .i64 0,.int .i64 0,.int .i64 0,.int .i64 0,.int .i64 0,.int .i64 0,.int .i64 0] 140):=⟨_,rfl⟩
    rw [← hW2]
    have HB:Hid (Below w.heap.size w W2):=by show Below w.heap.size w W2;rw [hW2];exact bel2 _ _ _
    have HZ:Hid (Zr W2 (w.heap.size+1)):=by show Zr W2 (w.heap.size+1);rw [hW2];have:=Zr.new (w.alloc (.cells #[.int .i64 10,.int .i64 f,.int .i64 t,.int .i64 l,.int .i64 o,.int .i64 m,.string x,vn,.slice pk q ck] 167)) 140;simpa using this
    clear hW2
    refine (im_just 2 W2).mono ?_
    rintro e V0 ⟨rfl,b0⟩
    have HB0:Hid (Below w.heap.size w V0):=(show Below w.heap.size w W2 from HB).trans (b0.mono (show Below w.heap.size w W2 from HB).size)
    have HZ0:Hid (Zr V0 (w.heap.size+1)):=(show Zr W2 (w.heap.size+1) from HZ).below b0
    clear b0
    clear HB HZ
    have hz:=(show Zr V0 (w.heap.size+1) from HZ0)
    obtain ⟨⟨c0,c1,c2,c3,c4,c5,c6,c7,c8⟩,⟨z0,z1,z2,z3,z4,z5,z6,z7,z8⟩⟩:=hz
    go_wp2_with fail
    obtain ⟨e0,e1,e2,e3,e4,e5,e6,e7,e8⟩:=(show Zr V0 (w.heap.size+1) from HZ0).put (2) (2) (1) (200) (0) (0) (0) (0) (0)
    refine bodyPost_ret (by simp [results,Tryz.results223,go_sem,e0,e1,e2,e3,e4,e5,e6,e7,e8];try rfl) rfl ?_
    exact ⟨rfl,pt9 (show Below w.heap.size w V0 from HB0) _ (by omega) _ _ _ _ _ _ _ _ _⟩
  · show Calls Tryz.prog 223 _ w fun e w'=>e = .returned (.agg #[.int .i64 0,.int .i64 0,.int .i64 0,.int .i64 0,.int .i64 0,.int .i64 0,.int .i64 0,.int .i64 0,.int .i64 0])∧Below w.heap.size w w'
    go_enter Tryz.func223,Tryz.ntmps223
    go_wp2_with fail
    go_returns
    exact ⟨rfl,by go_grown⟩
  · show Calls Tryz.prog 223 _ w fun e w'=>e = .returned (.agg #[.int .i64 0,.int .i64 0,.int .i64 0,.int .i64 0,.int .i64 0,.int .i64 0,.int .i64 0,.int .i64 0,.int .i64 0])∧Below w.heap.size w w'
    go_enter Tryz.func223,Tryz.ntmps223
    go_wp2_with fail
    go_returns
    exact ⟨rfl,by go_grown⟩
  · show Calls Tryz.prog 223 _ w fun e w'=>e = .returned (.agg #[.int .i64 0,.int .i64 200,.int .i64 0,.int .i64 0,.int .i64 0,.int .i64 0,.int .i64 0,.int .i64 0,.int .i64 0])∧Below w.heap.size w w'
    go_enter Tryz.func223,Tryz.ntmps223
    go_wp2_with fail
    go_returns
    exact ⟨rfl,by go_grown⟩
  · show Calls Tryz.prog 223 _ w fun e w'=>e = .returned (.agg #[.int .i64 2,.int .i64 2,.int .i64 1,.int .i64 2,.int .i64 0,.int .i64 0,.int .i64 0,.int .i64 0,.int .i64 0])∧Below w.heap.size w w'
    go_enter Tryz.func223,Tryz.ntmps223
    go_wp2_with fail
    obtain ⟨W2,hW2⟩:∃ W2,W2=(w.alloc (.cells #[.int .i64 14,.int .i64 f,.int .i64 t,.int .i64 l,.int .i64 o,.int .i64 m,.string x,vn,.slice pk q ck] 167)).alloc (.cells #[.int .i64 0,.int .i64 0,.int .i64 0,.int .i64 0,.int .i64 0,.int .i64 0,.int .i64 0,.int .i64 0,.int .i64 0] 140):=⟨_,rfl⟩
    rw [← hW2]
    have HB:Hid (Below w.heap.size w W2):=by show Below w.heap.size w W2;rw [hW2];exact bel2 _ _ _
    have HZ:Hid (Zr W2 (w.heap.size+1)):=by show Zr W2 (w.heap.size+1);rw [hW2];have:=Zr.new (w.alloc (.cells #[.int .i64 14,.int .i64 f,.int .i64 t,.int .i64 l,.int .i64 o,.int .i64 m,.string x,vn,.slice pk q ck] 167)) 140;simpa using this
    clear hW2
    refine (im_just 2 W2).mono ?_
    rintro e V0 ⟨rfl,b0⟩
    have HB0:Hid (Below w.heap.size w V0):=(show Below w.heap.size w W2 from HB).trans (b0.mono (show Below w.heap.size w W2 from HB).size)
    have HZ0:Hid (Zr V0 (w.heap.size+1)):=(show Zr W2 (w.heap.size+1) from HZ).below b0
    clear b0
    clear HB HZ
    have hz:=(show Zr V0 (w.heap.size+1) from HZ0)
    obtain ⟨⟨c0,c1,c2,c3,c4,c5,c6,c7,c8⟩,⟨z0,z1,z2,z3,z4,z5,z6,z7,z8⟩⟩:=hz
    go_wp2_with fail
    obtain ⟨e0,e1,e2,e3,e4,e5,e6,e7,e8⟩:=(show Zr V0 (w.heap.size+1) from HZ0).put (2) (2) (1) (2) (0) (0) (0) (0) (0)
    refine bodyPost_ret (by simp [results,Tryz.results223,go_sem,e0,e1,e2,e3,e4,e5,e6,e7,e8];try rfl) rfl ?_
    exact ⟨rfl,pt9 (show Below w.heap.size w V0 from HB0) _ (by omega) _ _ _ _ _ _ _ _ _⟩
  · show Calls Tryz.prog 223 _ w fun e w'=>e = .returned (.agg #[.int .i64 1,.int .i64 1,.int .i64 0,.int .i64 0,.int .i64 0,.int .i64 0,.int .i64 0,.int .i64 0,.int .i64 0])∧Below w.heap.size w w'
    go_enter Tryz.func223,Tryz.ntmps223
    go_wp2_with fail
    obtain ⟨W2,hW2⟩:∃ W2,W2=(w.alloc (.cells #[.int .i64 15,.int .i64 f,.int .i64 t,.int .i64 l,.int .i64 o,.int .i64 m,.string x,vn,.slice pk q ck] 167)).alloc (.cells #[.int .i64 0,.int .i64 0,.int .i64 0,.int .i64 0,.int .i64 0,.int .i64 0,.int .i64 0,.int .i64 0,.int .i64 0] 140):=⟨_,rfl⟩
    rw [← hW2]
    have HB:Hid (Below w.heap.size w W2):=by show Below w.heap.size w W2;rw [hW2];exact bel2 _ _ _
    have HZ:Hid (Zr W2 (w.heap.size+1)):=by show Zr W2 (w.heap.size+1);rw [hW2];have:=Zr.new (w.alloc (.cells #[.int .i64 15,.int .i64 f,.int .i64 t,.int .i64 l,.int .i64 o,.int .i64 m,.string x,vn,.slice pk q ck] 167)) 140;simpa using this
    clear hW2
    refine (im_just 1 W2).mono ?_
    rintro e V0 ⟨rfl,b0⟩
    have HB0:Hid (Below w.heap.size w V0):=(show Below w.heap.size w W2 from HB).trans (b0.mono (show Below w.heap.size w W2 from HB).size)
    have HZ0:Hid (Zr V0 (w.heap.size+1)):=(show Zr W2 (w.heap.size+1) from HZ).below b0
    clear b0
    clear HB HZ
    have hz:=(show Zr V0 (w.heap.size+1) from HZ0)
    obtain ⟨⟨c0,c1,c2,c3,c4,c5,c6,c7,c8⟩,⟨z0,z1,z2,z3,z4,z5,z6,z7,z8⟩⟩:=hz
    go_wp2_with fail
    obtain ⟨e0,e1,e2,e3,e4,e5,e6,e7,e8⟩:=(show Zr V0 (w.heap.size+1) from HZ0).put (1) (1) (0) (0) (0) (0) (0) (0) (0)
    refine bodyPost_ret (by simp [results,Tryz.results223,go_sem,e0,e1,e2,e3,e4,e5,e6,e7,e8];try rfl) rfl ?_
    exact ⟨rfl,pt9 (show Below w.heap.size w V0 from HB0) _ (by omega) _ _ _ _ _ _ _ _ _⟩
  · show Calls Tryz.prog 223 _ w fun e w'=>e = .returned (.agg #[.int .i64 1,.int .i64 1,.int .i64 0,.int .i64 0,.int .i64 0,.int .i64 0,.int .i64 0,.int .i64 0,.int .i64 0])∧Below w.heap.size w w'
    go_enter Tryz.func223,Tryz.ntmps223
    go_wp2_with fail
    obtain ⟨W2,hW2⟩:∃ W2,W2=(w.alloc (.cells #[.int .i64 16,.int .i64 f,.int .i64 t,.int .i64 l,.int .i64 o,.int .i64 m,.string x,vn,.slice pk q ck] 167)).alloc (.cells #[.int .i64 0,.int .i64 0,.int .i64 0,.int .i64 0,.int .i64 0,.int .i64 0,.int .i64 0,.int .i64 0,.int .i64 0] 140):=⟨_,rfl⟩
    rw [← hW2]
    have HB:Hid (Below w.heap.size w W2):=by show Below w.heap.size w W2;rw [hW2];exact bel2 _ _ _
    have HZ:Hid (Zr W2 (w.heap.size+1)):=by show Zr W2 (w.heap.size+1);rw [hW2];have:=Zr.new (w.alloc (.cells #[.int .i64 16,.int .i64 f,.int .i64 t,.int .i64 l,.int .i64 o,.int .i64 m,.string x,vn,.slice pk q ck] 167)) 140;simpa using this
    clear hW2
    refine (im_just 1 W2).mono ?_
    rintro e V0 ⟨rfl,b0⟩
    have HB0:Hid (Below w.heap.size w V0):=(show Below w.heap.size w W2 from HB).trans (b0.mono (show Below w.heap.size w W2 from HB).size)
    have HZ0:Hid (Zr V0 (w.heap.size+1)):=(show Zr W2 (w.heap.size+1) from HZ).below b0
    clear b0
    clear HB HZ
    have hz:=(show Zr V0 (w.heap.size+1) from HZ0)
    obtain ⟨⟨c0,c1,c2,c3,c4,c5,c6,c7,c8⟩,⟨z0,z1,z2,z3,z4,z5,z6,z7,z8⟩⟩:=hz
    go_wp2_with fail
    obtain ⟨e0,e1,e2,e3,e4,e5,e6,e7,e8⟩:=(show Zr V0 (w.heap.size+1) from HZ0).put (1) (1) (0) (0) (0) (0) (0) (0) (0)
    refine bodyPost_ret (by simp [results,Tryz.results223,go_sem,e0,e1,e2,e3,e4,e5,e6,e7,e8];try rfl) rfl ?_
    exact ⟨rfl,pt9 (show Below w.heap.size w V0 from HB0) _ (by omega) _ _ _ _ _ _ _ _ _⟩
theorem im_rowe (a:Fv) (vn:Value) (pk:Option Addr) (q ck:Nat) (h : 20≤a.k∧a.k≤37) (hq:q≤1048576) (w:World):Calls Tryz.prog 226 #[fmv a vn (.slice pk q ck)] w fun e w'=>e = .returned (rwv (rwk a.k q))∧Below w.heap.size w w':=by
  obtain ⟨k,f,t,l,o,m,x⟩:=a
  have h':k=20∨k=21∨k=22∨k=23∨k=24∨k=25∨k=26∨k=27∨k=28∨k=29∨k=30∨k=31∨k=32∨k=33∨k=34∨k=35∨k=36∨k=37:=by
    have h1 : 20≤k:=h.1
    have h2:k≤37:=h.2
    omega
  have hqI:(q:Int)≤1048576:=by omega
  clear h hq
  unfold fmv
  rcases h' with rfl | rfl | rfl | rfl | rfl | rfl | rfl | rfl | rfl | rfl | rfl | rfl | rfl | rfl | rfl | rfl | rfl | rfl
  · show Calls Tryz.prog 226 _ w fun e w'=>e = .returned (.agg #[.int .i64 0,.int .i64 0,.int .i64 0,.int .i64 0,.int .i64 0,.int .i64 0,.int .i64 0,.int .i64 0,.int .i64 0])∧Below w.heap.size w w'
    go_enter Tryz.func226,Tryz.ntmps226
    go_wp2_with fail
    go_returns
    exact ⟨rfl,by go_grown⟩
  · show Calls Tryz.prog 226 _ w fun e w'=>e = .returned (.agg #[.int .i64 0,.int .i64 0,.int .i64 0,.int .i64 0,.int .i64 0,.int .i64 0,.int .i64 0,.int .i64 0,.int .i64 0])∧Below w.heap.size w w'
    go_enter Tryz.func226,Tryz.ntmps226
    go_wp2_with fail
    go_returns
    exact ⟨rfl,by go_grown⟩
  · show Calls Tryz.prog 226 _ w fun e w'=>e = .returned (.agg #[.int .i64 0,.int .i64 0,.int .i64 0,.int .i64 0,.int .i64 0,.int .i64 0,.int .i64 0,.int .i64 0,.int .i64 0])∧Below w.heap.size w w'
    go_enter Tryz.func226,Tryz.ntmps226
    go_wp2_with fail
    go_returns
    exact ⟨rfl,by go_grown⟩
  · show Calls Tryz.prog 226 _ w fun e w'=>e = .returned (.agg #[.int .i64 0,.int .i64 0,.int .i64 0,.int .i64 0,.int .i64 0,.int .i64 0,.int .i64 (-9223372036854775808),.int .i64 (9223372036854775807),.int .i64 0])∧Below w.heap.size w w'
    go_enter Tryz.func226,Tryz.ntmps226
    go_wp2_with fail
    go_returns
    exact ⟨rfl,by go_grown⟩
  · show Calls Tryz.prog 226 _ w fun e w'=>e = .returned (.agg #[.int .i64 0,.int .i64 0,.int .i64 0,.int .i64 0,.int .i64 0,.int .i64 0,.int .i64 0,.int .i64 0,.int .i64 3])∧Below w.heap.size w w'
    go_enter Tryz.func226,Tryz.ntmps226
    go_wp2_with fail
    go_returns
    exact ⟨rfl,by go_grown⟩
  · show Calls Tryz.prog 226 _ w fun e w'=>e = .returned (.agg #[.int .i64 0,.int .i64 0,.int .i64 0,.int .i64 0,.int .i64 0,.int .i64 0,.int .i64 0,.int .i64 0,.int .i64 4])∧Below w.heap.size w w'
    go_enter Tryz.func226,Tryz.ntmps226
    go_wp2_with fail
    go_returns
    exact ⟨rfl,by go_grown⟩
  · show Calls Tryz.prog 226 _ w fun e w'=>e = .returned (.agg #[.int .i64 0,.int .i64 0,.int .i64 0,.int .i64 0,.int .i64 0,.int .i64 0,.int .i64 0,.int .i64 0,.int .i64 1])∧Below w.heap.size w w'
    go_enter Tryz.func226,Tryz.ntmps226
    go_wp2_with fail
    go_returns
    exact ⟨rfl,by go_grown⟩
  · show Calls Tryz.prog 226 _ w fun e w'=>e = .returned (.agg #[.int .i64 0,.int .i64 0,.int .i64 0,.int .i64 0,.int .i64 0,.int .i64 0,.int .i64 0,.int .i64 0,.int .i64 0])∧Below w.heap.size w w'
    go_enter Tryz.func226,Tryz.ntmps226
    go_wp2_with fail
    go_returns
    exact ⟨rfl,by go_grown⟩
  · show Calls Tryz.prog 226 _ w fun e w'=>e = .returned (.agg #[.int .i64 2,.int .i64 2,.int .i64 0,.int .i64 0,.int .i64 0,.int .i64 0,.int .i64 0,.int .i64 0,.int .i64 0])∧Below w.heap.size w w'
    go_enter Tryz.func226,Tryz.ntmps226
    go_wp2_with fail
    obtain ⟨W2,hW2⟩:∃ W2,W2=(w.alloc (.cells #[.int .i64 28,.int .i64 f,.int .i64 t,.int .i64 l,.int .i64 o,.int .i64 m,.string x,vn,.slice pk q ck] 168)).alloc (.cells #[.int .i64 0,.int .i64 0,.int .i64 0,.int .i64 0,.int .i64 0,.int .i64 0,.int .i64 0,.int .i64 0,.int .i64 0] 140):=⟨_,rfl⟩
    rw [← hW2]
    have HB:Hid (Below w.heap.size w W2):=by show Below w.heap.size w W2;rw [hW2];exact bel2 _ _ _
    have HZ:Hid (Zr W2 (w.heap.size+1)):=by show Zr W2 (w.heap.size+1);rw [hW2];have:=Zr.new (w.alloc (.cells #[.int .i64 28,.int .i64 f,.int .i64 t,.int .i64 l,.int .i64 o,.int .i64 m,.string x,vn,.slice pk q ck] 168)) 140;simpa using this
    clear hW2
    refine (im_just 2 W2).mono ?_
    rintro e V0 ⟨rfl,b0⟩
    have HB0:Hid (Below w.heap.size w V0):=(show Below w.heap.size w W2 from HB).trans (b0.mono (show Below w.heap.size w W2 from HB).size)
    have HZ0:Hid (Zr V0 (w.heap.size+1)):=(show Zr W2 (w.heap.size+1) from HZ).below b0
    clear b0
    clear HB HZ
    have hz:=(show Zr V0 (w.heap.size+1) from HZ0)
    obtain ⟨⟨c0,c1,c2,c3,c4,c5,c6,c7,c8⟩,⟨z0,z1,z2,z3,z4,z5,z6,z7,z8⟩⟩:=hz
    go_wp2_with fail
    obtain ⟨e0,e1,e2,e3,e4,e5,e6,e7,e8⟩:=(show Zr V0 (w.heap.size+1) from HZ0).put (2) (2) (0) (0) (0) (0) (0) (0) (0)
    refine bodyPost_ret (by simp [results,Tryz.results226,go_sem,e0,e1,e2,e3,e4,e5,e6,e7,e8];try rfl) rfl ?_
    exact ⟨rfl,pt9 (show Below w.heap.size w V0 from HB0) _ (by omega) _ _ _ _ _ _ _ _ _⟩
  · show Calls Tryz.prog 226 _ w fun e w'=>e = .returned (.agg #[.int .i64 2,.int .i64 2,.int .i64 0,.int .i64 0,.int .i64 0,.int .i64 0,.int .i64 0,.int .i64 0,.int .i64 0])∧Below w.heap.size w w'
    go_enter Tryz.func226,Tryz.ntmps226
    go_wp2_with fail
    obtain ⟨W2,hW2⟩:∃ W2,W2=(w.alloc (.cells #[.int .i64 29,.int .i64 f,.int .i64 t,.int .i64 l,.int .i64 o,.int .i64 m,.string x,vn,.slice pk q ck] 168)).alloc (.cells #[.int .i64 0,.int .i64 0,.int .i64 0,.int .i64 0,.int .i64 0,.int .i64 0,.int .i64 0,.int .i64 0,.int .i64 0] 140):=⟨_,rfl⟩
    rw [← hW2]
    have HB:Hid (Below w.heap.size w W2):=by show Below w.heap.size w W2;rw [hW2];exact bel2 _ _ _
    have HZ:Hid (Zr W2 (w.heap.size+1)):=by show Zr W2 (w.heap.size+1);rw [hW2];have:=Zr.new (w.alloc (.cells #[.int .i64 29,.int .i64 f,.int .i64 t,.int .i64 l,.int .i64 o,.int .i64 m,.string x,vn,.slice pk q ck] 168)) 140;simpa using this
    clear hW2
    refine (im_just 2 W2).mono ?_
    rintro e V0 ⟨rfl,b0⟩
    have HB0:Hid (Below w.heap.size w V0):=(show Below w.heap.size w W2 from HB).trans (b0.mono (show Below w.heap.size w W2 from HB).size)
    have HZ0:Hid (Zr V0 (w.heap.size+1)):=(show Zr W2 (w.heap.size+1) from HZ).below b0
    clear b0
    clear HB HZ
    have hz:=(show Zr V0 (w.heap.size+1) from HZ0)
    obtain ⟨⟨c0,c1,c2,c3,c4,c5,c6,c7,c8⟩,⟨z0,z1,z2,z3,z4,z5,z6,z7,z8⟩⟩:=hz
    go_wp2_with fail
    obtain ⟨e0,e1,e2,e3,e4,e5,e6,e7,e8⟩:=(show Zr V0 (w.heap.size+1) from HZ0).put (2) (2) (0) (0) (0) (0) (0) (0) (0)
    refine bodyPost_ret (by simp [results,Tryz.results226,go_sem,e0,e1,e2,e3,e4,e5,e6,e7,e8];try rfl) rfl ?_
    exact ⟨rfl,pt9 (show Below w.heap.size w V0 from HB0) _ (by omega) _ _ _ _ _ _ _ _ _⟩
  · show Calls Tryz.prog 226 _ w fun e w'=>e = .returned (.agg #[.int .i64 1,.int .i64 1,.int .i64 0,.int .i64 0,.int .i64 19,.int .i64 22,.int .i64 0,.int .i64 0,.int .i64 0])∧Below w.heap.size w w'
    go_enter Tryz.func226,Tryz.ntmps226
    go_wp2_with fail
    obtain ⟨W2,hW2⟩:∃ W2,W2=(w.alloc (.cells #[.int .i64 30,.int .i64 f,.int .i64 t,.int .i64 l,.int .i64 o,.int .i64 m,.string x,vn,.slice pk q ck] 168)).alloc (.cells #[.int .i64 0,.int .i64 0,.int .i64 0,.int .i64 0,.int .i64 0,.int .i64 0,.int .i64 0,.int .i64 0,.int .i64 0] 140):=⟨_,rfl⟩
    rw [← hW2]
    have HB:Hid (Below w.heap.size w W2):=by show Below w.heap.size w W2;rw [hW2];exact bel2 _ _ _
    have HZ:Hid (Zr W2 (w.heap.size+1)):=by show Zr W2 (w.heap.size+1);rw [hW2];have:=Zr.new (w.alloc (.cells #[.int .i64 30,.int .i64 f,.int .i64 t,.int .i64 l,.int .i64 o,.int .i64 m,.string x,vn,.slice pk q ck] 168)) 140;simpa using this
    clear hW2
    refine (im_just 1 W2).mono ?_
    rintro e V0 ⟨rfl,b0⟩
    have HB0:Hid (Below w.heap.size w V0):=(show Below w.heap.size w W2 from HB).trans (b0.mono (show Below w.heap.size w W2 from HB).size)
    have HZ0:Hid (Zr V0 (w.heap.size+1)):=(show Zr W2 (w.heap.size+1) from HZ).below b0
    clear b0
    clear HB HZ
    have hz:=(show Zr V0 (w.heap.size+1) from HZ0)
    obtain ⟨⟨c0,c1,c2,c3,c4,c5,c6,c7,c8⟩,⟨z0,z1,z2,z3,z4,z5,z6,z7,z8⟩⟩:=hz
    go_wp2_with fail
    obtain ⟨e0,e1,e2,e3,e4,e5,e6,e7,e8⟩:=(show Zr V0 (w.heap.size+1) from HZ0).put (1) (1) (0) (0) (19) (22) (0) (0) (0)
    refine bodyPost_ret (by simp [results,Tryz.results226,go_sem,e0,e1,e2,e3,e4,e5,e6,e7,e8];try rfl) rfl ?_
    exact ⟨rfl,pt9 (show Below w.heap.size w V0 from HB0) _ (by omega) _ _ _ _ _ _ _ _ _⟩
  · show Calls Tryz.prog 226 _ w fun e w'=>e = .returned (.agg #[.int .i64 2,.int .i64 2,.int .i64 0,.int .i64 0,.int .i64 1,.int .i64 18,.int .i64 0,.int .i64 0,.int .i64 0])∧Below w.heap.size w w'
    go_enter Tryz.func226,Tryz.ntmps226
    go_wp2_with fail
    obtain ⟨W2,hW2⟩:∃ W2,W2=(w.alloc (.cells #[.int .i64 31,.int .i64 f,.int .i64 t,.int .i64 l,.int .i64 o,.int .i64 m,.string x,vn,.slice pk q ck] 168)).alloc (.cells #[.int .i64 0,.int .i64 0,.int .i64 0,.int .i64 0,.int .i64 0,.int .i64 0,.int .i64 0,.int .i64 0,.int .i64 0] 140):=⟨_,rfl⟩
    rw [← hW2]
    have HB:Hid (Below w.heap.size w W2):=by show Below w.heap.size w W2;rw [hW2];exact bel2 _ _ _
    have HZ:Hid (Zr W2 (w.heap.size+1)):=by show Zr W2 (w.heap.size+1);rw [hW2];have:=Zr.new (w.alloc (.cells #[.int .i64 31,.int .i64 f,.int .i64 t,.int .i64 l,.int .i64 o,.int .i64 m,.string x,vn,.slice pk q ck] 168)) 140;simpa using this
    clear hW2
    refine (im_just 2 W2).mono ?_
    rintro e V0 ⟨rfl,b0⟩
    have HB0:Hid (Below w.heap.size w V0):=(show Below w.heap.size w W2 from HB).trans (b0.mono (show Below w.heap.size w W2 from HB).size)
    have HZ0:Hid (Zr V0 (w.heap.size+1)):=(show Zr W2 (w.heap.size+1) from HZ).below b0
    clear b0
    clear HB HZ
    have hz:=(show Zr V0 (w.heap.size+1) from HZ0)
    obtain ⟨⟨c0,c1,c2,c3,c4,c5,c6,c7,c8⟩,⟨z0,z1,z2,z3,z4,z5,z6,z7,z8⟩⟩:=hz
    go_wp2_with fail
    obtain ⟨e0,e1,e2,e3,e4,e5,e6,e7,e8⟩:=(show Zr V0 (w.heap.size+1) from HZ0).put (2) (2) (0) (0) (1) (18) (0) (0) (0)
    refine bodyPost_ret (by simp [results,Tryz.results226,go_sem,e0,e1,e2,e3,e4,e5,e6,e7,e8];try rfl) rfl ?_
    exact ⟨rfl,pt9 (show Below w.heap.size w V0 from HB0) _ (by omega) _ _ _ _ _ _ _ _ _⟩
  · show Calls Tryz.prog 226 _ w fun e w'=>e = .returned (.agg #[.int .i64 2,.int .i64 2,.int .i64 0,.int .i64 0,.int .i64 0,.int .i64 0,.int .i64 0,.int .i64 0,.int .i64 0])∧Below w.heap.size w w'
    go_enter Tryz.func226,Tryz.ntmps226
    go_wp2_with fail
    obtain ⟨W2,hW2⟩:∃ W2,W2=(w.alloc (.cells #[.int .i64 32,.int .i64 f,.int .i64 t,.int .i64 l,.int .i64 o,.int .i64 m,.string x,vn,.slice pk q ck] 168)).alloc (.cells #[.int .i64 0,.int .i64 0,.int .i64 0,.int .i64 0,.int .i64 0,.int .i64 0,.int .i64 0,.int .i64 0,.int .i64 0] 140):=⟨_,rfl⟩
    rw [← hW2]
    have HB:Hid (Below w.heap.size w W2):=by show Below w.heap.size w W2;rw [hW2];exact bel2 _ _ _
    have HZ:Hid (Zr W2 (w.heap.size+1)):=by show Zr W2 (w.heap.size+1);rw [hW2];have:=Zr.new (w.alloc (.cells #[.int .i64 32,.int .i64 f,.int .i64 t,.int .i64 l,.int .i64 o,.int .i64 m,.string x,vn,.slice pk q ck] 168)) 140;simpa using this
    clear hW2
    refine (im_just 2 W2).mono ?_
    rintro e V0 ⟨rfl,b0⟩
    have HB0:Hid (Below w.heap.size w V0):=(show Below w.heap.size w W2 from HB).trans (b0.mono (show Below w.heap.size w W2 from HB).size)
    have HZ0:Hid (Zr V0 (w.heap.size+1)):=(show Zr W2 (w.heap.size+1) from HZ).below b0
    clear b0
    clear HB HZ
    have hz:=(show Zr V0 (w.heap.size+1) from HZ0)
    obtain ⟨⟨c0,c1,c2,c3,c4,c5,c6,c7,c8⟩,⟨z0,z1,z2,z3,z4,z5,z6,z7,z8⟩⟩:=hz
    go_wp2_with fail
    obtain ⟨e0,e1,e2,e3,e4,e5,e6,e7,e8⟩:=(show Zr V0 (w.heap.size+1) from HZ0).put (2) (2) (0) (0) (0) (0) (0) (0) (0)
    refine bodyPost_ret (by simp [results,Tryz.results226,go_sem,e0,e1,e2,e3,e4,e5,e6,e7,e8];try rfl) rfl ?_
    exact ⟨rfl,pt9 (show Below w.heap.size w V0 from HB0) _ (by omega) _ _ _ _ _ _ _ _ _⟩
  · show Calls Tryz.prog 226 _ w fun e w'=>e = .returned (.agg #[.int .i64 1,.int .i64 1,.int .i64 0,.int .i64 0,.int .i64 0,.int .i64 0,.int .i64 0,.int .i64 0,.int .i64 1])∧Below w.heap.size w w'
    go_enter Tryz.func226,Tryz.ntmps226
    go_wp2_with fail
    obtain ⟨W2,hW2⟩:∃ W2,W2=(w.alloc (.cells #[.int .i64 33,.int .i64 f,.int .i64 t,.int .i64 l,.int .i64 o,.int .i64 m,.string x,vn,.slice pk q ck] 168)).alloc (.cells #[.int .i64 0,.int .i64 0,.int .i64 0,.int .i64 0,.int .i64 0,.int .i64 0,.int .i64 0,.int .i64 0,.int .i64 0] 140):=⟨_,rfl⟩
    rw [← hW2]
    have HB:Hid (Below w.heap.size w W2):=by show Below w.heap.size w W2;rw [hW2];exact bel2 _ _ _
    have HZ:Hid (Zr W2 (w.heap.size+1)):=by show Zr W2 (w.heap.size+1);rw [hW2];have:=Zr.new (w.alloc (.cells #[.int .i64 33,.int .i64 f,.int .i64 t,.int .i64 l,.int .i64 o,.int .i64 m,.string x,vn,.slice pk q ck] 168)) 140;simpa using this
    clear hW2
    refine (im_just 1 W2).mono ?_
    rintro e V0 ⟨rfl,b0⟩
    have HB0:Hid (Below w.heap.size w V0):=(show Below w.heap.size w W2 from HB).trans (b0.mono (show Below w.heap.size w W2 from HB).size)
    have HZ0:Hid (Zr V0 (w.heap.size+1)):=(show Zr W2 (w.heap.size+1) from HZ).below b0
    clear b0
    clear HB HZ
    have hz:=(show Zr V0 (w.heap.size+1) from HZ0)
    obtain ⟨⟨c0,c1,c2,c3,c4,c5,c6,c7,c8⟩,⟨z0,z1,z2,z3,z4,z5,z6,z7,z8⟩⟩:=hz
    go_wp2_with fail
    obtain ⟨e0,e1,e2,e3,e4,e5,e6,e7,e8⟩:=(show Zr V0 (w.heap.size+1) from HZ0).put (1) (1) (0) (0) (0) (0) (0) (0) (1)
    refine bodyPost_ret (by simp [results,Tryz.results226,go_sem,e0,e1,e2,e3,e4,e5,e6,e7,e8];try rfl) rfl ?_
    exact ⟨rfl,pt9 (show Below w.heap.size w V0 from HB0) _ (by omega) _ _ _ _ _ _ _ _ _⟩
  · show Calls Tryz.prog 226 _ w fun e w'=>e = .returned (.agg #[.int .i64 1,.int .i64 200,.int .i64 0,.int .i64 0,.int .i64 0,.int .i64 0,.int .i64 0,.int .i64 0,.int .i64 0])∧Below w.heap.size w w'
    go_enter Tryz.func226,Tryz.ntmps226
    go_wp2_with fail
    go_returns
    exact ⟨rfl,by go_grown⟩
  · show Calls Tryz.prog 226 _ w fun e w'=>e = .returned (.agg #[.int .i64 0,.int .i64 200,.int .i64 0,.int .i64 0,.int .i64 0,.int .i64 0,.int .i64 0,.int .i64 0,.int .i64 0])∧Below w.heap.size w w'
    go_enter Tryz.func226,Tryz.ntmps226
    go_wp2_with fail
    go_returns
    exact ⟨rfl,by go_grown⟩
  · show Calls Tryz.prog 226 _ w fun e w'=>e = .returned (.agg #[.int .i64 1,.int .i64 1,.int .i64 0,.int .i64 200,.int .i64 0,.int .i64 1,.int .i64 0,.int .i64 0,.int .i64 0])∧Below w.heap.size w w'
    go_enter Tryz.func226,Tryz.ntmps226
    go_wp2_with fail
    obtain ⟨W2,hW2⟩:∃ W2,W2=(w.alloc (.cells #[.int .i64 36,.int .i64 f,.int .i64 t,.int .i64 l,.int .i64 o,.int .i64 m,.string x,vn,.slice pk q ck] 168)).alloc (.cells #[.int .i64 0,.int .i64 0,.int .i64 0,.int .i64 0,.int .i64 0,.int .i64 0,.int .i64 0,.int .i64 0,.int .i64 0] 140):=⟨_,rfl⟩
    rw [← hW2]
    have HB:Hid (Below w.heap.size w W2):=by show Below w.heap.size w W2;rw [hW2];exact bel2 _ _ _
    have HZ:Hid (Zr W2 (w.heap.size+1)):=by show Zr W2 (w.heap.size+1);rw [hW2];have:=Zr.new (w.alloc (.cells #[.int .i64 36,.int .i64 f,.int .i64 t,.int .i64 l,.int .i64 o,.int .i64 m,.string x,vn,.slice pk q ck] 168)) 140;simpa using this
    clear hW2
    refine (im_just 1 W2).mono ?_
    rintro e V0 ⟨rfl,b0⟩
    have HB0:Hid (Below w.heap.size w V0):=(show Below w.heap.size w W2 from HB).trans (b0.mono (show Below w.heap.size w W2 from HB).size)
    have HZ0:Hid (Zr V0 (w.heap.size+1)):=(show Zr W2 (w.heap.size+1) from HZ).below b0
    clear b0
    clear HB HZ
    have hz:=(show Zr V0 (w.heap.size+1) from HZ0)
    obtain ⟨⟨c0,c1,c2,c3,c4,c5,c6,c7,c8⟩,⟨z0,z1,z2,z3,z4,z5,z6,z7,z8⟩⟩:=hz
    go_wp2_with fail
    obtain ⟨e0,e1,e2,e3,e4,e5,e6,e7,e8⟩:=(show Zr V0 (w.heap.size+1) from HZ0).put (1) (1) (0) (200) (0) (1) (0) (0) (0)
    refine bodyPost_ret (by simp [results,Tryz.results226,go_sem,e0,e1,e2,e3,e4,e5,e6,e7,e8];try rfl) rfl ?_
    exact ⟨rfl,pt9 (show Below w.heap.size w V0 from HB0) _ (by omega) _ _ _ _ _ _ _ _ _⟩
  · show Calls Tryz.prog 226 _ w fun e w'=>e = .returned (.agg #[.int .i64 1,.int .i64 1,.int .i64 0,.int .i64 0,.int .i64 0,.int .i64 0,.int .i64 0,.int .i64 0,.int .i64 0])∧Below w.heap.size w w'
    go_enter Tryz.func226,Tryz.ntmps226
    go_wp2_with fail
    obtain ⟨W2,hW2⟩:∃ W2,W2=(w.alloc (.cells #[.int .i64 37,.int .i64 f,.int .i64 t,.int .i64 l,.int .i64 o,.int .i64 m,.string x,vn,.slice pk q ck] 168)).alloc (.cells #[.int .i64 0,.int .i64 0,.int .i64 0,.int .i64 0,.int .i64 0,.int .i64 0,.int .i64 0,.int .i64 0,.int .i64 0] 140):=⟨_,rfl⟩
    rw [← hW2]
    have HB:Hid (Below w.heap.size w W2):=by show Below w.heap.size w W2;rw [hW2];exact bel2 _ _ _
    have HZ:Hid (Zr W2 (w.heap.size+1)):=by show Zr W2 (w.heap.size+1);rw [hW2];have:=Zr.new (w.alloc (.cells #[.int .i64 37,.int .i64 f,.int .i64 t,.int .i64 l,.int .i64 o,.int .i64 m,.string x,vn,.slice pk q ck] 168)) 140;simpa using this
    clear hW2
    refine (im_just 1 W2).mono ?_
    rintro e V0 ⟨rfl,b0⟩
    have HB0:Hid (Below w.heap.size w V0):=(show Below w.heap.size w W2 from HB).trans (b0.mono (show Below w.heap.size w W2 from HB).size)
    have HZ0:Hid (Zr V0 (w.heap.size+1)):=(show Zr W2 (w.heap.size+1) from HZ).below b0
    clear b0
    clear HB HZ
    have hz:=(show Zr V0 (w.heap.size+1) from HZ0)
    obtain ⟨⟨c0,c1,c2,c3,c4,c5,c6,c7,c8⟩,⟨z0,z1,z2,z3,z4,z5,z6,z7,z8⟩⟩:=hz
    go_wp2_with fail
    obtain ⟨e0,e1,e2,e3,e4,e5,e6,e7,e8⟩:=(show Zr V0 (w.heap.size+1) from HZ0).put (1) (1) (0) (0) (0) (0) (0) (0) (0)
    refine bodyPost_ret (by simp [results,Tryz.results226,go_sem,e0,e1,e2,e3,e4,e5,e6,e7,e8];try rfl) rfl ?_
    exact ⟨rfl,pt9 (show Below w.heap.size w V0 from HB0) _ (by omega) _ _ _ _ _ _ _ _ _⟩
theorem im_rowt (a:Fv) (vn:Value) (pk:Option Addr) (q ck:Nat) (h : 40≤a.k∧a.k≤42) (hq:q≤1048576) (w:World):Calls Tryz.prog 228 #[fmv a vn (.slice pk q ck)] w fun e w'=>e = .returned (rwv (rwk a.k q))∧Below w.heap.size w w':=by
  obtain ⟨k,f,t,l,o,m,x⟩:=a
  have h':k=40∨k=41∨k=42:=by
    have h1 : 40≤k:=h.1
    have h2:k≤42:=h.2
    omega
  have hqI:(q:Int)≤1048576:=by omega
  clear h hq
  unfold fmv
  rcases h' with rfl | rfl | rfl
  · show Calls Tryz.prog 228 _ w fun e w'=>e = .returned (.agg #[.int .i64 1,.int .i64 1,.int .i64 0,.int .i64 0,.int .i64 0,.int .i64 0,.int .i64 0,.int .i64 0,.int .i64 0])∧Below w.heap.size w w'
    go_enter Tryz.func228,Tryz.ntmps228
    go_wp2_with fail
    obtain ⟨W2,hW2⟩:∃ W2,W2=(w.alloc (.cells #[.int .i64 40,.int .i64 f,.int .i64 t,.int .i64 l,.int .i64 o,.int .i64 m,.string x,vn,.slice pk q ck] 169)).alloc (.cells #[.int .i64 0,.int .i64 0,.int .i64 0,.int .i64 0,.int .i64 0,.int .i64 0,.int .i64 0,.int .i64 0,.int .i64 0] 140):=⟨_,rfl⟩
    rw [← hW2]
    have HB:Hid (Below w.heap.size w W2):=by show Below w.heap.size w W2;rw [hW2];exact bel2 _ _ _
    have HZ:Hid (Zr W2 (w.heap.size+1)):=by show Zr W2 (w.heap.size+1);rw [hW2];have:=Zr.new (w.alloc (.cells #[.int .i64 40,.int .i64 f,.int .i64 t,.int .i64 l,.int .i64 o,.int .i64 m,.string x,vn,.slice pk q ck] 169)) 140;simpa using this
    clear hW2
    refine (im_just 1 W2).mono ?_
    rintro e V0 ⟨rfl,b0⟩
    have HB0:Hid (Below w.heap.size w V0):=(show Below w.heap.size w W2 from HB).trans (b0.mono (show Below w.heap.size w W2 from HB).size)
    have HZ0:Hid (Zr V0 (w.heap.size+1)):=(show Zr W2 (w.heap.size+1) from HZ).below b0
    clear b0
    clear HB HZ
    have hz:=(show Zr V0 (w.heap.size+1) from HZ0)
    obtain ⟨⟨c0,c1,c2,c3,c4,c5,c6,c7,c8⟩,⟨z0,z1,z2,z3,z4,z5,z6,z7,z8⟩⟩:=hz
    go_wp2_with fail
    obtain ⟨e0,e1,e2,e3,e4,e5,e6,e7,e8⟩:=(show Zr V0 (w.heap.size+1) from HZ0).put (1) (1) (0) (0) (0) (0) (0) (0) (0)
    refine bodyPost_ret (by simp [results,Tryz.results228,go_sem,e0,e1,e2,e3,e4,e5,e6,e7,e8];try rfl) rfl ?_
    exact ⟨rfl,pt9 (show Below w.heap.size w V0 from HB0) _ (by omega) _ _ _ _ _ _ _ _ _⟩
  · show Calls Tryz.prog 228 _ w fun e w'=>e = .returned (.agg #[.int .i64 2,.int .i64 2,.int .i64 0,.int .i64 0,.int .i64 0,.int .i64 0,.int .i64 0,.int .i64 0,.int .i64 0])∧Below w.heap.size w w'
    go_enter Tryz.func228,Tryz.ntmps228
    go_wp2_with fail
    obtain ⟨W2,hW2⟩:∃ W2,W2=(w.alloc (.cells #[.int .i64 41,.int .i64 f,.int .i64 t,.int .i64 l,.int .i64 o,.int .i64 m,.string x,vn,.slice pk q ck] 169)).alloc (.cells #[.int .i64 0,.int .i64 0,.int .i64 0,.int .i64 0,.int .i64 0,.int .i64 0,.int .i64 0,.int .i64 0,.int .i64 0] 140):=⟨_,rfl⟩
    rw [← hW2]
    have HB:Hid (Below w.heap.size w W2):=by show Below w.heap.size w W2;rw [hW2];exact bel2 _ _ _
    have HZ:Hid (Zr W2 (w.heap.size+1)):=by show Zr W2 (w.heap.size+1);rw [hW2];have:=Zr.new (w.alloc (.cells #[.int .i64 41,.int .i64 f,.int .i64 t,.int .i64 l,.int .i64 o,.int .i64 m,.string x,vn,.slice pk q ck] 169)) 140;simpa using this
    clear hW2
    refine (im_just 2 W2).mono ?_
    rintro e V0 ⟨rfl,b0⟩
    have HB0:Hid (Below w.heap.size w V0):=(show Below w.heap.size w W2 from HB).trans (b0.mono (show Below w.heap.size w W2 from HB).size)
    have HZ0:Hid (Zr V0 (w.heap.size+1)):=(show Zr W2 (w.heap.size+1) from HZ).below b0
    clear b0
    clear HB HZ
    have hz:=(show Zr V0 (w.heap.size+1) from HZ0)
    obtain ⟨⟨c0,c1,c2,c3,c4,c5,c6,c7,c8⟩,⟨z0,z1,z2,z3,z4,z5,z6,z7,z8⟩⟩:=hz
    go_wp2_with fail
    obtain ⟨e0,e1,e2,e3,e4,e5,e6,e7,e8⟩:=(show Zr V0 (w.heap.size+1) from HZ0).put (2) (2) (0) (0) (0) (0) (0) (0) (0)
    refine bodyPost_ret (by simp [results,Tryz.results228,go_sem,e0,e1,e2,e3,e4,e5,e6,e7,e8];try rfl) rfl ?_
    exact ⟨rfl,pt9 (show Below w.heap.size w V0 from HB0) _ (by omega) _ _ _ _ _ _ _ _ _⟩
  · show Calls Tryz.prog 228 _ w fun e w'=>e = .returned (.agg #[.int .i64 1,.int .i64 1,.int .i64 0,.int .i64 0,.int .i64 0,.int .i64 0,.int .i64 0,.int .i64 0,.int .i64 1])∧Below w.heap.size w w'
    go_enter Tryz.func228,Tryz.ntmps228
    go_wp2_with fail
    obtain ⟨W2,hW2⟩:∃ W2,W2=(w.alloc (.cells #[.int .i64 42,.int .i64 f,.int .i64 t,.int .i64 l,.int .i64 o,.int .i64 m,.string x,vn,.slice pk q ck] 169)).alloc (.cells #[.int .i64 0,.int .i64 0,.int .i64 0,.int .i64 0,.int .i64 0,.int .i64 0,.int .i64 0,.int .i64 0,.int .i64 0] 140):=⟨_,rfl⟩
    rw [← hW2]
    have HB:Hid (Below w.heap.size w W2):=by show Below w.heap.size w W2;rw [hW2];exact bel2 _ _ _
    have HZ:Hid (Zr W2 (w.heap.size+1)):=by show Zr W2 (w.heap.size+1);rw [hW2];have:=Zr.new (w.alloc (.cells #[.int .i64 42,.int .i64 f,.int .i64 t,.int .i64 l,.int .i64 o,.int .i64 m,.string x,vn,.slice pk q ck] 169)) 140;simpa using this
    clear hW2
    refine (im_just 1 W2).mono ?_
    rintro e V0 ⟨rfl,b0⟩
    have HB0:Hid (Below w.heap.size w V0):=(show Below w.heap.size w W2 from HB).trans (b0.mono (show Below w.heap.size w W2 from HB).size)
    have HZ0:Hid (Zr V0 (w.heap.size+1)):=(show Zr W2 (w.heap.size+1) from HZ).below b0
    clear b0
    clear HB HZ
    have hz:=(show Zr V0 (w.heap.size+1) from HZ0)
    obtain ⟨⟨c0,c1,c2,c3,c4,c5,c6,c7,c8⟩,⟨z0,z1,z2,z3,z4,z5,z6,z7,z8⟩⟩:=hz
    go_wp2_with fail
    obtain ⟨e0,e1,e2,e3,e4,e5,e6,e7,e8⟩:=(show Zr V0 (w.heap.size+1) from HZ0).put (1) (1) (0) (0) (0) (0) (0) (0) (1)
    refine bodyPost_ret (by simp [results,Tryz.results228,go_sem,e0,e1,e2,e3,e4,e5,e6,e7,e8];try rfl) rfl ?_
    exact ⟨rfl,pt9 (show Below w.heap.size w V0 from HB0) _ (by omega) _ _ _ _ _ _ _ _ _⟩
end Go.Proofs.YtomcmnompajnlaaGreatDoor.Fo
