import Derived.Test.YtnmeemjoodoalaaGreatDoorNExo
import Derived.Deep.AppendLies
namespace Go.Proofs.YtnmeemjoodoalaaGreatDoor.Fo
open Go.ChangeShapes Go.WideShapes Go.ChangeAt Go.RowKit
set_option linter.unusedVariables false
set_option maxRecDepth 100000
def lnOf : Value → Nat
  | .slice _ n _=>n
  | _=>0
theorem RI.kgr {b : Nat} {p : Option Addr} {c : Nat} {M : List UInt8} {k : Nat} {lost : Bool} {W w2 : World} {k2 : Nat} {l2 : Bool} {r : Option Nat} {w3 : World} (h : RI b p c M k lost W) (y : RI b p c M k2 l2 w2) (z : w2.grownBy w3 r) (hg : ∀ g,r = some g → W.heap.size ≤ g) : RI b p c M k2 l2 w3:=by
  have hb:=h.lt
  have hb2:=y.lt
  refine ⟨(z.block b hb2 (fun e=>by have:=hg b e.symm;omega)).trans y.blk,y.le,y.sz,y.cap,fun hm=>?_⟩
  obtain ⟨a,h1,h2,h3⟩:=y.row hm
  have hl:=h.row_lt hm h1
  have hl2:=y.row_lt hm h1
  exact ⟨a,h1,h2,fun i x hx=>(World.cell?_of_block (by rw [add_block];exact z.block _ hl2 (fun e=>by have:=hg _ e.symm;omega))).trans (h3 i x hx)⟩
theorem Kx.gr {b : Nat} {W w2 w3 : World} {r : Option Nat} (h : Kx b W w2) (z : w2.grownBy w3 r) (hg : ∀ g,r = some g → W.heap.size ≤ g) : Kx b W w3 :=
  ⟨z.os.trans h.os,z.output.trans h.output,Nat.le_trans h.size z.size,fun i h1 h2=>(z.block i (Nat.lt_of_lt_of_le h1 h.size) (fun e=>by have:=hg i e.symm;omega)).trans (h.block i h1 h2)⟩
theorem rowBlk' {w w' : World} {base : Nat} {e : TypeId} {size : Nat} {v : Value} {n : Nat} {xs : List Value} (h : w.ownsRow base e size v n xs) (hb : ∀ g,v.ownBlock = some g → w'.heap[g]? = w.heap[g]?) : w'.ownsRow base e size v n xs:=by
  refine ⟨h.1,?_⟩
  rcases h.2 with h | ⟨g,cap,cur,rfl,h1,h2,h3⟩
  · exact .inl h
  · exact .inr ⟨g,cap,cur,rfl,h1,(hb g rfl).trans h2,h3⟩
theorem ownsRow_mono2 {w : World} {base base' : Nat} {e : TypeId} {size : Nat} {v : Value} {n : Nat} {xs : List Value} (h : w.ownsRow base e size v n xs) (hb : base' ≤ base) : w.ownsRow base' e size v n xs:=by
  refine ⟨h.1,?_⟩
  rcases h.2 with h | ⟨g,cap,cur,rfl,h1,h2,h3⟩
  · exact .inl h
  · exact .inr ⟨g,cap,cur,rfl,Nat.le_trans hb h1,h2,h3⟩
theorem Kx.row {b : Nat} {W w1 w2 : World} {base : Nat} {e : TypeId} {size : Nat} {v : Value} {n : Nat} {xs : List Value} (z : Kx b w1 w2) (h : w1.ownsRow base e size v n xs) (hb : b < base) : w2.ownsRow base e size v n xs :=
  rowBlk' h (fun g e=>z.block g (h.lt g e).2 (by have:=(h.lt g e).1;omega))
theorem own_shape {w : World} {base : Nat} {e : TypeId} {size : Nat} {v : Value} {n : Nat} {xs : List Value} (h : w.ownsRow base e size v n xs) : ∃ (ad : Option Addr) (cap : Nat),v = .slice ad n cap:=by
  rcases h.2 with ⟨rfl,e⟩ | ⟨g,cap,cur,rfl,_⟩
  · exact ⟨none,0,by rw [show n = 0 from e]⟩
  · exact ⟨_,cap,rfl⟩
def EC {α : Type} (val : α → Value) (tot ok : α → Prop) (enc : α → List UInt8) (b : Nat) (p : Option Addr) (c : Nat) (M : List UInt8) (k : Nat) (lost : Bool) (W : World) : Ending → World → Prop:=RU b p c M k W (fun v k' lost'=>∃ x : α,v = val x ∧ tot x ∧ (lost' = false → k < k') ∧ (lost = true → lost' = true) ∧ ∀ y rest,lost = false → ok y → M.drop k = enc y ++ rest → x = y ∧ k' = k + (enc y).length ∧ lost' = false)
structure RLs {α : Type} (cl : α → List Value) (ty : TypeId) (wd : Nat) (enc : α → List UInt8) (tot ok : α → Prop) (b : Nat) (p : Option Addr) (c : Nat) (M : List UInt8) (k : Nat) (lost : Bool) (W : World) (most : Nat) (cnt : Int) (L : List α) (k' : Nat) (l' : Bool) (v : Value) (wr : World) : Prop where
  rd : RI b p c M k' l' wr
  r0 : RI b p c M k lost W
  le : k ≤ k'
  ks : Kx b W wr
  row : wr.ownsRow W.heap.size ty wd v L.length (L.flatMap cl)
  tt : ∀ x,x ∈ L → tot x
  mo : L.length ≤ most
  cn : l' = false → cnt ≤ (most : Int)
  lo : lost = true → l' = true
  gt : l' = false → k + L.length < k'
  ex : LJ enc ok M k lost most cnt L k' l'
theorem RLs.step {α : Type} {cl : α → List Value} {ty : TypeId} {wd : Nat} {enc : α → List UInt8} {tot ok : α → Prop} {b : Nat} {p : Option Addr} {c : Nat} {M : List UInt8} {k : Nat} {lost : Bool} {W : World} {most : Nat} {cnt : Int} {L : List α} {k' : Nat} {l' : Bool} {v : Value} {wr : World} (s : RLs cl ty wd enc tot ok b p c M k lost W most cnt L k' l' v wr) (hl : l' = false) (hc : (L.length : Int) < cnt)
    {w1 : World} {x : α} {k2 : Nat} {l2 : Bool} (h1 : RI b p c M k2 l2 w1) (h2 : k' ≤ k2) (h3 : Kx b wr w1) (h4 : tot x) (h5 : l2 = false → k' < k2) (h6 : l' = true → l2 = true) (h7 : ∀ y rest,l' = false → ok y → M.drop k' = enc y ++ rest → x = y ∧ k2 = k' + (enc y).length ∧ l2 = false)
    {o : Obj} {v' : Value} {w3 : World} (h8 : w3.ownsRow W.heap.size ty wd v' (L.length + 1) (L.flatMap cl ++ cl x)) (h9 : (w1.alloc o).grownBy w3 v.ownBlock) : RLs cl ty wd enc tot ok b p c M k lost W most cnt (L ++ [x]) k2 l2 v' w3:=by
  have hg : ∀ g,v.ownBlock = some g → W.heap.size ≤ g:=fun g e=>(s.row.lt g e).1
  refine ⟨s.r0.kgr (h1.kb (kb_alloc 0 w1 o)) h9 hg,s.r0,Nat.le_trans s.le h2,((s.ks.trans h3).trans (Kx.of_kb (kb_alloc 0 w1 o))).gr h9 hg,?_,?_,?_,?_,?_,?_,s.ex.step hc h7⟩
  · rw [List.length_append,List.flatMap_append]
    simpa using h8
  · intro y hy
    rcases List.mem_append.1 hy with hy | hy
    · exact s.tt y hy
    · rw [List.mem_singleton.1 hy];exact h4
  · have:=s.cn hl
    rw [List.length_append,List.length_singleton]
    omega
  · intro e
    exact s.cn hl
  · intro e
    exact h6 (s.lo e)
  · intro e
    have:=s.gt hl
    have:=h5 e
    rw [List.length_append,List.length_singleton]
    omega
def RL {α : Type} (cl : α → List Value) (ty : TypeId) (wd : Nat) (enc : α → List UInt8) (tot ok : α → Prop) (b : Nat) (p : Option Addr) (c : Nat) (M : List UInt8) (k : Nat) (lost : Bool) (W : World) (most : Nat) (e : Ending) (w' : World) : Prop :=
  ∃ v k' l' L,e = .returned v ∧ RI b p c M k' l' w' ∧ k ≤ k' ∧ Kx b W w' ∧ w'.ownsRow W.heap.size ty wd v L.length (L.flatMap cl) ∧ (∀ x,x ∈ L → tot x) ∧ L.length ≤ most ∧ (lost = true → l' = true) ∧ (l' = false → k + L.length < k') ∧ LX enc ok M k lost most L k' l'
theorem RLs.done {α : Type} {cl : α → List Value} {ty : TypeId} {wd : Nat} {enc : α → List UInt8} {tot ok : α → Prop} {b : Nat} {p : Option Addr} {c : Nat} {M : List UInt8} {k : Nat} {lost : Bool} {W : World} {most : Nat} {cnt : Int} {L : List α} {k' : Nat} {l' : Bool} {v : Value} {wr : World} (s : RLs cl ty wd enc tot ok b p c M k lost W most cnt L k' l' v wr) (hc : ¬ ((L.length : Int) < cnt ∧ l' = false)) : RL cl ty wd enc tot ok b p c M k lost W most (.returned v) wr :=
  ⟨v,k',l',L,rfl,s.rd,s.le,s.ks,s.row,s.tt,s.mo,s.lo,s.gt,s.ex.done hc⟩
theorem RLs.begin {α : Type} {cl : α → List Value} {ty : TypeId} {wd : Nat} {enc : α → List UInt8} {tot ok : α → Prop} {b : Nat} {p : Option Addr} {c : Nat} {M : List UInt8} {k : Nat} {lost : Bool} {W : World} {most : Nat} {cnt : Int} {k1 : Nat} {l1 : Bool} {w1 : World} (h : RI b p c M k lost W) (h1 : RI b p c M k1 l1 w1) (h2 : k ≤ k1) (h3 : Kz b W w1) (h5 : l1 = false → k < k1) (h6 : lost = true → l1 = true) (h7 : ∀ y rest, lost = false → Rn y → M.drop k = nb y ++ rest → cnt = y ∧ k1 = k + (nb y).length ∧ l1 = false) (hm : most ≤ 9223372036854775807) :
    RLs cl ty wd enc tot ok b p c M k lost W most cnt [] k1 (l1 || decide ((most : Int) < cnt)) (.slice none 0 0) (w1.setCell ⟨b,2,none⟩ (.bool (l1 || decide ((most : Int) < cnt)))):=by
  have z : Kz b w1 (w1.setCell ⟨b,2,none⟩ (.bool (l1 || decide ((most : Int) < cnt)))):=(Kz.refl b w1).set 2 _
  refine ⟨h1.kz z (by rw [set_known _ h1.blk];rfl) h1.le,h,h2,(h3.trans z).ks,World.ownsRow_nil _ _ _ _,fun x hx=>(nomatch hx),Nat.zero_le _,?_,?_,?_,LJ.zero hm h7 ?_⟩
  · intro e
    rw [Bool.or_eq_false_iff] at e
    have:=e.2
    simp at this
    exact this
  · intro e
    rw [h6 e];rfl
  · intro e
    rw [Bool.or_eq_false_iff] at e
    exact h5 e.1
  · intro e1 e2
    rw [e1]
    simp at e2 ⊢
    exact e2
def upc (a : Bool × Int) : List Value:=[.bool a.1,.int .i64 a.2]
def vlc (a : Vv) : List Value:=[.int .i64 a.k,.int .i64 a.m,.float .f64 a.g,.string a.x,.int .i64 a.r]
def inc (a : Iv) : List Value:=[.int .i64 a.o,.int .i64 a.a,.int .i64 a.b,.int .i64 a.c,.int .i64 a.d]
def nmc (a : Mv) : List Value:=[.string a.x,.int .i64 a.g,.int .i64 a.f,.int .i64 a.t]
def Ru (x : Bool × Int) : Prop:=Rn x.2
def Tv (x : Vv) : Prop:=Rn x.m ∧ Rn x.k ∧ x.g < 18446744073709551616 ∧ x.r = 0 ∧ x.x.size ≤ 1000000
def Yv (y : Vv) : Prop:=Yok y ∧ nv y = y
theorem ec_up {b : Nat} {p : Option Addr} {c : Nat} {M : List UInt8} {k : Nat} {lost : Bool} {W : World} (h : RI b p c M k lost W) : Calls Tryz.prog 80 #[.pointer (some ⟨b,0,none⟩)] W (EC upv Ru Ru ub b p c M k lost W):=im_rup h
theorem ec_ins {b : Nat} {p : Option Addr} {c : Nat} {M : List UInt8} {k : Nat} {lost : Bool} {W : World} (h : RI b p c M k lost W) : Calls Tryz.prog 84 #[.pointer (some ⟨b,0,none⟩)] W (EC insv Ri Ri ib b p c M k lost W):=im_rins h
theorem ec_named {b : Nat} {p : Option Addr} {c : Nat} {M : List UInt8} {k : Nat} {lost : Bool} {W : World} (h : RI b p c M k lost W) : Calls Tryz.prog 86 #[.pointer (some ⟨b,0,none⟩)] W (EC namv Rm Rm mb b p c M k lost W):=im_rnamed h
theorem ec_value {b : Nat} {p : Option Addr} {c : Nat} {M : List UInt8} {k : Nat} {lost : Bool} {W : World} (h : RI b p c M k lost W) : Calls Tryz.prog 82 #[.pointer (some ⟨b,0,none⟩)] W (EC vv Tv Yv cb b p c M k lost W):=by
  refine (im_rvalue h).mono ?_
  rintro e w' ⟨v,k',l',rfl,h1,h2,h3,V,rfl,g1,g2,g3,g4,g5,g6,g7,g8⟩
  refine ⟨_,k',l',rfl,h1,h2,h3,V,rfl,⟨g1,g2,g3,g4,by have:=h1.le;have:=h1.sz;omega⟩,g5,g7,fun y rest e hy hm=>?_⟩
  obtain ⟨q1,q2,q3⟩:=g8 y rest e hy.1 hm
  exact ⟨q1.trans hy.2,q2,q3⟩
end Go.Proofs.YtnmeemjoodoalaaGreatDoor.Fo
