import Derived.Test.YtjakooihcbdcaaaGreatDoorMCdd
namespace Go.Proofs.YtjakooihcbdcaaaGreatDoor.Fo
open Go.ChangeShapes Go.WideShapes Go.ChangeAt Go.RowKit
set_option linter.unusedVariables false
set_option maxRecDepth 100000
abbrev Gv:=Bool × Int × Int
abbrev Sv:=List Int × List Gv
def wts (r:Nat):List Int:=([[],[],[],[],[],[],[],[],[],[],[],[],[],[],[],[],[1],[2],[3],[1,1,1],[1,1],[1,0],[1],[3]]:List (List Int)).getD r []
def opd (r:Nat):Bool:=r == 22 || r == 23
def rgt (x:Int):Int:=if x < 0 then -1 - x else x
structure Rs where
 T:List Int
 S:List Int
 K:List Int
def rd1 (r:Nat) (x:Int) (s:Rs):Option Rs :=
 if wts r = [] then some s
 else if (s.T.drop (rgt x).toNat).take (wts r).length=wts r∧¬ (x < 0∧rgt x ∈ s.S) then
  some (if x < 0 then ⟨s.T.set (rgt x).toNat 0,s.S,s.K ++ [rgt x]⟩ else if opd r=true then s else ⟨s.T,s.S ++ [rgt x],s.K⟩)
 else none
def rdn (v:Iv) (T:List Int):Nat→Option Rs
 | 0=>some ⟨T,[],[]⟩
 | j+1=>(rdn v T j).bind (rd1 (pr v.o.toNat j) (fld v j))
def rd (v:Iv) (T:List Int):Option Rs:=rdn v T 4
def put1 (r:Nat) (x:Int) (T:List Int):List Int :=
 if r=12 then T.set x.toNat 1 else if r=13 then T.set x.toNat 2 else if r=14 then T.set x.toNat 3 else if r=15 then T.set x.toNat 0 else if r=21 then T.set (x+1).toNat 1 else T
def putn (v:Iv) (T:List Int):Nat→List Int
 | 0=>T
 | j+1=>put1 (pr v.o.toNat j) (fld v j) (putn v T j)
def put (v:Iv) (T:List Int):List Int:=putn v T 4
def bx (F:Nat→Pd) (v:Iv) (T:List Int):Prop:=v.o=11→∀ j,j < (F v.b.toNat).u→((F v.b.toNat).U j).1=true→T.getD ((F v.b.toNat).U j).2.toNat 0=2
def kp1 (m:Int) (g:Gv):Int:=if g.1=true then max m g.2.1 else m
def kpt (G:List Gv):Int:=G.foldl kp1 0
def ctc (G:List Gv):Bool:=match G.getLast? with | some g=>g.1 | none=>false
def dfr (G:List Gv):Bool:=match G.getLast? with | some g=>!g.1 | none=>false
def gfit (v:Iv) (G:List Gv):Prop :=
 if v.o=32 then ctc G=true else if v.o=35∨v.o=36 then dfr G=true else if v.o=34 then dfr G=true∧kpt G≤v.a
 else if v.o=33 then G.length < 50∧kpt G≤v.a else if v.o=31 then G.length < 50∧kpt G≤v.b else True
def gbh (v:Iv) (G:List Gv):List Gv :=
 if v.o=31 then G ++ [(true,v.b,v.a)] else if v.o=33 then G ++ [(false,v.a,0)]
 else if v.o=34 then G.dropLast ++ (G.getLast?.toList.map fun g=>(g.1,v.a,g.2.2)) else if v.o=32∨v.o=36 then G.dropLast else G
def spr (v:Iv) (G:List Gv) (A B K:List Int):Prop:=¬ (v.o=40∧v.a < kpt G)∧B.take (kpt G).toNat=A.take (kpt G).toNat∧∀ k,k ∈ K→kpt G≤k
def tgt (v:Iv):Option Int:=if v.o=19∨v.o=31 then some v.a else if v.o=20∨v.o=21∨v.o=38∨v.o=39∨v.o=41 then some v.b else none
def tcl (T:List Int) (b:Int):List Int:=T.take b.toNat ++ 1 :: 1 :: List.replicate (T.length - b.toNat - 2) 0
def att (v:Iv) (s:Sv) (T:List Int) (G:List Gv):Sv:=if v.o=41 then s else if v.o=31 then (tcl s.1 v.b,s.2) else (T,G)
open Classical in
noncomputable def fol (v:Iv) (i:Nat) (s:Sv) (T:List Int) (G:List Gv):List (Nat × Sv) :=
 (if Ends v.o then [] else [(i+1,(T,G))]) ++ ((tgt v).toList.map fun t=>(t.toNat,att v s T G))
open Classical in
noncomputable def stp (F:Nat→Pd) (v:Iv) (i:Nat) (s:Sv):Nat × List (Nat × Sv) :=
 if ¬ bx F v s.1 then (10,[]) else
 match rd v s.1 with
 | none=>(10,[])
 | some r =>
  if ¬ gfit v s.2 then (11,[]) else
  if ¬ spr v s.2 s.1 (put v r.T) r.K then (12,[]) else (0,fol v i s (put v r.T) (gbh v s.2))
inductive St
 | ok (M:Nat→Option Sv) (D:List Nat)
 | bad (c n:Nat)
def insD (D:List Nat) (x:Nat):List Nat:=D.take (D.countP (· < x)) ++ x :: D.drop (D.countP (· < x))
def upd (M:Nat→Option Sv) (x:Nat) (s:Sv):Nat→Option Sv:=fun y=>if y=x then some s else M y
def adv (st:St) (x:Nat × Sv):St :=
 match st with
 | .bad c n=>.bad c n
 | .ok M D=>match M x.1 with
  | none=>.ok (upd M x.1 x.2) (insD D x.1)
  | some s=>if s=x.2 then .ok M D else .bad 13 x.1
noncomputable def nxt (F:Nat→Pd) (d:Pd) (M:Nat→Option Sv) (D:List Nat) (i:Nat) (s:Sv):St :=
 if (stp F (d.N i) i s).1=0 then (stp F (d.N i) i s).2.foldl adv (.ok M D) else .bad (stp F (d.N i) i s).1 i
noncomputable def wst (F:Nat→Pd) (d:Pd) (st:St):St :=
 match st with
 | .bad c n=>.bad c n
 | .ok M []=>.ok M []
 | .ok M (i :: D)=>match M i with
  | none=>.ok M (i :: D)
  | some s=>nxt F d M D i s
def t0 (d:Pd):List Int:=if d.r=true then List.replicate d.m.toNat 1 ++ 3 :: List.replicate (d.g.toNat - d.m.toNat - 1) 0 else List.replicate d.m.toNat 1 ++ List.replicate (d.g.toNat - d.m.toNat) 0
noncomputable def wit (F:Nat→Pd) (d:Pd):Nat→St
 | 0=>.ok (upd (fun _=>none) 0 (t0 d,[])) [0]
 | k+1=>wst F d (wit F d k)
def Tm (s:St):Prop:=(∃ M,s = .ok M [])∨∃ c n,s = .bad c n
theorem tm_fix {F:Nat→Pd} {d:Pd} {s:St} (h:Tm s):wst F d s=s:=by
 rcases h with ⟨M,rfl⟩ | ⟨c,n,rfl⟩ <;> rfl
theorem tm_le {F:Nat→Pd} {d:Pd} {a:Nat} (h:Tm (wit F d a)):∀ k,wit F d (a+k)=wit F d a
 | 0=>rfl
 | k+1=>by
  show wst F d (wit F d (a+k)) = _;rw [tm_le h k,tm_fix h]
theorem tm_uniq {F:Nat→Pd} {d:Pd} {a b:Nat} (h:Tm (wit F d a)) (k:Tm (wit F d b)):wit F d a=wit F d b:=by
 rcases Nat.le_total a b with q | q
 ·have:=tm_le h (b - a);rw [show a+(b - a)=b by omega] at this;exact this.symm
 ·have:=tm_le k (a - b);rw [show b+(a - b)=a by omega] at this;exact this
def Gok (d:Pd) (G:List Gv):Prop:=G.length≤50∧∀ g,g ∈ G→0≤g.2.1∧g.2.1≤d.g
def Sok' (d:Pd) (s:Sv):Prop:=(s.1.length:Int)=d.g∧Gok d s.2
structure Inv (d:Pd) (M:Nat→Option Sv) (D:List Nat):Prop where
 so:D.Pairwise (· < ·)
 du:∀ i,i ∈ D→i < d.n∧M i ≠ none
 st:∀ i s,M i=some s→i < d.n∧Sok' d s
theorem insD_mem {D:List Nat} {x y:Nat}:y ∈ insD D x↔y=x∨y ∈ D:=by
 unfold insD;rw [List.mem_append,List.mem_cons]
 conv=>rhs;rw [← List.take_append_drop (D.countP (· < x)) D,List.mem_append]
 constructor
 ·rintro (h | rfl | h)
  ·exact .inr (.inl h)
  ·exact .inl rfl
  ·exact .inr (.inr h)
 ·rintro (rfl | h | h)
  ·exact .inr (.inl rfl)
  ·exact .inl h
  ·exact .inr (.inr h)
theorem insD_len (D:List Nat) (x:Nat):(insD D x).length=D.length+1:=by
 unfold insD;have:=congrArg List.length (List.take_append_drop (D.countP (· < x)) D);rw [List.length_append] at this;rw [List.length_append,List.length_cons];omega
theorem take_lt:∀ (D:List Nat) (x:Nat),D.Pairwise (· < ·)→(∀ y,y ∈ D.take (D.countP (· < x))→y < x)∧∀ y,y ∈ D.drop (D.countP (· < x))→x≤y
  | [],x,_=>by simp
  | a :: D,x,h=>by
    rw [List.pairwise_cons] at h;obtain ⟨i1,i2⟩:=take_lt D x h.2;by_cases q:a < x
    · rw [List.countP_cons_of_pos (by simpa using q)];refine ⟨fun y hy=>?_,fun y hy=>i2 y (by simpa using hy)⟩;simp only [List.take_succ_cons,List.mem_cons] at hy;rcases hy with rfl | hy
      · exact q
      · exact i1 y hy
    · have e : D.countP (· < x) = 0 := by
        rw [List.countP_eq_zero];intro y hy;have:=h.1 y hy
        simp;omega
      rw [List.countP_cons_of_neg (by simpa using q),e];refine ⟨fun y hy=>by simp at hy,fun y hy=>?_⟩;simp only [List.drop_zero,List.mem_cons] at hy;rcases hy with rfl | hy
      · omega
      · have:=h.1 y hy;omega
theorem insD_so {D:List Nat} {x:Nat} (h:D.Pairwise (· < ·)) (hx:x ∉ D):(insD D x).Pairwise (· < ·):=by
 obtain ⟨i1,i2⟩:=take_lt D x h;unfold insD;rw [List.pairwise_append,List.pairwise_cons]
 have hd:∀ y,y ∈ D.drop (D.countP (· < x))→x < y:=fun y hy=>by
  have h1:=i2 y hy;have h2:y ≠ x:=fun e=>hx (by rw [← e];exact List.mem_of_mem_drop hy);omega
 refine ⟨h.sublist (List.take_sublist _ _),⟨hd,h.sublist (List.drop_sublist _ _)⟩,fun a ha b hb=>?_⟩;have h1:=i1 a ha;rw [List.mem_cons] at hb;rcases hb with rfl | hb
 ·exact h1
 ·have:=hd b hb;omega
def SOk (d:Pd) (st:St):Prop:=match st with | .ok M D=>Inv d M D | .bad _ _=>True
theorem adv_ok {d:Pd} {st:St} {x:Nat × Sv} (h:SOk d st) (hx:x.1 < d.n∧Sok' d x.2):SOk d (adv st x):=by
 cases st with
 | bad c n=>trivial
 | ok M D =>
  have h:Inv d M D:=h;unfold adv;dsimp only;cases hm:M x.1 with
  | some s =>
   dsimp only;by_cases e:s=x.2
   ·rw [if_pos e];exact h
   ·rw [if_neg e];trivial
  | none =>
   dsimp only;have hn:x.1 ∉ D:=fun q=>(h.du _ q).2 hm;refine ⟨insD_so h.so hn,fun i hi=>?_,fun i s hs=>?_⟩
   ·rw [insD_mem] at hi;unfold upd;by_cases e:i=x.1
    ·rw [if_pos e];exact ⟨by rw [e];exact hx.1,by simp⟩
    ·rw [if_neg e];exact h.du i (hi.resolve_left e)
   ·unfold upd at hs;by_cases e:i=x.1
    ·rw [if_pos e] at hs;cases hs;exact ⟨by rw [e];exact hx.1,hx.2⟩
    ·rw [if_neg e] at hs;exact h.st i s hs
theorem fold_ok {d:Pd}:∀ (l:List (Nat × Sv)) (st:St),SOk d st→(∀ x,x ∈ l→x.1 < d.n∧Sok' d x.2)→SOk d (l.foldl adv st)
 | [],st,h,_=>h
 | x :: l,st,h,hl=>fold_ok l (adv st x) (adv_ok h (hl x (List.mem_cons_self ..))) (fun y hy=>hl y (List.mem_cons_of_mem _ hy))
