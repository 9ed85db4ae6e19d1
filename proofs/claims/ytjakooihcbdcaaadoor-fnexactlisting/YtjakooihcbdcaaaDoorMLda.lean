import Derived.Test.YtjakooihcbdcaaaDoorMCdd
import Derived.Test.YtjakooihcbdcaaaDoorMVca
namespace Go.Proofs.YtjakooihcbdcaaaDoor.Fo
open Go.ChangeShapes Go.WideShapes Go.ChangeAt Go.RowKit
set_option linter.unusedVariables false
set_option maxRecDepth 100000
def opl : List ByteArray:=[⟨#[]⟩,⟨#[108,105,110,101]⟩,⟨#[97,116]⟩,⟨#[116,105,99,107]⟩,⟨#[99,111,110,115,116]⟩,⟨#[109,111,118,101]⟩,⟨#[98,111,120]⟩,⟨#[103,101,116]⟩,⟨#[112,117,116]⟩,⟨#[117,112,103,101,116]⟩,⟨#[117,112,112,117,116]⟩,⟨#[102,110]⟩,⟨#[116,97,98,108,101]⟩,⟨#[114,97,119]⟩,⟨#[114,97,119,97,108,108]⟩,⟨#[105,110,100,101,120]⟩,⟨#[115,101,116]⟩,⟨#[117,110,97,114,121]⟩,⟨#[98,105,110,97,114,121]⟩,⟨#[106,117,109,112]⟩,⟨#[105,102]⟩,⟨#[117,110,108,101,115,115]⟩,⟨#[108,105,115,116]⟩,⟨#[97,100,100]⟩,⟨#[106,111,105,110]⟩,⟨#[102,105,114,115,116]⟩,⟨#[112,105,99,107]⟩,⟨#[99,111,112,121]⟩,⟨#[99,97,108,108]⟩,⟨#[114,101,116,117,114,110]⟩,⟨#[116,104,114,111,119]⟩,⟨#[116,114,121]⟩,⟨#[101,110,100,116,114,121]⟩,⟨#[115,99,111,112,101]⟩,⟨#[107,101,101,112]⟩,⟨#[100,101,102,101,114]⟩,⟨#[108,101,97,118,101]⟩,⟨#[102,111,114]⟩,⟨#[102,111,114,116,101,115,116]⟩,⟨#[102,111,114,110,101,120,116]⟩,⟨#[101,97,99,104]⟩,⟨#[101,97,99,104,110,101,120,116]⟩,⟨#[100,114,111,112]⟩]
def opn (n : Nat) : ByteArray:=opl.getD n ⟨#[]⟩
theorem opn_len : ∀ n,n < 43 → (opn n).size ≤ 8:=by decide
def ln0 (p i : Nat) (o : Nat) : ByteArray:=(((itx (p : Int) ++ ⟨#[58]⟩) ++ itx (i : Int)) ++ ⟨#[32]⟩) ++ opn o
def lnj (p i : Nat) (a : Iv) : Nat → ByteArray
  | 0=>ln0 p i a.o.toNat
  | j + 1=>lnj p i a j ++ (⟨#[32]⟩ ++ itx (fld a j))
def lnI (p i : Nat) (a : Iv) : List UInt8:=(lnj p i a 4).data.toList ++ [10]
def lsI (p : Nat) (N : Nat → Iv) : Nat → List UInt8
  | 0=>[]
  | i + 1=>lsI p N i ++ lnI p i (N i)
def lsP (F : Nat → Pd) : Nat → List UInt8
  | 0=>[]
  | p + 1=>lsP F p ++ lsI p (F p).N (F p).n
structure Ish (a : Iv) : Prop where
  o1 : 1 ≤ a.o
  o2 : a.o ≤ 42
  f : ∀ j,j < 4 → -9223372036854775808 ≤ fld a j ∧ fld a j ≤ 9223372036854775807
theorem ba_len (a b : ByteArray) : (a ++ b).size = a.size + b.size:=ByteArray.size_append
theorem ln0_len {p i o : Nat} (hp : p ≤ 1048576) (hi : i ≤ 1048576) (ho : o < 43) : (ln0 p i o).size ≤ 52:=by
  have h1:=itx_len (p : Int) (by omega) (by omega)
  have h2:=itx_len (i : Int) (by omega) (by omega)
  have h3:=opn_len o ho
  have e1 : (⟨#[58]⟩ : ByteArray).size = 1:=rfl
  have e2 : (⟨#[32]⟩ : ByteArray).size = 1:=rfl
  unfold ln0
  rw [ba_len,ba_len,ba_len,ba_len,e1,e2]
  omega
theorem lnj_len {p i : Nat} {a : Iv} (hp : p ≤ 1048576) (hi : i ≤ 1048576) (h : Ish a) : ∀ j,j ≤ 4 → (lnj p i a j).size ≤ 52 + j * 22:=by
  intro j
  induction j with
  | zero=>intro _;exact ln0_len hp hi (by have:=h.o2;omega)
  | succ j ih =>
    intro hj
    have h1:=ih (by omega)
    have h2:=itx_len (fld a j) (h.f j (by omega)).1 (h.f j (by omega)).2
    have e2 : (⟨#[32]⟩ : ByteArray).size = 1:=rfl
    show (lnj p i a j ++ (⟨#[32]⟩ ++ itx (fld a j))).size ≤ _
    rw [ba_len,ba_len,e2]
    omega
theorem lnI_len {p i : Nat} {a : Iv} (hp : p ≤ 1048576) (hi : i ≤ 1048576) (h : Ish a) : (lnI p i a).length ≤ 150:=by
  have h1:=lnj_len hp hi h 4 (by omega)
  unfold lnI
  rw [List.length_append,sz_len]
  simp only [List.length_cons,List.length_nil]
  omega
theorem lsI_len {p : Nat} {N : Nat → Iv} (hp : p ≤ 1048576) : ∀ i,i ≤ 1048576 → (∀ j,j < i → Ish (N j)) → (lsI p N i).length ≤ i * 150:=by
  intro i
  induction i with
  | zero=>intro _ _;exact Nat.zero_le _
  | succ i ih =>
    intro h1 h2
    have:=ih (by omega) (fun j hj=>h2 j (by omega))
    have h3:=lnI_len hp (show i ≤ 1048576 by omega) (h2 i (by omega))
    show (lsI p N i ++ lnI p i (N i)).length ≤ _
    rw [List.length_append]
    omega
theorem lsP_len {F : Nat → Pd} {np : Nat} (hnp : np ≤ 1048576) (hn : ∀ p,p < np → (F p).n ≤ 1048576) (hI : ∀ p,p < np → ∀ j,j < (F p).n → Ish ((F p).N j)) : ∀ p,p ≤ np → (lsP F p).length ≤ sm (fun i=>(F i).n) p * 150:=by
  intro p
  induction p with
  | zero=>intro _;exact Nat.zero_le _
  | succ p ih =>
    intro h1
    have:=ih (by omega)
    have h3:=lsI_len (p:=p) (N:=(F p).N) (by omega) (F p).n (hn p (by omega)) (hI p (by omega))
    show (lsP F p ++ lsI p (F p).N (F p).n).length ≤ (sm (fun i=>(F i).n) p + (F p).n) * 150
    rw [List.length_append,Nat.add_mul]
    omega
def Lst (np : Nat) (F : Nat → Pd) (T : ByteArray) : Prop:=∃ c f n,Ans 7 np F c f n ∧ T = (if c = 0 then ⟨(lsP F np).toArray⟩ else ⟨#[]⟩)
theorem Lst.uniq {np : Nat} {F : Nat → Pd} {T T' : ByteArray} (h : Lst np F T) (h' : Lst np F T') : T = T':=by
  obtain ⟨c,f,n,h1,h2⟩:=h
  obtain ⟨c',f',n',h1',h2'⟩:=h'
  obtain ⟨rfl,rfl,rfl⟩:=h1.uniq h1'
  rw [h2,h2']
structure Sok (np : Nat) (F : Nat → Pd) : Prop where
  sz : Szu np F
  hd : ∀ p,p < np → Hd p (F p)
  co : ∀ p,p < np → ∀ i,i < (F p).c → Cok ((F p).C i)
  nm : ∀ p,p < np → ∀ i,i < (F p).d → Nok (F p) i
  nz : ∀ p,p < np → (F p).n ≠ 0
  is : ∀ p,p < np → ∀ i,i < (F p).n → Iok np (F p) i
  fn : ∀ p,p < np → ∀ i,i < (F p).n → P6 F p i
  md : ∀ p,p < np → P7 np F p
theorem sok_of {np : Nat} {F : Nat → Pd} {f n : Nat} (h : Ans 7 np F 0 f n) : Sok np F:=by
  rcases h with ⟨h1,_⟩ | ⟨_,h1,_⟩ | ⟨h1,_,_,_,h5⟩
  · omega
  · omega
  · have l5 : ∀ p, p < np → (F p).n ≠ 0 := fun p hp => by
      have:=h5 5 (by omega) (by omega) p hp 0 (by show 0 < L5 F p;unfold L5;split <;> omega)
      exact this.1
    exact ⟨h1,fun p hp=>h5 2 (by omega) (by omega) p hp 0 (by show 0 < 1;omega),fun p hp i hi=>h5 3 (by omega) (by omega) p hp i hi,fun p hp i hi=>h5 4 (by omega) (by omega) p hp i hi,l5,fun p hp i hi=>(h5 5 (by omega) (by omega) p hp i (by show i < L5 F p;unfold L5;rw [if_neg (l5 p hp)];exact hi)).2,fun p hp i hi=>h5 6 (by omega) (by omega) p hp i hi,fun p hp=>h5 7 (by omega) (by omega) p hp 0 (by show 0 < 1;omega)⟩
theorem Sok.ish {np : Nat} {F : Nat → Pd} (h : Sok np F) {p i : Nat} (hp : p < np) (hi : i < (F p).n) : Ish ((F p).N i):=by
  obtain ⟨⟨h1,h2,h3⟩,_⟩:=h.is p hp i hi
  refine ⟨h1,h2,fun j hj=>?_⟩
  have hh:=h.hd p hp
  obtain ⟨z0,z1,z2⟩:=h.sz
  have hnn : (F p).n ≤ 6000:=by
    have:=sm_one (fun i=>(F i).n) hp
    omega
  have h4:=h3 j hj
  unfold Fit at h4
  obtain ⟨_,_,⟨g0,g1⟩,_,hu,hc,_⟩:=hh
  generalize pcl (pr ((F p).N i).o.toNat j) = k at h4
  unfold rg at h4
  split at h4 <;> (dsimp only at h4;omega)
end Go.Proofs.YtjakooihcbdcaaaDoor.Fo
