import GoSem.Core.Float
import Derived.Laws.FloatArith
namespace Go.Proofs.Ytamcnmnaadpfoaa.Flt
open Ieee
structure Canon (m k:Nat):Prop where
 lt:m < 9007199254740992
 low : 4503599627370496≤m∨k=0
 le:k≤2045
def eU:Nat:=1074
def U:Nat:=2 ^ eU
theorem U_pos : 0 < U:=Nat.two_pow_pos eU
theorem U_eq (a b:Nat) (h:a+b=1074):U=2 ^ a*2 ^ b:=by
 have g:a+b=eU:=h
 rw [← Nat.pow_add,g,U]
theorem pow_U (k:Nat) (h : 1074≤k) : 2 ^ k=2 ^ (k - 1074)*U:=by
 have g:k - 1074+eU=k:=by unfold eU;omega
 rw [U,← Nat.pow_add,g]
def vl (s:Bool) (v:Nat):Int:=if s then -(v:Int) else v
theorem units (m k : Nat) : (m <<< ((k : Int) - 1074).toNat) / 2 ^ (-((k : Int) - 1074)).toNat = m * 2 ^ k / U ∧
  ((m <<< ((k:Int) - 1074).toNat) % 2 ^ (-((k:Int) - 1074)).toNat=0↔m*2 ^ k % U=0):=by
 rw [Nat.shiftLeft_eq]
 by_cases h : 1074≤k
 ·have e1:((k:Int) - 1074).toNat=k - 1074:=by omega
  have e2:(-((k:Int) - 1074)).toNat=0:=by omega
  have e3:m*2 ^ k=m*2 ^ (k - 1074)*U:=by
   rw [pow_U k h,Nat.mul_assoc]
  rw [e1,e2,e3,Nat.mul_div_cancel _ U_pos,Nat.mul_mod_left]
  simp [Nat.mod_one]
 ·have e1:((k:Int) - 1074).toNat=0:=by omega
  have e2:(-((k:Int) - 1074)).toNat=1074 - k:=by omega
  have e3:U=2 ^ (1074 - k)*2 ^ k:=U_eq _ _ (by omega)
  rw [e1,e2,e3,Nat.pow_zero,Nat.mul_one,Nat.mul_div_mul_right _ _ (Nat.two_pow_pos k),Nat.mul_mod_mul_right]
  refine ⟨rfl,?_⟩
  constructor
  ·intro g;rw [g];simp
  ·intro g
   rcases Nat.mul_eq_zero.1 g with g | g
   ·exact g
   ·have:=Nat.two_pow_pos k;omega
def floorW (x:Nat):Nat:=double.write ((double.read x).integral .down)
def eO:Nat:=1022
def eC:Nat:=1085
end Go.Proofs.Ytamcnmnaadpfoaa.Flt
