import Derived.Test.YtnmeemjoodoalaaGreatDoorMEgh
import Derived.Test.YtnmeemjoodoalaaGreatDoorMEaf
namespace Go.Proofs.YtnmeemjoodoalaaGreatDoor.Fo
open Go.ChangeShapes Go.WideShapes Go.ChangeAt Go.RowKit
set_option linter.unusedVariables false
set_option maxRecDepth 100000
theorem psh_of {np : Nat} {F : Nat → Pd} (hb : Bd np F) (hR : ∀ i,i < np → RdP (F i)) (h : Sok np F) : ∀ p,p < np → Psh (F p):=by
  intro p hp
  obtain ⟨hx,⟨hl0,hl1⟩,⟨hg0,hg1⟩,⟨hm0,hm1⟩,hu,hc,h00⟩:=h.hd p hp
  obtain ⟨z0,z1,z2⟩:=h.sz
  have hnn : (F p).n ≤ 6000:=by
    have:=sm_one (fun i=>(F i).n) hp
    omega
  have hdd : (F p).d ≤ 500:=by
    rcases Nat.lt_or_ge 500 (F p).d with q | q
    · have:=(h.nm p hp 500 q).1
      omega
    · exact q
  have hm2 : (F p).m ≤ 250:=by
    split at hm1 <;> omega
  refine ⟨by omega,hu,hc,hnn,hdd,⟨by omega,by omega⟩,⟨by omega,by omega⟩,⟨by omega,by omega⟩,fun i hi=>?_,fun i hi=>⟨h.co p hp i hi,⟨((hR p hp).2.1 i hi).2.1,((hR p hp).2.1 i hi).2.2⟩,(hb.hC p hp i hi).1,(hb.hC p hp i hi).2⟩,fun i hi=>?_,fun i hi=>?_⟩
  ·
    rcases h.md p hp with e | ⟨q,j,hq,hj,ho,hk⟩
    · rcases h00 with k | ⟨_,k⟩
      · omega
      · omega
    · have hqp : q < np:=by rcases hq with k | k <;> omega
      obtain ⟨_,_,hU⟩:=h.fn q hqp j hj ho
      rw [hk,Int.toNat_natCast] at hU
      obtain ⟨u0,u1⟩:=hU i hi
      obtain ⟨_,_,⟨gq0,gq1⟩,_,uq,_⟩:=h.hd q hqp
      refine ⟨by omega,?_⟩
      split at u1 <;> omega
  · obtain ⟨⟨o1,o2,h3⟩,_⟩:=h.is p hp i hi
    have hf : ∀ j,j < 4 → Rn (fld ((F p).N i) j):=fun j hj=>by
      have h4:=h3 j hj
      unfold Fit at h4
      generalize pcl (pr ((F p).N i).o.toNat j) = k at h4
      unfold rg at h4
      unfold Rn
      split at h4 <;> (dsimp only at h4;omega)
    exact ⟨⟨by omega,by omega⟩,hf 0 (by omega),hf 1 (by omega),hf 2 (by omega),hf 3 (by omega)⟩
  · obtain ⟨_,⟨x1,x2⟩,⟨g0,g1⟩,f0,f1,t1⟩:=h.nm p hp i hi
    exact ⟨by omega,⟨by omega,by omega⟩,⟨by omega,by omega⟩,⟨by omega,by omega⟩⟩
end Go.Proofs.YtnmeemjoodoalaaGreatDoor.Fo
