import Derived.Test.YtamcnmnaadpfoaaFJga
set_option maxHeartbeats 32000000
namespace Go.Proofs.Ytamcnmnaadpfoaa.Fo
open Go.ChangeShapes Go.WideShapes Go.ChangeAt Go.RowKit
set_option linter.unusedVariables false
set_option maxRecDepth 100000
theorem im_graph {J : Jd} {p1 p2 : Option Addr} {c1 c2 : Nat} (w : World) (hl : RowV w (.slice p1 J.n c1) J.n (fun i => .string (J.S i))) (hs : Js.RowW 0 w (.slice p2 J.m c2) J.m J.T) (hn : J.n ≤ 200) (hm : J.m ≤ 20) :
    Calls Try.prog 35 #[.agg #[.slice p1 J.n c1,.int .i64 J.p,.int .i64 J.q,.slice p2 J.m c2]] w fun e w'=>∃ v,e = .returned (grv (ndV 0) v)∧RowT 0 w' v (3+J.m) (jF J)∧Kb 0 w w':=by
  obtain ⟨n,S,p,q,m,T⟩:=J
  dsimp only at hl hs hn hm ⊢
  obtain ⟨w2,hw2⟩:∃ w2,w2=(w.alloc (.cells #[.slice p1 n c1,.int .i64 p,.int .i64 q,.slice p2 m c2] 26)).alloc (.cells #[.int .i64 0,.int .i64 0,.string ⟨#[]⟩,.int .i64 0,.slice none 0 0] 44):=⟨_,rfl⟩
  have k2:Kb 0 w w2:=by rw [hw2];exact kb_alloc2 _ _ _ _
  have z2:w2.heap.size=w.heap.size+2:=by rw [hw2];simp
  have b0:w2.heap[w.heap.size]? = some (.cells #[.slice p1 n c1,.int .i64 p,.int .i64 q,.slice p2 m c2] 26 (0,0)):=by
    rw [hw2,(kb_alloc 0 _ _).block _ (Nat.zero_le _) (by rw [World.size_alloc];omega)]
    exact alloc_new _ _ _
  have b1:w2.heap[w.heap.size+1]? = some (.cells #[.int .i64 0,.int .i64 0,.string ⟨#[]⟩,.int .i64 0,.slice none 0 0] 44 (0,0)):=by
    have e:(w.alloc (.cells #[.slice p1 n c1,.int .i64 p,.int .i64 q,.slice p2 m c2] 26)).heap.size=w.heap.size+1:=World.size_alloc _ _
    rw [hw2,← e]
    exact alloc_new _ _ _
  have HJ:Hid (RowV w (.slice p1 n c1) n (fun i=>.string (S i))∧Js.RowW 0 w (.slice p2 m c2) m T∧Kb 0 w w2∧w2.heap.size=w.heap.size+2∧w2.heap[w.heap.size]? = some (.cells #[.slice p1 n c1,.int .i64 p,.int .i64 q,.slice p2 m c2] 26 (0,0))∧w2.heap[w.heap.size+1]? = some (.cells #[.int .i64 0,.int .i64 0,.string ⟨#[]⟩,.int .i64 0,.slice none 0 0] 44 (0,0))):=(⟨hl,hs,k2,z2,b0,b1⟩:_∧_)
  have HSX:∀ W',Kb 0 w2 W'→W'.cell? ⟨w.heap.size,1,none⟩=some (.int .i64 p)∧W'.cell? ⟨w.heap.size,2,none⟩=some (.int .i64 q):=fun W' k=>⟨k.cell (cell_of b0 rfl),k.cell (cell_of b0 rfl)⟩
  have HW2:Hid (w2=(w.alloc (.cells #[.slice p1 n c1,.int .i64 p,.int .i64 q,.slice p2 m c2] 26)).alloc (.cells #[.int .i64 0,.int .i64 0,.string ⟨#[]⟩,.int .i64 0,.slice none 0 0] 44)):=hw2
  have hnI:(n:Int)≤200:=by omega
  have hmI:(m:Int)≤20:=by omega
  obtain ⟨RL,hRL⟩:∃ RL,RL=vls (rtT p q).C 4:=⟨_,rfl⟩
  have HRL:Hid (RL=vls (rtT p q).C 4):=hRL
  clear hl hs hn hm k2 z2 b0 b1 hw2
  go_enter Try.func35,Try.ntmps35
  go_upto_region 1 with fail
  rw [← (show w2 = _ from HW2)]
  clear HW2
  go_cut [3] from 11 to 20 (fun s3 wx=>∃ (Z:Nat),s3 = .pointer (some ⟨Z,0,none⟩)∧Hid (RtB w2 wx Z 1 RL))
  case first =>
    clear HJ
    refine AnyL.region (S:=fun W':World=>W'.cell? ⟨w.heap.size,1,none⟩=some (.int .i64 p)∧W'.cell? ⟨w.heap.size,2,none⟩=some (.int .i64 q)) (z:=11) (by kernel_rfl) ?_
    obtain ⟨VD,hVD⟩:∃ VD,VD=w2.drew:=⟨_,rfl⟩
    rw [← hVD]
    have KD:Hid (Kb 0 w2 VD):=by rw [hVD];exact Kb.drew (Kb.refl _ _)
    have hS0:(fun W':World=>W'.cell? ⟨w.heap.size,1,none⟩=some (.int .i64 p)∧W'.cell? ⟨w.heap.size,2,none⟩=some (.int .i64 q)) VD:=HSX VD KD
    clear hVD HRL
    subst hRL
    refine AnyL.takeAt 0 (.pointer (some ⟨w.heap.size,1,none⟩)) rfl (by kernel_rfl) (by kernel_rfl) (by kernel_rfl) (by kernel_rfl) (fun _ _ _ h=>h) rfl hS0 (by intro W hW;obtain ⟨q0,q1⟩:=hW;go_simp) ?_
    try simp only [Act.put,List.setIfInBounds_toArray,List.set_cons_zero,List.set_cons_succ]
    refine AnyL.takeAt 1 (.int .i64 p) rfl (by kernel_rfl) (by kernel_rfl) (by kernel_rfl) (by kernel_rfl) (fun _ _ _ h=>h) rfl hS0 (by intro W hW;obtain ⟨q0,q1⟩:=hW;go_simp) ?_
    try simp only [Act.put,List.setIfInBounds_toArray,List.set_cons_zero,List.set_cons_succ]
    refine AnyL.takeAt 3 (.pointer (some ⟨w.heap.size,2,none⟩)) rfl (by kernel_rfl) (by kernel_rfl) (by kernel_rfl) (by kernel_rfl) (fun _ _ _ h=>h) rfl hS0 (by intro W hW;obtain ⟨q0,q1⟩:=hW;go_simp) ?_
    try simp only [Act.put,List.setIfInBounds_toArray,List.set_cons_zero,List.set_cons_succ]
    refine AnyL.takeAt 4 (.int .i64 q) rfl (by kernel_rfl) (by kernel_rfl) (by kernel_rfl) (by kernel_rfl) (fun _ _ _ h=>h) rfl hS0 (by intro W hW;obtain ⟨q0,q1⟩:=hW;go_simp) ?_
    try simp only [Act.put,List.setIfInBounds_toArray,List.set_cons_zero,List.set_cons_succ]
    refine AnyL.two 2 10 rfl rfl (by kernel_rfl) rfl rfl ?_ ?_
    · intro K hK
      go_simp
      refine (im_num p VD).mono ?_
      rintro e w_1 ⟨rfl,gk⟩
      have K_2:Hid (Kb 0 w2 w_1):=Kb.trans KD gk
      have S_3:=HSX w_1 K_2
      clear gk
      refine hK.out _ _ (fun _=>S_3) ?_
      clear hK K
      try simp only [Act.put,List.setIfInBounds_toArray,List.set_cons_zero,List.set_cons_succ]
      refine AnyL.two 5 10 rfl rfl (by kernel_rfl) rfl rfl ?_ ?_
      · intro K hK
        go_simp
        refine (im_num q w_1).mono ?_
        rintro e w_4 ⟨rfl,gk⟩
        have K_5:Hid (Kb 0 w2 w_4):=Kb.trans K_2 gk
        have S_6:=HSX w_4 K_5
        clear gk
        refine hK.out _ _ (fun _=>S_6) ?_
        clear hK K
        try simp only [Act.put,List.setIfInBounds_toArray,List.set_cons_zero,List.set_cons_succ]
        refine AnyL.two 6 10 rfl rfl (by kernel_rfl) rfl rfl ?_ ?_
        · intro K hK
          go_simp
          refine (im_node 1 w_4).mono ?_
          rintro e w_7 ⟨rfl,gk⟩
          have K_8:Hid (Kb 0 w2 w_7):=Kb.trans K_5 gk
          have S_9:=HSX w_7 K_8
          clear gk
          refine hK.out _ _ (fun _=>S_9) ?_
          clear hK K
          try simp only [Act.put,List.setIfInBounds_toArray,List.set_cons_zero,List.set_cons_succ]
          refine AnyL.two 7 10 rfl rfl (by kernel_rfl) rfl rfl ?_ ?_
          · intro K hK
            go_simp
            refine (im_node 2 w_7).mono ?_
            rintro e w_10 ⟨rfl,gk⟩
            have K_11:Hid (Kb 0 w2 w_10):=Kb.trans K_8 gk
            have S_12:=HSX w_10 K_11
            clear gk
            refine hK.out _ _ (fun _=>S_12) ?_
            clear hK K
            try simp only [Act.put,List.setIfInBounds_toArray,List.set_cons_zero,List.set_cons_succ]
            refine AnyL.two 8 10 rfl rfl (by kernel_rfl) rfl rfl ?_ ?_
            · intro K hK
              go_simp
              obtain ⟨Z_14,hZ⟩:∃ Z,Z=w_10.heap.size:=⟨_,rfl⟩
              obtain ⟨w_13,hWn⟩:∃ Wn,Wn=w_10.alloc (.cells #[.int .i64 1,.int .i64 p,.string ⟨#[]⟩,.int .i64 0,.int .i64 1,.int .i64 q,.string ⟨#[]⟩,.int .i64 0,.int .i64 4,.int .i64 0,.string ⟨#[]⟩,.int .i64 1,.int .i64 4,.int .i64 0,.string ⟨#[]⟩,.int .i64 2] 41):=⟨_,rfl⟩
              have gk:Kb 0 w_10 w_13:=by rw [hWn];exact kb_alloc _ _ _
              have hz_15:w2.heap.size≤Z_14:=by rw [hZ];exact (show Kb 0 w2 w_10 from K_11).size
              have K_16:Hid (Kb 0 w2 w_13):=Kb.trans K_11 gk
              have S_17:=HSX w_13 K_16
              have O_18:Hid (w_13.ownsRow w2.heap.size 41 4 (.slice (some ⟨Z_14,0,none⟩) 4 4) 4 (vls (rtT p q).C 4)):=(by rw [hWn,hZ];exact own_new _ _ _ _ _ _ (by rw [← hZ];exact hz_15) (by omega) rfl rfl:w_13.ownsRow _ _ _ _ _ _)
              have hWd:w_10.alloc (.cells #[.int .i64 1,.int .i64 p,.string ⟨#[]⟩,.int .i64 0,.int .i64 1,.int .i64 q,.string ⟨#[]⟩,.int .i64 0,.int .i64 4,.int .i64 0,.string ⟨#[]⟩,.int .i64 1,.int .i64 4,.int .i64 0,.string ⟨#[]⟩,.int .i64 2] 41)=w_13:=hWn.symm
              have hZd:w_10.heap.size=Z_14:=hZ.symm
              try simp only [hWd]
              try rw [hWd]
              try rw [hZd]
              clear hWn hZ hWd hZd hz_15
              clear gk
              refine hK.out _ _ (fun _=>S_17) ?_
              clear hK K
              try simp only [Act.put,List.setIfInBounds_toArray,List.set_cons_zero,List.set_cons_succ]
              refine AnyL.takeAt 9 (.agg #[.int .i64 1,.slice (some ⟨Z_14,0,none⟩) 4 4]) rfl (by kernel_rfl) (by kernel_rfl) (by kernel_rfl) (by kernel_rfl) (fun _ _ _ h=>h) rfl S_17 (by intro W hW;go_simp) ?_
              try simp only [Act.put,List.setIfInBounds_toArray,List.set_cons_zero,List.set_cons_succ]
              refine AnyL.oneAt 10 rfl (by kernel_rfl) rfl ?_
              intro K hK
              go_simp
              obtain ⟨Z_20,hZ⟩:∃ Z,Z=w_13.heap.size:=⟨_,rfl⟩
              obtain ⟨w_19,hWn⟩:∃ Wn,Wn=w_13.alloc (.cells #[.int .i64 0,.slice none 0 0] 50):=⟨_,rfl⟩
              have gk:Kb 0 w_13 w_19:=by rw [hWn];exact kb_alloc _ _ _
              have hz_21:w2.heap.size≤Z_20:=by rw [hZ];exact (show Kb 0 w2 w_13 from K_16).size
              have K_22:Hid (Kb 0 w2 w_19):=Kb.trans K_16 gk
              have S_23:=HSX w_19 K_22
              have O_24:Hid (w_19.ownsRow w2.heap.size 41 4 (.slice (some ⟨Z_14,0,none⟩) 4 4) 4 (vls (rtT p q).C 4)):=own_kb O_18 gk
              have R_25:Hid (w_19.heap[Z_20]? = some (.cells #[.int .i64 0,.slice none 0 0] 50 (0,0))∧w2.heap.size≤Z_20):=(⟨by rw [hWn,hZ];exact alloc_new _ _ _,hz_21⟩:_∧_)
              have hWd:w_13.alloc (.cells #[.int .i64 0,.slice none 0 0] 50)=w_19:=hWn.symm
              have hZd:w_13.heap.size=Z_20:=hZ.symm
              try simp only [hWd]
              try rw [hWd]
              try rw [hZd]
              clear hWn hZ hWd hZd hz_21
              clear gk
              refine hK.out _ _ (fun _=>S_23) ?_
              clear hK K
              try simp only [Act.put,List.setIfInBounds_toArray,List.set_cons_zero,List.set_cons_succ]
              have r0:w_19.cell? ⟨Z_20,0,none⟩=some (.int .i64 0):=cell_of (show _∧_ from R_25).1 rfl
              have r1:w_19.cell? ⟨Z_20,1,none⟩=some (.slice none 0 0):=cell_of (show _∧_ from R_25).1 rfl
              have rz:∀ j,w_19.frozen? ⟨Z_20,j,none⟩=false:=fun j=>frozen_of (show _∧_ from R_25).1
              refine AnyL.oneAt 11 rfl (by kernel_rfl) rfl ?_
              intro K hK
              go_simp
              refine hK.out _ _ (fun h=>absurd rfl h) ?_
              clear hK K
              refine AnyL.done (by kernel_rfl) ?_
              have HV:Hid (RtB w2 (s2 w_19 Z_20 1 (.slice (some ⟨Z_14,0,none⟩) 4 4)) Z_20 1 (vls (rtT p q).C 4)):=rtb_of K_22 O_24 (show _∧_ from R_25).1 (show _∧_ from R_25).2
              obtain ⟨WF,hWF⟩:∃ WF,WF=s2 w_19 Z_20 1 (.slice (some ⟨Z_14,0,none⟩) 4 4):=⟨_,rfl⟩
              rw [← hWF] at HV
              unfold s2 at hWF
              rw [← hWF]
              clear hWF r0 r1 rz
              go_wp2_with fail
              go_meet
              exact ⟨Z_20,rfl,HV⟩
            · intro K hK
              go_simp
              obtain ⟨Z_27,hZ⟩:∃ Z,Z=w_10.heap.size:=⟨_,rfl⟩
              obtain ⟨w_26,hWn⟩:∃ Wn,Wn=w_10.alloc (.cells #[.int .i64 0,.slice none 0 0] 50):=⟨_,rfl⟩
              have gk:Kb 0 w_10 w_26:=by rw [hWn];exact kb_alloc _ _ _
              have hz_28:w2.heap.size≤Z_27:=by rw [hZ];exact (show Kb 0 w2 w_10 from K_11).size
              have K_29:Hid (Kb 0 w2 w_26):=Kb.trans K_11 gk
              have S_30:=HSX w_26 K_29
              have R_31:Hid (w_26.heap[Z_27]? = some (.cells #[.int .i64 0,.slice none 0 0] 50 (0,0))∧w2.heap.size≤Z_27):=(⟨by rw [hWn,hZ];exact alloc_new _ _ _,hz_28⟩:_∧_)
              have hWd:w_10.alloc (.cells #[.int .i64 0,.slice none 0 0] 50)=w_26:=hWn.symm
              have hZd:w_10.heap.size=Z_27:=hZ.symm
              try simp only [hWd]
              try rw [hWd]
              try rw [hZd]
              clear hWn hZ hWd hZd hz_28
              clear gk
              refine hK.out _ _ (fun _=>S_30) ?_
              clear hK K
              try simp only [Act.put,List.setIfInBounds_toArray,List.set_cons_zero,List.set_cons_succ]
              refine AnyL.oneAt 8 rfl (by kernel_rfl) rfl ?_
              intro K hK
              go_simp
              obtain ⟨Z_33,hZ⟩:∃ Z,Z=w_26.heap.size:=⟨_,rfl⟩
              obtain ⟨w_32,hWn⟩:∃ Wn,Wn=w_26.alloc (.cells #[.int .i64 1,.int .i64 p,.string ⟨#[]⟩,.int .i64 0,.int .i64 1,.int .i64 q,.string ⟨#[]⟩,.int .i64 0,.int .i64 4,.int .i64 0,.string ⟨#[]⟩,.int .i64 1,.int .i64 4,.int .i64 0,.string ⟨#[]⟩,.int .i64 2] 41):=⟨_,rfl⟩
              have gk:Kb 0 w_26 w_32:=by rw [hWn];exact kb_alloc _ _ _
              have hz_34:w2.heap.size≤Z_33:=by rw [hZ];exact (show Kb 0 w2 w_26 from K_29).size
              have K_35:Hid (Kb 0 w2 w_32):=Kb.trans K_29 gk
              have S_36:=HSX w_32 K_35
              have R_37:Hid (w_32.heap[Z_27]? = some (.cells #[.int .i64 0,.slice none 0 0] 50 (0,0))∧w2.heap.size≤Z_27):=(⟨blk_kb (show _∧_ from R_31).1 gk,(show _∧_ from R_31).2⟩:_∧_)
              have O_38:Hid (w_32.ownsRow w2.heap.size 41 4 (.slice (some ⟨Z_33,0,none⟩) 4 4) 4 (vls (rtT p q).C 4)):=(by rw [hWn,hZ];exact own_new _ _ _ _ _ _ (by rw [← hZ];exact hz_34) (by omega) rfl rfl:w_32.ownsRow _ _ _ _ _ _)
              have hWd:w_26.alloc (.cells #[.int .i64 1,.int .i64 p,.string ⟨#[]⟩,.int .i64 0,.int .i64 1,.int .i64 q,.string ⟨#[]⟩,.int .i64 0,.int .i64 4,.int .i64 0,.string ⟨#[]⟩,.int .i64 1,.int .i64 4,.int .i64 0,.string ⟨#[]⟩,.int .i64 2] 41)=w_32:=hWn.symm
              have hZd:w_26.heap.size=Z_33:=hZ.symm
              try simp only [hWd]
              try rw [hWd]
              try rw [hZd]
              clear hWn hZ hWd hZd hz_34
              clear gk
              refine hK.out _ _ (fun _=>S_36) ?_
              clear hK K
              try simp only [Act.put,List.setIfInBounds_toArray,List.set_cons_zero,List.set_cons_succ]
              refine AnyL.takeAt 9 (.agg #[.int .i64 1,.slice (some ⟨Z_33,0,none⟩) 4 4]) rfl (by kernel_rfl) (by kernel_rfl) (by kernel_rfl) (by kernel_rfl) (fun _ _ _ h=>h) rfl S_36 (by intro W hW;go_simp) ?_
              try simp only [Act.put,List.setIfInBounds_toArray,List.set_cons_zero,List.set_cons_succ]
              have r0:w_32.cell? ⟨Z_27,0,none⟩=some (.int .i64 0):=cell_of (show _∧_ from R_37).1 rfl
              have r1:w_32.cell? ⟨Z_27,1,none⟩=some (.slice none 0 0):=cell_of (show _∧_ from R_37).1 rfl
              have rz:∀ j,w_32.frozen? ⟨Z_27,j,none⟩=false:=fun j=>frozen_of (show _∧_ from R_37).1
              refine AnyL.oneAt 11 rfl (by kernel_rfl) rfl ?_
              intro K hK
              go_simp
              refine hK.out _ _ (fun h=>absurd rfl h) ?_
              clear hK K
              refine AnyL.done (by kernel_rfl) ?_
              have HV:Hid (RtB w2 (s2 w_32 Z_27 1 (.slice (some ⟨Z_33,0,none⟩) 4 4)) Z_27 1 (vls (rtT p q).C 4)):=rtb_of K_35 O_38 (show _∧_ from R_37).1 (show _∧_ from R_37).2
              obtain ⟨WF,hWF⟩:∃ WF,WF=s2 w_32 Z_27 1 (.slice (some ⟨Z_33,0,none⟩) 4 4):=⟨_,rfl⟩
              rw [← hWF] at HV
              unfold s2 at hWF
              rw [← hWF]
              clear hWF r0 r1 rz
              go_wp2_with fail
              go_meet
              exact ⟨Z_27,rfl,HV⟩
          · intro K hK
            go_simp
            obtain ⟨Z_40,hZ⟩:∃ Z,Z=w_7.heap.size:=⟨_,rfl⟩
            obtain ⟨w_39,hWn⟩:∃ Wn,Wn=w_7.alloc (.cells #[.int .i64 0,.slice none 0 0] 50):=⟨_,rfl⟩
            have gk:Kb 0 w_7 w_39:=by rw [hWn];exact kb_alloc _ _ _
            have hz_41:w2.heap.size≤Z_40:=by rw [hZ];exact (show Kb 0 w2 w_7 from K_8).size
            have K_42:Hid (Kb 0 w2 w_39):=Kb.trans K_8 gk
            have S_43:=HSX w_39 K_42
            have R_44:Hid (w_39.heap[Z_40]? = some (.cells #[.int .i64 0,.slice none 0 0] 50 (0,0))∧w2.heap.size≤Z_40):=(⟨by rw [hWn,hZ];exact alloc_new _ _ _,hz_41⟩:_∧_)
            have hWd:w_7.alloc (.cells #[.int .i64 0,.slice none 0 0] 50)=w_39:=hWn.symm
            have hZd:w_7.heap.size=Z_40:=hZ.symm
            try simp only [hWd]
            try rw [hWd]
            try rw [hZd]
            clear hWn hZ hWd hZd hz_41
            clear gk
            refine hK.out _ _ (fun _=>S_43) ?_
            clear hK K
            try simp only [Act.put,List.setIfInBounds_toArray,List.set_cons_zero,List.set_cons_succ]
            refine AnyL.oneAt 7 rfl (by kernel_rfl) rfl ?_
            intro K hK
            go_simp
            refine (im_node 2 w_39).mono ?_
            rintro e w_45 ⟨rfl,gk⟩
            have K_46:Hid (Kb 0 w2 w_45):=Kb.trans K_42 gk
            have S_47:=HSX w_45 K_46
            have R_48:Hid (w_45.heap[Z_40]? = some (.cells #[.int .i64 0,.slice none 0 0] 50 (0,0))∧w2.heap.size≤Z_40):=(⟨blk_kb (show _∧_ from R_44).1 gk,(show _∧_ from R_44).2⟩:_∧_)
            clear gk
            refine hK.out _ _ (fun _=>S_47) ?_
            clear hK K
            try simp only [Act.put,List.setIfInBounds_toArray,List.set_cons_zero,List.set_cons_succ]
            refine AnyL.oneAt 8 rfl (by kernel_rfl) rfl ?_
            intro K hK
            go_simp
            obtain ⟨Z_50,hZ⟩:∃ Z,Z=w_45.heap.size:=⟨_,rfl⟩
            obtain ⟨w_49,hWn⟩:∃ Wn,Wn=w_45.alloc (.cells #[.int .i64 1,.int .i64 p,.string ⟨#[]⟩,.int .i64 0,.int .i64 1,.int .i64 q,.string ⟨#[]⟩,.int .i64 0,.int .i64 4,.int .i64 0,.string ⟨#[]⟩,.int .i64 1,.int .i64 4,.int .i64 0,.string ⟨#[]⟩,.int .i64 2] 41):=⟨_,rfl⟩
            have gk:Kb 0 w_45 w_49:=by rw [hWn];exact kb_alloc _ _ _
            have hz_51:w2.heap.size≤Z_50:=by rw [hZ];exact (show Kb 0 w2 w_45 from K_46).size
            have K_52:Hid (Kb 0 w2 w_49):=Kb.trans K_46 gk
            have S_53:=HSX w_49 K_52
            have R_54:Hid (w_49.heap[Z_40]? = some (.cells #[.int .i64 0,.slice none 0 0] 50 (0,0))∧w2.heap.size≤Z_40):=(⟨blk_kb (show _∧_ from R_48).1 gk,(show _∧_ from R_48).2⟩:_∧_)
            have O_55:Hid (w_49.ownsRow w2.heap.size 41 4 (.slice (some ⟨Z_50,0,none⟩) 4 4) 4 (vls (rtT p q).C 4)):=(by rw [hWn,hZ];exact own_new _ _ _ _ _ _ (by rw [← hZ];exact hz_51) (by omega) rfl rfl:w_49.ownsRow _ _ _ _ _ _)
            have hWd:w_45.alloc (.cells #[.int .i64 1,.int .i64 p,.string ⟨#[]⟩,.int .i64 0,.int .i64 1,.int .i64 q,.string ⟨#[]⟩,.int .i64 0,.int .i64 4,.int .i64 0,.string ⟨#[]⟩,.int .i64 1,.int .i64 4,.int .i64 0,.string ⟨#[]⟩,.int .i64 2] 41)=w_49:=hWn.symm
            have hZd:w_45.heap.size=Z_50:=hZ.symm
            try simp only [hWd]
            try rw [hWd]
            try rw [hZd]
            clear hWn hZ hWd hZd hz_51
            clear gk
            refine hK.out _ _ (fun _=>S_53) ?_
            clear hK K
            try simp only [Act.put,List.setIfInBounds_toArray,List.set_cons_zero,List.set_cons_succ]
            refine AnyL.takeAt 9 (.agg #[.int .i64 1,.slice (some ⟨Z_50,0,none⟩) 4 4]) rfl (by kernel_rfl) (by kernel_rfl) (by kernel_rfl) (by kernel_rfl) (fun _ _ _ h=>h) rfl S_53 (by intro W hW;go_simp) ?_
            try simp only [Act.put,List.setIfInBounds_toArray,List.set_cons_zero,List.set_cons_succ]
            have r0:w_49.cell? ⟨Z_40,0,none⟩=some (.int .i64 0):=cell_of (show _∧_ from R_54).1 rfl
            have r1:w_49.cell? ⟨Z_40,1,none⟩=some (.slice none 0 0):=cell_of (show _∧_ from R_54).1 rfl
            have rz:∀ j,w_49.frozen? ⟨Z_40,j,none⟩=false:=fun j=>frozen_of (show _∧_ from R_54).1
            refine AnyL.oneAt 11 rfl (by kernel_rfl) rfl ?_
            intro K hK
            go_simp
            refine hK.out _ _ (fun h=>absurd rfl h) ?_
            clear hK K
            refine AnyL.done (by kernel_rfl) ?_
            have HV:Hid (RtB w2 (s2 w_49 Z_40 1 (.slice (some ⟨Z_50,0,none⟩) 4 4)) Z_40 1 (vls (rtT p q).C 4)):=rtb_of K_52 O_55 (show _∧_ from R_54).1 (show _∧_ from R_54).2
            obtain ⟨WF,hWF⟩:∃ WF,WF=s2 w_49 Z_40 1 (.slice (some ⟨Z_50,0,none⟩) 4 4):=⟨_,rfl⟩
            rw [← hWF] at HV
            unfold s2 at hWF
            rw [← hWF]
            clear hWF r0 r1 rz
            go_wp2_with fail
            go_meet
            exact ⟨Z_40,rfl,HV⟩
        · intro K hK
          go_simp
          obtain ⟨Z_57,hZ⟩:∃ Z,Z=w_4.heap.size:=⟨_,rfl⟩
          obtain ⟨w_56,hWn⟩:∃ Wn,Wn=w_4.alloc (.cells #[.int .i64 0,.slice none 0 0] 50):=⟨_,rfl⟩
          have gk:Kb 0 w_4 w_56:=by rw [hWn];exact kb_alloc _ _ _
          have hz_58:w2.heap.size≤Z_57:=by rw [hZ];exact (show Kb 0 w2 w_4 from K_5).size
          have K_59:Hid (Kb 0 w2 w_56):=Kb.trans K_5 gk
          have S_60:=HSX w_56 K_59
          have R_61:Hid (w_56.heap[Z_57]? = some (.cells #[.int .i64 0,.slice none 0 0] 50 (0,0))∧w2.heap.size≤Z_57):=(⟨by rw [hWn,hZ];exact alloc_new _ _ _,hz_58⟩:_∧_)
          have hWd:w_4.alloc (.cells #[.int .i64 0,.slice none 0 0] 50)=w_56:=hWn.symm
          have hZd:w_4.heap.size=Z_57:=hZ.symm
          try simp only [hWd]
          try rw [hWd]
          try rw [hZd]
          clear hWn hZ hWd hZd hz_58
          clear gk
          refine hK.out _ _ (fun _=>S_60) ?_
          clear hK K
          try simp only [Act.put,List.setIfInBounds_toArray,List.set_cons_zero,List.set_cons_succ]
          refine AnyL.oneAt 6 rfl (by kernel_rfl) rfl ?_
          intro K hK
          go_simp
          refine (im_node 1 w_56).mono ?_
          rintro e w_62 ⟨rfl,gk⟩
          have K_63:Hid (Kb 0 w2 w_62):=Kb.trans K_59 gk
          have S_64:=HSX w_62 K_63
          have R_65:Hid (w_62.heap[Z_57]? = some (.cells #[.int .i64 0,.slice none 0 0] 50 (0,0))∧w2.heap.size≤Z_57):=(⟨blk_kb (show _∧_ from R_61).1 gk,(show _∧_ from R_61).2⟩:_∧_)
          clear gk
          refine hK.out _ _ (fun _=>S_64) ?_
          clear hK K
          try simp only [Act.put,List.setIfInBounds_toArray,List.set_cons_zero,List.set_cons_succ]
          refine AnyL.oneAt 7 rfl (by kernel_rfl) rfl ?_
          intro K hK
          go_simp
          refine (im_node 2 w_62).mono ?_
          rintro e w_66 ⟨rfl,gk⟩
          have K_67:Hid (Kb 0 w2 w_66):=Kb.trans K_63 gk
          have S_68:=HSX w_66 K_67
          have R_69:Hid (w_66.heap[Z_57]? = some (.cells #[.int .i64 0,.slice none 0 0] 50 (0,0))∧w2.heap.size≤Z_57):=(⟨blk_kb (show _∧_ from R_65).1 gk,(show _∧_ from R_65).2⟩:_∧_)
          clear gk
          refine hK.out _ _ (fun _=>S_68) ?_
          clear hK K
          try simp only [Act.put,List.setIfInBounds_toArray,List.set_cons_zero,List.set_cons_succ]
          refine AnyL.oneAt 8 rfl (by kernel_rfl) rfl ?_
          intro K hK
          go_simp
          obtain ⟨Z_71,hZ⟩:∃ Z,Z=w_66.heap.size:=⟨_,rfl⟩
          obtain ⟨w_70,hWn⟩:∃ Wn,Wn=w_66.alloc (.cells #[.int .i64 1,.int .i64 p,.string ⟨#[]⟩,.int .i64 0,.int .i64 1,.int .i64 q,.string ⟨#[]⟩,.int .i64 0,.int .i64 4,.int .i64 0,.string ⟨#[]⟩,.int .i64 1,.int .i64 4,.int .i64 0,.string ⟨#[]⟩,.int .i64 2] 41):=⟨_,rfl⟩
          have gk:Kb 0 w_66 w_70:=by rw [hWn];exact kb_alloc _ _ _
          have hz_72:w2.heap.size≤Z_71:=by rw [hZ];exact (show Kb 0 w2 w_66 from K_67).size
          have K_73:Hid (Kb 0 w2 w_70):=Kb.trans K_67 gk
          have S_74:=HSX w_70 K_73
          have R_75:Hid (w_70.heap[Z_57]? = some (.cells #[.int .i64 0,.slice none 0 0] 50 (0,0))∧w2.heap.size≤Z_57):=(⟨blk_kb (show _∧_ from R_69).1 gk,(show _∧_ from R_69).2⟩:_∧_)
          have O_76:Hid (w_70.ownsRow w2.heap.size 41 4 (.slice (some ⟨Z_71,0,none⟩) 4 4) 4 (vls (rtT p q).C 4)):=(by rw [hWn,hZ];exact own_new _ _ _ _ _ _ (by rw [← hZ];exact hz_72) (by omega) rfl rfl:w_70.ownsRow _ _ _ _ _ _)
          have hWd:w_66.alloc (.cells #[.int .i64 1,.int .i64 p,.string ⟨#[]⟩,.int .i64 0,.int .i64 1,.int .i64 q,.string ⟨#[]⟩,.int .i64 0,.int .i64 4,.int .i64 0,.string ⟨#[]⟩,.int .i64 1,.int .i64 4,.int .i64 0,.string ⟨#[]⟩,.int .i64 2] 41)=w_70:=hWn.symm
          have hZd:w_66.heap.size=Z_71:=hZ.symm
          try simp only [hWd]
          try rw [hWd]
          try rw [hZd]
          clear hWn hZ hWd hZd hz_72
          clear gk
          refine hK.out _ _ (fun _=>S_74) ?_
          clear hK K
          try simp only [Act.put,List.setIfInBounds_toArray,List.set_cons_zero,List.set_cons_succ]
          refine AnyL.takeAt 9 (.agg #[.int .i64 1,.slice (some ⟨Z_71,0,none⟩) 4 4]) rfl (by kernel_rfl) (by kernel_rfl) (by kernel_rfl) (by kernel_rfl) (fun _ _ _ h=>h) rfl S_74 (by intro W hW;go_simp) ?_
          try simp only [Act.put,List.setIfInBounds_toArray,List.set_cons_zero,List.set_cons_succ]
          have r0:w_70.cell? ⟨Z_57,0,none⟩=some (.int .i64 0):=cell_of (show _∧_ from R_75).1 rfl
          have r1:w_70.cell? ⟨Z_57,1,none⟩=some (.slice none 0 0):=cell_of (show _∧_ from R_75).1 rfl
          have rz:∀ j,w_70.frozen? ⟨Z_57,j,none⟩=false:=fun j=>frozen_of (show _∧_ from R_75).1
          refine AnyL.oneAt 11 rfl (by kernel_rfl) rfl ?_
          intro K hK
          go_simp
          refine hK.out _ _ (fun h=>absurd rfl h) ?_
          clear hK K
          refine AnyL.done (by kernel_rfl) ?_
          have HV:Hid (RtB w2 (s2 w_70 Z_57 1 (.slice (some ⟨Z_71,0,none⟩) 4 4)) Z_57 1 (vls (rtT p q).C 4)):=rtb_of K_73 O_76 (show _∧_ from R_75).1 (show _∧_ from R_75).2
          obtain ⟨WF,hWF⟩:∃ WF,WF=s2 w_70 Z_57 1 (.slice (some ⟨Z_71,0,none⟩) 4 4):=⟨_,rfl⟩
          rw [← hWF] at HV
          unfold s2 at hWF
          rw [← hWF]
          clear hWF r0 r1 rz
          go_wp2_with fail
          go_meet
          exact ⟨Z_57,rfl,HV⟩
      · intro K hK
        go_simp
        obtain ⟨Z_78,hZ⟩:∃ Z,Z=w_1.heap.size:=⟨_,rfl⟩
        obtain ⟨w_77,hWn⟩:∃ Wn,Wn=w_1.alloc (.cells #[.int .i64 0,.slice none 0 0] 50):=⟨_,rfl⟩
        have gk:Kb 0 w_1 w_77:=by rw [hWn];exact kb_alloc _ _ _
        have hz_79:w2.heap.size≤Z_78:=by rw [hZ];exact (show Kb 0 w2 w_1 from K_2).size
        have K_80:Hid (Kb 0 w2 w_77):=Kb.trans K_2 gk
        have S_81:=HSX w_77 K_80
        have R_82:Hid (w_77.heap[Z_78]? = some (.cells #[.int .i64 0,.slice none 0 0] 50 (0,0))∧w2.heap.size≤Z_78):=(⟨by rw [hWn,hZ];exact alloc_new _ _ _,hz_79⟩:_∧_)
        have hWd:w_1.alloc (.cells #[.int .i64 0,.slice none 0 0] 50)=w_77:=hWn.symm
        have hZd:w_1.heap.size=Z_78:=hZ.symm
        try simp only [hWd]
        try rw [hWd]
        try rw [hZd]
        clear hWn hZ hWd hZd hz_79
        clear gk
        refine hK.out _ _ (fun _=>S_81) ?_
        clear hK K
        try simp only [Act.put,List.setIfInBounds_toArray,List.set_cons_zero,List.set_cons_succ]
        refine AnyL.oneAt 5 rfl (by kernel_rfl) rfl ?_
        intro K hK
        go_simp
        refine (im_num q w_77).mono ?_
        rintro e w_83 ⟨rfl,gk⟩
        have K_84:Hid (Kb 0 w2 w_83):=Kb.trans K_80 gk
        have S_85:=HSX w_83 K_84
        have R_86:Hid (w_83.heap[Z_78]? = some (.cells #[.int .i64 0,.slice none 0 0] 50 (0,0))∧w2.heap.size≤Z_78):=(⟨blk_kb (show _∧_ from R_82).1 gk,(show _∧_ from R_82).2⟩:_∧_)
        clear gk
        refine hK.out _ _ (fun _=>S_85) ?_
        clear hK K
        try simp only [Act.put,List.setIfInBounds_toArray,List.set_cons_zero,List.set_cons_succ]
        refine AnyL.oneAt 6 rfl (by kernel_rfl) rfl ?_
        intro K hK
        go_simp
        refine (im_node 1 w_83).mono ?_
        rintro e w_87 ⟨rfl,gk⟩
        have K_88:Hid (Kb 0 w2 w_87):=Kb.trans K_84 gk
        have S_89:=HSX w_87 K_88
        have R_90:Hid (w_87.heap[Z_78]? = some (.cells #[.int .i64 0,.slice none 0 0] 50 (0,0))∧w2.heap.size≤Z_78):=(⟨blk_kb (show _∧_ from R_86).1 gk,(show _∧_ from R_86).2⟩:_∧_)
        clear gk
        refine hK.out _ _ (fun _=>S_89) ?_
        clear hK K
        try simp only [Act.put,List.setIfInBounds_toArray,List.set_cons_zero,List.set_cons_succ]
        refine AnyL.oneAt 7 rfl (by kernel_rfl) rfl ?_
        intro K hK
        go_simp
        refine (im_node 2 w_87).mono ?_
        rintro e w_91 ⟨rfl,gk⟩
        have K_92:Hid (Kb 0 w2 w_91):=Kb.trans K_88 gk
        have S_93:=HSX w_91 K_92
        have R_94:Hid (w_91.heap[Z_78]? = some (.cells #[.int .i64 0,.slice none 0 0] 50 (0,0))∧w2.heap.size≤Z_78):=(⟨blk_kb (show _∧_ from R_90).1 gk,(show _∧_ from R_90).2⟩:_∧_)
        clear gk
        refine hK.out _ _ (fun _=>S_93) ?_
        clear hK K
        try simp only [Act.put,List.setIfInBounds_toArray,List.set_cons_zero,List.set_cons_succ]
        refine AnyL.oneAt 8 rfl (by kernel_rfl) rfl ?_
        intro K hK
        go_simp
        obtain ⟨Z_96,hZ⟩:∃ Z,Z=w_91.heap.size:=⟨_,rfl⟩
        obtain ⟨w_95,hWn⟩:∃ Wn,Wn=w_91.alloc (.cells #[.int .i64 1,.int .i64 p,.string ⟨#[]⟩,.int .i64 0,.int .i64 1,.int .i64 q,.string ⟨#[]⟩,.int .i64 0,.int .i64 4,.int .i64 0,.string ⟨#[]⟩,.int .i64 1,.int .i64 4,.int .i64 0,.string ⟨#[]⟩,.int .i64 2] 41):=⟨_,rfl⟩
        have gk:Kb 0 w_91 w_95:=by rw [hWn];exact kb_alloc _ _ _
        have hz_97:w2.heap.size≤Z_96:=by rw [hZ];exact (show Kb 0 w2 w_91 from K_92).size
        have K_98:Hid (Kb 0 w2 w_95):=Kb.trans K_92 gk
        have S_99:=HSX w_95 K_98
        have R_100:Hid (w_95.heap[Z_78]? = some (.cells #[.int .i64 0,.slice none 0 0] 50 (0,0))∧w2.heap.size≤Z_78):=(⟨blk_kb (show _∧_ from R_94).1 gk,(show _∧_ from R_94).2⟩:_∧_)
        have O_101:Hid (w_95.ownsRow w2.heap.size 41 4 (.slice (some ⟨Z_96,0,none⟩) 4 4) 4 (vls (rtT p q).C 4)):=(by rw [hWn,hZ];exact own_new _ _ _ _ _ _ (by rw [← hZ];exact hz_97) (by omega) rfl rfl:w_95.ownsRow _ _ _ _ _ _)
        have hWd:w_91.alloc (.cells #[.int .i64 1,.int .i64 p,.string ⟨#[]⟩,.int .i64 0,.int .i64 1,.int .i64 q,.string ⟨#[]⟩,.int .i64 0,.int .i64 4,.int .i64 0,.string ⟨#[]⟩,.int .i64 1,.int .i64 4,.int .i64 0,.string ⟨#[]⟩,.int .i64 2] 41)=w_95:=hWn.symm
        have hZd:w_91.heap.size=Z_96:=hZ.symm
        try simp only [hWd]
        try rw [hWd]
        try rw [hZd]
        clear hWn hZ hWd hZd hz_97
        clear gk
        refine hK.out _ _ (fun _=>S_99) ?_
        clear hK K
        try simp only [Act.put,List.setIfInBounds_toArray,List.set_cons_zero,List.set_cons_succ]
        refine AnyL.takeAt 9 (.agg #[.int .i64 1,.slice (some ⟨Z_96,0,none⟩) 4 4]) rfl (by kernel_rfl) (by kernel_rfl) (by kernel_rfl) (by kernel_rfl) (fun _ _ _ h=>h) rfl S_99 (by intro W hW;go_simp) ?_
        try simp only [Act.put,List.setIfInBounds_toArray,List.set_cons_zero,List.set_cons_succ]
        have r0:w_95.cell? ⟨Z_78,0,none⟩=some (.int .i64 0):=cell_of (show _∧_ from R_100).1 rfl
        have r1:w_95.cell? ⟨Z_78,1,none⟩=some (.slice none 0 0):=cell_of (show _∧_ from R_100).1 rfl
        have rz:∀ j,w_95.frozen? ⟨Z_78,j,none⟩=false:=fun j=>frozen_of (show _∧_ from R_100).1
        refine AnyL.oneAt 11 rfl (by kernel_rfl) rfl ?_
        intro K hK
        go_simp
        refine hK.out _ _ (fun h=>absurd rfl h) ?_
        clear hK K
        refine AnyL.done (by kernel_rfl) ?_
        have HV:Hid (RtB w2 (s2 w_95 Z_78 1 (.slice (some ⟨Z_96,0,none⟩) 4 4)) Z_78 1 (vls (rtT p q).C 4)):=rtb_of K_98 O_101 (show _∧_ from R_100).1 (show _∧_ from R_100).2
        obtain ⟨WF,hWF⟩:∃ WF,WF=s2 w_95 Z_78 1 (.slice (some ⟨Z_96,0,none⟩) 4 4):=⟨_,rfl⟩
        rw [← hWF] at HV
        unfold s2 at hWF
        rw [← hWF]
        clear hWF r0 r1 rz
        go_wp2_with fail
        go_meet
        exact ⟨Z_78,rfl,HV⟩
    · intro K hK
      go_simp
      obtain ⟨Z_103,hZ⟩:∃ Z,Z=VD.heap.size:=⟨_,rfl⟩
      obtain ⟨w_102,hWn⟩:∃ Wn,Wn=VD.alloc (.cells #[.int .i64 0,.slice none 0 0] 50):=⟨_,rfl⟩
      have gk:Kb 0 VD w_102:=by rw [hWn];exact kb_alloc _ _ _
      have hz_104:w2.heap.size≤Z_103:=by rw [hZ];exact (show Kb 0 w2 VD from KD).size
      have K_105:Hid (Kb 0 w2 w_102):=Kb.trans KD gk
      have S_106:=HSX w_102 K_105
      have R_107:Hid (w_102.heap[Z_103]? = some (.cells #[.int .i64 0,.slice none 0 0] 50 (0,0))∧w2.heap.size≤Z_103):=(⟨by rw [hWn,hZ];exact alloc_new _ _ _,hz_104⟩:_∧_)
      have hWd:VD.alloc (.cells #[.int .i64 0,.slice none 0 0] 50)=w_102:=hWn.symm
      have hZd:VD.heap.size=Z_103:=hZ.symm
      try simp only [hWd]
      try rw [hWd]
      try rw [hZd]
      clear hWn hZ hWd hZd hz_104
      clear gk
      refine hK.out _ _ (fun _=>S_106) ?_
      clear hK K
      try simp only [Act.put,List.setIfInBounds_toArray,List.set_cons_zero,List.set_cons_succ]
      refine AnyL.oneAt 2 rfl (by kernel_rfl) rfl ?_
      intro K hK
      go_simp
      refine (im_num p w_102).mono ?_
      rintro e w_108 ⟨rfl,gk⟩
      have K_109:Hid (Kb 0 w2 w_108):=Kb.trans K_105 gk
      have S_110:=HSX w_108 K_109
      have R_111:Hid (w_108.heap[Z_103]? = some (.cells #[.int .i64 0,.slice none 0 0] 50 (0,0))∧w2.heap.size≤Z_103):=(⟨blk_kb (show _∧_ from R_107).1 gk,(show _∧_ from R_107).2⟩:_∧_)
      clear gk
      refine hK.out _ _ (fun _=>S_110) ?_
      clear hK K
      try simp only [Act.put,List.setIfInBounds_toArray,List.set_cons_zero,List.set_cons_succ]
      refine AnyL.oneAt 5 rfl (by kernel_rfl) rfl ?_
      intro K hK
      go_simp
      refine (im_num q w_108).mono ?_
      rintro e w_112 ⟨rfl,gk⟩
      have K_113:Hid (Kb 0 w2 w_112):=Kb.trans K_109 gk
      have S_114:=HSX w_112 K_113
      have R_115:Hid (w_112.heap[Z_103]? = some (.cells #[.int .i64 0,.slice none 0 0] 50 (0,0))∧w2.heap.size≤Z_103):=(⟨blk_kb (show _∧_ from R_111).1 gk,(show _∧_ from R_111).2⟩:_∧_)
      clear gk
      refine hK.out _ _ (fun _=>S_114) ?_
      clear hK K
      try simp only [Act.put,List.setIfInBounds_toArray,List.set_cons_zero,List.set_cons_succ]
      refine AnyL.oneAt 6 rfl (by kernel_rfl) rfl ?_
      intro K hK
      go_simp
      refine (im_node 1 w_112).mono ?_
      rintro e w_116 ⟨rfl,gk⟩
      have K_117:Hid (Kb 0 w2 w_116):=Kb.trans K_113 gk
      have S_118:=HSX w_116 K_117
      have R_119:Hid (w_116.heap[Z_103]? = some (.cells #[.int .i64 0,.slice none 0 0] 50 (0,0))∧w2.heap.size≤Z_103):=(⟨blk_kb (show _∧_ from R_115).1 gk,(show _∧_ from R_115).2⟩:_∧_)
      clear gk
      refine hK.out _ _ (fun _=>S_118) ?_
      clear hK K
      try simp only [Act.put,List.setIfInBounds_toArray,List.set_cons_zero,List.set_cons_succ]
      refine AnyL.oneAt 7 rfl (by kernel_rfl) rfl ?_
      intro K hK
      go_simp
      refine (im_node 2 w_116).mono ?_
      rintro e w_120 ⟨rfl,gk⟩
      have K_121:Hid (Kb 0 w2 w_120):=Kb.trans K_117 gk
      have S_122:=HSX w_120 K_121
      have R_123:Hid (w_120.heap[Z_103]? = some (.cells #[.int .i64 0,.slice none 0 0] 50 (0,0))∧w2.heap.size≤Z_103):=(⟨blk_kb (show _∧_ from R_119).1 gk,(show _∧_ from R_119).2⟩:_∧_)
      clear gk
      refine hK.out _ _ (fun _=>S_122) ?_
      clear hK K
      try simp only [Act.put,List.setIfInBounds_toArray,List.set_cons_zero,List.set_cons_succ]
      refine AnyL.oneAt 8 rfl (by kernel_rfl) rfl ?_
      intro K hK
      go_simp
      obtain ⟨Z_125,hZ⟩:∃ Z,Z=w_120.heap.size:=⟨_,rfl⟩
      obtain ⟨w_124,hWn⟩:∃ Wn,Wn=w_120.alloc (.cells #[.int .i64 1,.int .i64 p,.string ⟨#[]⟩,.int .i64 0,.int .i64 1,.int .i64 q,.string ⟨#[]⟩,.int .i64 0,.int .i64 4,.int .i64 0,.string ⟨#[]⟩,.int .i64 1,.int .i64 4,.int .i64 0,.string ⟨#[]⟩,.int .i64 2] 41):=⟨_,rfl⟩
      have gk:Kb 0 w_120 w_124:=by rw [hWn];exact kb_alloc _ _ _
      have hz_126:w2.heap.size≤Z_125:=by rw [hZ];exact (show Kb 0 w2 w_120 from K_121).size
      have K_127:Hid (Kb 0 w2 w_124):=Kb.trans K_121 gk
      have S_128:=HSX w_124 K_127
      have R_129:Hid (w_124.heap[Z_103]? = some (.cells #[.int .i64 0,.slice none 0 0] 50 (0,0))∧w2.heap.size≤Z_103):=(⟨blk_kb (show _∧_ from R_123).1 gk,(show _∧_ from R_123).2⟩:_∧_)
      have O_130:Hid (w_124.ownsRow w2.heap.size 41 4 (.slice (some ⟨Z_125,0,none⟩) 4 4) 4 (vls (rtT p q).C 4)):=(by rw [hWn,hZ];exact own_new _ _ _ _ _ _ (by rw [← hZ];exact hz_126) (by omega) rfl rfl:w_124.ownsRow _ _ _ _ _ _)
      have hWd:w_120.alloc (.cells #[.int .i64 1,.int .i64 p,.string ⟨#[]⟩,.int .i64 0,.int .i64 1,.int .i64 q,.string ⟨#[]⟩,.int .i64 0,.int .i64 4,.int .i64 0,.string ⟨#[]⟩,.int .i64 1,.int .i64 4,.int .i64 0,.string ⟨#[]⟩,.int .i64 2] 41)=w_124:=hWn.symm
      have hZd:w_120.heap.size=Z_125:=hZ.symm
      try simp only [hWd]
      try rw [hWd]
      try rw [hZd]
      clear hWn hZ hWd hZd hz_126
      clear gk
      refine hK.out _ _ (fun _=>S_128) ?_
      clear hK K
      try simp only [Act.put,List.setIfInBounds_toArray,List.set_cons_zero,List.set_cons_succ]
      refine AnyL.takeAt 9 (.agg #[.int .i64 1,.slice (some ⟨Z_125,0,none⟩) 4 4]) rfl (by kernel_rfl) (by kernel_rfl) (by kernel_rfl) (by kernel_rfl) (fun _ _ _ h=>h) rfl S_128 (by intro W hW;go_simp) ?_
      try simp only [Act.put,List.setIfInBounds_toArray,List.set_cons_zero,List.set_cons_succ]
      have r0:w_124.cell? ⟨Z_103,0,none⟩=some (.int .i64 0):=cell_of (show _∧_ from R_129).1 rfl
      have r1:w_124.cell? ⟨Z_103,1,none⟩=some (.slice none 0 0):=cell_of (show _∧_ from R_129).1 rfl
      have rz:∀ j,w_124.frozen? ⟨Z_103,j,none⟩=false:=fun j=>frozen_of (show _∧_ from R_129).1
      refine AnyL.oneAt 11 rfl (by kernel_rfl) rfl ?_
      intro K hK
      go_simp
      refine hK.out _ _ (fun h=>absurd rfl h) ?_
      clear hK K
      refine AnyL.done (by kernel_rfl) ?_
      have HV:Hid (RtB w2 (s2 w_124 Z_103 1 (.slice (some ⟨Z_125,0,none⟩) 4 4)) Z_103 1 (vls (rtT p q).C 4)):=rtb_of K_127 O_130 (show _∧_ from R_129).1 (show _∧_ from R_129).2
      obtain ⟨WF,hWF⟩:∃ WF,WF=s2 w_124 Z_103 1 (.slice (some ⟨Z_125,0,none⟩) 4 4):=⟨_,rfl⟩
      rw [← hWF] at HV
      unfold s2 at hWF
      rw [← hWF]
      clear hWF r0 r1 rz
      go_wp2_with fail
      go_meet
      exact ⟨Z_103,rfl,HV⟩
  case rest =>
  obtain ⟨Z,rfl,HR⟩:=hcut
  clear HSX hRL
  obtain ⟨w4,hw4⟩:∃ w4,w4=(wc.alloc (.cells #[.int .i64 2,.slice none 0 0] 50)).alloc (.cells #[.int .i64 3,.slice none 0 0] 50):=⟨_,rfl⟩
  obtain ⟨L,hL⟩:∃ L,L=wc.heap.size:=⟨_,rfl⟩
  have k4:Kb 0 wc w4:=by rw [hw4];exact kb_alloc2 _ _ _ _
  have z4:w4.heap.size=L+2:=by rw [hw4,hL];simp
  have b4:w4.heap[L]? = some (.cells #[.int .i64 2,.slice none 0 0] 50 (0,0)):=by
    rw [hw4,hL,(kb_alloc 0 _ _).block _ (Nat.zero_le _) (by rw [World.size_alloc];omega)]
    exact alloc_new _ _ _
  have b5:w4.heap[L+1]? = some (.cells #[.int .i64 3,.slice none 0 0] 50 (0,0)):=by
    have e:(wc.alloc (.cells #[.int .i64 2,.slice none 0 0] 50)).heap.size=L+1:=by rw [World.size_alloc,hL]
    rw [hw4,← e]
    exact alloc_new _ _ _
  obtain ⟨hl,hs,k2,z2,b0,b1⟩:=(show RowV w (.slice p1 n c1) n (fun i=>.string (S i))∧Js.RowW 0 w (.slice p2 m c2) m T∧Kb 0 w w2∧w2.heap.size=w.heap.size+2∧w2.heap[w.heap.size]? = some (.cells #[.slice p1 n c1,.int .i64 p,.int .i64 q,.slice p2 m c2] 26 (0,0))∧w2.heap[w.heap.size+1]? = some (.cells #[.int .i64 0,.int .i64 0,.string ⟨#[]⟩,.int .i64 0,.slice none 0 0] 44 (0,0)) from HJ)
  obtain ⟨kc,x,bz,ox,hz⟩:=(show RtB w2 wc Z 1 RL from HR)
  have k24:=kc.trans k4
  have q0:w4.cell? ⟨w.heap.size,0,none⟩=some (.slice p1 n c1):=cell_of (blk_kb b0 k24) rfl
  have zc:=kc.size
  have HLS:Hid (LS w4 L 2 (lnT n S).C 0 (.slice none 0 0) w4):=LS.new b4
  have H4:Hid (Kb 0 w w4∧w4.heap.size=L+2∧w4.heap[L+1]? = some (.cells #[.int .i64 3,.slice none 0 0] 50 (0,0))∧w4.heap[L]? = some (.cells #[.int .i64 2,.slice none 0 0] 50 (0,0))∧w4.heap[w.heap.size]? = some (.cells #[.slice p1 n c1,.int .i64 p,.int .i64 q,.slice p2 m c2] 26 (0,0))∧w4.heap[w.heap.size+1]? = some (.cells #[.int .i64 0,.int .i64 0,.string ⟨#[]⟩,.int .i64 0,.slice none 0 0] 44 (0,0))∧w4.heap[Z]? = some (.cells #[.int .i64 1,.slice (some x) 4 4] 50 (0,0))∧w4.ownsRow w2.heap.size 41 4 (.slice (some x) 4 4) 4 RL∧w.heap.size+2≤Z∧Z < L∧w.heap.size+2≤L∧w2.heap.size=w.heap.size+2):=(⟨k2.trans k24,z4,b5,b4,blk_kb b0 k24,blk_kb b1 k24,blk_kb bz k4,own_kb ox k4,by omega,by rw [hL];exact blk_lt bz,by omega,z2⟩:_∧_)
  have HLN:Hid (RowV w (.slice p1 n c1) n (fun i=>.string (S i))∧Kb 0 w w4):=(⟨hl,k2.trans k24⟩:_∧_)
  have HSS:Hid (Js.RowW 0 w (.slice p2 m c2) m T):=hs
  have HW4:Hid (w4=(wc.alloc (.cells #[.int .i64 2,.slice none 0 0] 50)).alloc (.cells #[.int .i64 3,.slice none 0 0] 50)∧L=wc.heap.size):=(⟨hw4,hL⟩:_∧_)
  clear hl hs k2 z2 b0 b1 kc bz ox hz k24 zc HJ HR k4 z4 b4 b5 hw4 hL
  go_upto_region 3 with fail
  rw [← (show _∧_ from HW4).1,← (show _∧_ from HW4).2]
  clear HW4
  go_wp2_with fail
  clear q0
  go_loopw [26] (fun s26 wr=>∃ (i:Nat) (v:Value),s26 = .int .i64 (i:Int)∧i≤n∧Hid (LS w4 L 2 (lnT n S).C i v wr)) (fun s26 _=>n - (intOf s26).toNat)
  case atStart=>exact ⟨0,_,rfl,Nat.zero_le _,HLS⟩
  case round =>
    clear HLS
    obtain ⟨i,v,rfl,hin,HX⟩:=hrel
    have hX:=(show LS w4 L 2 (lnT n S).C i v wr from HX)
    obtain ⟨px,cx,rfl⟩:=own_shape hX.ow
    rcases Nat.lt_or_ge i n with hi | hi
    case inl =>
      have hiI:(i:Int) < (n:Int):=by omega
      obtain ⟨⟨_,_,e0,hl⟩,kw4⟩:=(show RowV w (.slice p1 n c1) n (fun i=>.string (S i))∧Kb 0 w w4 from HLN)
      injection e0 with e1 e2 e3
      subst e1 e3
      obtain ⟨a,rfl,hca,hra⟩:=hl (by omega)
      have hwl:w.heap.size≤L:=by have:=(show Kb 0 w w4∧w4.heap.size=L+2∧_ from H4).2.2.2.2.2.2.2.2.2.2.1;omega
      have kwr:Kb 0 w wr:=hX.kbo kw4 hwl
      have d0:wr.cell? (a.add i)=some (.string (S i)):=kwr.cell (hra i hi)
      have HM:Hid (∀ W,Kb 0 wr W→Calls Try.prog 67 #[.string (S i)] W fun e w'=>e = .returned (.agg #[.int .i64 3,.int .i64 0,.string (S i),.int .i64 0])∧Kb 0 W w'):=(fun W _=>im_txt (S i) W:∀ W,_)
      have HST:Hid (∀ W,Kb 0 wr W→W.cell? ⟨L,1,none⟩=some (.slice px i cx)∧W.ownsRow w4.heap.size 41 4 (.slice px i cx) i (vls (lnT n S).C i)∧w4.heap.size≤W.heap.size):=(fun W k=>⟨cell_of (hX.kb k).lb rfl,(hX.kb k).ow,(hX.kb k).kg.size⟩:∀ W,_)
      have HPU:Hid (∀ W w8 v',Kb 0 wr W→w8.ownsRow w4.heap.size 41 4 v' (i+1) (vls (lnT n S).C i ++ [.int .i64 3,.int .i64 0,.string (S i),.int .i64 0])→W.grownBy w8 (Value.slice px i cx).ownBlock→w8.cell? ⟨L,1,none⟩=some (.slice px i cx)∧(∀ j,w8.frozen? ⟨L,j,none⟩=false)∧LS w4 L 2 (lnT n S).C (i+1) v' (w8.setCell ⟨L,1,none⟩ v')):=(fun W w8 v' k ho hg=>⟨cell_of ((hX.kb k).grown hg).2 rfl,fun j=>frozen_of ((hX.kb k).grown hg).2,(hX.kb k).push ho hg⟩:∀ W w8 v',_)
      obtain ⟨i0,hi0,hz0,hz1,hz2⟩:=info_parts infoVp
      have HI0:Hid (Try.prog.info? 41=some i0):=hi0
      have h1c:∀ y ∈ ([.int .i64 3,.int .i64 0,.string (S i),.int .i64 0]:List Value),y.oneCell'=true:=by
        intro y hy
        simp only [List.mem_cons,List.not_mem_nil,or_false] at hy
        rcases hy with rfl | rfl | rfl | rfl <;> rfl
      have HQC:Hid (∀ w6:World,∀ (k:Nat) (y:Value),([.int .i64 3,.int .i64 0,.string (S i),.int .i64 0]:List Value)[k]? = some y→(w6.alloc (.cells #[.int .i64 3,.int .i64 0,.string (S i),.int .i64 0] 41)).cell? ((⟨w6.heap.size,0,none⟩:Addr).add k)=some y):=(fun w6=>qr_cells w6 #[.int .i64 3,.int .i64 0,.string (S i),.int .i64 0] 41 [.int .i64 3,.int .i64 0,.string (S i),.int .i64 0] rfl:∀ w6:World,_)
      have hic:i < 1000:=by omega
      obtain ⟨LS0,hLS0⟩:∃ LS0,LS0=vls (lnT n S).C i:=⟨_,rfl⟩
      rw [← hLS0] at HST HPU
      obtain ⟨B4,hB4⟩:∃ B4,B4=w4.heap.size:=⟨_,rfl⟩
      rw [← hB4] at HST HPU
      clear hX HX hl kw4 hra hwl kwr hi0 hi HLN H4 HSS hLS0 hB4
      go_upto_region 6 with fail
      clear d0
      refine AnyL.region (S:=fun W'=>W'.cell? ⟨L,1,none⟩=some (.slice px i cx)) (z:=7) (by kernel_rfl) ?_
      obtain ⟨VD,hVD⟩:∃ VD,VD=wr.drew:=⟨_,rfl⟩
      rw [← hVD]
      have KD:Hid (Kb 0 wr VD):=by rw [hVD];exact Kb.drew (Kb.refl _ _)
      have hS0:(fun W':World=>W'.cell? ⟨L,1,none⟩=some (.slice px i cx)) VD:=((show ∀ W,Kb 0 wr W→_ from HST) VD KD).1
      clear hVD
      refine AnyL.takeAt 0 (.pointer (some ⟨L,1,none⟩)) rfl (by kernel_rfl) (by kernel_rfl) (by kernel_rfl) (by kernel_rfl) (fun _ _ _ h=>h) rfl hS0 (by intro W hW;go_simp) ?_
      try simp only [Act.put,List.setIfInBounds_toArray,List.set_cons_zero,List.set_cons_succ]
      refine AnyL.takeAt 1 (.slice px i cx) rfl (by kernel_rfl) (by kernel_rfl) (by kernel_rfl) (by kernel_rfl) (fun _ _ _ h=>h) rfl hS0 (by intro W hW;go_simp) ?_
      try simp only [Act.put,List.setIfInBounds_toArray,List.set_cons_zero,List.set_cons_succ]
      refine AnyL.takeAt 2 (.string (S i)) rfl (by kernel_rfl) (by kernel_rfl) (by kernel_rfl) (by kernel_rfl) (fun _ _ _ h=>h) rfl hS0 (by intro W hW;go_simp) ?_
      try simp only [Act.put,List.setIfInBounds_toArray,List.set_cons_zero,List.set_cons_succ]
      refine AnyL.oneAt 3 rfl (by kernel_rfl) rfl ?_
      intro K hK
      go_simp
      refine ((show ∀ W,Kb 0 wr W→_ from HM) VD KD).mono ?_
      rintro e w6 ⟨rfl,gk⟩
      have K6:Hid (Kb 0 wr w6):=Kb.trans KD gk
      obtain ⟨hS6,hown6,h6z⟩:=(show ∀ W,Kb 0 wr W→_ from HST) w6 K6
      clear hS0 gk HM
      refine hK.out _ _ (fun _=>hS6) ?_
      clear hK K
      try simp only [Act.put,List.setIfInBounds_toArray,List.set_cons_zero,List.set_cons_succ]
      refine AnyL.oneAt 4 rfl (by kernel_rfl) rfl ?_
      intro K hK
      go_simp
      have K7:∀ ob,Hid (Kb 0 wr (w6.alloc ob)):=fun ob=>Kb.alloc K6 ob
      refine hK.out _ _ (fun _=>((show ∀ W,Kb 0 wr W→_ from HST) _ (K7 _)).1) ?_
      clear hK K
      try simp only [Act.put,List.setIfInBounds_toArray,List.set_cons_zero,List.set_cons_succ]
      refine AnyL.oneAt 5 rfl (by kernel_rfl) rfl ?_
      intro K hK
      refine wp_append_own _ (.tmp 31) (.tmp 34) 48 rfl B4 41 i0 (.agg #[.int .i64 0,.int .i64 0,.string ⟨#[]⟩,.int .i64 0]) 4 40 Try.underlying48 HI0 hz0 hz1 hz2 rfl (by decide) (.slice px i cx) i LS0 rfl (hown6.alloc _) ⟨w6.heap.size,0,none⟩ 1 1 [.int .i64 3,.int .i64 0,.string (S i),.int .i64 0] rfl rfl ((show ∀ w6:World,_ from HQC) w6) h1c (by unfold maxLen;omega) (by omega) (by simp;omega) ?_
      intro v' w8 hown1 hgrow1 _
      obtain ⟨px',cx',rfl⟩:=own_shape hown1
      obtain ⟨hS8,hf8,hLS8⟩:=(show ∀ W w8 v',Kb 0 wr W→_ from HPU) _ _ _ (K7 _) hown1 hgrow1
      have HLS8:Hid (LS w4 L 2 (lnT n S).C (i+1) (.slice px' (i+1) cx') (w8.setCell ⟨L,1,none⟩ (.slice px' (i+1) cx'))):=hLS8
      clear HPU hown1 hgrow1 hLS8 hS6 hown6 K7 HST HQC
      refine hK.out _ _ (fun _=>hS8) ?_
      clear hK K
      try simp only [Act.put,List.setIfInBounds_toArray,List.set_cons_zero,List.set_cons_succ]
      first
      | (refine AnyL.takeAt 6 (.pointer (some ⟨L,1,none⟩)) rfl (by kernel_rfl) (by kernel_rfl) (by kernel_rfl) (by kernel_rfl) (fun _ _ _ h=>h) rfl hS8 (by intro W hW;go_simp) ?_)
      | skip
      try simp only [Act.put,List.setIfInBounds_toArray,List.set_cons_zero,List.set_cons_succ]
      refine AnyL.oneAt 7 rfl (by kernel_rfl) rfl ?_
      intro K hK
      go_simp
      refine hK.out _ _ (fun h=>absurd rfl h) ?_
      clear hK K hS8 hf8
      try simp only [Act.put,List.setIfInBounds_toArray,List.set_cons_zero,List.set_cons_succ]
      refine AnyL.done (by kernel_rfl) ?_
      go_wp2_with fail
      go_roundw
      case rel=>exact ⟨i+1,_,by go_num,by omega,HLS8⟩
      case measure=>simp [intOf];omega
    obtain rfl:i=n:=by omega
    have hI:¬ (i:Int) < (i:Int):=by omega
    obtain ⟨k04,z4,b5,b4L,bj,bg,bz,ox,hZ1,hZ2,hL2,z2⟩:=(show Kb 0 w w4∧w4.heap.size=L+2∧w4.heap[L+1]? = some (.cells #[.int .i64 3,.slice none 0 0] 50 (0,0))∧w4.heap[L]? = some (.cells #[.int .i64 2,.slice none 0 0] 50 (0,0))∧w4.heap[w.heap.size]? = some (.cells #[.slice p1 i c1,.int .i64 p,.int .i64 q,.slice p2 m c2] 26 (0,0))∧w4.heap[w.heap.size+1]? = some (.cells #[.int .i64 0,.int .i64 0,.string ⟨#[]⟩,.int .i64 0,.slice none 0 0] 44 (0,0))∧w4.heap[Z]? = some (.cells #[.int .i64 1,.slice (some x) 4 4] 50 (0,0))∧w4.ownsRow w2.heap.size 41 4 (.slice (some x) 4 4) 4 RL∧w.heap.size+2≤Z∧Z < L∧w.heap.size+2≤L∧w2.heap.size=w.heap.size+2 from H4)
    have kg:=hX.kg
    have hB:∀ {g:Nat} {o:Obj},w4.heap[g]? = some o→g ≠ L→wr.heap[g]? = some o:=fun {g o} h hne=>(kg.block g (blk_lt h) hne).trans h
    have q3:wr.cell? ⟨w.heap.size,3,none⟩=some (.slice p2 m c2):=cell_of (hB bj (by omega)) rfl
    have oxr:wr.ownsRow w2.heap.size 41 4 (.slice (some x) 4 4) 4 RL:=own_keep ox (fun g e=>kg.block g (ox.lt g e).2 (own_ty ox b4L (by decide) e))
    have HPS:Hid (PS wr (L+1) (skT m).C (fun k=>stT (T k)) 0 (.slice none 0 0) (.slice none 0 0) (fun _=>.slice none 0 0) wr):=(⟨LS.new (hB b5 (by omega)),⟨World.ownsRow_nil _ _ _ _,fun k hk=>by omega⟩,fun k hk=>by omega⟩:PS _ _ _ _ _ _ _ _ _)
    have H5:Hid (Kb 0 w wr∧wr.heap[w.heap.size+1]? = some (.cells #[.int .i64 0,.int .i64 0,.string ⟨#[]⟩,.int .i64 0,.slice none 0 0] 44 (0,0))∧wr.heap[Z]? = some (.cells #[.int .i64 1,.slice (some x) 4 4] 50 (0,0))∧wr.ownsRow w.heap.size 41 4 (.slice (some x) 4 4) 4 RL∧wr.heap[L]? = some (.cells #[.int .i64 2,.slice px i cx] 50 (0,0))∧wr.ownsRow w.heap.size 41 4 (.slice px i cx) i (vls (lnT i S).C i)∧w.heap.size+2≤Z∧Z < L):=(⟨hX.kbo k04 (by omega),hB bg (by omega),hB bz (by omega),own_base oxr (by omega),hX.lb,own_base hX.ow (by omega),hZ1,hZ2⟩:_∧_)
    clear hX HX k04 z4 b5 b4L bj bg bz ox hZ1 hZ2 hL2 z2 kg hB oxr H4 HLN hi hin
    go_wp2_with fail
    clear q3
    obtain ⟨pl,rfl⟩:∃ pl,pl=px:=⟨_,rfl⟩
    obtain ⟨cl,rfl⟩:∃ cl,cl=cx:=⟨_,rfl⟩
    have HB5:Hid (∃ b5,wr.heap[L+1]? = some (.cells b5 50 (0,0))):=⟨_,(show PS _ _ _ _ _ _ _ _ _ from HPS).ls.lb⟩
    obtain ⟨w5,rfl⟩:∃ w5,w5=wr:=⟨_,rfl⟩
    obtain ⟨n,rfl⟩:∃ n,n=i:=⟨_,rfl⟩
    go_loopw [8,41] (fun s8 s41 wr=>∃ (i:Nat) (v u:Value) (V:Nat→Value),s8=u∧s41 = .int .i64 (i:Int)∧i≤m∧Hid (PS w5 (L+1) (skT m).C (fun k=>stT (T k)) i v u V wr)) (fun _ s41 _=>m - (intOf s41).toNat)
    case atStart=>exact ⟨0,_,_,_,rfl,rfl,Nat.zero_le _,HPS⟩
    case round =>
      clear HPS
      obtain ⟨i,v,u,V,rfl,rfl,hin,HX⟩:=hrel
      have hX:=(show PS w5 (L+1) (skT m).C (fun k=>stT (T k)) i v _ V wr from HX)
      obtain ⟨px,cx,rfl⟩:=own_shape hX.ls.ow
      obtain ⟨pu,cu,rfl⟩:=own_shape hX.th.nn
      rcases Nat.lt_or_ge i m with hi | hi
      case inl =>
        have hiI:(i:Int) < (m:Int):=by omega
        obtain ⟨k05,-,-,-,-,-,hZ1,hZ2⟩:=(show Kb 0 w w5∧_∧_∧_∧_∧_∧w.heap.size+2≤Z∧Z < L from H5)
        obtain ⟨_,_,e0,hl⟩:=(show Js.RowW 0 w (.slice p2 m c2) m T from HSS)
        injection e0 with e1 e2 e3
        subst e1 e3
        obtain ⟨a,rfl,hca,-,hra⟩:=hl (by omega)
        have kwr:Kb 0 w wr:=hX.ls.kbo k05 (by omega)
        obtain ⟨s,hs⟩:∃ s,s=T i:=⟨_,rfl⟩
        obtain ⟨d0,d1,d2,d3⟩:=hra i hi
        rw [← hs] at d0 d1 d2 d3
        replace d0:=kwr.cell d0
        replace d1:=kwr.cell d1
        replace d2:=kwr.cell d2
        replace d3:=kwr.cell d3
        obtain ⟨X,hXX⟩:∃ X,X=wr.heap.size:=⟨_,rfl⟩
        obtain ⟨wX,hwX⟩:∃ wX,wX=wr.alloc (.cells #[.int .i64 s.k,.int .i64 s.m,.int .i64 s.r,.string s.x] 38):=⟨_,rfl⟩
        have kX:Kb 0 wr wX:=by rw [hwX];exact kb_alloc _ _ _
        have bX:wX.heap[X]? = some (.cells #[.int .i64 s.k,.int .i64 s.m,.int .i64 s.r,.string s.x] 38 (0,0)):=by rw [hwX,hXX];exact alloc_new _ _ _
        have hY:=hX.kb kX
        have hsw5:=hX.ls.kg.size
        have hvX:∀ g,(Value.slice px i cx).ownBlock=some g→g < X:=fun g e=>by rw [hXX];exact (hX.ls.ow.lt g e).2
        have hLX:L+1 < X:=by have:=hX.ls.lt;omega
        have HM:Hid (∀ W,Calls Try.prog 66 #[.int .i64 (3+(i:Int))] W fun e w'=>e = .returned (.agg #[.int .i64 4,.int .i64 0,.string ⟨#[]⟩,.int .i64 (3+(i:Int))])∧Kb 0 W w'):=(fun W=>im_node (3+(i:Int)) W:∀ W,_)
        have HST:Hid (∀ W,Kb 0 wX W→W.cell? ⟨L+1,1,none⟩=some (.slice px i cx)∧W.ownsRow w5.heap.size 41 4 (.slice px i cx) i (vls (skT m).C i)∧w5.heap.size≤W.heap.size):=(fun W k=>⟨cell_of (hY.kb k).ls.lb rfl,(hY.kb k).ls.ow,(hY.kb k).ls.kg.size⟩:∀ W,_)
        have HPU:Hid (∀ W w8 g cap,Kb 0 wX W→w8.ownsRow w5.heap.size 41 4 (.slice (some ⟨g,0,none⟩) (i+1) cap) (i+1) (vls (skT m).C i ++ [.int .i64 4,.int .i64 0,.string ⟨#[]⟩,.int .i64 (3+(i:Int))])→W.grownBy w8 (Value.slice px i cx).ownBlock→((Value.slice px i cx).ownBlock=some g∨g=W.heap.size)→w8.cell? ⟨L+1,1,none⟩=some (.slice px i cx)∧(∀ j,w8.frozen? ⟨L+1,j,none⟩=false)∧PH w5 (L+1) (skT m).C (fun k=>stT (T k)) i (.slice (some ⟨g,0,none⟩) (i+1) cap) (.slice pu i cu) V (w8.setCell ⟨L+1,1,none⟩ (.slice (some ⟨g,0,none⟩) (i+1) cap))∧(w8.setCell ⟨L+1,1,none⟩ (.slice (some ⟨g,0,none⟩) (i+1) cap)).heap[X]? = some (.cells #[.int .i64 s.k,.int .i64 s.m,.int .i64 s.r,.string s.x] 38 (0,0))):=(fun W w8 g cap k ho hg hgg=>⟨cell_of ((hY.kb k).ls.grown hg).2 rfl,fun j=>frozen_of ((hY.kb k).ls.grown hg).2,(hY.kb k).half ho hg hgg,(Below.heap_setCell _ _ _ _ (by show X ≠ L+1;omega)).trans ((hg.block X (blk_lt (blk_kb bX k)) (fun e=>by have:=hvX X e.symm;omega)).trans (blk_kb bX k))⟩:∀ W w8 g cap,_)
        obtain ⟨i0,hi0,hz0,hz1,hz2⟩:=info_parts infoVp
        have HI0:Hid (Try.prog.info? 41=some i0):=hi0
        have h1c:∀ y ∈ ([.int .i64 4,.int .i64 0,.string ⟨#[]⟩,.int .i64 (3+(i:Int))]:List Value),y.oneCell'=true:=by
          intro y hy
          simp only [List.mem_cons,List.not_mem_nil,or_false] at hy
          rcases hy with rfl | rfl | rfl | rfl <;> rfl
        have HQC:Hid (∀ w6:World,∀ (k:Nat) (y:Value),([.int .i64 4,.int .i64 0,.string ⟨#[]⟩,.int .i64 (3+(i:Int))]:List Value)[k]? = some y→(w6.alloc (.cells #[.int .i64 4,.int .i64 0,.string ⟨#[]⟩,.int .i64 (3+(i:Int))] 41)).cell? ((⟨w6.heap.size,0,none⟩:Addr).add k)=some y):=(fun w6=>qr_cells w6 #[.int .i64 4,.int .i64 0,.string ⟨#[]⟩,.int .i64 (3+(i:Int))] 41 [.int .i64 4,.int .i64 0,.string ⟨#[]⟩,.int .i64 (3+(i:Int))] rfl:∀ w6:World,_)
        have hic:(i:Int) < 20:=by omega
        obtain ⟨LS0,hLS0⟩:∃ LS0,LS0=vls (skT m).C i:=⟨_,rfl⟩
        rw [← hLS0] at HST HPU
        have HW:Hid (wX=wr.alloc (.cells #[.int .i64 s.k,.int .i64 s.m,.int .i64 s.r,.string s.x] 38)∧X=wr.heap.size):=(⟨hwX,hXX⟩:_∧_)
        have HTI:Hid (s=T i):=hs
        clear HB5 hX HX hl hra kwr hi0 hi HSS k05 hZ1 hZ2 hXX hwX kX bX hY hsw5 hvX hLX hs hLS0
        go_upto_region 12 with fail
        rw [← (show _∧_ from HW).1,← (show _∧_ from HW).2]
        clear d0 d1 d2 d3 HW
        refine AnyL.region (S:=fun W'=>W'.cell? ⟨L+1,1,none⟩=some (.slice px i cx)) (z:=8) (by kernel_rfl) ?_
        obtain ⟨VD,hVD⟩:∃ VD,VD=wX.drew:=⟨_,rfl⟩
        rw [← hVD]
        have KD:Hid (Kb 0 wX VD):=by rw [hVD];exact Kb.drew (Kb.refl _ _)
        have hS0:(fun W':World=>W'.cell? ⟨L+1,1,none⟩=some (.slice px i cx)) VD:=((show ∀ W,Kb 0 wX W→_ from HST) VD KD).1
        clear hVD
        refine AnyL.takeAt 0 (.pointer (some ⟨L+1,1,none⟩)) rfl (by kernel_rfl) (by kernel_rfl) (by kernel_rfl) (by kernel_rfl) (fun _ _ _ h=>h) rfl hS0 (by intro W hW;go_simp) ?_
        try simp only [Act.put,List.setIfInBounds_toArray,List.set_cons_zero,List.set_cons_succ]
        refine AnyL.takeAt 1 (.slice px i cx) rfl (by kernel_rfl) (by kernel_rfl) (by kernel_rfl) (by kernel_rfl) (fun _ _ _ h=>h) rfl hS0 (by intro W hW;go_simp) ?_
        try simp only [Act.put,List.setIfInBounds_toArray,List.set_cons_zero,List.set_cons_succ]
        refine AnyL.takeAt 2 (.int .i64 (i:Int)) rfl (by kernel_rfl) (by kernel_rfl) (by kernel_rfl) (by kernel_rfl) (fun _ _ _ h=>h) rfl hS0 (by intro W hW;go_simp) ?_
        try simp only [Act.put,List.setIfInBounds_toArray,List.set_cons_zero,List.set_cons_succ]
        refine AnyL.takeAt 3 (.int .i64 (3+(i:Int))) rfl (by kernel_rfl) (by kernel_rfl) (by kernel_rfl) (by kernel_rfl) (fun _ _ _ h=>h) rfl hS0 (by intro W hW;go_simp;exact wr3 i (by omega)) ?_
        try simp only [Act.put,List.setIfInBounds_toArray,List.set_cons_zero,List.set_cons_succ]
        refine AnyL.oneAt 4 rfl (by kernel_rfl) rfl ?_
        intro K hK
        go_simp
        refine ((show ∀ W,Calls Try.prog _ _ W _ from HM) VD).mono ?_
        rintro e w6 ⟨rfl,gk⟩
        have K6:Hid (Kb 0 wX w6):=Kb.trans KD gk
        obtain ⟨hS6,hown6,h6z⟩:=(show ∀ W,Kb 0 wX W→_ from HST) w6 K6
        clear hS0 gk HM
        refine hK.out _ _ (fun _=>hS6) ?_
        clear hK K
        try simp only [Act.put,List.setIfInBounds_toArray,List.set_cons_zero,List.set_cons_succ]
        refine AnyL.oneAt 5 rfl (by kernel_rfl) rfl ?_
        intro K hK
        go_simp
        have K7:∀ ob,Hid (Kb 0 wX (w6.alloc ob)):=fun ob=>Kb.alloc K6 ob
        refine hK.out _ _ (fun _=>((show ∀ W,Kb 0 wX W→_ from HST) _ (K7 _)).1) ?_
        clear hK K
        try simp only [Act.put,List.setIfInBounds_toArray,List.set_cons_zero,List.set_cons_succ]
        refine AnyL.oneAt 6 rfl (by kernel_rfl) rfl ?_
        intro K hK
        refine wp_append_lies _ (.tmp 47) (.tmp 51) 48 rfl w5.heap.size 41 i0 (.agg #[.int .i64 0,.int .i64 0,.string ⟨#[]⟩,.int .i64 0]) 4 40 Try.underlying48 HI0 hz0 hz1 hz2 rfl (by decide) (.slice px i cx) i LS0 rfl (hown6.alloc _) ⟨w6.heap.size,0,none⟩ 1 1 [.int .i64 4,.int .i64 0,.string ⟨#[]⟩,.int .i64 (3+(i:Int))] rfl rfl ((show ∀ w6:World,_ from HQC) w6) h1c (by omega) (by unfold maxLen;omega) (by omega) (by simp;omega) _ rfl ?_
        intro g cap w8 hown1 hgrow1 hgg _
        obtain ⟨hS8,hf8,hPH,hXB⟩:=(show ∀ W w8 g cap,Kb 0 wX W→_ from HPU) _ _ _ _ (K7 _) hown1 hgrow1 hgg
        obtain ⟨wB,hwB⟩:∃ wB,wB=w8.setCell ⟨L+1,1,none⟩ (.slice (some ⟨g,0,none⟩) (i+1) cap):=⟨_,rfl⟩
        rw [← hwB] at hPH hXB
        have HWB:Hid (wB=w8.setCell ⟨L+1,1,none⟩ (.slice (some ⟨g,0,none⟩) (i+1) cap)):=hwB
        have HPH:Hid (PH w5 (L+1) (skT m).C (fun k=>stT (T k)) i (.slice (some ⟨g,0,none⟩) (i+1) cap) (.slice pu i cu) V wB):=hPH
        have HXB:Hid (wB.heap[X]? = some (.cells #[.int .i64 s.k,.int .i64 s.m,.int .i64 s.r,.string s.x] 38 (0,0))):=hXB
        clear HPU hown1 hgrow1 hgg hPH hXB hwB hS6 hown6 K7 HST HQC
        refine hK.out _ _ (fun _=>hS8) ?_
        clear hK K
        try simp only [Act.put,List.setIfInBounds_toArray,List.set_cons_zero,List.set_cons_succ]
        first
        | (refine AnyL.takeAt 7 (.pointer (some ⟨L+1,1,none⟩)) rfl (by kernel_rfl) (by kernel_rfl) (by kernel_rfl) (by kernel_rfl) (fun _ _ _ h=>h) rfl hS8 (by intro W hW;go_simp) ?_)
        | skip
        try simp only [Act.put,List.setIfInBounds_toArray,List.set_cons_zero,List.set_cons_succ]
        refine AnyL.oneAt 8 rfl (by kernel_rfl) rfl ?_
        intro K hK
        go_simp
        refine hK.out _ _ (fun h=>absurd rfl h) ?_
        clear hK K hS8 hf8
        try simp only [Act.put,List.setIfInBounds_toArray,List.set_cons_zero,List.set_cons_succ]
        refine AnyL.done (by kernel_rfl) ?_
        rw [← (show wB = _ from HWB)]
        clear HWB h1c KD VD K6
        go_upto_region 13 with fail
        have hPH:=(show PH w5 (L+1) (skT m).C (fun k=>stT (T k)) i (.slice (some ⟨g,0,none⟩) (i+1) cap) (.slice pu i cu) V wB from HPH)
        have hXB:=(show wB.heap[X]? = some (.cells #[.int .i64 s.k,.int .i64 s.m,.int .i64 s.r,.string s.x] 38 (0,0)) from HXB)
        have HSX:∀ W',Kb 0 wB W'→W'.cell? ⟨X,0,none⟩=some (.int .i64 s.k)∧W'.cell? ⟨X,1,none⟩=some (.int .i64 s.m)∧W'.cell? ⟨X,2,none⟩=some (.int .i64 s.r)∧W'.cell? ⟨X,3,none⟩=some (.string s.x):=fun W' k=>⟨cell_of (blk_kb hXB k) rfl,cell_of (blk_kb hXB k) rfl,cell_of (blk_kb hXB k) rfl,cell_of (blk_kb hXB k) rfl⟩
        have hsB:=hPH.ls.kg.size
        have HOW:Hid (∀ W,Kb 0 wB W→W.ownsRow w5.heap.size 50 2 (.slice pu i cu) i (tcl (fun k=>stT (T k)) V i)∧w5.heap.size≤W.heap.size∧wB.heap.size≤W.heap.size):=(fun W k=>⟨own_kb hPH.th.nn k,Nat.le_trans hsB k.size,k.size⟩:∀ W,_)
        have HFU:Hid (∀ W w9 R u',Kb 0 wB W→wB.heap.size≤R→W.ownsRow w5.heap.size 41 4 (.slice (some ⟨R,0,none⟩) 4 4) 4 (vls (stT s).C 4)→w9.ownsRow w5.heap.size 50 2 u' (i+1) (tcl (fun k=>stT (T k)) V i ++ [.int .i64 4,.slice (some ⟨R,0,none⟩) 4 4])→W.grownBy w9 (Value.slice pu i cu).ownBlock→∃ V',PS w5 (L+1) (skT m).C (fun k=>stT (T k)) (i+1) (.slice (some ⟨g,0,none⟩) (i+1) cap) u' V' w9):=(fun W w9 R u' k hR hx ho hg=>by
          rw [show s=T i from HTI] at hx
          exact ⟨_,hPH.full k hR hx ho hg⟩:∀ W w9 R u',_)
        obtain ⟨i1,hi1,hy0,hy1,hy2⟩:=info_parts infoTp
        have HI1:Hid (Try.prog.info? 50=some i1):=hi1
        obtain ⟨TL,hTL⟩:∃ TL,TL=tcl (fun k=>stT (T k)) V i:=⟨_,rfl⟩
        rw [← hTL] at HOW HFU
        have XNE:some X=(Value.slice pu i cu).ownBlock→False:=fun e=>own_ty hPH.th.nn hXB (by decide) e.symm rfl
        clear hPH hXB hsB HPH HXB HTI hi1 hz0 hz1 hz2 HI0 hTL
        refine AnyL.region (S:=fun W':World=>W'.cell? ⟨X,0,none⟩=some (.int .i64 s.k)∧W'.cell? ⟨X,1,none⟩=some (.int .i64 s.m)∧W'.cell? ⟨X,2,none⟩=some (.int .i64 s.r)∧W'.cell? ⟨X,3,none⟩=some (.string s.x)) (z:=99) (by kernel_rfl) ?_
        obtain ⟨VD,hVD⟩:∃ VD,VD=wB.drew:=⟨_,rfl⟩
        rw [← hVD]
        have KD:Hid (Kb 0 wB VD):=by rw [hVD];exact Kb.drew (Kb.refl _ _)
        have hS0:(fun W':World=>W'.cell? ⟨X,0,none⟩=some (.int .i64 s.k)∧W'.cell? ⟨X,1,none⟩=some (.int .i64 s.m)∧W'.cell? ⟨X,2,none⟩=some (.int .i64 s.r)∧W'.cell? ⟨X,3,none⟩=some (.string s.x)) VD:=HSX VD KD
        clear hVD
        refine AnyL.takeAt 0 (.slice pu i cu) rfl (by kernel_rfl) (by kernel_rfl) (by kernel_rfl) (by kernel_rfl) (fun _ _ _ h=>h) rfl hS0 (by intro W hW;obtain ⟨q0,q1,q2,q3⟩:=hW;go_simp) ?_
        try simp only [Act.put,List.setIfInBounds_toArray,List.set_cons_zero,List.set_cons_succ]
        refine AnyL.takeAt 1 (.pointer (some ⟨X,0,none⟩)) rfl (by kernel_rfl) (by kernel_rfl) (by kernel_rfl) (by kernel_rfl) (fun _ _ _ h=>h) rfl hS0 (by intro W hW;obtain ⟨q0,q1,q2,q3⟩:=hW;go_simp) ?_
        try simp only [Act.put,List.setIfInBounds_toArray,List.set_cons_zero,List.set_cons_succ]
        refine AnyL.takeAt 2 (.int .i64 s.k) rfl (by kernel_rfl) (by kernel_rfl) (by kernel_rfl) (by kernel_rfl) (fun _ _ _ h=>h) rfl hS0 (by intro W hW;obtain ⟨q0,q1,q2,q3⟩:=hW;go_simp) ?_
        try simp only [Act.put,List.setIfInBounds_toArray,List.set_cons_zero,List.set_cons_succ]
        refine AnyL.takeAt 4 (.pointer (some ⟨X,1,none⟩)) rfl (by kernel_rfl) (by kernel_rfl) (by kernel_rfl) (by kernel_rfl) (fun _ _ _ h=>h) rfl hS0 (by intro W hW;obtain ⟨q0,q1,q2,q3⟩:=hW;go_simp) ?_
        try simp only [Act.put,List.setIfInBounds_toArray,List.set_cons_zero,List.set_cons_succ]
        refine AnyL.takeAt 5 (.int .i64 s.m) rfl (by kernel_rfl) (by kernel_rfl) (by kernel_rfl) (by kernel_rfl) (fun _ _ _ h=>h) rfl hS0 (by intro W hW;obtain ⟨q0,q1,q2,q3⟩:=hW;go_simp) ?_
        try simp only [Act.put,List.setIfInBounds_toArray,List.set_cons_zero,List.set_cons_succ]
        refine AnyL.takeAt 7 (.pointer (some ⟨X,2,none⟩)) rfl (by kernel_rfl) (by kernel_rfl) (by kernel_rfl) (by kernel_rfl) (fun _ _ _ h=>h) rfl hS0 (by intro W hW;obtain ⟨q0,q1,q2,q3⟩:=hW;go_simp) ?_
        try simp only [Act.put,List.setIfInBounds_toArray,List.set_cons_zero,List.set_cons_succ]
        refine AnyL.takeAt 8 (.int .i64 s.r) rfl (by kernel_rfl) (by kernel_rfl) (by kernel_rfl) (by kernel_rfl) (fun _ _ _ h=>h) rfl hS0 (by intro W hW;obtain ⟨q0,q1,q2,q3⟩:=hW;go_simp) ?_
        try simp only [Act.put,List.setIfInBounds_toArray,List.set_cons_zero,List.set_cons_succ]
        refine AnyL.takeAt 10 (.pointer (some ⟨X,3,none⟩)) rfl (by kernel_rfl) (by kernel_rfl) (by kernel_rfl) (by kernel_rfl) (fun _ _ _ h=>h) rfl hS0 (by intro W hW;obtain ⟨q0,q1,q2,q3⟩:=hW;go_simp) ?_
        try simp only [Act.put,List.setIfInBounds_toArray,List.set_cons_zero,List.set_cons_succ]
        refine AnyL.takeAt 11 (.string s.x) rfl (by kernel_rfl) (by kernel_rfl) (by kernel_rfl) (by kernel_rfl) (fun _ _ _ h=>h) rfl hS0 (by intro W hW;obtain ⟨q0,q1,q2,q3⟩:=hW;go_simp) ?_
        try simp only [Act.put,List.setIfInBounds_toArray,List.set_cons_zero,List.set_cons_succ]
        refine AnyL.oneAt 3 rfl (by kernel_rfl) rfl ?_
        intro K hK
        go_simp
        refine (im_num s.k VD).mono ?_
        rintro e y3 ⟨rfl,gk⟩
        have KY3:Hid (Kb 0 wB y3):=Kb.trans KD gk
        have hS3:=HSX y3 KY3
        clear gk
        refine hK.out _ _ (fun _=>hS3) ?_
        clear hK K
        try simp only [Act.put,List.setIfInBounds_toArray,List.set_cons_zero,List.set_cons_succ]
        refine AnyL.oneAt 6 rfl (by kernel_rfl) rfl ?_
        intro K hK
        go_simp
        refine (im_num s.m y3).mono ?_
        rintro e y6 ⟨rfl,gk⟩
        have KY6:Hid (Kb 0 wB y6):=Kb.trans KY3 gk
        have hS6:=HSX y6 KY6
        clear gk
        refine hK.out _ _ (fun _=>hS6) ?_
        clear hK K
        try simp only [Act.put,List.setIfInBounds_toArray,List.set_cons_zero,List.set_cons_succ]
        refine AnyL.oneAt 9 rfl (by kernel_rfl) rfl ?_
        intro K hK
        go_simp
        refine (im_num s.r y6).mono ?_
        rintro e y9 ⟨rfl,gk⟩
        have KY9:Hid (Kb 0 wB y9):=Kb.trans KY6 gk
        have hS9:=HSX y9 KY9
        clear gk
        refine hK.out _ _ (fun _=>hS9) ?_
        clear hK K
        try simp only [Act.put,List.setIfInBounds_toArray,List.set_cons_zero,List.set_cons_succ]
        refine AnyL.oneAt 12 rfl (by kernel_rfl) rfl ?_
        intro K hK
        go_simp
        refine (im_txt s.x y9).mono ?_
        rintro e y12 ⟨rfl,gk⟩
        have KY12:Hid (Kb 0 wB y12):=Kb.trans KY9 gk
        have hS12:=HSX y12 KY12
        clear gk
        refine hK.out _ _ (fun _=>hS12) ?_
        clear hK K
        try simp only [Act.put,List.setIfInBounds_toArray,List.set_cons_zero,List.set_cons_succ]
        refine AnyL.oneAt 13 rfl (by kernel_rfl) rfl ?_
        intro K hK
        go_simp
        obtain ⟨R,hR⟩:∃ R,R=y12.heap.size:=⟨_,rfl⟩
        obtain ⟨y13,hy13⟩:∃ y13,y13=y12.alloc (.cells #[.int .i64 1,.int .i64 s.k,.string ⟨#[]⟩,.int .i64 0,.int .i64 1,.int .i64 s.m,.string ⟨#[]⟩,.int .i64 0,.int .i64 1,.int .i64 s.r,.string ⟨#[]⟩,.int .i64 0,.int .i64 3,.int .i64 0,.string s.x,.int .i64 0] 41):=⟨_,rfl⟩
        have gk:Kb 0 y12 y13:=by rw [hy13];exact kb_alloc _ _ _
        have KY13:Hid (Kb 0 wB y13):=Kb.trans KY12 gk
        have hS13:=HSX y13 KY13
        obtain ⟨-,hb12,hb12'⟩:=(show ∀ W,Kb 0 wB W→_ from HOW) y12 KY12
        have OX:Hid (y13.ownsRow w5.heap.size 41 4 (.slice (some ⟨R,0,none⟩) 4 4) 4 (vls (stT s).C 4)):=(by rw [hy13,hR];exact own_new _ _ _ _ _ _ hb12 (by omega) rfl rfl:y13.ownsRow _ _ _ _ _ _)
        have hRB:Hid (wB.heap.size≤R):=(by rw [hR];exact hb12':wB.heap.size≤R)
        have hWd:y12.alloc (.cells #[.int .i64 1,.int .i64 s.k,.string ⟨#[]⟩,.int .i64 0,.int .i64 1,.int .i64 s.m,.string ⟨#[]⟩,.int .i64 0,.int .i64 1,.int .i64 s.r,.string ⟨#[]⟩,.int .i64 0,.int .i64 3,.int .i64 0,.string s.x,.int .i64 0] 41)=y13:=hy13.symm
        have hZd:y12.heap.size=R:=hR.symm
        try simp only [hWd]
        try rw [hWd]
        try rw [hZd]
        clear hWd hZd hR hy13 gk hb12 hb12'
        refine hK.out _ _ (fun _=>hS13) ?_
        clear hK K
        try simp only [Act.put,List.setIfInBounds_toArray,List.set_cons_zero,List.set_cons_succ]
        refine AnyL.takeAt 14 (.agg #[.int .i64 4,.slice (some ⟨R,0,none⟩) 4 4]) rfl (by kernel_rfl) (by kernel_rfl) (by kernel_rfl) (by kernel_rfl) (fun _ _ _ h=>h) rfl hS13 (by intro W hW;go_simp) ?_
        try simp only [Act.put,List.setIfInBounds_toArray,List.set_cons_zero,List.set_cons_succ]
        refine AnyL.oneAt 15 rfl (by kernel_rfl) rfl ?_
        intro K hK
        go_simp
        obtain ⟨N,hN⟩:∃ N,N=y13.heap.size:=⟨_,rfl⟩
        obtain ⟨y15,hy15⟩:∃ y15,y15=y13.alloc (.cells #[.int .i64 4,.slice (some ⟨R,0,none⟩) 4 4] 50):=⟨_,rfl⟩
        have gk:Kb 0 y13 y15:=by rw [hy15];exact kb_alloc _ _ _
        have KY15:Hid (Kb 0 wB y15):=Kb.trans KY13 gk
        have hS15:=HSX y15 KY15
        have OX15:Hid (y15.ownsRow w5.heap.size 41 4 (.slice (some ⟨R,0,none⟩) 4 4) 4 (vls (stT s).C 4)):=own_kb OX gk
        obtain ⟨hown15,hb15,-⟩:=(show ∀ W,Kb 0 wB W→_ from HOW) y15 KY15
        have hqc:∀ (k:Nat) (y:Value),([.int .i64 4,.slice (some ⟨R,0,none⟩) 4 4]:List Value)[k]? = some y→y15.cell? ((⟨N,0,none⟩:Addr).add k)=some y:=by rw [hy15,hN];exact qr_cells y13 _ 50 _ rfl
        have hWd:y13.alloc (.cells #[.int .i64 4,.slice (some ⟨R,0,none⟩) 4 4] 50)=y15:=hy15.symm
        have hZd:y13.heap.size=N:=hN.symm
        try simp only [hWd]
        try rw [hWd]
        try rw [hZd]
        clear hWd hZd hN hy15 gk OX
        refine hK.out _ _ (fun _=>hS15) ?_
        clear hK K
        try simp only [Act.put,List.setIfInBounds_toArray,List.set_cons_zero,List.set_cons_succ]
        refine AnyL.oneAt 16 rfl (by kernel_rfl) rfl ?_
        intro K hK
        refine wp_append_own _ (.tmp 54) (.tmp 69) 42 rfl w5.heap.size 50 i1 (.agg #[.int .i64 0,.slice none 0 0]) 2 32 Try.underlying42 HI1 hy0 hy1 hy2 rfl (by decide) (.slice pu i cu) i TL rfl hown15 ⟨N,0,none⟩ 1 1 [.int .i64 4,.slice (some ⟨R,0,none⟩) 4 4] rfl rfl hqc (by
          intro y hy
          simp only [List.mem_cons,List.not_mem_nil,or_false] at hy
          rcases hy with rfl | rfl <;> rfl) (by unfold maxLen;omega) (by omega) hb15 ?_
        intro u' w9 hown1 hgrow1 _
        obtain ⟨pu',cu',rfl⟩:=own_shape hown1
        obtain ⟨V',hPS⟩:=(show ∀ W w9 R u',Kb 0 wB W→_ from HFU) _ _ _ _ KY15 hRB OX15 hown1 hgrow1
        have HPS:Hid (PS w5 (L+1) (skT m).C (fun k=>stT (T k)) (i+1) (.slice (some ⟨g,0,none⟩) (i+1) cap) (.slice pu' (i+1) cu') V' w9):=hPS
        have hS9:w9.cell? ⟨X,0,none⟩=some (.int .i64 s.k)∧w9.cell? ⟨X,1,none⟩=some (.int .i64 s.m)∧w9.cell? ⟨X,2,none⟩=some (.int .i64 s.r)∧w9.cell? ⟨X,3,none⟩=some (.string s.x):=by
          obtain ⟨q0,q1,q2,q3⟩:=hS15
          have hne:some X ≠ (Value.slice pu i cu).ownBlock:=fun e=>XNE e
          have hlt:X < y15.heap.size:=lt_of_cell q0
          exact ⟨(World.cell?_of_block (hgrow1.block X hlt hne)).trans q0,(World.cell?_of_block (hgrow1.block X hlt hne)).trans q1,(World.cell?_of_block (hgrow1.block X hlt hne)).trans q2,(World.cell?_of_block (hgrow1.block X hlt hne)).trans q3⟩
        clear HFU hown1 hgrow1 hPS hown15 hb15 HOW HSX OX15 hqc XNE
        refine hK.out _ _ (fun _=>hS9) ?_
        clear hK K
        try simp only [Act.put,List.setIfInBounds_toArray,List.set_cons_zero,List.set_cons_succ]
        refine AnyL.oneAt 17 rfl (by kernel_rfl) rfl ?_
        intro K hK
        go_simp
        refine hK.out _ _ (fun _=>hS9) ?_
        clear hK K
        try simp only [Act.put,List.setIfInBounds_toArray,List.set_cons_zero,List.set_cons_succ]
        refine AnyL.done (by kernel_rfl) ?_
        go_wp2_with fail
        go_roundw
        case rel=>exact ⟨i+1,_,_,_,rfl,by go_num,by omega,HPS⟩
        case measure=>simp [intOf];omega
      obtain rfl:i=m:=by omega
      have hI2:¬ (i:Int) < (i:Int):=by omega
      obtain ⟨k05,bg,bz,ox,bl,ol,hZ1,hZ2⟩:=(show Kb 0 w w5∧w5.heap[w.heap.size+1]? = some (.cells #[.int .i64 0,.int .i64 0,.string ⟨#[]⟩,.int .i64 0,.slice none 0 0] 44 (0,0))∧w5.heap[Z]? = some (.cells #[.int .i64 1,.slice (some x) 4 4] 50 (0,0))∧w5.ownsRow w.heap.size 41 4 (.slice (some x) 4 4) 4 RL∧w5.heap[L]? = some (.cells #[.int .i64 2,.slice pl n cl] 50 (0,0))∧w5.ownsRow w.heap.size 41 4 (.slice pl n cl) n (vls (lnT n S).C n)∧w.heap.size+2≤Z∧Z < L from H5)
      have kg:=hX.ls.kg
      have hB:∀ {g:Nat} {o:Obj},w5.heap[g]? = some o→g ≠ L+1→wr.heap[g]? = some o:=fun {g o} h hne=>(kg.block g (blk_lt h) hne).trans h
      have k0r:Kb 0 w wr:=hX.ls.kbo k05 (by omega)
      have hO:∀ {v:Value} {c:Nat} {l:List Value},w5.ownsRow w.heap.size 41 4 v c l→wr.ownsRow w.heap.size 41 4 v c l:=fun {v c l} h=>own_keep h (fun g e=>kg.block g (h.lt g e).2 (fun e2=>by
        obtain ⟨c5,hc5⟩:=own_vt h e
        obtain ⟨b5,hb5⟩:∃ b5,w5.heap[L+1]? = some (.cells b5 50 (0,0)):=(show ∃ b5,w5.heap[L+1]? = some (.cells b5 50 (0,0)) from HB5)
        rw [e2,hb5] at hc5
        injection hc5 with hc5
        injection hc5 with _ hc6
        exact absurd hc6 (by decide)))
      have ZB:=hB bz (by omega)
      have LB:=hB bl (by omega)
      have GB:=hB bg (by omega)
      have SB:=hX.ls.lb
      have HSX:∀ W',Kb 0 wr W'→W'.cell? ⟨Z,0,none⟩=some (.int .i64 1)∧W'.cell? ⟨Z,1,none⟩=some (.slice (some x) 4 4)∧W'.cell? ⟨L,0,none⟩=some (.int .i64 2)∧W'.cell? ⟨L,1,none⟩=some (.slice pl n cl)∧W'.cell? ⟨L+1,0,none⟩=some (.int .i64 3)∧W'.cell? ⟨L+1,1,none⟩=some (.slice px i cx):=fun W' k=>⟨cell_of (blk_kb ZB k) rfl,cell_of (blk_kb ZB k) rfl,cell_of (blk_kb LB k) rfl,cell_of (blk_kb LB k) rfl,cell_of (blk_kb SB k) rfl,cell_of (blk_kb SB k) rfl⟩
      have hsz5:=k05.size
      have HALL:Hid (wr.ownsRow w.heap.size 41 4 (.slice (some x) 4 4) 4 RL∧wr.ownsRow w.heap.size 41 4 (.slice pl n cl) n (vls (lnT n S).C n)∧wr.ownsRow w.heap.size 41 4 (.slice px i cx) i (vls (skT i).C i)∧TH w.heap.size wr (.slice pu i cu) i (fun k=>stT (T k)) V∧wr.heap[w.heap.size+1]? = some (.cells #[.int .i64 0,.int .i64 0,.string ⟨#[]⟩,.int .i64 0,.slice none 0 0] 44 (0,0))∧Kb 0 w wr):=(⟨hO ox,hO ol,own_base hX.ls.ow (by omega),hX.th.base (by omega),GB,k0r⟩:_∧_)
      clear hX HX k05 bg bz ox bl ol hZ1 hZ2 kg hB k0r hO ZB LB GB SB hsz5 H5 HSS hi hin HB5
      go_upto_region 15 with fail
      have HSY:∀ W':World,(∀ g,g < wr.heap.size→W'.heap[g]? = wr.heap[g]?)→W'.cell? ⟨Z,0,none⟩=some (.int .i64 1)∧W'.cell? ⟨Z,1,none⟩=some (.slice (some x) 4 4)∧W'.cell? ⟨L,0,none⟩=some (.int .i64 2)∧W'.cell? ⟨L,1,none⟩=some (.slice pl n cl)∧W'.cell? ⟨L+1,0,none⟩=some (.int .i64 3)∧W'.cell? ⟨L+1,1,none⟩=some (.slice px i cx):=fun W' hk=>by
        obtain ⟨q0,q1,q2,q3,q4,q5⟩:=HSX wr (Kb.refl _ _)
        exact ⟨(World.cell?_of_block (hk Z (lt_of_cell q0))).trans q0,(World.cell?_of_block (hk Z (lt_of_cell q1))).trans q1,(World.cell?_of_block (hk L (lt_of_cell q2))).trans q2,(World.cell?_of_block (hk L (lt_of_cell q3))).trans q3,(World.cell?_of_block (hk (L+1) (lt_of_cell q4))).trans q4,(World.cell?_of_block (hk (L+1) (lt_of_cell q5))).trans q5⟩
      have HON:∀ y ∈ tcl (fun k=>stT (T k)) V i,y.oneCell'=true:=by
        intro y hy
        obtain ⟨k,hk⟩:=List.mem_iff_getElem?.1 hy
        have hl:=tcl_len (fun k=>stT (T k)) V i
        have hlt:=(List.getElem?_eq_some_iff.1 hk).1
        have hq:k / 2 < i:=by omega
        have hat:=tcl_at (fun k=>stT (T k)) V (k:=k / 2) (t:=k % 2) (by omega) hq
        rw [show k / 2*2+k % 2=k by omega,hk] at hat
        have hown:=(show _∧_∧_∧_∧_∧_ from HALL).2.2.2.1.vs (k / 2) hq
        obtain ⟨pq,cq,hpq⟩:=own_shape hown
        rcases Nat.mod_two_eq_zero_or_one k with e | e
        · rw [e] at hat
          have:=Option.some.inj hat
          rw [this]
          rfl
        · rw [e] at hat
          have h2:y=V (k / 2):=Option.some.inj hat
          rw [h2,hpq]
          rfl
      obtain ⟨i1,hi1,hy0,hy1,hy2⟩:=info_parts infoTp
      have HI1:Hid (Try.prog.info? 50=some i1):=hi1
      have hic:i≤20:=by omega
      clear hi1
      refine AnyL.region (S:=fun W':World=>W'.cell? ⟨Z,0,none⟩=some (.int .i64 1)∧W'.cell? ⟨Z,1,none⟩=some (.slice (some x) 4 4)∧W'.cell? ⟨L,0,none⟩=some (.int .i64 2)∧W'.cell? ⟨L,1,none⟩=some (.slice pl n cl)∧W'.cell? ⟨L+1,0,none⟩=some (.int .i64 3)∧W'.cell? ⟨L+1,1,none⟩=some (.slice px i cx)) (z:=8) (by kernel_rfl) ?_
      obtain ⟨VD,hVD⟩:∃ VD,VD=wr.drew:=⟨_,rfl⟩
      rw [← hVD]
      have KD:Hid (Kb 0 wr VD):=by rw [hVD];exact Kb.drew (Kb.refl _ _)
      have hS0:(fun W':World=>W'.cell? ⟨Z,0,none⟩=some (.int .i64 1)∧W'.cell? ⟨Z,1,none⟩=some (.slice (some x) 4 4)∧W'.cell? ⟨L,0,none⟩=some (.int .i64 2)∧W'.cell? ⟨L,1,none⟩=some (.slice pl n cl)∧W'.cell? ⟨L+1,0,none⟩=some (.int .i64 3)∧W'.cell? ⟨L+1,1,none⟩=some (.slice px i cx)) VD:=HSX VD KD
      clear hVD
      refine AnyL.takeAt 1 (.agg #[.int .i64 1,.slice (some x) 4 4]) rfl (by kernel_rfl) (by kernel_rfl) (by kernel_rfl) (by kernel_rfl) (fun _ _ _ h=>h) rfl hS0 (by intro W hW;obtain ⟨q0,q1,q2,q3,q4,q5⟩:=hW;go_simp) ?_
      try simp only [Act.put,List.setIfInBounds_toArray,List.set_cons_zero,List.set_cons_succ]
      refine AnyL.takeAt 2 (.agg #[.int .i64 2,.slice pl n cl]) rfl (by kernel_rfl) (by kernel_rfl) (by kernel_rfl) (by kernel_rfl) (fun _ _ _ h=>h) rfl hS0 (by intro W hW;obtain ⟨q0,q1,q2,q3,q4,q5⟩:=hW;go_simp) ?_
      try simp only [Act.put,List.setIfInBounds_toArray,List.set_cons_zero,List.set_cons_succ]
      refine AnyL.takeAt 3 (.agg #[.int .i64 3,.slice px i cx]) rfl (by kernel_rfl) (by kernel_rfl) (by kernel_rfl) (by kernel_rfl) (fun _ _ _ h=>h) rfl hS0 (by intro W hW;obtain ⟨q0,q1,q2,q3,q4,q5⟩:=hW;go_simp) ?_
      try simp only [Act.put,List.setIfInBounds_toArray,List.set_cons_zero,List.set_cons_succ]
      refine AnyL.takeAt 5 (.slice pu i cu) rfl (by kernel_rfl) (by kernel_rfl) (by kernel_rfl) (by kernel_rfl) (fun _ _ _ h=>h) rfl hS0 (by intro W hW;obtain ⟨q0,q1,q2,q3,q4,q5⟩:=hW;go_simp) ?_
      try simp only [Act.put,List.setIfInBounds_toArray,List.set_cons_zero,List.set_cons_succ]
      refine AnyL.two 0 4 rfl rfl (by kernel_rfl) rfl rfl ?_ ?_
      · intro K hK
        go_simp
        refine (im_node 0 VD).mono ?_
        rintro e y0 ⟨rfl,gk⟩
        have K0:Hid (Kb 0 wr y0):=Kb.trans KD gk
        clear gk
        refine hK.out _ _ (fun _=>HSX y0 K0) ?_
        clear hK K
        try simp only [Act.put,List.setIfInBounds_toArray,List.set_cons_zero,List.set_cons_succ]
        refine AnyL.oneAt 4 rfl (by kernel_rfl) rfl ?_
        intro K hK
        go_simp
        obtain ⟨N,hN⟩:∃ N,N=y0.heap.size:=⟨_,rfl⟩
        obtain ⟨y4,hy4⟩:∃ y,y=y0.alloc (.cells #[.int .i64 1,.slice (some x) 4 4,.int .i64 2,.slice pl n cl,.int .i64 3,.slice px i cx] 50):=⟨_,rfl⟩
        have gk:Kb 0 y0 y4:=by rw [hy4];exact kb_alloc _ _ _
        have K4:Hid (Kb 0 wr y4):=Kb.trans K0 gk
        have HNB:Hid (wr.heap.size≤N):=(by rw [hN];exact (show Kb 0 wr y0 from K0).size:wr.heap.size≤N)
        have HN:Hid (y4.ownsRow w.heap.size 50 2 (.slice (some ⟨N,0,none⟩) 3 3) 3 [.int .i64 1,.slice (some x) 4 4,.int .i64 2,.slice pl n cl,.int .i64 3,.slice px i cx]):=(by rw [hy4,hN];exact own_new _ _ _ _ _ _ (Nat.le_trans (show _∧_∧_∧_∧_∧_ from HALL).2.2.2.2.2.size (show Kb 0 wr y0 from K0).size) (by omega) rfl rfl:y4.ownsRow _ _ _ _ _ _)
        have hWd:y0.alloc (.cells #[.int .i64 1,.slice (some x) 4 4,.int .i64 2,.slice pl n cl,.int .i64 3,.slice px i cx] 50)=y4:=hy4.symm
        have hZd:y0.heap.size=N:=hN.symm
        try simp only [hWd]
        try rw [hWd]
        try rw [hZd]
        clear hWd hZd hN hy4 gk
        refine hK.out _ _ (fun _=>HSX y4 K4) ?_
        clear hK K
        try simp only [Act.put,List.setIfInBounds_toArray,List.set_cons_zero,List.set_cons_succ]
        refine AnyL.oneAt 6 rfl (by kernel_rfl) rfl ?_
        intro K hK
        have KW:=(show Kb 0 wr y4 from K4)
        by_cases hi0:i=0
        · have hnn : y4.ownsRow w.heap.size 50 2 (.slice (some ⟨N, 0, none⟩) 3 3) (3 + i) ([.int .i64 1, .slice (some x) 4 4, .int .i64 2, .slice pl n cl, .int .i64 3, .slice px i cx] ++ tcl (fun k => stT (T k)) V i) := by
            subst hi0
            exact (show y4.ownsRow _ _ _ _ _ _ from HN)
          refine wp_append_none (.tmp 76) (.tmp 77) 42 rfl (b:=some ⟨N,0,none⟩) (p:=pu) (N:=3) (cap:=3) (c:=cu) rfl (by show Value.slice pu i cu = _;rw [hi0]) (app_none (by omega)) ?_
          clear hi0
          have HK9:∀ g,g < wr.heap.size→y4.heap[g]? = wr.heap[g]?:=fun g hg=>KW.block g (Nat.zero_le _) hg
          have G9:y4.heap[w.heap.size+1]? = some (.cells #[.int .i64 0,.int .i64 0,.string ⟨#[]⟩,.int .i64 0,.slice none 0 0] 44 (0,0)):=(HK9 _ (blk_lt (show _∧_∧_∧_∧_∧_ from HALL).2.2.2.2.1)).trans (show _∧_∧_∧_∧_∧_ from HALL).2.2.2.2.1
          have g0:y4.cell? ⟨w.heap.size+1,0,none⟩=some (.int .i64 0):=cell_of G9 rfl
          have g1:y4.cell? ⟨w.heap.size+1,1,none⟩=some (.int .i64 0):=cell_of G9 rfl
          have g2:y4.cell? ⟨w.heap.size+1,2,none⟩=some (.string ⟨#[]⟩):=cell_of G9 rfl
          have g3:y4.cell? ⟨w.heap.size+1,3,none⟩=some (.int .i64 0):=cell_of G9 rfl
          have g4:y4.cell? ⟨w.heap.size+1,4,none⟩=some (.slice none 0 0):=cell_of G9 rfl
          have gz:∀ j,y4.frozen? ⟨w.heap.size+1,j,none⟩=false:=fun j=>frozen_of G9
          obtain ⟨WF,hWF⟩:∃ WF,WF=s5 y4 (w.heap.size+1) 4 0 ⟨#[]⟩ 0 (.slice (some ⟨N,0,none⟩) 3 3):=⟨_,rfl⟩
          have bF:WF.heap[w.heap.size+1]? = some (.cells #[.int .i64 4,.int .i64 0,.string ⟨#[]⟩,.int .i64 0,.slice (some ⟨N,0,none⟩) 3 3] 44 (0,0)):=by rw [hWF];exact s5_known G9 _ _ _ _ _
          have e0:WF.cell? ⟨w.heap.size+1,0,none⟩=some (.int .i64 4):=cell_of bF rfl
          have e1:WF.cell? ⟨w.heap.size+1,1,none⟩=some (.int .i64 0):=cell_of bF rfl
          have e2:WF.cell? ⟨w.heap.size+1,2,none⟩=some (.string ⟨#[]⟩):=cell_of bF rfl
          have e3:WF.cell? ⟨w.heap.size+1,3,none⟩=some (.int .i64 0):=cell_of bF rfl
          have e4:WF.cell? ⟨w.heap.size+1,4,none⟩=some (.slice (some ⟨N,0,none⟩) 3 3):=cell_of bF rfl
          have HFF:Hid (RowT 0 WF (.slice (some ⟨N,0,none⟩) 3 3) (3+i) (jF ⟨n,S,p,q,i,T⟩)∧Kb 0 w WF):=(by
            obtain ⟨h1,h2,h3,h4,h5,h6⟩:=(show _∧_∧_∧_∧_∧_ from HALL)
            have fr:∀ g,g ≠ w.heap.size+1→WF.heap[g]? = y4.heap[g]?:=fun g hg=>by rw [hWF];exact s5_far _ _ _ _ _ _ hg
            exact gr_fin (show RL = _ from HRL) h1 h2 h3 h4 h5 h6 (by rw [hWF];exact (s5_os _ _ _ _ _ _ _).1.trans KW.os) (by rw [hWF];exact (s5_os _ _ _ _ _ _ _).2.trans KW.output) (by rw [hWF,s5_size];exact KW.size) (fun g hg1 hg2=>(fr g hg2).trans (HK9 g hg1)) (own_keep hnn (fun g e=>fr g (own_ty hnn G9 (by decide) e))):_∧_)
          unfold s5 s4 at hWF
          have HWF:Hid (WF = _):=hWF
          have hS9:=(HSY y4 (fun g hg=>HK9 g hg))
          refine hK.out _ _ (fun _=>hS9) ?_
          clear hK K hWF bF G9
          try simp only [Act.put,List.setIfInBounds_toArray,List.set_cons_zero,List.set_cons_succ]
          refine AnyL.takeAt 7 (.agg #[.int .i64 4,.int .i64 0,.string ⟨#[]⟩,.int .i64 0,.slice (some ⟨N,0,none⟩) 3 3]) rfl (by kernel_rfl) (by kernel_rfl) (by kernel_rfl) (by kernel_rfl) (fun _ _ _ h=>h) rfl hS9 (by intro W hW;go_simp) ?_
          try simp only [Act.put,List.setIfInBounds_toArray,List.set_cons_zero,List.set_cons_succ]
          refine AnyL.oneAt 8 rfl (by kernel_rfl) rfl ?_
          intro K hK
          go_simp
          refine hK.out _ _ (fun h=>absurd rfl h) ?_
          clear hK K
          try simp only [Act.put,List.setIfInBounds_toArray,List.set_cons_zero,List.set_cons_succ]
          refine AnyL.done (by kernel_rfl) ?_
          go_wp2_with fail
          rw [← (show WF = _ from HWF)]
          clear HWF
          refine bodyPost_ret (by simp [results,Try.results35,go_sem,e0,e1,e2,e3,e4];rfl) rfl ?_
          exact ⟨_,rfl,(show _∧_ from HFF).1,(show _∧_ from HFF).2⟩
        · have hth:=(own_kb (show _∧_∧_∧_∧_∧_ from HALL).2.2.2.1.nn KW)
          obtain ⟨A,cu',hA,-,hcu,hAc⟩:=own_cells hth (by omega)
          have hsw:=(show _∧_∧_∧_∧_∧_ from HALL).2.2.2.2.2.size
          refine wp_append_own _ (.tmp 76) (.tmp 77) 42 rfl w.heap.size 50 i1 (.agg #[.int .i64 0,.slice none 0 0]) 2 32 Try.underlying42 HI1 hy0 hy1 hy2 rfl (by decide) (.slice (some ⟨N,0,none⟩) 3 3) 3 [.int .i64 1,.slice (some x) 4 4,.int .i64 2,.slice pl n cl,.int .i64 3,.slice px i cx] rfl (show y4.ownsRow _ _ _ _ _ _ from HN) ⟨A,0,none⟩ i cu' (tcl (fun k=>stT (T k)) V i) hA (tcl_len _ _ _) (fun j y hj=>by
            rw [addr0,hAc j (by have:=tcl_len (fun k=>stT (T k)) V i;have:=(List.getElem?_eq_some_iff.1 hj).1;omega)]
            exact hj) HON (by unfold maxLen;omega) (by omega) (Nat.le_trans hsw KW.size) ?_
          intro v w9 hown1 hgrow1 _
          obtain ⟨pv,cv,rfl⟩:=own_shape hown1
          have HK9:∀ g,g < wr.heap.size→w9.heap[g]? = wr.heap[g]?:=fun g hg=>(hgrow1.block g (Nat.lt_of_lt_of_le hg KW.size) (fun e=>by have e2:g=N:=Option.some.inj e;have:=(show wr.heap.size≤N from HNB);omega)).trans (KW.block g (Nat.zero_le _) hg)
          have G9:w9.heap[w.heap.size+1]? = some (.cells #[.int .i64 0,.int .i64 0,.string ⟨#[]⟩,.int .i64 0,.slice none 0 0] 44 (0,0)):=(HK9 _ (blk_lt (show _∧_∧_∧_∧_∧_ from HALL).2.2.2.2.1)).trans (show _∧_∧_∧_∧_∧_ from HALL).2.2.2.2.1
          have g0:w9.cell? ⟨w.heap.size+1,0,none⟩=some (.int .i64 0):=cell_of G9 rfl
          have g1:w9.cell? ⟨w.heap.size+1,1,none⟩=some (.int .i64 0):=cell_of G9 rfl
          have g2:w9.cell? ⟨w.heap.size+1,2,none⟩=some (.string ⟨#[]⟩):=cell_of G9 rfl
          have g3:w9.cell? ⟨w.heap.size+1,3,none⟩=some (.int .i64 0):=cell_of G9 rfl
          have g4:w9.cell? ⟨w.heap.size+1,4,none⟩=some (.slice none 0 0):=cell_of G9 rfl
          have gz:∀ j,w9.frozen? ⟨w.heap.size+1,j,none⟩=false:=fun j=>frozen_of G9
          obtain ⟨WF,hWF⟩:∃ WF,WF=s5 w9 (w.heap.size+1) 4 0 ⟨#[]⟩ 0 (.slice pv (3+i) cv):=⟨_,rfl⟩
          have bF:WF.heap[w.heap.size+1]? = some (.cells #[.int .i64 4,.int .i64 0,.string ⟨#[]⟩,.int .i64 0,.slice pv (3+i) cv] 44 (0,0)):=by rw [hWF];exact s5_known G9 _ _ _ _ _
          have e0:WF.cell? ⟨w.heap.size+1,0,none⟩=some (.int .i64 4):=cell_of bF rfl
          have e1:WF.cell? ⟨w.heap.size+1,1,none⟩=some (.int .i64 0):=cell_of bF rfl
          have e2:WF.cell? ⟨w.heap.size+1,2,none⟩=some (.string ⟨#[]⟩):=cell_of bF rfl
          have e3:WF.cell? ⟨w.heap.size+1,3,none⟩=some (.int .i64 0):=cell_of bF rfl
          have e4:WF.cell? ⟨w.heap.size+1,4,none⟩=some (.slice pv (3+i) cv):=cell_of bF rfl
          have HFF:Hid (RowT 0 WF (.slice pv (3+i) cv) (3+i) (jF ⟨n,S,p,q,i,T⟩)∧Kb 0 w WF):=(by
            obtain ⟨h1,h2,h3,h4,h5,h6⟩:=(show _∧_∧_∧_∧_∧_ from HALL)
            have fr:∀ g,g ≠ w.heap.size+1→WF.heap[g]? = w9.heap[g]?:=fun g hg=>by rw [hWF];exact s5_far _ _ _ _ _ _ hg
            exact gr_fin (show RL = _ from HRL) h1 h2 h3 h4 h5 h6 (by rw [hWF];exact (s5_os _ _ _ _ _ _ _).1.trans (hgrow1.os.trans KW.os)) (by rw [hWF];exact (s5_os _ _ _ _ _ _ _).2.trans (hgrow1.output.trans KW.output)) (by rw [hWF,s5_size];exact (Nat.le_trans KW.size hgrow1.size)) (fun g hg1 hg2=>(fr g hg2).trans (HK9 g hg1)) (own_keep hown1 (fun g e=>fr g (own_ty hown1 G9 (by decide) e))):_∧_)
          unfold s5 s4 at hWF
          have HWF:Hid (WF = _):=hWF
          have hS9:=(HSY w9 (fun g hg=>HK9 g hg))
          refine hK.out _ _ (fun _=>hS9) ?_
          clear hK K hWF bF G9
          try simp only [Act.put,List.setIfInBounds_toArray,List.set_cons_zero,List.set_cons_succ]
          refine AnyL.takeAt 7 (.agg #[.int .i64 4,.int .i64 0,.string ⟨#[]⟩,.int .i64 0,.slice pv (3+i) cv]) rfl (by kernel_rfl) (by kernel_rfl) (by kernel_rfl) (by kernel_rfl) (fun _ _ _ h=>h) rfl hS9 (by intro W hW;go_simp) ?_
          try simp only [Act.put,List.setIfInBounds_toArray,List.set_cons_zero,List.set_cons_succ]
          refine AnyL.oneAt 8 rfl (by kernel_rfl) rfl ?_
          intro K hK
          go_simp
          refine hK.out _ _ (fun h=>absurd rfl h) ?_
          clear hK K
          try simp only [Act.put,List.setIfInBounds_toArray,List.set_cons_zero,List.set_cons_succ]
          refine AnyL.done (by kernel_rfl) ?_
          go_wp2_with fail
          rw [← (show WF = _ from HWF)]
          clear HWF
          refine bodyPost_ret (by simp [results,Try.results35,go_sem,e0,e1,e2,e3,e4];rfl) rfl ?_
          exact ⟨_,rfl,(show _∧_ from HFF).1,(show _∧_ from HFF).2⟩
      · intro K hK
        go_simp
        obtain ⟨N,hN⟩:∃ N,N=VD.heap.size:=⟨_,rfl⟩
        obtain ⟨y4,hy4⟩:∃ y,y=VD.alloc (.cells #[.int .i64 1,.slice (some x) 4 4,.int .i64 2,.slice pl n cl,.int .i64 3,.slice px i cx] 50):=⟨_,rfl⟩
        have gk:Kb 0 VD y4:=by rw [hy4];exact kb_alloc _ _ _
        have K4:Hid (Kb 0 wr y4):=Kb.trans KD gk
        have HNB:Hid (wr.heap.size≤N):=(by rw [hN];exact (show Kb 0 wr VD from KD).size:wr.heap.size≤N)
        have HN:Hid (y4.ownsRow w.heap.size 50 2 (.slice (some ⟨N,0,none⟩) 3 3) 3 [.int .i64 1,.slice (some x) 4 4,.int .i64 2,.slice pl n cl,.int .i64 3,.slice px i cx]):=(by rw [hy4,hN];exact own_new _ _ _ _ _ _ (Nat.le_trans (show _∧_∧_∧_∧_∧_ from HALL).2.2.2.2.2.size (show Kb 0 wr VD from KD).size) (by omega) rfl rfl:y4.ownsRow _ _ _ _ _ _)
        have hWd:VD.alloc (.cells #[.int .i64 1,.slice (some x) 4 4,.int .i64 2,.slice pl n cl,.int .i64 3,.slice px i cx] 50)=y4:=hy4.symm
        have hZd:VD.heap.size=N:=hN.symm
        try simp only [hWd]
        try rw [hWd]
        try rw [hZd]
        clear hWd hZd hN hy4 gk
        refine hK.out _ _ (fun _=>HSX y4 K4) ?_
        clear hK K
        try simp only [Act.put,List.setIfInBounds_toArray,List.set_cons_zero,List.set_cons_succ]
        refine AnyL.oneAt 0 rfl (by kernel_rfl) rfl ?_
        intro K hK
        go_simp
        refine (im_node 0 y4).mono ?_
        rintro e y0 ⟨rfl,gk⟩
        have K0:Hid (Kb 0 wr y0):=Kb.trans K4 gk
        replace HN:Hid (y0.ownsRow w.heap.size 50 2 (.slice (some ⟨N,0,none⟩) 3 3) 3 [.int .i64 1,.slice (some x) 4 4,.int .i64 2,.slice pl n cl,.int .i64 3,.slice px i cx]):=own_kb HN gk
        clear gk
        refine hK.out _ _ (fun _=>HSX y0 K0) ?_
        clear hK K
        try simp only [Act.put,List.setIfInBounds_toArray,List.set_cons_zero,List.set_cons_succ]
        refine AnyL.oneAt 6 rfl (by kernel_rfl) rfl ?_
        intro K hK
        have KW:=(show Kb 0 wr y0 from K0)
        by_cases hi0:i=0
        · have hnn : y0.ownsRow w.heap.size 50 2 (.slice (some ⟨N, 0, none⟩) 3 3) (3 + i) ([.int .i64 1, .slice (some x) 4 4, .int .i64 2, .slice pl n cl, .int .i64 3, .slice px i cx] ++ tcl (fun k => stT (T k)) V i) := by
            subst hi0
            exact (show y0.ownsRow _ _ _ _ _ _ from HN)
          refine wp_append_none (.tmp 76) (.tmp 77) 42 rfl (b:=some ⟨N,0,none⟩) (p:=pu) (N:=3) (cap:=3) (c:=cu) rfl (by show Value.slice pu i cu = _;rw [hi0]) (app_none (by omega)) ?_
          clear hi0
          have HK9:∀ g,g < wr.heap.size→y0.heap[g]? = wr.heap[g]?:=fun g hg=>KW.block g (Nat.zero_le _) hg
          have G9:y0.heap[w.heap.size+1]? = some (.cells #[.int .i64 0,.int .i64 0,.string ⟨#[]⟩,.int .i64 0,.slice none 0 0] 44 (0,0)):=(HK9 _ (blk_lt (show _∧_∧_∧_∧_∧_ from HALL).2.2.2.2.1)).trans (show _∧_∧_∧_∧_∧_ from HALL).2.2.2.2.1
          have g0:y0.cell? ⟨w.heap.size+1,0,none⟩=some (.int .i64 0):=cell_of G9 rfl
          have g1:y0.cell? ⟨w.heap.size+1,1,none⟩=some (.int .i64 0):=cell_of G9 rfl
          have g2:y0.cell? ⟨w.heap.size+1,2,none⟩=some (.string ⟨#[]⟩):=cell_of G9 rfl
          have g3:y0.cell? ⟨w.heap.size+1,3,none⟩=some (.int .i64 0):=cell_of G9 rfl
          have g4:y0.cell? ⟨w.heap.size+1,4,none⟩=some (.slice none 0 0):=cell_of G9 rfl
          have gz:∀ j,y0.frozen? ⟨w.heap.size+1,j,none⟩=false:=fun j=>frozen_of G9
          obtain ⟨WF,hWF⟩:∃ WF,WF=s5 y0 (w.heap.size+1) 4 0 ⟨#[]⟩ 0 (.slice (some ⟨N,0,none⟩) 3 3):=⟨_,rfl⟩
          have bF:WF.heap[w.heap.size+1]? = some (.cells #[.int .i64 4,.int .i64 0,.string ⟨#[]⟩,.int .i64 0,.slice (some ⟨N,0,none⟩) 3 3] 44 (0,0)):=by rw [hWF];exact s5_known G9 _ _ _ _ _
          have e0:WF.cell? ⟨w.heap.size+1,0,none⟩=some (.int .i64 4):=cell_of bF rfl
          have e1:WF.cell? ⟨w.heap.size+1,1,none⟩=some (.int .i64 0):=cell_of bF rfl
          have e2:WF.cell? ⟨w.heap.size+1,2,none⟩=some (.string ⟨#[]⟩):=cell_of bF rfl
          have e3:WF.cell? ⟨w.heap.size+1,3,none⟩=some (.int .i64 0):=cell_of bF rfl
          have e4:WF.cell? ⟨w.heap.size+1,4,none⟩=some (.slice (some ⟨N,0,none⟩) 3 3):=cell_of bF rfl
          have HFF:Hid (RowT 0 WF (.slice (some ⟨N,0,none⟩) 3 3) (3+i) (jF ⟨n,S,p,q,i,T⟩)∧Kb 0 w WF):=(by
            obtain ⟨h1,h2,h3,h4,h5,h6⟩:=(show _∧_∧_∧_∧_∧_ from HALL)
            have fr:∀ g,g ≠ w.heap.size+1→WF.heap[g]? = y0.heap[g]?:=fun g hg=>by rw [hWF];exact s5_far _ _ _ _ _ _ hg
            exact gr_fin (show RL = _ from HRL) h1 h2 h3 h4 h5 h6 (by rw [hWF];exact (s5_os _ _ _ _ _ _ _).1.trans KW.os) (by rw [hWF];exact (s5_os _ _ _ _ _ _ _).2.trans KW.output) (by rw [hWF,s5_size];exact KW.size) (fun g hg1 hg2=>(fr g hg2).trans (HK9 g hg1)) (own_keep hnn (fun g e=>fr g (own_ty hnn G9 (by decide) e))):_∧_)
          unfold s5 s4 at hWF
          have HWF:Hid (WF = _):=hWF
          have hS9:=(HSY y0 (fun g hg=>HK9 g hg))
          refine hK.out _ _ (fun _=>hS9) ?_
          clear hK K hWF bF G9
          try simp only [Act.put,List.setIfInBounds_toArray,List.set_cons_zero,List.set_cons_succ]
          refine AnyL.takeAt 7 (.agg #[.int .i64 4,.int .i64 0,.string ⟨#[]⟩,.int .i64 0,.slice (some ⟨N,0,none⟩) 3 3]) rfl (by kernel_rfl) (by kernel_rfl) (by kernel_rfl) (by kernel_rfl) (fun _ _ _ h=>h) rfl hS9 (by intro W hW;go_simp) ?_
          try simp only [Act.put,List.setIfInBounds_toArray,List.set_cons_zero,List.set_cons_succ]
          refine AnyL.oneAt 8 rfl (by kernel_rfl) rfl ?_
          intro K hK
          go_simp
          refine hK.out _ _ (fun h=>absurd rfl h) ?_
          clear hK K
          try simp only [Act.put,List.setIfInBounds_toArray,List.set_cons_zero,List.set_cons_succ]
          refine AnyL.done (by kernel_rfl) ?_
          go_wp2_with fail
          rw [← (show WF = _ from HWF)]
          clear HWF
          refine bodyPost_ret (by simp [results,Try.results35,go_sem,e0,e1,e2,e3,e4];rfl) rfl ?_
          exact ⟨_,rfl,(show _∧_ from HFF).1,(show _∧_ from HFF).2⟩
        · have hth:=(own_kb (show _∧_∧_∧_∧_∧_ from HALL).2.2.2.1.nn KW)
          obtain ⟨A,cu',hA,-,hcu,hAc⟩:=own_cells hth (by omega)
          have hsw:=(show _∧_∧_∧_∧_∧_ from HALL).2.2.2.2.2.size
          refine wp_append_own _ (.tmp 76) (.tmp 77) 42 rfl w.heap.size 50 i1 (.agg #[.int .i64 0,.slice none 0 0]) 2 32 Try.underlying42 HI1 hy0 hy1 hy2 rfl (by decide) (.slice (some ⟨N,0,none⟩) 3 3) 3 [.int .i64 1,.slice (some x) 4 4,.int .i64 2,.slice pl n cl,.int .i64 3,.slice px i cx] rfl (show y0.ownsRow _ _ _ _ _ _ from HN) ⟨A,0,none⟩ i cu' (tcl (fun k=>stT (T k)) V i) hA (tcl_len _ _ _) (fun j y hj=>by
            rw [addr0,hAc j (by have:=tcl_len (fun k=>stT (T k)) V i;have:=(List.getElem?_eq_some_iff.1 hj).1;omega)]
            exact hj) HON (by unfold maxLen;omega) (by omega) (Nat.le_trans hsw KW.size) ?_
          intro v w9 hown1 hgrow1 _
          obtain ⟨pv,cv,rfl⟩:=own_shape hown1
          have HK9:∀ g,g < wr.heap.size→w9.heap[g]? = wr.heap[g]?:=fun g hg=>(hgrow1.block g (Nat.lt_of_lt_of_le hg KW.size) (fun e=>by have e2:g=N:=Option.some.inj e;have:=(show wr.heap.size≤N from HNB);omega)).trans (KW.block g (Nat.zero_le _) hg)
          have G9:w9.heap[w.heap.size+1]? = some (.cells #[.int .i64 0,.int .i64 0,.string ⟨#[]⟩,.int .i64 0,.slice none 0 0] 44 (0,0)):=(HK9 _ (blk_lt (show _∧_∧_∧_∧_∧_ from HALL).2.2.2.2.1)).trans (show _∧_∧_∧_∧_∧_ from HALL).2.2.2.2.1
          have g0:w9.cell? ⟨w.heap.size+1,0,none⟩=some (.int .i64 0):=cell_of G9 rfl
          have g1:w9.cell? ⟨w.heap.size+1,1,none⟩=some (.int .i64 0):=cell_of G9 rfl
          have g2:w9.cell? ⟨w.heap.size+1,2,none⟩=some (.string ⟨#[]⟩):=cell_of G9 rfl
          have g3:w9.cell? ⟨w.heap.size+1,3,none⟩=some (.int .i64 0):=cell_of G9 rfl
          have g4:w9.cell? ⟨w.heap.size+1,4,none⟩=some (.slice none 0 0):=cell_of G9 rfl
          have gz:∀ j,w9.frozen? ⟨w.heap.size+1,j,none⟩=false:=fun j=>frozen_of G9
          obtain ⟨WF,hWF⟩:∃ WF,WF=s5 w9 (w.heap.size+1) 4 0 ⟨#[]⟩ 0 (.slice pv (3+i) cv):=⟨_,rfl⟩
          have bF:WF.heap[w.heap.size+1]? = some (.cells #[.int .i64 4,.int .i64 0,.string ⟨#[]⟩,.int .i64 0,.slice pv (3+i) cv] 44 (0,0)):=by rw [hWF];exact s5_known G9 _ _ _ _ _
          have e0:WF.cell? ⟨w.heap.size+1,0,none⟩=some (.int .i64 4):=cell_of bF rfl
          have e1:WF.cell? ⟨w.heap.size+1,1,none⟩=some (.int .i64 0):=cell_of bF rfl
          have e2:WF.cell? ⟨w.heap.size+1,2,none⟩=some (.string ⟨#[]⟩):=cell_of bF rfl
          have e3:WF.cell? ⟨w.heap.size+1,3,none⟩=some (.int .i64 0):=cell_of bF rfl
          have e4:WF.cell? ⟨w.heap.size+1,4,none⟩=some (.slice pv (3+i) cv):=cell_of bF rfl
          have HFF:Hid (RowT 0 WF (.slice pv (3+i) cv) (3+i) (jF ⟨n,S,p,q,i,T⟩)∧Kb 0 w WF):=(by
            obtain ⟨h1,h2,h3,h4,h5,h6⟩:=(show _∧_∧_∧_∧_∧_ from HALL)
            have fr:∀ g,g ≠ w.heap.size+1→WF.heap[g]? = w9.heap[g]?:=fun g hg=>by rw [hWF];exact s5_far _ _ _ _ _ _ hg
            exact gr_fin (show RL = _ from HRL) h1 h2 h3 h4 h5 h6 (by rw [hWF];exact (s5_os _ _ _ _ _ _ _).1.trans (hgrow1.os.trans KW.os)) (by rw [hWF];exact (s5_os _ _ _ _ _ _ _).2.trans (hgrow1.output.trans KW.output)) (by rw [hWF,s5_size];exact (Nat.le_trans KW.size hgrow1.size)) (fun g hg1 hg2=>(fr g hg2).trans (HK9 g hg1)) (own_keep hown1 (fun g e=>fr g (own_ty hown1 G9 (by decide) e))):_∧_)
          unfold s5 s4 at hWF
          have HWF:Hid (WF = _):=hWF
          have hS9:=(HSY w9 (fun g hg=>HK9 g hg))
          refine hK.out _ _ (fun _=>hS9) ?_
          clear hK K hWF bF G9
          try simp only [Act.put,List.setIfInBounds_toArray,List.set_cons_zero,List.set_cons_succ]
          refine AnyL.takeAt 7 (.agg #[.int .i64 4,.int .i64 0,.string ⟨#[]⟩,.int .i64 0,.slice pv (3+i) cv]) rfl (by kernel_rfl) (by kernel_rfl) (by kernel_rfl) (by kernel_rfl) (fun _ _ _ h=>h) rfl hS9 (by intro W hW;go_simp) ?_
          try simp only [Act.put,List.setIfInBounds_toArray,List.set_cons_zero,List.set_cons_succ]
          refine AnyL.oneAt 8 rfl (by kernel_rfl) rfl ?_
          intro K hK
          go_simp
          refine hK.out _ _ (fun h=>absurd rfl h) ?_
          clear hK K
          try simp only [Act.put,List.setIfInBounds_toArray,List.set_cons_zero,List.set_cons_succ]
          refine AnyL.done (by kernel_rfl) ?_
          go_wp2_with fail
          rw [← (show WF = _ from HWF)]
          clear HWF
          refine bodyPost_ret (by simp [results,Try.results35,go_sem,e0,e1,e2,e3,e4];rfl) rfl ?_
          exact ⟨_,rfl,(show _∧_ from HFF).1,(show _∧_ from HFF).2⟩
end Go.Proofs.Ytamcnmnaadpfoaa.Fo
