import Derived.Test.YtamcnmnaadpfoaaFUaq
import Derived.Test.YtamcnmnaadpfoaaFPah
import Derived.Test.YtamcnmnaadpfoaaFUag
set_option maxHeartbeats 16000000
namespace Go.Proofs.Ytamcnmnaadpfoaa.Fo
open Go.ChangeShapes Go.WideShapes Go.ChangeAt Go.RowKit
set_option linter.unusedVariables false
set_option maxRecDepth 100000
abbrev Gr:=Gv × List (Int × List Gv)
def Rd (M:List UInt8) (g:Gr):Prop:=∃ rest,Wv g.1∧(∀ q,q ∈ g.2→Tok q)∧g.2.length≤600∧M.drop 2=g8 g.1 g.2 ++ rest
def gr0:Gr:=(⟨0,0,⟨#[]⟩,0⟩,[])
def UnR (M:List UInt8) (ok:Bool) (g:Gr):Prop :=
 (ok=true→M ≠ []∧Rg g.2.length (TF g.2) g.1∧pck g.2.length (TF g.2) g.1=toI M∧∀ g',Rd M g'→g=g')∧(ok=false→g=gr0∧∀ g',Rd M g'→M ≠ []→pck g'.2.length (TF g'.2) g'.1=toI M→False)
theorem unr_at {M:List UInt8} {g:Gr} (h:UnR M true g):Rd M g:=by
 obtain ⟨h1,h2,h3,h4⟩:=h.1 rfl
 obtain ⟨_,_,_,y,ys,rest,q1,q2,q3,q4⟩:=pck_read h2 h3 h1
 have hr:Rd M (y,ys):=⟨rest,q1,q2,q3,q4⟩
 rw [h4 _ hr]
 exact hr
theorem UnR.uniq {M:List UInt8} {ok ok':Bool} {g g':Gr} (h:UnR M ok g) (h':UnR M ok' g'):ok=ok'∧g=g':=by
 cases ok <;> cases ok'
 ·exact ⟨rfl,(h.2 rfl).1.trans (h'.2 rfl).1.symm⟩
 ·have q:=h'.1 rfl
  exact ((h.2 rfl).2 g' (unr_at h') q.1 q.2.2.1).elim
 ·have q:=h.1 rfl
  exact ((h'.2 rfl).2 g (unr_at h) q.1 q.2.2.1).elim
 ·exact ⟨rfl,(h.1 rfl).2.2.2 _ (unr_at h')⟩
theorem unr_long {M:List UInt8} (h : 8192 < M.length):UnR M false gr0:=by
 refine ⟨fun e=>(nomatch e),fun _=>⟨rfl,fun g' h1 h2 h3=>?_⟩⟩
 have e:=congrArg List.length h3
 rw [toI_len] at e
 unfold pck at e
 split at e
 ·rename_i hd
  by_cases hh:Gok g'.2.length (TF g'.2) g'.1∧(pfl g'.2.length (TF g'.2) g'.1).length≤8192
  ·have:=hh.2;omega
  ·rw [dc_f hh] at hd;cases hd
 ·simp at e;omega
theorem unr_yes {M:List UInt8} {g:Gr} (hr:Rg g.2.length (TF g.2) g.1) (hM:M ≠ []) (hp:pck g.2.length (TF g.2) g.1=toI M) (hx:∀ g',Rd M g'→g=g'):UnR M true g :=
 ⟨fun _=>⟨hM,hr,hp,hx⟩,fun e=>(nomatch e)⟩
theorem unr_no {M:List UInt8} {g:Gr} {lost:Bool} (hx:∀ g',Rd M g'→g=g'∧lost=false) (hn:lost=true∨pck g.2.length (TF g.2) g.1 ≠ toI M):UnR M false gr0:=by
 refine ⟨fun e=>(nomatch e),fun _=>⟨rfl,fun g' h1 h2 h3=>?_⟩⟩
 obtain ⟨e1,e2⟩:=hx g' h1
 rcases hn with hn | hn
 ·rw [e2] at hn;cases hn
 ·rw [e1] at hn;exact hn h3
structure Arg (p:Option Addr) (c:Nat) (M:List UInt8) (W:World):Prop where
 cap:M.length≤c
 row : 0 < M.length→∃ a,p=some a∧∀ i (x:UInt8),M[i]? = some x→W.cell? (a.add i)=some (.int .u8 (x.toNat:Int))
theorem Arg.keep {p:Option Addr} {c:Nat} {M:List UInt8} {W w':World} (h:Arg p c M W) (k:Kb 0 W w'):Arg p c M w':=⟨h.cap,fun hm=>by
 obtain ⟨a,h1,h2⟩:=h.row hm
 exact ⟨a,h1,fun i x hx=>k.cellA (Nat.zero_le _) (h2 i x hx)⟩⟩
theorem Arg.conv {p:Option Addr} {c:Nat} {M:List UInt8} {W:World} (h:Arg p c M W):(convert 22 9 (.slice p M.length c)).run Try.prog W = .ok (.string ⟨M.toArray⟩) W:=by
 by_cases h0:M.length=0
 ·rw [List.length_eq_zero_iff.1 h0]
  exact conv_zero _ _ _
 ·obtain ⟨a,rfl,h2⟩:=h.row (by omega)
  exact run_convert_bytes_back W 22 9 5 a c M Try.underlying22 Try.underlying5 Try.underlying9 (P:=Try.prog) (fun j hj=>h2 j _ (List.getElem?_eq_getElem hj))
def UnA (M:List UInt8) (W:World) (e:Ending) (w':World):Prop:=∃ (ok:Bool) (a:Gv) (v:Value) (L:List TV),e = .returned (.agg #[.bool ok,.int .i64 a.k,.int .i64 a.m,.string a.x,.int .i64 a.r,v])∧w'.ownsRow W.heap.size 50 2 v L.length (L.flatMap tvc)∧OwnT W.heap.size w' L v.ownBlock∧(∀ z,z ∈ L→Ttt z.1)∧Rv9 a∧L.length≤600∧UnR M ok (a,L.map (·.1))∧Kb 0 W w'
theorem una_nil {M:List UInt8} {W w':World} (h:UnR M false gr0) (k:Kb 0 W w'):UnA M W (.returned (.agg #[.bool false,.int .i64 0,.int .i64 0,.string ⟨#[]⟩,.int .i64 0,.slice none 0 0])) w' :=
 ⟨false,⟨0,0,⟨#[]⟩,0⟩,.slice none 0 0,[],rfl,World.ownsRow_nil _ _ _ _,⟨fun _=>0,fun _=>0,fun i z hz=>by simp at hz,fun i j _ hj=>by simp at hj,fun g i _ hj=>by simp at hj⟩,fun z hz=>(nomatch hz),⟨by show _≤(0:Int);omega,by show (0:Int)≤_;omega,by show (0:Nat)≤_;omega,by show (0:Int)≤0;omega,by show (0:Int) < 256;omega,⟨by show _≤(0:Int);omega,by show (0:Int)≤_;omega⟩⟩,Nat.zero_le _,h,k⟩
theorem im_unpack_long {p : Option Addr} {c : Nat} {M : List UInt8} {W : World} (hM : M.length ≤ 1048576) (hlong : 8192 < M.length) :
  Calls Try.prog 20 #[.slice p M.length c] W (UnA M W):=by
 have hMI:(M.length:Int)≤1048576:=by omega
 have hl:(8192:Int) < (M.length:Int):=by omega
 have HD:Hid (∀ w',Kb 0 W w'→UnA M W (.returned (.agg #[.bool false,.int .i64 0,.int .i64 0,.string ⟨#[]⟩,.int .i64 0,.slice none 0 0])) w'):=(fun w' k=>una_nil (unr_long hlong) k:∀ w',_)
 clear hM hlong
 have bg:(W.alloc (.cells #[.bool false,.int .i64 0,.int .i64 0,.string ⟨#[]⟩,.int .i64 0,.slice none 0 0] 46)).heap[W.heap.size]? = some (.cells #[.bool false,.int .i64 0,.int .i64 0,.string ⟨#[]⟩,.int .i64 0,.slice none 0 0] 46 (0,0)):=alloc_new _ _ _
 have d0:(W.alloc (.cells #[.bool false,.int .i64 0,.int .i64 0,.string ⟨#[]⟩,.int .i64 0,.slice none 0 0] 46)).cell? ⟨W.heap.size,0,none⟩=some (.bool false):=cell_of bg rfl
 have d1:(W.alloc (.cells #[.bool false,.int .i64 0,.int .i64 0,.string ⟨#[]⟩,.int .i64 0,.slice none 0 0] 46)).cell? ⟨W.heap.size,1,none⟩=some (.int .i64 0):=cell_of bg rfl
 have d2:(W.alloc (.cells #[.bool false,.int .i64 0,.int .i64 0,.string ⟨#[]⟩,.int .i64 0,.slice none 0 0] 46)).cell? ⟨W.heap.size,2,none⟩=some (.int .i64 0):=cell_of bg rfl
 have d3:(W.alloc (.cells #[.bool false,.int .i64 0,.int .i64 0,.string ⟨#[]⟩,.int .i64 0,.slice none 0 0] 46)).cell? ⟨W.heap.size,3,none⟩=some (.string ⟨#[]⟩):=cell_of bg rfl
 have d4:(W.alloc (.cells #[.bool false,.int .i64 0,.int .i64 0,.string ⟨#[]⟩,.int .i64 0,.slice none 0 0] 46)).cell? ⟨W.heap.size,4,none⟩=some (.int .i64 0):=cell_of bg rfl
 have d5:(W.alloc (.cells #[.bool false,.int .i64 0,.int .i64 0,.string ⟨#[]⟩,.int .i64 0,.slice none 0 0] 46)).cell? ⟨W.heap.size,5,none⟩=some (.slice none 0 0):=cell_of bg rfl
 clear bg
 go_enter Try.func20,Try.ntmps20
 go_wp2_with fail
 refine bodyPost_ret (by simp [results,Try.results20,go_sem,d0,d1,d2,d3,d4,d5];rfl) rfl ?_
 exact (show ∀ w',_→_ from HD) _ (kb_alloc 0 W _)
theorem pck_bytes (n:Nat) (F:Nat→Td) (a:Gv):∃ R:List UInt8,pck n F a=toI R:=by
 unfold pck
 split
 ·refine ⟨[72,49] ++ (g8 (rnm (cO n F a) a) (lF (cO n F a).length (cF n F a)) ++ e8 (sm64 (pbd n F a)) 8),?_⟩
  rw [toI_app,toI_app,toI_e8,← gbl_lF]
  unfold pfl
  rw [show pbd n F a = [72,49] ++ gbl (rnm (cO n F a) a) (cO n F a).length (cF n F a) from rfl,List.append_assoc]
  rfl
 ·exact ⟨[],rfl⟩
theorem conv_pck {W:World} {B:Nat} {v:Value} {R:List UInt8} (h:W.ownsRow B 5 1 v (toI R).length (bvs (toI R))):(convert 22 9 v).run Try.prog W = .ok (.string ⟨R.toArray⟩) W:=by
 obtain ⟨p,cap,rfl,h2⟩:=own_rowv h
 rw [toI_len] at h2 ⊢
 by_cases h0:R.length=0
 ·rw [h0,List.length_eq_zero_iff.1 h0]
  exact conv_zero _ _ _
 ·obtain ⟨a,rfl,h3,h4⟩:=h2 (by omega)
  refine run_convert_bytes_back W 22 9 5 a cap R Try.underlying22 Try.underlying5 Try.underlying9 (P:=Try.prog) (fun j hj=>?_)
  rw [h4 j hj]
  simp [toI,List.getD,hj]
theorem six_set {V:World} {B:Nat} {T:TypeId} {c0 c1 c2 c3 c4 c5:Value} (x0 x1 x2 x3 x4 x5:Value) (bq:V.heap[B]? = some (.cells #[c0,c1,c2,c3,c4,c5] T (0,0))):∃ WF,WF=((((((V.setCell ⟨B,0,none⟩ x0).setCell ⟨B,1,none⟩ x1).setCell ⟨B,2,none⟩ x2).setCell ⟨B,3,none⟩ x3).setCell ⟨B,4,none⟩ x4).setCell ⟨B,5,none⟩ x5)∧WF.heap[B]? = some (.cells #[x0,x1,x2,x3,x4,x5] T (0,0))∧(∀ q,q ≠ B→WF.heap[q]? = V.heap[q]?)∧WF.heap.size=V.heap.size∧WF.os=V.os∧WF.output=V.output:=by
 obtain ⟨WF,hWF⟩:∃ WF,WF=((((((V.setCell ⟨B,0,none⟩ x0).setCell ⟨B,1,none⟩ x1).setCell ⟨B,2,none⟩ x2).setCell ⟨B,3,none⟩ x3).setCell ⟨B,4,none⟩ x4).setCell ⟨B,5,none⟩ x5):=⟨_,rfl⟩
 have bF:WF.heap[B]? = some (.cells #[x0,x1,x2,x3,x4,x5] T (0,0)):=by rw [hWF,set_known _ (set_known _ (set_known _ (set_known _ (set_known _ (set_known _ bq)))))];rfl
 have kz:Kz B V WF:=by rw [hWF];exact ((((((Kz.refl B V).set 0 x0).set 1 x1).set 2 x2).set 3 x3).set 4 x4).set 5 x5
 exact ⟨WF,hWF,bF,kz.block,kz.size,kz.os,kz.output⟩
theorem im_unpack {p : Option Addr} {c : Nat} {M : List UInt8} {W : World} (ha : Arg p c M W) (hM : M.length ≤ 8192) :
  Calls Try.prog 20 #[.slice p M.length c] W (UnA M W):=by
 have hl:¬ (8192:Int) < (M.length:Int):=by omega
 have hMI:(M.length:Int)≤8192:=by omega
 obtain ⟨b,hb⟩:∃ b,b=W.heap.size+1:=⟨_,rfl⟩
 obtain ⟨w1,hw1⟩:∃ w1,w1=W.alloc (.cells #[.bool false,.int .i64 0,.int .i64 0,.string ⟨#[]⟩,.int .i64 0,.slice none 0 0] 46):=⟨_,rfl⟩
 have k1:Kb 0 W w1:=by rw [hw1];exact kb_alloc _ _ _
 have z1:w1.heap.size=W.heap.size+1:=by rw [hw1,World.size_alloc]
 have b1:w1.heap[W.heap.size]? = some (.cells #[.bool false,.int .i64 0,.int .i64 0,.string ⟨#[]⟩,.int .i64 0,.slice none 0 0] 46 (0,0)):=by rw [hw1];exact alloc_new _ _ _
 obtain ⟨w2,hw2⟩:∃ w2,w2=w1.alloc (.cells #[.slice p M.length c,.int .i64 (M.length:Int),.bool false] 77):=⟨_,rfl⟩
 have k12:Kb 0 w1 w2:=by rw [hw2];exact kb_alloc _ _ _
 have z2:w2.heap.size=W.heap.size+2:=by rw [hw2,World.size_alloc,z1]
 have b2:w2.heap[b]? = some (.cells #[.slice p M.length c,.int .i64 (M.length:Int),.bool false] 77 (0,0)):=by rw [hw2,hb,← z1];exact alloc_new _ _ _
 have s2:w2.heap[W.heap.size]? = some (.cells #[.bool false,.int .i64 0,.int .i64 0,.string ⟨#[]⟩,.int .i64 0,.slice none 0 0] 46 (0,0)):=(k12.block _ (Nat.zero_le _) (by omega)).trans b1
 have k2:Kb 0 W w2:=k1.trans k12
 have r2:RI b p c M 0 false w2:=by
  refine ⟨by rw [b2];simp,Nat.zero_le _,by omega,ha.cap,fun hm=>?_⟩
  obtain ⟨a,e1,e2⟩:=ha.row hm
  have hlt:a.block < W.heap.size:=by have:=lt_of_cell' (e2 0 _ (List.getElem?_eq_getElem hm));rw [add_block] at this;exact this
  exact ⟨a,e1,by omega,fun i x hx=>k2.cellA (Nat.zero_le _) (e2 i x hx)⟩
 have HT:Calls Try.prog 41 #[.pointer (some ⟨b,0,none⟩),.int .i64 2] w2 fun e w'=>∃ v k1 l1,e = .returned v∧RI b p c M k1 l1 w'∧Kz b w2 w'∧(l1=false→k1=2)∧(2≤M.length→l1=false):=by
  by_cases h3 : 2≤M.length
  ·refine (im_take_fits 2 r2 (by omega)).mono ?_
   rintro e w' ⟨⟨q,rfl,_⟩,y1,y2⟩
   exact ⟨_,2,false,rfl,y1,y2,fun _=>rfl,fun _=>rfl⟩
  ·refine (im_take_not 2 r2 (.inr (.inr (by omega)))).mono ?_
   rintro e w' ⟨rfl,y1,y2⟩
   exact ⟨_,0,true,rfl,y1,y2,fun e=>(nomatch e),fun e=>(h3 e).elim⟩
 have HW:Hid (w1=W.alloc (.cells #[.bool false,.int .i64 0,.int .i64 0,.string ⟨#[]⟩,.int .i64 0,.slice none 0 0] 46)∧w2=w1.alloc (.cells #[.slice p M.length c,.int .i64 (M.length:Int),.bool false] 77)∧b=W.heap.size+1∧w1.heap.size=W.heap.size+1):=(⟨hw1,hw2,hb,z1⟩:_∧_)
 have HK:Hid (Kb 0 W w2∧w2.heap.size=W.heap.size+2∧w2.heap[W.heap.size]? = some (.cells #[.bool false,.int .i64 0,.int .i64 0,.string ⟨#[]⟩,.int .i64 0,.slice none 0 0] 46 (0,0))∧b=W.heap.size+1∧Arg p c M W∧M.length≤8192):=(⟨k2,z2,s2,hb,ha,hM⟩:_∧_)
 clear ha hM k1 z1 b1 k12 z2 b2 s2 k2 r2 hw1 hw2 hb
 go_enter Try.func20,Try.ntmps20
 go_upto_region 4 with fail
 rw [← (show _∧_∧_∧_ from HW).1,← (show _∧_∧_∧_ from HW).2.1,← (show _∧_∧_∧_ from HW).2.2.1]
 clear HW
 go_upto_region 5 with (go_at_call 41;refine HT.mono ?_;rintro e w3 ⟨v3,k1,l1,rfl,t1,t2,t3,t4⟩)
 have HL:=im_rgraph t1
 clear HT
 go_upto_region 6 with (go_at_call 42;refine HL.mono ?_;rintro e w4 ⟨a,v,L,k',l',rfl,u1,u2,u3,u4,u5,u6,u7,u8,u9,u10,u11⟩;obtain ⟨ad,cap,rfl⟩:=own_shape u4;unfold grv)
 clear HL
 generalize hw5:World.alloc w4 _=w5
 obtain ⟨k2,z2,s2,hb,ha,hM⟩:=(show Kb 0 W w2∧w2.heap.size=W.heap.size+2∧w2.heap[W.heap.size]? = some (.cells #[.bool false,.int .i64 0,.int .i64 0,.string ⟨#[]⟩,.int .i64 0,.slice none 0 0] 46 (0,0))∧b=W.heap.size+1∧Arg p c M W∧M.length≤8192 from HK)
 have z3:w3.heap.size=W.heap.size+2:=t2.size.trans z2
 have z4:=u3.size
 have s4w:w4.heap[W.heap.size]? = some (.cells #[.bool false,.int .i64 0,.int .i64 0,.string ⟨#[]⟩,.int .i64 0,.slice none 0 0] 46 (0,0)):=(u3.block _ (by omega) (by omega)).trans ((t2.block _ (by omega)).trans s2)
 have kg4:Kg b w2 w4:=t2.kg.trans u3
 have kW4:Kb 0 W w4:=⟨kg4.os.trans k2.os,kg4.output.trans k2.output,by omega,fun q _ h2=>(kg4.block q (by omega) (by omega)).trans (k2.block q (Nat.zero_le _) h2)⟩
 have cl:w4.cell? ⟨b,2,none⟩=some (.bool l'):=cell_of u1.blk rfl
 have hex:∀ g',Rd M g'→((a,L.map (·.1)):Gr)=g'∧l'=false:=fun g' hg'=>by
  obtain ⟨rest,q1,q2,q3,q4⟩:=hg'
  have h2 : 2≤M.length:=by
   have:=congrArg List.length q4
   rw [List.length_drop,List.length_append] at this
   have hv : 0 < (g8 g'.1 g'.2).length:=by
    unfold g8
    rw [List.length_append]
    have:=v8_head g'.1 q1
    obtain ⟨t,et,_⟩:=this
    rw [List.length_append,et,List.length_cons]
    omega
   omega
  have hl1:=t4 h2
  have hk1:=t3 hl1
  rw [hl1,hk1] at u11
  obtain ⟨r1,r2,_,r4⟩:=u11 g'.1 g'.2 rest rfl q1 q2 q3 q4
  exact ⟨Prod.ext r1 r2,r4⟩
 have k45:Kb 0 w4 w5:=by rw [← hw5];exact kb_alloc _ _ _
 have z5:w5.heap.size=w4.heap.size+1:=by rw [← hw5,World.size_alloc]
 have b5:w5.heap[w4.heap.size]? = some (.cells #[.int .i64 a.k,.int .i64 a.m,.string a.x,.int .i64 a.r,.slice ad L.length cap] 44 (0,0)):=by rw [← hw5];exact alloc_new _ _ _
 have s5:w5.heap[W.heap.size]? = some (.cells #[.bool false,.int .i64 0,.int .i64 0,.string ⟨#[]⟩,.int .i64 0,.slice none 0 0] 46 (0,0)):=(k45.block _ (Nat.zero_le _) (by omega)).trans s4w
 have kW5:=kW4.trans k45
 have cl5:w5.cell? ⟨b,2,none⟩=some (.bool l'):=k45.cell cl
 clear hw5 cl
 cases l' with
 | true =>
  have bq:w5.heap[W.heap.size]? = some (.cells #[.bool false,.int .i64 0,.int .i64 0,.string ⟨#[]⟩,.int .i64 0,.slice none 0 0] 46 (0,0)):=s5
  have g0:w5.cell? ⟨W.heap.size,0,none⟩=some (.bool false):=cell_of bq rfl
  have g1:w5.cell? ⟨W.heap.size,1,none⟩=some (.int .i64 0):=cell_of bq rfl
  have g2:w5.cell? ⟨W.heap.size,2,none⟩=some (.int .i64 0):=cell_of bq rfl
  have g3:w5.cell? ⟨W.heap.size,3,none⟩=some (.string ⟨#[]⟩):=cell_of bq rfl
  have g4:w5.cell? ⟨W.heap.size,4,none⟩=some (.int .i64 0):=cell_of bq rfl
  have g5:w5.cell? ⟨W.heap.size,5,none⟩=some (.slice none 0 0):=cell_of bq rfl
  have gz:∀ j,w5.frozen? ⟨W.heap.size,j,none⟩=false:=fun j=>frozen_of bq
  obtain ⟨WF,hWF,bF,hfr,hzF,ho1,ho2⟩:=six_set (.bool false) (.int .i64 0) (.int .i64 0) (.string ⟨#[]⟩) (.int .i64 0) (.slice none 0 0) bq
  have e0:WF.cell? ⟨W.heap.size,0,none⟩=some (.bool false):=cell_of bF rfl
  have e1:WF.cell? ⟨W.heap.size,1,none⟩=some (.int .i64 0):=cell_of bF rfl
  have e2:WF.cell? ⟨W.heap.size,2,none⟩=some (.int .i64 0):=cell_of bF rfl
  have e3:WF.cell? ⟨W.heap.size,3,none⟩=some (.string ⟨#[]⟩):=cell_of bF rfl
  have e4:WF.cell? ⟨W.heap.size,4,none⟩=some (.int .i64 0):=cell_of bF rfl
  have e5:WF.cell? ⟨W.heap.size,5,none⟩=some (.slice none 0 0):=cell_of bF rfl
  have kF:Kb 0 W WF:=⟨ho1.trans kW5.os,ho2.trans kW5.output,by rw [hzF];exact kW5.size,fun q _ h2=>(hfr q (by omega)).trans (kW5.block q (Nat.zero_le _) h2)⟩
  have HFIN:Hid (UnA M W (.returned (.agg #[.bool false,.int .i64 0,.int .i64 0,.string ⟨#[]⟩,.int .i64 0,.slice none 0 0])) WF):=(una_nil (unr_no hex (.inl rfl)) kF:UnA M W _ WF)
  have HWF:Hid (WF = _):=hWF
  clear bq bF hfr hzF ho1 ho2 kF hWF k2 z2 s2 hb ha hM z3 z4 s4w kg4 kW4 hex t1 t2 t3 t4 u1 u2 u3 u4 u5 u6 u7 u8 u9 u10 u11 HK k45 z5 b5 s5 kW5
  go_wp2_with fail
  rw [← (show WF = _ from HWF)]
  clear HWF
  refine bodyPost_ret (by simp [results,Try.results20,go_sem,e0,e1,e2,e3,e4,e5];rfl) rfl ?_
  exact HFIN
 | false =>
  have hl1:l1=false:=by
   cases l1 with
   | false=>rfl
   | true=>exact absurd (u10 rfl) (by simp)
  have hM0:M ≠ []:=fun e=>by
   have h1:=t1.le
   rw [t3 hl1,e] at h1
   simp at h1
  have hbg:=bg_of9 (L:=L.map (·.1)) (a:=a) (fun q hq=>by
   obtain ⟨z,h1,rfl⟩:=List.mem_map.1 hq
   exact u6 z h1) u7 (by rw [List.length_map];exact u8)
  have hlen:(L.map (·.1)).length=L.length:=List.length_map _
  have HP:=im_pack w5 (a:=a) ((rowT_of9 u4 u5).keep k45) (hlen ▸ hbg.1) (hlen ▸ hbg.2)
  obtain ⟨Q,hQ⟩:∃ Q,Q=pck L.length (TF (L.map (·.1))) a:=⟨_,rfl⟩
  rw [← hQ] at HP
  obtain ⟨R,hR⟩:=pck_bytes L.length (TF (L.map (·.1))) a
  have hQR:Q=toI R:=hQ.trans hR
  unfold grv at HP
  have q0:w5.cell? ⟨w4.heap.size,0,none⟩=some (.int .i64 a.k):=cell_of b5 rfl
  have q1:w5.cell? ⟨w4.heap.size,1,none⟩=some (.int .i64 a.m):=cell_of b5 rfl
  have q2:w5.cell? ⟨w4.heap.size,2,none⟩=some (.string a.x):=cell_of b5 rfl
  have q3:w5.cell? ⟨w4.heap.size,3,none⟩=some (.int .i64 a.r):=cell_of b5 rfl
  have q4:w5.cell? ⟨w4.heap.size,4,none⟩=some (.slice ad L.length cap):=cell_of b5 rfl
  have HQ:Hid (Q=toI R∧Q=pck L.length (TF (L.map (·.1))) a):=(⟨hQR,hQ⟩:_∧_)
  clear hQ hR hQR HK
  obtain ⟨Z4,hZ4⟩:∃ Z4,Z4=w4.heap.size:=⟨_,rfl⟩
  rw [← hZ4] at q0 q1 q2 q3 q4 b5 ⊢
  have HALL:Hid (Kb 0 W w5∧w5.heap[Z4]? = some (.cells #[.int .i64 a.k,.int .i64 a.m,.string a.x,.int .i64 a.r,.slice ad L.length cap] 44 (0,0))∧w5.heap[W.heap.size]? = some (.cells #[.bool false,.int .i64 0,.int .i64 0,.string ⟨#[]⟩,.int .i64 0,.slice none 0 0] 46 (0,0))∧Arg p c M W∧(∀ g',Rd M g'→((a,L.map (·.1)):Gr)=g')∧M ≠ []∧Rg L.length (TF (L.map (·.1))) a∧W.heap.size+2≤w3.heap.size∧w3.heap.size≤w4.heap.size∧w4.heap.size≤w5.heap.size∧Kb 0 w4 w5∧w4.ownsRow w3.heap.size 50 2 (.slice ad L.length cap) L.length (L.flatMap tvc)∧OwnT w3.heap.size w4 L (Value.slice ad L.length cap).ownBlock∧(∀ z,z ∈ L→Ttt z.1)∧Rv9 a∧L.length≤600∧Z4=w4.heap.size):=(⟨kW5,b5,s5,ha,fun g' h'=>(hex g' h').1,hM0,hlen ▸ hbg.2,by omega,z4,by omega,k45,u4,u5,u6,u7,u8,hZ4⟩:_∧_)
  clear k2 z2 s2 hb ha hM z3 z4 s4w kg4 kW4 hex t1 t2 t3 t4 u1 u2 u3 u4 u5 u6 u7 u8 u9 u10 u11 k45 z5 b5 s5 kW5 hM0 hbg hlen hl1 hZ4
  go_wp2_with fail
  refine HP.mono ?_
  rintro e w6 ⟨v6,rfl,o6,k6⟩
  obtain ⟨p6,c6,rfl⟩:=own_shape o6
  obtain ⟨kW5,b5,s5,ha,hex,hM0,hrg,y1,y2,y3,k45,u4,u5,u6,u7,u8,hZ4⟩:=(show Kb 0 W w5∧w5.heap[Z4]? = some (.cells #[.int .i64 a.k,.int .i64 a.m,.string a.x,.int .i64 a.r,.slice ad L.length cap] 44 (0,0))∧w5.heap[W.heap.size]? = some (.cells #[.bool false,.int .i64 0,.int .i64 0,.string ⟨#[]⟩,.int .i64 0,.slice none 0 0] 46 (0,0))∧Arg p c M W∧(∀ g',Rd M g'→((a,L.map (·.1)):Gr)=g')∧M ≠ []∧Rg L.length (TF (L.map (·.1))) a∧W.heap.size+2≤w3.heap.size∧w3.heap.size≤w4.heap.size∧w4.heap.size≤w5.heap.size∧Kb 0 w4 w5∧w4.ownsRow w3.heap.size 50 2 (.slice ad L.length cap) L.length (L.flatMap tvc)∧OwnT w3.heap.size w4 L (Value.slice ad L.length cap).ownBlock∧(∀ z,z ∈ L→Ttt z.1)∧Rv9 a∧L.length≤600∧Z4=w4.heap.size from HALL)
  have hQR:=(show _∧_ from HQ).1
  have hlen:(L.map (·.1)).length=L.length:=List.length_map _
  have kW6:=kW5.trans k6
  have HE:=im_bytes_equal w6 (conv_pck (R:=R) (by rw [← hQR];exact o6)) (ha.keep kW6).conv
  have s6:w6.heap[W.heap.size]? = some (.cells #[.bool false,.int .i64 0,.int .i64 0,.string ⟨#[]⟩,.int .i64 0,.slice none 0 0] 46 (0,0)):=(k6.block _ (Nat.zero_le _) (by omega)).trans s5
  have b6:w6.heap[Z4]? = some (.cells #[.int .i64 a.k,.int .i64 a.m,.string a.x,.int .i64 a.r,.slice ad L.length cap] 44 (0,0)):=(k6.block _ (Nat.zero_le _) (Array.getElem?_eq_some_iff.1 b5).1).trans b5
  have k46:=k45.trans k6
  clear HP q0 q1 q2 q3 q4 o6 HALL
  by_cases hRM:R=M
  ·have hp:pck L.length (TF (L.map (·.1))) a=toI M:=by rw [← (show _∧_ from HQ).2,hQR,hRM]
   rw [decide_eq_true hRM] at HE
   have q0:w6.cell? ⟨Z4,0,none⟩=some (.int .i64 a.k):=cell_of b6 rfl
   have q1:w6.cell? ⟨Z4,1,none⟩=some (.int .i64 a.m):=cell_of b6 rfl
   have q2:w6.cell? ⟨Z4,2,none⟩=some (.string a.x):=cell_of b6 rfl
   have q3:w6.cell? ⟨Z4,3,none⟩=some (.int .i64 a.r):=cell_of b6 rfl
   have q4:w6.cell? ⟨Z4,4,none⟩=some (.slice ad L.length cap):=cell_of b6 rfl
   have bq:w6.heap[W.heap.size]? = some (.cells #[.bool false,.int .i64 0,.int .i64 0,.string ⟨#[]⟩,.int .i64 0,.slice none 0 0] 46 (0,0)):=s6
   have g0:w6.cell? ⟨W.heap.size,0,none⟩=some (.bool false):=cell_of bq rfl
   have g1:w6.cell? ⟨W.heap.size,1,none⟩=some (.int .i64 0):=cell_of bq rfl
   have g2:w6.cell? ⟨W.heap.size,2,none⟩=some (.int .i64 0):=cell_of bq rfl
   have g3:w6.cell? ⟨W.heap.size,3,none⟩=some (.string ⟨#[]⟩):=cell_of bq rfl
   have g4:w6.cell? ⟨W.heap.size,4,none⟩=some (.int .i64 0):=cell_of bq rfl
   have g5:w6.cell? ⟨W.heap.size,5,none⟩=some (.slice none 0 0):=cell_of bq rfl
   have gz:∀ j,w6.frozen? ⟨W.heap.size,j,none⟩=false:=fun j=>frozen_of bq
   obtain ⟨WF,hWF,bF,hfr,hzF,ho1,ho2⟩:=six_set (.bool true) (.int .i64 a.k) (.int .i64 a.m) (.string a.x) (.int .i64 a.r) (.slice ad L.length cap) bq
   have e0:WF.cell? ⟨W.heap.size,0,none⟩=some (.bool true):=cell_of bF rfl
   have e1:WF.cell? ⟨W.heap.size,1,none⟩=some (.int .i64 a.k):=cell_of bF rfl
   have e2:WF.cell? ⟨W.heap.size,2,none⟩=some (.int .i64 a.m):=cell_of bF rfl
   have e3:WF.cell? ⟨W.heap.size,3,none⟩=some (.string a.x):=cell_of bF rfl
   have e4:WF.cell? ⟨W.heap.size,4,none⟩=some (.int .i64 a.r):=cell_of bF rfl
   have e5:WF.cell? ⟨W.heap.size,5,none⟩=some (.slice ad L.length cap):=cell_of bF rfl
   have kF:Kb 0 W WF:=⟨ho1.trans kW6.os,ho2.trans kW6.output,by rw [hzF];exact kW6.size,fun q _ h2=>(hfr q (by omega)).trans (kW6.block q (Nat.zero_le _) h2)⟩
   have HFIN:Hid (UnA M W (.returned (.agg #[.bool true,.int .i64 a.k,.int .i64 a.m,.string a.x,.int .i64 a.r,.slice ad L.length cap])) WF):=(⟨true,a,_,L,rfl,ownsRow_mono9 (rowBlk9 u4 (fun g e=>(hfr g (by have:=(u4.lt g e).1;omega)).trans (k46.block g (Nat.zero_le _) (u4.lt g e).2))) (by omega),u5.mono (by omega) (by rw [hzF];exact k46.size) (fun g h1 h2=>(hfr g (by omega)).trans (k46.block g (Nat.zero_le _) h2)),u6,u7,u8,unr_yes (g:=(a,L.map (·.1))) (hlen ▸ hrg) hM0 (hlen ▸ hp) hex,kF⟩:UnA M W _ WF)
   have HWF:Hid (WF = _):=hWF
   clear bq bF hfr hzF ho1 ho2 kF hWF kW5 b5 s5 ha hex hM0 hrg y1 y2 y3 k45 u4 u5 u6 u7 u8 hZ4 hQR hlen kW6 s6 b6 k46 hp hRM HQ k6
   go_wp2_with fail
   refine HE.mono ?_
   rintro e w7 ⟨rfl,hw7⟩
   rw [hw7]
   clear HE hw7
   go_wp2_with fail
   rw [← (show WF = _ from HWF)]
   clear HWF
   refine bodyPost_ret (by simp [results,Try.results20,go_sem,e0,e1,e2,e3,e4,e5];rfl) rfl ?_
   exact HFIN
  ·have hp:pck L.length (TF (L.map (·.1))) a ≠ toI M:=fun e=>hRM (toI_inj (by rw [← hQR,(show _∧_ from HQ).2];exact e))
   rw [decide_eq_false hRM] at HE
   have bq:w6.heap[W.heap.size]? = some (.cells #[.bool false,.int .i64 0,.int .i64 0,.string ⟨#[]⟩,.int .i64 0,.slice none 0 0] 46 (0,0)):=s6
   have g0:w6.cell? ⟨W.heap.size,0,none⟩=some (.bool false):=cell_of bq rfl
   have g1:w6.cell? ⟨W.heap.size,1,none⟩=some (.int .i64 0):=cell_of bq rfl
   have g2:w6.cell? ⟨W.heap.size,2,none⟩=some (.int .i64 0):=cell_of bq rfl
   have g3:w6.cell? ⟨W.heap.size,3,none⟩=some (.string ⟨#[]⟩):=cell_of bq rfl
   have g4:w6.cell? ⟨W.heap.size,4,none⟩=some (.int .i64 0):=cell_of bq rfl
   have g5:w6.cell? ⟨W.heap.size,5,none⟩=some (.slice none 0 0):=cell_of bq rfl
   have gz:∀ j,w6.frozen? ⟨W.heap.size,j,none⟩=false:=fun j=>frozen_of bq
   obtain ⟨WF,hWF,bF,hfr,hzF,ho1,ho2⟩:=six_set (.bool false) (.int .i64 0) (.int .i64 0) (.string ⟨#[]⟩) (.int .i64 0) (.slice none 0 0) bq
   have e0:WF.cell? ⟨W.heap.size,0,none⟩=some (.bool false):=cell_of bF rfl
   have e1:WF.cell? ⟨W.heap.size,1,none⟩=some (.int .i64 0):=cell_of bF rfl
   have e2:WF.cell? ⟨W.heap.size,2,none⟩=some (.int .i64 0):=cell_of bF rfl
   have e3:WF.cell? ⟨W.heap.size,3,none⟩=some (.string ⟨#[]⟩):=cell_of bF rfl
   have e4:WF.cell? ⟨W.heap.size,4,none⟩=some (.int .i64 0):=cell_of bF rfl
   have e5:WF.cell? ⟨W.heap.size,5,none⟩=some (.slice none 0 0):=cell_of bF rfl
   have kF:Kb 0 W WF:=⟨ho1.trans kW6.os,ho2.trans kW6.output,by rw [hzF];exact kW6.size,fun q _ h2=>(hfr q (by omega)).trans (kW6.block q (Nat.zero_le _) h2)⟩
   have HFIN:Hid (UnA M W (.returned (.agg #[.bool false,.int .i64 0,.int .i64 0,.string ⟨#[]⟩,.int .i64 0,.slice none 0 0])) WF):=(una_nil (unr_no (g:=(a,L.map (·.1))) (lost:=false) (fun g' h'=>⟨hex g' h',rfl⟩) (.inr (hlen ▸ hp))) kF:UnA M W _ WF)
   have HWF:Hid (WF = _):=hWF
   clear bq bF hfr hzF ho1 ho2 kF hWF kW5 b5 s5 ha hex hM0 hrg y1 y2 y3 k45 u4 u5 u6 u7 u8 hZ4 hQR hlen kW6 s6 b6 k46 hp hRM HQ k6
   go_wp2_with fail
   refine HE.mono ?_
   rintro e w7 ⟨rfl,hw7⟩
   rw [hw7]
   clear HE hw7
   go_wp2_with fail
   rw [← (show WF = _ from HWF)]
   clear HWF
   refine bodyPost_ret (by simp [results,Try.results20,go_sem,e0,e1,e2,e3,e4,e5];rfl) rfl ?_
   exact HFIN
def sm5 (g:Gr):Prop:=∀ q,q ∈ g.2→q.1≤5000
def UnM (M:List UInt8) (ok:Bool) (g:Gr):Prop :=
 (ok=true→M ≠ []∧Rg g.2.length (TF g.2) g.1∧pck g.2.length (TF g.2) g.1=toI M∧∀ g',Rd M g'→sm5 g'→g=g')∧(ok=false→g=gr0∧∀ g',Rd M g'→sm5 g'→M ≠ []→pck g'.2.length (TF g'.2) g'.1=toI M→False)
theorem gok_sm5 {g:Gr} (h:Gok g.2.length (TF g.2) g.1):sm5 g:=fun q hq=>by
 obtain ⟨i,hi,e⟩:=List.getElem_of_mem hq
 have h1:=(h.2.2 i hi).1.2.1
 have h2:TF g.2 i=td9 q:=by unfold TF;simp [List.getD,List.getElem?_eq_getElem hi,e]
 rw [h2] at h1
 have h3:q.1≤1000:=h1
 omega
theorem unm_long {M:List UInt8} (h : 8192 < M.length):UnM M false gr0:=by
 have q:=(unr_long h).2 rfl
 exact ⟨fun e=>(nomatch e),fun _=>⟨rfl,fun g' h1 _ h2 h3=>q.2 g' h1 h2 h3⟩⟩
theorem unm_yes {M:List UInt8} {g:Gr} (hr:Rg g.2.length (TF g.2) g.1) (hM:M ≠ []) (hp:pck g.2.length (TF g.2) g.1=toI M) (hx:∀ g',Rd M g'→sm5 g'→g=g'):UnM M true g :=
 ⟨fun _=>⟨hM,hr,hp,hx⟩,fun e=>(nomatch e)⟩
theorem unm_no {M:List UInt8} {g:Gr} {lost:Bool} (hx:∀ g',Rd M g'→sm5 g'→g=g'∧lost=false) (hn:lost=true∨(M ≠ []→pck g.2.length (TF g.2) g.1 ≠ toI M)):UnM M false gr0:=by
 refine ⟨fun e=>(nomatch e),fun _=>⟨rfl,fun g' h1 hs h2 h3=>?_⟩⟩
 obtain ⟨e1,e2⟩:=hx g' h1 hs
 rcases hn with hn | hn
 ·rw [e2] at hn;cases hn
 ·rw [e1] at hn;exact hn h2 h3
structure Kbh (b h:Nat) (W w':World):Prop where
 os:w'.os=W.os
 output:w'.output=W.output
 size:W.heap.size≤w'.heap.size
 block:∀ k,k < W.heap.size→k ≠ b→k ≠ h→w'.heap[k]? = W.heap[k]?
theorem Kbh.refl (b h:Nat) (W:World):Kbh b h W W:=⟨rfl,rfl,Nat.le_refl _,fun _ _ _ _=>rfl⟩
theorem Kg.bh {b h:Nat} {W w':World} (k:Kg b W w'):Kbh b h W w':=⟨k.os,k.output,k.size,fun i h1 h2 _=>k.block i h1 h2⟩
theorem Kbh.trans {b h:Nat} {W w1 w2:World} (k:Kbh b h W w1) (l:Kbh b h w1 w2):Kbh b h W w2:=⟨l.os.trans k.os,l.output.trans k.output,Nat.le_trans k.size l.size,fun i h1 h2 h3=>(l.block i (Nat.lt_of_lt_of_le h1 k.size) h2 h3).trans (k.block i h1 h2 h3)⟩
theorem Kbh.gr {b h:Nat} {W w2 w3:World} {r:Option Nat} (k:Kbh b h W w2) (z:w2.grownBy w3 r) (hg:∀ g,r=some g→W.heap.size≤g):Kbh b h W w3 :=
 ⟨z.os.trans k.os,z.output.trans k.output,Nat.le_trans k.size z.size,fun i h1 h2 h3=>(z.block i (Nat.lt_of_lt_of_le h1 k.size) (fun e=>by have:=hg i e.symm;omega)).trans (k.block i h1 h2 h3)⟩
theorem Kbh.set {b h:Nat} {W w2:World} (k:Kbh b h W w2) (j:Nat) (v:Value):Kbh b h W (w2.setCell ⟨h,j,none⟩ v):=by
 have z:Kz h w2 (w2.setCell ⟨h,j,none⟩ v):=(Kz.refl h w2).set j v
 exact ⟨z.os.trans k.os,z.output.trans k.output,by rw [z.size];exact k.size,fun i h1 h2 h3=>(z.block i h3).trans (k.block i h1 h2 h3)⟩
theorem RD.far2 {b:Nat} {a:Addr} {c:Nat} {M:List UInt8} {k:Nat} {bad:Bool} {w w':World} (h:RD b a c M k bad w) (h1:w'.heap[b]? = w.heap[b]?) (h2:w'.heap[a.block]? = w.heap[a.block]?):RD b a c M k bad w' :=
 ⟨h1.trans h.blk,h.le,h.sz,h.cap,h.ne,fun i x hx=>(World.cell?_of_block (by rw [add_block];exact h2)).trans (h.row i x hx)⟩
structure ML {α : Type} (T:TypeId) (cl : α → List Value) (ty:TypeId) (wd:Nat) (enc : α → List UInt8) (tot ok : α → Prop) (b:Nat) (a:Addr) (c:Nat) (M:List UInt8) (k:Nat) (bad:Bool) (h:Nat) (arr:Value→Array Value) (w0:World) (most cnt:Nat) (L:List α) (k':Nat) (bad':Bool) (v:Value) (w:World):Prop where
 rd:RD b a c M k' bad' w
 mn:bad=true→bad'=true
 kb:Kbh b h w0 w
 bh:w.heap[h]? = some (.cells (arr v) T (0,0))
 row:w.ownsRow w0.heap.size ty wd v L.length (L.flatMap cl)
 tt:∀ x,x ∈ L→tot x
 mo:L.length≤cnt
 ex:LJ enc ok M k bad most (cnt:Int) L k' bad'
 hb:b < w0.heap.size
 ha:a.block < w0.heap.size
 hh:h < w0.heap.size
 bn:h ≠ b
 an:h ≠ a.block
theorem ML.step {α : Type} {T : TypeId} {cl : α → List Value} {ty : TypeId} {wd : Nat} {enc : α → List UInt8} {tot ok : α → Prop} {b : Nat} {a : Addr} {c : Nat} {M : List UInt8} {k : Nat} {bad : Bool} {h : Nat} {arr : Value → Array Value} {w0 : World} {most cnt : Nat} {L : List α} {k' : Nat} {bad' : Bool} {v : Value} {wr : World} (s : ML T cl ty wd enc tot ok b a c M k bad h arr w0 most cnt L k' bad' v wr) (hl : bad' = false) (hc : L.length < cnt)
  {w1:World} {x : α} {k2:Nat} {bad2:Bool} (h1:RD b a c M k2 bad2 w1) (h3:Kg b wr w1) (h4:tot x) (h7:∀ y rest,bad'=false→ok y→M.drop k'=enc y ++ rest→x=y∧k2=k'+(enc y).length∧bad2=false)
  {o:Obj} {v':Value} {w3:World} (h8:w3.ownsRow w0.heap.size ty wd v' (L.length+1) (L.flatMap cl ++ cl x)) (h9:(w1.alloc o).grownBy w3 v.ownBlock) {j:Nat} (hj:(arr v).setIfInBounds j v'=arr v'):ML T cl ty wd enc tot ok b a c M k bad h arr w0 most cnt (L ++ [x]) k2 bad2 v' (w3.setCell ⟨h,j,none⟩ v'):=by
 have hg:∀ g,v.ownBlock=some g→w0.heap.size≤g:=fun g e=>(s.row.lt g e).1
 have hgn:∀ i,i < w0.heap.size→some i ≠ v.ownBlock:=fun i hi e=>by have:=hg i e.symm;omega
 have hb:=s.hb
 have ha:=s.ha
 have hh:=s.hh
 have bn:=s.bn
 have an:=s.an
 have hz0:=s.kb.size
 have hz1:=h3.size
 have zk:Kz h w3 (w3.setCell ⟨h,j,none⟩ v'):=(Kz.refl h w3).set j v'
 have e1:∀ i,i < w0.heap.size→w3.heap[i]? = w1.heap[i]?:=fun i hi=>(h9.block i (by rw [World.size_alloc];omega) (hgn i hi)).trans ((kb_alloc 0 w1 o).block i (Nat.zero_le _) (by omega))
 refine ⟨h1.far2 ((zk.block b (by omega)).trans (e1 b hb)) ((zk.block _ (by omega)).trans (e1 _ ha)),?_,?_,?_,?_,?_,?_,?_,hb,ha,hh,bn,an⟩
 ·intro e
  have:=s.mn e
  rw [hl] at this
  cases this
 ·exact (((s.kb.trans h3.bh).trans (Kg.of_kb (b:=b) (kb_alloc 0 w1 o)).bh).gr h9 hg).set j v'
 ·have e3:w3.heap[h]? = some (.cells (arr v) T (0,0)):=((e1 h hh).trans (h3.block h (by omega) bn)).trans s.bh
  rw [set_known v' e3,hj]
 ·rw [List.length_append,List.flatMap_append]
  have h8':(w3.setCell ⟨h,j,none⟩ v').ownsRow w0.heap.size ty wd v' (L.length+1) (L.flatMap cl ++ cl x):=rowBlk9 h8 (fun g e=>zk.block g (by have:=(h8.lt g e).1;omega))
  simpa using h8'
 ·intro y hy
  rcases List.mem_append.1 hy with hy | hy
  ·exact s.tt y hy
  ·rw [List.mem_singleton.1 hy];exact h4
 ·rw [List.length_append,List.length_singleton]
  omega
 ·exact s.ex.step (by omega) h7
theorem ML.blk {α : Type} {T:TypeId} {cl : α → List Value} {ty:TypeId} {wd:Nat} {enc : α → List UInt8} {tot ok : α → Prop} {b:Nat} {a:Addr} {c:Nat} {M:List UInt8} {k:Nat} {bad:Bool} {h:Nat} {arr:Value→Array Value} {w0:World} {most cnt:Nat} {L:List α} {k':Nat} {bad':Bool} {v:Value} {wr:World} (s:ML T cl ty wd enc tot ok b a c M k bad h arr w0 most cnt L k' bad' v wr) {w1 w3:World} {o:Obj} (h3:Kg b wr w1) (h9:(w1.alloc o).grownBy w3 v.ownBlock):w3.heap[h]? = some (.cells (arr v) T (0,0)):=by
 have hh:=s.hh
 have hz0:=s.kb.size
 have hz1:=h3.size
 exact (((h9.block h (by rw [World.size_alloc];omega) (fun e=>by have:=(s.row.lt h e.symm).1;omega)).trans ((kb_alloc 0 w1 o).block h (Nat.zero_le _) (by omega))).trans (h3.block h (by omega) s.bn)).trans s.bh
def Tok5 (q:Int × List Gv):Prop:=Tok q∧q.1≤5000
def Tt5 (q:Int × List Gv):Prop:=(∀ x,x ∈ q.2→Rv x)∧q.2.length≤5000
structure MT (b:Nat) (a:Addr) (c:Nat) (M:List UInt8) (k:Nat) (bad:Bool) (h:Nat) (r:Gv) (w0:World) (cnt:Nat) (L:List TV) (k':Nat) (bad':Bool) (v:Value) (w:World):Prop where
 rd:RD b a c M k' bad' w
 mn:bad=true→bad'=true
 kb:Kbh b h w0 w
 bh:w.heap[h]? = some (.cells #[.int .i64 r.k,.int .i64 r.m,.string r.x,.int .i64 r.r,v] 44 (0,0))
 row:w.ownsRow w0.heap.size 50 2 v L.length (L.flatMap tvc)
 own:OwnT w0.heap.size w L v.ownBlock
 tt:∀ z,z ∈ L→Tt5 z.1
 mo:L.length≤cnt
 ex:LJ te Tok5 M k bad 600 (cnt:Int) (L.map (·.1)) k' bad'
 hb:b < w0.heap.size
 ha:a.block < w0.heap.size
 hh:h < w0.heap.size
 bn:h ≠ b
 an:h ≠ a.block
theorem MT.step {b : Nat} {a : Addr} {c : Nat} {M : List UInt8} {k : Nat} {bad : Bool} {h : Nat} {r : Gv} {w0 : World} {cnt : Nat} {L : List TV} {k' : Nat} {bad' : Bool} {v : Value} {wr : World} (s : MT b a c M k bad h r w0 cnt L k' bad' v wr) (hl : bad' = false) (hc : L.length < cnt)
  {w1:World} {q:Int × List Gv} {vq:Value} {k2:Nat} {bad2:Bool} (h1:RD b a c M k2 bad2 w1) (h3:Kg b wr w1) (hq:w1.ownsRow wr.heap.size 41 4 vq q.2.length (q.2.flatMap glc)) (h4:Tt5 q) (h7:∀ y rest,bad'=false→Tok5 y→M.drop k'=te y ++ rest→q=y∧k2=k'+(te y).length∧bad2=false)
  {o:Obj} {g' c' n':Nat} {w3:World} (h8:w3.ownsRow w0.heap.size 50 2 (.slice (some ⟨g',0,none⟩) n' c') (L.length+1) (L.flatMap tvc ++ tvc (q,vq))) (h9:(w1.alloc o).grownBy w3 v.ownBlock) (h10:v.ownBlock=some g'∨g'=w1.heap.size+1):MT b a c M k bad h r w0 cnt (L ++ [(q,vq)]) k2 bad2 (.slice (some ⟨g',0,none⟩) n' c') (w3.setCell ⟨h,4,none⟩ (.slice (some ⟨g',0,none⟩) n' c')):=by
 have hg:∀ g,v.ownBlock=some g→w0.heap.size≤g:=fun g e=>(s.row.lt g e).1
 have hgn:∀ i,i < w0.heap.size→some i ≠ v.ownBlock:=fun i hi e=>by have:=hg i e.symm;omega
 have hb:=s.hb
 have ha:=s.ha
 have hh:=s.hh
 have bn:=s.bn
 have an:=s.an
 have hz0:=s.kb.size
 have hz1:=h3.size
 have zk:Kz h w3 (w3.setCell ⟨h,4,none⟩ (.slice (some ⟨g',0,none⟩) n' c')):=(Kz.refl h w3).set 4 _
 have e1:∀ i,i < w0.heap.size→w3.heap[i]? = w1.heap[i]?:=fun i hi=>(h9.block i (by rw [World.size_alloc];omega) (hgn i hi)).trans ((kb_alloc 0 w1 o).block i (Nat.zero_le _) (by omega))
 refine ⟨h1.far2 ((zk.block b (by omega)).trans (e1 b hb)) ((zk.block _ (by omega)).trans (e1 _ ha)),?_,?_,?_,?_,?_,?_,?_,?_,hb,ha,hh,bn,an⟩
 ·intro e
  have:=s.mn e
  rw [hl] at this
  cases this
 ·exact (((s.kb.trans h3.bh).trans (Kg.of_kb (b:=b) (kb_alloc 0 w1 o)).bh).gr h9 hg).set 4 _
 ·have e3:w3.heap[h]? = some (.cells #[.int .i64 r.k,.int .i64 r.m,.string r.x,.int .i64 r.r,v] 44 (0,0)):=((e1 h hh).trans (h3.block h (by omega) bn)).trans s.bh
  rw [set_known _ e3]
  rfl
 ·rw [List.length_append,List.flatMap_append]
  have h8':(w3.setCell ⟨h,4,none⟩ (.slice (some ⟨g',0,none⟩) n' c')).ownsRow w0.heap.size 50 2 (.slice (some ⟨g',0,none⟩) n' c') (L.length+1) (L.flatMap tvc ++ tvc (q,vq)):=rowBlk9 h8 (fun g e=>zk.block g (by have:=(h8.lt g e).1;omega))
  simpa using h8'
 ·have h:=s.own.step h3 hb s.kb.size (fun g e=>(s.row.lt g e).2) ⟨hq,fun g e=>(hq.lt g e).2⟩ h9 h10
  exact h.mono (Nat.le_refl _) (by rw [zk.size];exact Nat.le_refl _) (fun g g1 g2=>zk.block g (by omega))
 ·intro y hy
  rcases List.mem_append.1 hy with hy | hy
  ·exact s.tt y hy
  ·rw [List.mem_singleton.1 hy];exact h4
 ·rw [List.length_append,List.length_singleton]
  omega
 ·rw [List.map_append]
  exact s.ex.step (by rw [List.length_map];omega) h7
theorem MT.blk {b:Nat} {a:Addr} {c:Nat} {M:List UInt8} {k:Nat} {bad:Bool} {h:Nat} {r:Gv} {w0:World} {cnt:Nat} {L:List TV} {k':Nat} {bad':Bool} {v:Value} {wr:World} (s:MT b a c M k bad h r w0 cnt L k' bad' v wr) {w1 w3:World} {o:Obj} (h3:Kg b wr w1) (h9:(w1.alloc o).grownBy w3 v.ownBlock):w3.heap[h]? = some (.cells #[.int .i64 r.k,.int .i64 r.m,.string r.x,.int .i64 r.r,v] 44 (0,0)):=by
 have hh:=s.hh
 have hz0:=s.kb.size
 have hz1:=h3.size
 exact (((h9.block h (by rw [World.size_alloc];omega) (fun e=>by have:=(s.row.lt h e.symm).1;omega)).trans ((kb_alloc 0 w1 o).block h (Nat.zero_le _) (by omega))).trans (h3.block h (by omega) s.bn)).trans s.bh
theorem MT.at {b:Nat} {a:Addr} {c:Nat} {M:List UInt8} {k:Nat} {bad:Bool} {h:Nat} {r:Gv} {w0:World} {cnt:Nat} {L:List TV} {k':Nat} {bad':Bool} {v:Value} {wr:World} (s:MT b a c M k bad h r w0 cnt L k' bad' v wr) {w1:World} (h3:Kg b wr w1):w1.heap[h]? = some (.cells #[.int .i64 r.k,.int .i64 r.m,.string r.x,.int .i64 r.r,v] 44 (0,0)) :=
 (h3.block h (by have:=s.hh;have:=s.kb.size;omega) s.bn).trans s.bh
theorem te_ex {M:List UInt8} {kk k1 k2 k3 t n:Nat} {b1 b2 b3:Bool} {L:List Gv} (h1:∀ (y:Nat) rest,y≤5000→M.drop kk=vb y ++ rest→t=y∧k1=kk+(vb y).length∧b1=false) (h2:∀ (y:Nat) rest,y≤5000→M.drop k1=vb y ++ rest→n=y∧k2=k1+(vb y).length∧b2=b1) (h3:LX v8 Wv M k2 b2 300 (n:Int) L k3 b3):∀ y rest,Tok5 y→M.drop kk=te y ++ rest→(((t:Int),L):Int × List Gv)=y∧k3=kk+(te y).length∧b3=false:=by
 intro y rest hy hm
 obtain ⟨⟨y0,y1,y2,y3⟩,y5⟩:=hy
 unfold te t8 at hm
 rw [List.append_assoc] at hm
 obtain ⟨r1,r2,r3⟩:=h1 y.1.toNat _ (by omega) hm
 have hm2:=drop_app hm
 rw [← r2,List.append_assoc] at hm2
 obtain ⟨q1,q2,q3⟩:=h2 y.2.length _ (by omega) hm2
 have hm3:=drop_app hm2
 rw [← q2] at hm3
 obtain ⟨p1,p2,p3⟩:=h3 y.2 rest (by rw [q3,r3]) y2 (by rw [q1]) y3 hm3
 refine ⟨Prod.ext (by show (t:Int)=y.1;omega) p1,?_,p3⟩
 rw [p2,q2,r2]
 unfold te t8
 rw [List.length_append,List.length_append]
 omega
end Go.Proofs.Ytamcnmnaadpfoaa.Fo
