import Derived.Test.YtamcnmnaadpfoaaFGdc
import Derived.Deep.RegionHeld3
import Derived.Test.YtamcnmnaadpfoaaFZaa
import Derived.Deep.RegionHeldLaw
import Derived.Test.YtamcnmnaadpfoaaFHaf
import Derived.Test.YtamcnmnaadpfoaaFGcc
set_option maxHeartbeats 32000000
namespace Go.Proofs.Ytamcnmnaadpfoaa.Fo
open Go.ChangeShapes Go.WideShapes Go.ChangeAt Go.RowKit
set_option linter.unusedVariables false
set_option maxRecDepth 100000
structure CI (w:World) (n:Nat) (a:Gv) (pn:Option Addr) (cn k:Nat) (W:World):Prop where
 kb:Kb 0 w W
 bx:W.heap[w.heap.size]? = some (.cells #[.int .i64 a.k,.int .i64 a.m,.string a.x,.int .i64 a.r,.slice pn n cn] 44 (0,0))
 rs:W.heap[w.heap.size+1]? = some (.cells #[.int .i64 0,.int .i64 0,.string ⟨#[]⟩,.int .i64 0,.slice none 0 0] 44 (0,0))
 ou:W.heap[w.heap.size+1+1]? = some (.cells #[.int .i64 0,.int .i64 0,.string ⟨#[]⟩,.int .i64 0,.slice none 0 0] 44 (0,0))
 wh:WhP (w.heap.size+1+1+1) n k W
 sz:W.heap.size=w.heap.size+4
theorem CI.step {w:World} {n:Nat} {a:Gv} {pn:Option Addr} {cn k:Nat} {W:World} (h:CI w n a pn cn k W) (hk:k < n):CI w n a pn cn (k+1) (W.setCell ⟨w.heap.size+1+1+1,k,none⟩ (.int .i64 (-1))):=by
 have b:∀ g,g ≠ w.heap.size+1+1+1→(W.setCell ⟨w.heap.size+1+1+1,k,none⟩ (.int .i64 (-1))).heap[g]? = W.heap[g]?:=fun g hg=>Below.heap_setCell _ _ _ _ hg
 exact ⟨⟨h.kb.os,h.kb.output,by rw [World.size_setCell];exact h.kb.size,fun g _ hg=>(b g (by omega)).trans (h.kb.block g (Nat.zero_le _) hg)⟩,(b _ (by omega)).trans h.bx,(b _ (by omega)).trans h.rs,(b _ (by omega)).trans h.ou,h.wh.step hk,by rw [World.size_setCell];exact h.sz⟩
theorem CI.first {w:World} {n:Nat} {F:Nat→Td} {a:Gv} {pn:Option Addr} {cn:Nat} {W W':World} {vo:Value} {V:Nat→Value} (h:CI w n a pn cn n W) (hw:Wh (w.heap.size+1+1+1) n (ext [] a) W') (ho:W'.ownsRow (w.heap.size+4) 3 1 vo (ext [] a).length (ivs (ext [] a))) (f:Fo2 (w.heap.size+1+1+1) none W W') (hl:a.k=4→0≤a.r∧a.r < (n:Int)):CS w n F a pn cn (ext [] a) 0 vo (.slice none 0 0) V (s4 W' (w.heap.size+1+1) (rnm (ext [] a) a).k (rnm (ext [] a) a).m (rnm (ext [] a) a).x (rnm (ext [] a) a).r):=by
 have hz:=h.sz
 have hs:=f.size
 have b:∀ g,g < w.heap.size+3→W'.heap[g]? = W.heap[g]?:=fun g hg=>f.block g (by omega) (by omega) (by simp)
 have c:∀ g,g ≠ w.heap.size+1+1→(s4 W' (w.heap.size+1+1) (rnm (ext [] a) a).k (rnm (ext [] a) a).m (rnm (ext [] a) a).x (rnm (ext [] a) a).r).heap[g]? = W'.heap[g]?:=fun g hg=>s4_far _ _ _ _ _ hg
 have e:∀ g,g < w.heap.size+3→g ≠ w.heap.size+1+1→(s4 W' (w.heap.size+1+1) (rnm (ext [] a) a).k (rnm (ext [] a) a).m (rnm (ext [] a) a).x (rnm (ext [] a) a).r).heap[g]? = W.heap[g]?:=fun g h1 h2=>(c g h2).trans (b g h1)
 refine ⟨⟨f.os.trans h.kb.os,f.output.trans h.kb.output,by rw [s4_size];have:=h.kb.size;omega,fun g _ hg=>(e g (by omega) (by omega)).trans (h.kb.block g (Nat.zero_le _) hg)⟩,(e _ (by omega) (by omega)).trans h.bx,(e _ (by omega) (by omega)).trans h.rs,s4_known ((b _ (by omega)).trans h.ou) _ _ _ _,hw.keep (c _ (by omega)),own_keep ho (fun g q=>c g (by have:=(ho.lt g q).1;omega)),World.ownsRow_nil _ _ _ _,fun k hk=>by omega,by rw [s4_size];omega,Nat.zero_le _,nl_ext ⟨List.nodup_nil,fun x hx=>by cases hx⟩ hl,fun q=>ext_mem q,fun k hk=>by omega⟩
theorem CX.other {w:World} {n:Nat} {F:Nat→Td} {a:Gv} {pn:Option Addr} {cn:Nat} {o:List Int} {i:Nat} {vo vn:Value} {V:Nat→Value} {t:Int} {C:Nat→Gv} {u X j b:Nat} {vx:Value} {W W':World} (h:CX w n F a pn cn o i vo vn V t C u X j vx W) (hf:∀ g,g ≠ b→W'.heap[g]? = W.heap[g]?) (hs:W'.heap.size=W.heap.size) (hos:W'.os=W.os) (hout:W'.output=W.output) (hb:w.heap.size+4≤b) (hbu:b ≠ u) (h1:∀ g,vo.ownBlock=some g→g ≠ b) (h2:∀ g,vn.ownBlock=some g→g ≠ b) (h3:∀ g,vx.ownBlock=some g→g ≠ b) (h4:∀ k,k < i→∀ g,(V k).ownBlock=some g→g ≠ b):CX w n F a pn cn o i vo vn V t C u X j vx W':=by
 have c:=h.cs
 exact ⟨⟨⟨hos.trans c.kb.os,hout.trans c.kb.output,by rw [hs];exact c.kb.size,fun g _ hg=>(hf g (by omega)).trans (c.kb.block g (Nat.zero_le _) hg)⟩,(hf _ (by omega)).trans c.bx,(hf _ (by omega)).trans c.rs,(hf _ (by omega)).trans c.ou,c.wh.keep (hf _ (by omega)),own_keep c.oo (fun g e=>hf g (h1 g e)),own_keep c.nn (fun g e=>hf g (h2 g e)),fun k hk=>own_keep (c.vs k hk) (fun g e=>hf g (h4 k hk g e)),by rw [hs];exact c.sz,c.il,c.nl,c.cr,c.cv⟩,(hf u (fun e=>hbu e.symm)).trans h.xu,own_keep h.xr (fun g e=>hf g (h3 g e)),h.hX,by rw [hs];exact h.hX2,h.hu,h.hv,h.hn,h.cc⟩
theorem infoV:(Try.prog.info? 41).map (fun i=>(i.zero,i.size,i.bytes))=some (some (.agg #[.int .i64 0,.int .i64 0,.string ⟨#[]⟩,.int .i64 0]),4,40):=by kernel_rfl
theorem infoT:(Try.prog.info? 50).map (fun i=>(i.zero,i.size,i.bytes))=some (some (.agg #[.int .i64 0,.slice none 0 0]),2,32):=by kernel_rfl
theorem sp_canon {a : Gv} {vn : Value} {n : Nat} {F : Nat → Td} (w : World) (ha : RowT 0 w vn n F) (hb : Bg n F a) (hk : Lk n F a) :
  Calls Try.prog 72 #[grv a vn] w fun e w'=>∃ v,e = .returned (grv (rnm (ords F (ext [] a) n) a) v)∧RowT w.heap.size w' v (ords F (ext [] a) n).length (cnF F (ords F (ext [] a) n))∧Kb 0 w w':=by
 obtain ⟨pn,cn,rfl,ha2⟩:=ha
 have hnI:(n:Int)≤1048576:=by have:=hb.hn;omega
 obtain ⟨w3,hw3⟩:∃ w3,w3=((w.alloc (.cells #[.int .i64 a.k,.int .i64 a.m,.string a.x,.int .i64 a.r,.slice pn n cn] 44)).alloc (.cells #[.int .i64 0,.int .i64 0,.string ⟨#[]⟩,.int .i64 0,.slice none 0 0] 44)).alloc (.cells #[.int .i64 0,.int .i64 0,.string ⟨#[]⟩,.int .i64 0,.slice none 0 0] 44):=⟨_,rfl⟩
 have k1:=kb_alloc 0 w (.cells #[.int .i64 a.k,.int .i64 a.m,.string a.x,.int .i64 a.r,.slice pn n cn] 44)
 have k2:=kb_alloc 0 (w.alloc (.cells #[.int .i64 a.k,.int .i64 a.m,.string a.x,.int .i64 a.r,.slice pn n cn] 44)) (.cells #[.int .i64 0,.int .i64 0,.string ⟨#[]⟩,.int .i64 0,.slice none 0 0] 44)
 have k3:=kb_alloc 0 ((w.alloc (.cells #[.int .i64 a.k,.int .i64 a.m,.string a.x,.int .i64 a.r,.slice pn n cn] 44)).alloc (.cells #[.int .i64 0,.int .i64 0,.string ⟨#[]⟩,.int .i64 0,.slice none 0 0] 44)) (.cells #[.int .i64 0,.int .i64 0,.string ⟨#[]⟩,.int .i64 0,.slice none 0 0] 44)
 have e1:(w.alloc (.cells #[.int .i64 a.k,.int .i64 a.m,.string a.x,.int .i64 a.r,.slice pn n cn] 44)).heap.size=w.heap.size+1:=World.size_alloc _ _
 have e2:((w.alloc (.cells #[.int .i64 a.k,.int .i64 a.m,.string a.x,.int .i64 a.r,.slice pn n cn] 44)).alloc (.cells #[.int .i64 0,.int .i64 0,.string ⟨#[]⟩,.int .i64 0,.slice none 0 0] 44)).heap.size=w.heap.size+1+1:=by rw [World.size_alloc,e1]
 have z3:w3.heap.size=w.heap.size+1+1+1:=by rw [hw3,World.size_alloc,e2]
 have hmk:=run_make (P:=Try.prog) w3 141 3 Try.t3 (.int .i64 0) Try.underlying141 (by kernel_rfl) (by kernel_rfl) .i64 .i64 (n:Int) (n:Int) (by omega) (Int.le_refl _) (by show (8:Int)*(n:Int)≤_;omega) (by omega)
 rw [Int.toNat_natCast] at hmk
 obtain ⟨w4,hw4⟩:∃ w4,w4=w3.alloc (.cells (madeCells (.int .i64 0:Value).cells (n*Try.t3.size)) 3):=⟨_,rfl⟩
 rw [← hw4,z3] at hmk
 have c1:∀ j,j < n→w4.cell? ⟨w.heap.size+1+1+1,j,none⟩=some (.int .i64 0):=by intro j hj;rw [hw4,← z3];exact made_cell w3 _ 3 n rfl j hj
 have f1:∀ j,w4.frozen? ⟨w.heap.size+1+1+1,j,none⟩=false:=by intro j;rw [hw4,← z3];exact made_fz _ _ _ _
 have k4:Kb 0 w3 w4:=by rw [hw4];exact kb_alloc _ _ _
 have b0:w3.heap[w.heap.size]? = some (.cells #[.int .i64 a.k,.int .i64 a.m,.string a.x,.int .i64 a.r,.slice pn n cn] 44 (0,0)):=by
  rw [hw3,k3.block _ (Nat.zero_le _) (by omega),k2.block _ (Nat.zero_le _) (by omega)]
  exact alloc_new _ _ _
 have b1:w3.heap[w.heap.size+1]? = some (.cells #[.int .i64 0,.int .i64 0,.string ⟨#[]⟩,.int .i64 0,.slice none 0 0] 44 (0,0)):=by
  rw [hw3,k3.block _ (Nat.zero_le _) (by omega),← e1]
  exact alloc_new _ _ _
 have b2:w3.heap[w.heap.size+1+1]? = some (.cells #[.int .i64 0,.int .i64 0,.string ⟨#[]⟩,.int .i64 0,.slice none 0 0] 44 (0,0)):=by
  rw [hw3,← e2]
  exact alloc_new _ _ _
 have kw3:Kb 0 w w3:=by rw [hw3];exact (k1.trans k2).trans k3
 have HI0:Hid (CI w n a pn cn 0 w4):=(⟨kw3.trans k4,(k4.block _ (Nat.zero_le _) (by omega)).trans b0,(k4.block _ (Nat.zero_le _) (by omega)).trans b1,(k4.block _ (Nat.zero_le _) (by omega)).trans b2,⟨fun j hj=>by rw [if_neg (by omega)];exact c1 j hj,f1⟩,by rw [hw4,World.size_alloc,z3]⟩:CI w n a pn cn 0 w4)
 have u4:w3.cell? ⟨w.heap.size,4,none⟩=some (.slice pn n cn):=cell_of b0 rfl
 have HW3:Hid (w3=((w.alloc (.cells #[.int .i64 a.k,.int .i64 a.m,.string a.x,.int .i64 a.r,.slice pn n cn] 44)).alloc (.cells #[.int .i64 0,.int .i64 0,.string ⟨#[]⟩,.int .i64 0,.slice none 0 0] 44)).alloc (.cells #[.int .i64 0,.int .i64 0,.string ⟨#[]⟩,.int .i64 0,.slice none 0 0] 44)):=hw3
 have HB:Hid ((0 < n→∃ a:Addr,pn=some a∧n≤cn∧0≤a.block∧∀ i,i < n→ThC 0 w (a.add (i*2)) (F i))∧Bg n F a∧Lk n F a):=(⟨ha2,hb,hk⟩:_∧_)
 clear ha2 hb hk kw3 k1 k2 k3 e1 e2 z3 c1 f1 k4 b0 b1 b2 hw4 hw3
 unfold grv
 go_enter Try.func72,Try.ntmps72
 go_upto_region 2 with fail
 rw [← (show w3 = _ from HW3)]
 clear HW3
 go_wp2_with fail
 clear u4 hmk
 go_loopw [19] (fun s19 wr=>∃ i:Nat,s19 = .int .i64 (i:Int)∧i≤n∧Hid (CI w n a pn cn i wr)) (fun s19 _=>n - (intOf s19).toNat)
 case atStart=>exact ⟨0,rfl,Nat.zero_le _,HI0⟩
 case round =>
  clear HI0
  obtain ⟨i,rfl,hin,HI⟩:=hrel
  have hI:=(show CI w n a pn cn i wr from HI)
  rcases Nat.lt_or_ge i n with hi | hi
  ·have hiI:(i:Int) < (n:Int):=by omega
   have c:wr.cell? ⟨w.heap.size+1+1+1,i,none⟩=some (.int .i64 0):=(hI.wh.1 i hi).trans (by rw [if_neg (by omega)])
   have f:=hI.wh.2 i
   have HM:Hid (CI w n a pn cn (i+1) (wr.setCell ⟨w.heap.size+1+1+1,i,none⟩ (.int .i64 (-1)))):=hI.step hi
   clear hI HI hin HB
   go_wp2_with fail
   go_roundw
   case rel=>exact ⟨i+1,by go_num,by omega,HM⟩
   case measure=>simp [intOf];omega
  obtain rfl:i=n:=by omega
  have hI':¬ (i:Int) < (i:Int):=by omega
  have u0:wr.cell? ⟨w.heap.size,0,none⟩=some (.int .i64 a.k):=cell_of hI.bx rfl
  have u1:wr.cell? ⟨w.heap.size,1,none⟩=some (.int .i64 a.m):=cell_of hI.bx rfl
  have u2:wr.cell? ⟨w.heap.size,2,none⟩=some (.string a.x):=cell_of hI.bx rfl
  have u3:wr.cell? ⟨w.heap.size,3,none⟩=some (.int .i64 a.r):=cell_of hI.bx rfl
  have HREN:=sp_ren (v:=a) (G:=w.heap.size+1+1+1) (n:=i) (B:=w.heap.size+4) (o:=[]) (vo:=.slice none 0 0) wr hI.wh.full (by omega) (by have:=hI.sz;omega) (World.ownsRow_nil _ _ _ _) (show _∧_∧Lk i F a from HB).2.2.lr (by omega) (by simp)
  unfold gvv at HREN
  clear hI hin hi
  go_wp2_with fail
  refine HREN.mono ?_
  rintro e w5 ⟨vo,rfl,p1,p2,p3⟩
  have hI:=(show CI w i a pn cn i wr from HI)
  have hou:w5.heap[w.heap.size+1+1]? = some (.cells #[.int .i64 0,.int .i64 0,.string ⟨#[]⟩,.int .i64 0,.slice none 0 0] 44 (0,0)):=(p3.block _ (by have:=hI.sz;omega) (by omega) (by simp [Value.ownBlock])).trans hI.ou
  have q0:w5.cell? ⟨w.heap.size+1+1,0,none⟩=some (.int .i64 0):=cell_of hou rfl
  have q1:w5.cell? ⟨w.heap.size+1+1,1,none⟩=some (.int .i64 0):=cell_of hou rfl
  have q2:w5.cell? ⟨w.heap.size+1+1,2,none⟩=some (.string ⟨#[]⟩):=cell_of hou rfl
  have q3:w5.cell? ⟨w.heap.size+1+1,3,none⟩=some (.int .i64 0):=cell_of hou rfl
  have qz:∀ j,w5.frozen? ⟨w.heap.size+1+1,j,none⟩=false:=fun j=>frozen_of hou
  obtain ⟨W6,hW6⟩:∃ W6,W6=s4 w5 (w.heap.size+1+1) (rnm (ext [] a) a).k (rnm (ext [] a) a).m (rnm (ext [] a) a).x (rnm (ext [] a) a).r:=⟨_,rfl⟩
  have HC0:Hid (CS w i F a pn cn (ext [] a) 0 vo (.slice none 0 0) (fun _=>.slice none 0 0) W6):=by
   rw [hW6]
   exact hI.first p1 p2 p3 (show _∧_∧Lk i F a from HB).2.2.lr
  have HW6:Hid (W6 = _):=hW6
  obtain ⟨RN,hRN⟩:∃ RN,RN=rnm (ext [] a) a:=⟨_,rfl⟩
  rw [← hRN] at HW6
  rw [← hRN]
  unfold s4 at HW6
  clear hI hou hW6 hRN p1 p2 p3 HI HREN u0 u1 u2 u3
  obtain ⟨n,rfl⟩:∃ n,n=i:=⟨_,rfl⟩
  go_upto_region 10 with fail
  rw [← (show W6 = _ from HW6)]
  clear HW6 q0 q1 q2 q3 qz
  go_wp2_with fail
  go_loopw [6,7] (fun s6 s7 wr=>∃ (i:Nat) (vn:Value) (V:Nat→Value),s7 = .int .i64 (i:Int)∧Hid (CS w n F a pn cn (ords F (ext [] a) i) i s6 vn V wr)) (fun _ s7 _=>n - (intOf s7).toNat)
  case atStart=>exact ⟨0,_,_,rfl,HC0⟩
  case round =>
   clear HC0
   obtain ⟨i,vn,V,rfl,HX⟩:=hrel
   have hX:=(show CS w n F a pn cn (ords F (ext [] a) i) i _ vn V wr from HX)
   obtain ⟨o,ho⟩:∃ o,o=ords F (ext [] a) i:=⟨_,rfl⟩
   rw [← ho] at hX
   have HO:Hid (o=ords F (ext [] a) i):=ho
   clear HX ho
   obtain ⟨ad,cap,rfl⟩:=own_shape hX.oo
   obtain ⟨pv,cv,rfl⟩:=own_shape hX.nn
   have hon:=nl_len n o hX.nl
   have hil:=hX.il
   rcases Nat.lt_or_ge i o.length with hi | hi
   case inr =>
    have hI':¬ (i:Int) < (o.length:Int):=by omega
    have hend:ords F (ext [] a) n=o:=by
     have h:=(show o = _ from HO)
     have e:=ords_stop (F:=F) (o:=ext [] a) (i:=i) (by rw [← h];exact hi) (n - i)
     rw [show i+(n - i)=n by omega] at e
     rw [e,← h]
    have hou:=hX.ou
    obtain ⟨RM,hRM⟩:∃ RM,RM=rnm o a:=⟨_,rfl⟩
    rw [← hRM] at hou
    have HE:Hid (ords F (ext [] a) n=o∧RM=rnm o a):=(⟨hend,hRM⟩:_∧_)
    have v0:wr.cell? ⟨w.heap.size+1+1,0,none⟩=some (.int .i64 RM.k):=cell_of hou rfl
    have v1:wr.cell? ⟨w.heap.size+1+1,1,none⟩=some (.int .i64 RM.m):=cell_of hou rfl
    have v2:wr.cell? ⟨w.heap.size+1+1,2,none⟩=some (.string RM.x):=cell_of hou rfl
    have v3:wr.cell? ⟨w.heap.size+1+1,3,none⟩=some (.int .i64 RM.r):=cell_of hou rfl
    have v4:wr.cell? ⟨w.heap.size+1+1,4,none⟩=some (.slice pv i cv):=cell_of hou rfl
    have r0:wr.cell? ⟨w.heap.size+1,0,none⟩=some (.int .i64 0):=cell_of hX.rs rfl
    have r1:wr.cell? ⟨w.heap.size+1,1,none⟩=some (.int .i64 0):=cell_of hX.rs rfl
    have r2:wr.cell? ⟨w.heap.size+1,2,none⟩=some (.string ⟨#[]⟩):=cell_of hX.rs rfl
    have r3:wr.cell? ⟨w.heap.size+1,3,none⟩=some (.int .i64 0):=cell_of hX.rs rfl
    have r4:wr.cell? ⟨w.heap.size+1,4,none⟩=some (.slice none 0 0):=cell_of hX.rs rfl
    have rz:∀ j,wr.frozen? ⟨w.heap.size+1,j,none⟩=false:=fun j=>frozen_of hX.rs
    have HX:Hid (CS w n F a pn cn o i (.slice ad o.length cap) (.slice pv i cv) V wr∧o.length=i):=(⟨hX,by omega⟩:_∧_)
    clear hX hou hRM hend HO HB hil hon hi
    go_wp2_with fail
    have hX:=(show CS w n F a pn cn o i (.slice ad o.length cap) (.slice pv i cv) V wr∧o.length=i from HX)
    obtain ⟨WF,hWF⟩:∃ WF,WF=s5 wr (w.heap.size+1) RM.k RM.m RM.x RM.r (.slice pv i cv):=⟨_,rfl⟩
    have hbF:WF.heap[w.heap.size+1]? = some (.cells #[.int .i64 RM.k,.int .i64 RM.m,.string RM.x,.int .i64 RM.r,.slice pv i cv] 44 (0,0)):=by rw [hWF];exact s5_known hX.1.rs _ _ _ _ _
    have e0:WF.cell? ⟨w.heap.size+1,0,none⟩=some (.int .i64 RM.k):=cell_of hbF rfl
    have e1:WF.cell? ⟨w.heap.size+1,1,none⟩=some (.int .i64 RM.m):=cell_of hbF rfl
    have e2:WF.cell? ⟨w.heap.size+1,2,none⟩=some (.string RM.x):=cell_of hbF rfl
    have e3:WF.cell? ⟨w.heap.size+1,3,none⟩=some (.int .i64 RM.r):=cell_of hbF rfl
    have e4:WF.cell? ⟨w.heap.size+1,4,none⟩=some (.slice pv i cv):=cell_of hbF rfl
    have hfar:∀ g,g ≠ w.heap.size+1→WF.heap[g]? = wr.heap[g]?:=fun g hg=>by rw [hWF];exact s5_far _ _ _ _ _ _ hg
    have hsz:WF.heap.size=wr.heap.size:=by rw [hWF];exact s5_size _ _ _ _ _ _ _
    have hos:WF.os=wr.os:=by rw [hWF];rfl
    have hout:WF.output=wr.output:=by rw [hWF];rfl
    unfold s5 s4 at hWF
    rw [← hWF]
    clear hWF v0 v1 v2 v3 v4 r0 r1 r2 r3 r4 rz
    refine bodyPost_ret (by simp [results,Try.results72,go_sem,e0,e1,e2,e3,e4];rfl) rfl ?_
    have k4:Kb (w.heap.size+4) wr WF:=⟨hos,hout,by omega,fun g hg _=>hfar g (by omega)⟩
    obtain ⟨he1,he2⟩:=(show ords F (ext [] a) n=o∧RM=rnm o a from HE)
    rw [he1,← he2]
    refine ⟨_,rfl,?_,⟨hos.trans hX.1.kb.os,hout.trans hX.1.kb.output,by have:=hX.1.kb.size;omega,fun g _ hg=>(hfar g (by omega)).trans (hX.1.kb.block g (Nat.zero_le _) hg)⟩⟩
    rw [hX.2]
    exact (hX.1.row.keep k4).mono (by omega)
   have hiI:(i:Int) < (o.length:Int):=by omega
   obtain ⟨hx,hox⟩:=nth_lt hX.nl hi
   obtain ⟨x,hxd⟩:∃ x,x=nth o i:=⟨_,rfl⟩
   rw [← hxd] at hx hox
   obtain ⟨g,cap',eo,hgB,hcap,hoc⟩:=own_cells hX.oo (by omega)
   injection eo with eo1 _ eo3
   subst eo1
   subst eo3
   have yo:wr.cell? ⟨g,i,none⟩=some (.int .i64 (x:Int)):=(hoc i (by omega)).trans (by unfold ivs;rw [List.getElem?_map,hox];rfl)
   obtain ⟨ha2,hb,hk⟩:=(show (0 < n→∃ a:Addr,pn=some a∧n≤cn∧0≤a.block∧∀ i,i < n→ThC 0 w (a.add (i*2)) (F i))∧Bg n F a∧Lk n F a from HB)
   obtain ⟨AN,rfl,hcn,-,hra⟩:=ha2 (by omega)
   obtain ⟨vc,⟨y0,y1⟩,⟨pc,cc,rfl,hvc⟩⟩:=hra x hx
   have hxI:(x:Int) < (n:Int):=by omega
   replace y0:=hX.kb.cell y0
   replace y1:=hX.kb.cell y1
   have u4:wr.cell? ⟨w.heap.size,4,none⟩=some (.slice (some AN) n cn):=cell_of hX.bx rfl
   have HX:Hid (CS w n F a (some AN) cn o i (.slice (some ⟨g,0,none⟩) o.length cap) (.slice pv i cv) V wr):=hX
   have HXD:Hid (x=nth o i∧x < n∧i < o.length∧o.length≤n):=(⟨hxd,hx,hi,hon⟩:_∧_)
   have HKS:Hid (∀ ob,(wr.alloc ob).cell? ⟨w.heap.size,4,none⟩=some (.slice (some AN) n cn)∧(wr.alloc ob).cell? ⟨g,i,none⟩=some (.int .i64 (x:Int))∧(wr.alloc ob).cell? (AN.add (x*2))=some (.int .i64 (F x).t)∧(wr.alloc ob).cell? ⟨(AN.add (x*2)).block,(AN.add (x*2)).off+1,none⟩=some (.slice pc (F x).c cc)):=(fun ob=>⟨(kb_alloc 0 wr ob).cell u4,(kb_alloc 0 wr ob).cell yo,(kb_alloc 0 wr ob).cell y0,(kb_alloc 0 wr ob).cell y1⟩:∀ ob,_)
   have hcI:((F x).c:Int)≤1048576:=by have:=hb.hc x hx;omega
   have HVC:Hid ((0 < (F x).c→∃ a:Addr,pc=some a∧(F x).c≤cc∧0≤a.block∧∀ j,j < (F x).c→ValC 0 w (a.add (j*4)) ((F x).C j))∧∀ j,j < (F x).c→((F x).C j).k=4→0≤((F x).C j).r∧((F x).C j).r < (n:Int)):=(⟨hvc,hk.lv x hx⟩:_∧_)
   clear hX hoc hra ha2 hb hk hxd hox hvc
   go_wp2_with fail
   go_region_held3 (fun W'=>W'.cell? ⟨w.heap.size,4,none⟩=some (.slice (some AN) n cn)∧W'.cell? ⟨g,i,none⟩=some (.int .i64 (x:Int))∧W'.cell? (AN.add (x*2))=some (.int .i64 (F x).t)∧W'.cell? ⟨(AN.add (x*2)).block,(AN.add (x*2)).off+1,none⟩=some (.slice pc (F x).c cc)) (first | exact ⟨u4,yo,y0,y1⟩ | exact (show ∀ ob,_ from HKS) _) (fail)
   clear u4 yo y0 y1 HKS
   obtain ⟨W8,hW8⟩:∃ W8,W8=(wr.alloc (.cells #[.int .i64 (F x).t,.slice pc (F x).c cc] 50)).drew:=⟨_,rfl⟩
   rw [← hW8]
   have k8:Kb 0 wr W8:=by rw [hW8];have k:=kb_alloc 0 wr (.cells #[.int .i64 (F x).t,.slice pc (F x).c cc] 50);exact ⟨k.os,k.output,k.size,k.block⟩
   have z8:W8.heap.size=wr.heap.size+1:=by rw [hW8];exact World.size_alloc _ _
   have b8:W8.heap[wr.heap.size]? = some (.cells #[.int .i64 (F x).t,.slice pc (F x).c cc] 50 (0,0)):=by rw [hW8];exact alloc_new _ _ _
   have y0:W8.cell? ⟨wr.heap.size,0,none⟩=some (.int .i64 (F x).t):=cell_of b8 rfl
   have k9:=kb_alloc 0 W8 (.cells #[.int .i64 (F x).t,.slice none 0 0] 50)
   obtain ⟨W9,hW9⟩:∃ W9,W9=W8.alloc (.cells #[.int .i64 (F x).t,.slice none 0 0] 50):=⟨_,rfl⟩
   rw [← hW9] at k9
   have b9:W9.heap[W8.heap.size]? = some (.cells #[.int .i64 (F x).t,.slice none 0 0] 50 (0,0)):=by rw [hW9];exact alloc_new _ _ _
   have z9:W9.heap.size=W8.heap.size+1:=by rw [hW9];exact World.size_alloc _ _
   have y1:W9.cell? ⟨wr.heap.size,1,none⟩=some (.slice pc (F x).c cc):=k9.cell (cell_of b8 rfl)
   obtain ⟨u,hu⟩:∃ u,u=W8.heap.size:=⟨_,rfl⟩
   rw [← hu] at b9 z9
   have HN0:Hid (CX w n F a (some AN) cn o i (.slice (some ⟨g,0,none⟩) o.length cap) (.slice pv i cv) V (F x).t (F x).C u (u+1) 0 (.slice none 0 0) W9):=(show CS w n F a (some AN) cn o i (.slice (some ⟨g,0,none⟩) o.length cap) (.slice pv i cv) V wr from HX).begin (k8.trans k9) b9 z9 (by omega)
   have HW9:Hid (W9=W8.alloc (.cells #[.int .i64 (F x).t,.slice none 0 0] 50)):=hW9
   have HU:Hid (u=W8.heap.size):=hu
   clear hW8 k8 z8 b8 k9 b9 z9 hW9 hu
   go_upto_region 15 with fail
   rw [← (show W9 = _ from HW9),← (show u = _ from HU)]
   clear HW9 HU y0
   go_wp2_with fail
   clear y1
   obtain ⟨wo,rfl⟩:∃ wo,wo=wr:=⟨_,rfl⟩
   go_loopw [6,55] (fun s6 s55 wr=>∃ (j:Nat) (vx:Value),s55 = .int .i64 (j:Int)∧j≤(F x).c∧Hid (CX w n F a (some AN) cn (exts o (F x).C j) i s6 (.slice pv i cv) V (F x).t (F x).C u (u+1) j vx wr)) (fun _ s55 _=>(F x).c - (intOf s55).toNat)
   case atStart=>exact ⟨0,_,rfl,Nat.zero_le _,HN0⟩
   case round =>
    clear HN0 HX
    obtain ⟨j,vx,rfl,hj0,HY⟩:=hrel
    have hY:=(show CX w n F a (some AN) cn (exts o (F x).C j) i _ (.slice pv i cv) V (F x).t (F x).C u (u+1) j vx wr from HY)
    obtain ⟨oj,hoj⟩:∃ oj,oj=exts o (F x).C j:=⟨_,rfl⟩
    rw [← hoj] at hY
    have HOJ:Hid (oj=exts o (F x).C j):=hoj
    clear HY hoj
    obtain ⟨ad,cap2,rfl⟩:=own_shape hY.cs.oo
    obtain ⟨px,cx,rfl⟩:=own_shape hY.xr
    have hjn:=nl_len n oj hY.cs.nl
    rcases Nat.lt_or_ge j (F x).c with hj | hj
    case inr =>
     obtain rfl:j=(F x).c:=by omega
     have hI2:¬ ((F x).c:Int) < ((F x).c:Int):=by omega
     have f4:wr.cell? ⟨w.heap.size+1+1,4,none⟩=some (.slice pv i cv):=cell_of hY.cs.ou rfl
     have m0:wr.cell? ⟨u,0,none⟩=some (.int .i64 (F x).t):=cell_of hY.xu rfl
     have m1:wr.cell? ⟨u,1,none⟩=some (.slice px (F x).c cx):=cell_of hY.xu rfl
     obtain ⟨i1,hi1,hz0,hz1,hz2⟩:=info_parts infoT
     have HI1:Hid (Try.prog.info? 50=some i1):=hi1
     obtain ⟨hxd,hxn,hio,hon⟩:=(show x=nth o i∧x < n∧i < o.length∧o.length≤n from HXD)
     obtain ⟨tl,htl⟩:=exts_pre o (F x).C (F x).c
     have hnx:nth oj i=x:=by rw [show oj = _ from HOJ,htl,nth_pre hio,hxd]
     have hio2:i < oj.length:=by rw [show oj = _ from HOJ,htl,List.length_append];omega
     obtain ⟨NC,hNC⟩:∃ NC,NC=ncl F oj V i:=⟨_,rfl⟩
     have howna:∀ ob:Obj,(wr.alloc ob).ownsRow (w.heap.size+4) 50 2 (.slice pv i cv) i NC:=fun ob=>by rw [hNC];exact hY.cs.nn.alloc ob
     have hqc:∀ (k:Nat) (v:Value),([.int .i64 (F x).t,.slice px (F x).c cx]:List Value)[k]? = some v→(wr.alloc (.cells #[.int .i64 (F x).t,.slice px (F x).c cx] 50)).cell? ((⟨wr.heap.size,0,none⟩:Addr).add k)=some v:=qr_cells wr #[.int .i64 (F x).t,.slice px (F x).c cx] 50 [.int .i64 (F x).t,.slice px (F x).c cx] rfl
     have h1c:∀ v ∈ ([.int .i64 (F x).t,.slice px (F x).c cx]:List Value),v.oneCell'=true:=by
      intro v hv
      rcases List.mem_cons.1 hv with rfl | hv
      ·rfl
      ·rw [List.mem_singleton] at hv;subst hv;rfl
     have hbs:w.heap.size+4≤wr.heap.size:=hY.cs.sz
     have HSTP:Hid (∀ (ob:Obj) (v':Value) (w8:World),w8.ownsRow (w.heap.size+4) 50 2 v' (i+1) (NC ++ [.int .i64 (F x).t,.slice px (F x).c cx])→(wr.alloc ob).grownBy w8 (Value.slice pv i cv).ownBlock→(w8.cell? ⟨w.heap.size+1+1,4,none⟩=some (.slice pv i cv)∧∀ j,w8.frozen? ⟨w.heap.size+1+1,j,none⟩=false)∧CS w n F a (some AN) cn oj (i+1) (.slice ad oj.length cap2) v' (fun q=>if q=i then .slice px (F x).c cx else V q) (w8.setCell ⟨w.heap.size+1+1,4,none⟩ v')):=(fun ob v' w8 ho8 hg8=>by
      have hng:some (w.heap.size+1+1) ≠ (Value.slice pv i cv).ownBlock:=fun e=>by have:=(hY.cs.nn.lt _ e.symm).1;omega
      have hb8:=((hg8.block _ (by rw [World.size_alloc];omega) hng).trans ((kb_alloc 0 wr ob).block _ (Nat.zero_le _) (by omega))).trans hY.cs.ou
      refine ⟨⟨cell_of hb8 rfl,fun j=>frozen_of hb8⟩,?_⟩
      rw [hNC] at ho8
      rw [← hnx] at ho8 ⊢
      rw [← hnx] at hY
      exact hY.done ho8 hg8 hio2:∀ (ob:Obj) (v':Value) (w8:World),_)
     have HNX:Hid (oj=ords F (ext [] a) (i+1)):=by
      show oj=ords F (ext [] a) (i+1)
      rw [ords_succ,← (show o = _ from HO),if_pos hio,← hxd]
      exact HOJ
     clear hY HOJ HVC HXD hxd hxn hio hon htl hnx hio2 hNC HO hj hj0 hi1
     go_upto_region 12 with (at_builtin;refine wpList_append_own _ rfl (.tmp 74) (.tmp 76) 42 rfl (w.heap.size+4) 50 i1 (.agg #[.int .i64 0,.slice none 0 0]) 2 32 Try.underlying42 HI1 hz0 hz1 hz2 rfl (by decide) _ _ _ rfl (howna _) ⟨wr.heap.size,0,none⟩ 1 1 [.int .i64 (F x).t,.slice px (F x).c cx] rfl rfl hqc h1c (by unfold maxLen;omega) (by omega) (by simp;omega) ?_;intro v' w8 hown1 hgrow1 _;obtain ⟨pv',cv',rfl⟩:=own_shape hown1;obtain ⟨⟨p1,p2⟩,HC8⟩:=(show ∀ (ob:Obj) (v':Value) (w8:World),_ from HSTP) _ _ _ hown1 hgrow1;replace HC8:Hid _:=HC8;clear HSTP hown1 hgrow1 howna hqc h1c f4 m0 m1)
     go_wp2_with fail
     go_roundw
     case rel=>exact ⟨i+1,_,_,by go_num,by rw [← (show oj = _ from HNX)];exact HC8⟩
     case measure=>simp [intOf];omega
    have hI2:(j:Int) < ((F x).c:Int):=by omega
    obtain ⟨hvc,hlk⟩:=(show (0 < (F x).c→∃ a:Addr,pc=some a∧(F x).c≤cc∧0≤a.block∧∀ j,j < (F x).c→ValC 0 w (a.add (j*4)) ((F x).C j))∧∀ j,j < (F x).c→((F x).C j).k=4→0≤((F x).C j).r∧((F x).C j).r < (n:Int) from HVC)
    obtain ⟨AC,rfl,hcc,-,hrc⟩:=hvc (by omega)
    obtain ⟨z0,z1,z2,z3⟩:=hrc j hj
    replace z0:=hY.cs.kb.cell z0
    replace z1:=hY.cs.kb.cell z1
    replace z2:=hY.cs.kb.cell z2
    replace z3:=hY.cs.kb.cell z3
    have hvl:=hlk j hj
    obtain ⟨v,hv⟩:∃ v,v=(F x).C j:=⟨_,rfl⟩
    rw [← hv] at z0 z1 z2 z3 hvl
    have hxs:=hY.cs.sz
    obtain ⟨hu1,hu2⟩:=hY.hu
    have hul:u < wr.heap.size:=(Array.getElem?_eq_some_iff.1 hY.xu).1
    have k5:=kb_alloc2 0 wr (.cells #[.int .i64 v.k,.int .i64 v.m,.string v.x,.int .i64 v.r] 41) (.cells #[.int .i64 0,.int .i64 0,.string ⟨#[]⟩,.int .i64 0] 41)
    obtain ⟨W5,hW5⟩:∃ W5,W5=(wr.alloc (.cells #[.int .i64 v.k,.int .i64 v.m,.string v.x,.int .i64 v.r] 41)).alloc (.cells #[.int .i64 0,.int .i64 0,.string ⟨#[]⟩,.int .i64 0] 41):=⟨_,rfl⟩
    rw [← hW5] at k5
    have ez:(wr.alloc (.cells #[.int .i64 v.k,.int .i64 v.m,.string v.x,.int .i64 v.r] 41)).heap.size=wr.heap.size+1:=World.size_alloc _ _
    have s5z:W5.heap.size=wr.heap.size+2:=by rw [hW5];simp
    have b5:W5.heap[wr.heap.size]? = some (.cells #[.int .i64 v.k,.int .i64 v.m,.string v.x,.int .i64 v.r] 41 (0,0)):=by
     rw [hW5,(kb_alloc 0 _ _).block _ (Nat.zero_le _) (by omega)]
     exact alloc_new _ _ _
    have b6:W5.heap[wr.heap.size+1]? = some (.cells #[.int .i64 0,.int .i64 0,.string ⟨#[]⟩,.int .i64 0] 41 (0,0)):=by
     rw [hW5,← ez]
     exact alloc_new _ _ _
    have hY5:=hY.kb2 k5
    have d0:W5.cell? ⟨wr.heap.size,0,none⟩=some (.int .i64 v.k):=cell_of b5 rfl
    have d1:W5.cell? ⟨wr.heap.size,1,none⟩=some (.int .i64 v.m):=cell_of b5 rfl
    have d2:W5.cell? ⟨wr.heap.size,2,none⟩=some (.string v.x):=cell_of b5 rfl
    have d3:W5.cell? ⟨wr.heap.size,3,none⟩=some (.int .i64 v.r):=cell_of b5 rfl
    have HREN:=sp_ren (v:=v) (G:=w.heap.size+1+1+1) (n:=n) (B:=w.heap.size+4) (o:=oj) (vo:=.slice ad oj.length cap2) W5 hY5.cs.wh (by omega) (by omega) hY5.cs.oo hvl (by omega) (by omega)
    unfold gvv at HREN
    have HW5:Hid (W5=(wr.alloc (.cells #[.int .i64 v.k,.int .i64 v.m,.string v.x,.int .i64 v.r] 41)).alloc (.cells #[.int .i64 0,.int .i64 0,.string ⟨#[]⟩,.int .i64 0] 41)):=hW5
    have HY5:Hid (CX w n F a (some AN) cn oj i (.slice ad oj.length cap2) (.slice pv i cv) V (F x).t (F x).C u (u+1) j (.slice px j cx) W5∧W5.heap.size=wr.heap.size+2∧W5.heap[wr.heap.size+1]? = some (.cells #[.int .i64 0,.int .i64 0,.string ⟨#[]⟩,.int .i64 0] 41 (0,0))∧(v.k=4→0≤v.r∧v.r < (n:Int))∧u < wr.heap.size∧w.heap.size+4≤wr.heap.size∧v=(F x).C j∧(∀ g,(Value.slice pv i cv).ownBlock=some g→g < wr.heap.size)∧(∀ g,(Value.slice px j cx).ownBlock=some g→g < wr.heap.size)∧(∀ k,k < i→∀ g,(V k).ownBlock=some g→g < wr.heap.size)∧(∀ g,(Value.slice ad oj.length cap2).ownBlock=some g→g < wr.heap.size)):=(⟨hY5,s5z,b6,hvl,hul,hxs,hv,fun g e=>(hY.cs.nn.lt g e).2,fun g e=>(hY.xr.lt g e).2,fun k hk g e=>((hY.cs.vs k hk).lt g e).2,fun g e=>(hY.cs.oo.lt g e).2⟩:_∧_)
    clear hY hY5 hvc hlk hrc hv hvl hxs hu1 hu2 hul k5 ez s5z b5 b6 hW5 hcc
    go_upto_region 19 with fail
    rw [← (show W5 = _ from HW5)]
    clear HW5 z0 z1 z2 z3
    go_wp2_with fail
    refine HREN.mono ?_
    rintro e w6 ⟨vo',rfl,p1,p2,p3⟩
    clear HREN d0 d1 d2 d3
    obtain ⟨hY5,s5z,b6,hvl,hul,hxs,hv,hn1,hn2,hn3,hn4⟩:=(show CX w n F a (some AN) cn oj i (.slice ad oj.length cap2) (.slice pv i cv) V (F x).t (F x).C u (u+1) j (.slice px j cx) W5∧W5.heap.size=wr.heap.size+2∧W5.heap[wr.heap.size+1]? = some (.cells #[.int .i64 0,.int .i64 0,.string ⟨#[]⟩,.int .i64 0] 41 (0,0))∧(v.k=4→0≤v.r∧v.r < (n:Int))∧u < wr.heap.size∧w.heap.size+4≤wr.heap.size∧v=(F x).C j∧(∀ g,(Value.slice pv i cv).ownBlock=some g→g < wr.heap.size)∧(∀ g,(Value.slice px j cx).ownBlock=some g→g < wr.heap.size)∧(∀ k,k < i→∀ g,(V k).ownBlock=some g→g < wr.heap.size)∧(∀ g,(Value.slice ad oj.length cap2).ownBlock=some g→g < wr.heap.size) from HY5)
    have hY6:=hY5.ren p1 p2 p3 hvl
    obtain ⟨oe,hoe⟩:∃ oe,oe=ext oj v:=⟨_,rfl⟩
    have hmm:v.k=4→v.r ∈ oe:=fun q=>by rw [hoe];exact ext_mem q
    rw [← hoe] at hY6 p1 p2 ⊢
    obtain ⟨rv,hrv⟩:∃ rv,rv=rnm oe v:=⟨_,rfl⟩
    rw [← hrv]
    have hb6:w6.heap[wr.heap.size+1]? = some (.cells #[.int .i64 0,.int .i64 0,.string ⟨#[]⟩,.int .i64 0] 41 (0,0)):=(p3.block _ (by omega) (by omega) (fun e=>by have:=hn4 _ e.symm;omega)).trans b6
    have q0:w6.cell? ⟨wr.heap.size+1,0,none⟩=some (.int .i64 0):=cell_of hb6 rfl
    have q1:w6.cell? ⟨wr.heap.size+1,1,none⟩=some (.int .i64 0):=cell_of hb6 rfl
    have q2:w6.cell? ⟨wr.heap.size+1,2,none⟩=some (.string ⟨#[]⟩):=cell_of hb6 rfl
    have q3:w6.cell? ⟨wr.heap.size+1,3,none⟩=some (.int .i64 0):=cell_of hb6 rfl
    have qz:∀ j,w6.frozen? ⟨wr.heap.size+1,j,none⟩=false:=fun j=>frozen_of hb6
    obtain ⟨e0,e1,e2,e3⟩:=s4_cells (B:=wr.heap.size+1) q0 q1 q2 q3 rv.k rv.m rv.x rv.r
    obtain ⟨W7,hW7⟩:∃ W7,W7=s4 w6 (wr.heap.size+1) rv.k rv.m rv.x rv.r:=⟨_,rfl⟩
    have hY7:CX w n F a (some AN) cn oe i vo' (.slice pv i cv) V (F x).t (F x).C u (u+1) j (.slice px j cx) W7:=by
     rw [hW7]
     exact hY6.other (b:=wr.heap.size+1) (fun g hg=>s4_far _ _ _ _ _ hg) (s4_size _ _ _ _ _ _) rfl rfl (by omega) (by omega) (fun g e=>own_ty hY6.cs.oo hb6 (by decide) e) (fun g e=>by have:=hn1 g e;omega) (fun g e=>by have:=hn2 g e;omega) (fun k hk g e=>by have:=hn3 k hk g e;omega)
    rw [← hW7] at e0 e1 e2 e3
    have g1:W7.cell? ⟨u,1,none⟩=some (.slice px j cx):=cell_of hY7.xu rfl
    obtain ⟨i0,hi0,hz0,hz1,hz2⟩:=info_parts infoV
    have HI0:Hid (Try.prog.info? 41=some i0):=hi0
    obtain ⟨VC,hVC⟩:∃ VC,VC=vcl oe (F x).C j:=⟨_,rfl⟩
    have howna:∀ ob:Obj,(W7.alloc ob).ownsRow (u+1) 41 4 (.slice px j cx) j VC:=fun ob=>by rw [hVC];exact hY7.xr.alloc ob
    have hqc:∀ (k:Nat) (y:Value),([.int .i64 rv.k,.int .i64 rv.m,.string rv.x,.int .i64 rv.r]:List Value)[k]? = some y→(W7.alloc (.cells #[.int .i64 rv.k,.int .i64 rv.m,.string rv.x,.int .i64 rv.r] 41)).cell? ((⟨W7.heap.size,0,none⟩:Addr).add k)=some y:=qr_cells W7 #[.int .i64 rv.k,.int .i64 rv.m,.string rv.x,.int .i64 rv.r] 41 [.int .i64 rv.k,.int .i64 rv.m,.string rv.x,.int .i64 rv.r] rfl
    have h1c:∀ y ∈ ([.int .i64 rv.k,.int .i64 rv.m,.string rv.x,.int .i64 rv.r]:List Value),y.oneCell'=true:=by
     intro y hy
     simp only [List.mem_cons,List.not_mem_nil,or_false] at hy
     rcases hy with rfl | rfl | rfl | rfl <;> rfl
    have hbs:u+1≤W7.heap.size:=hY7.hX2
    have HSTP:Hid (∀ (ob:Obj) (v':Value) (w8:World),w8.ownsRow (u+1) 41 4 v' (j+1) (VC ++ [.int .i64 rv.k,.int .i64 rv.m,.string rv.x,.int .i64 rv.r])→(W7.alloc ob).grownBy w8 (Value.slice px j cx).ownBlock→(w8.cell? ⟨u,1,none⟩=some (.slice px j cx)∧∀ j,w8.frozen? ⟨u,j,none⟩=false)∧CX w n F a (some AN) cn oe i vo' (.slice pv i cv) V (F x).t (F x).C u (u+1) (j+1) v' (w8.setCell ⟨u,1,none⟩ v')):=(fun ob v' w8 ho8 hg8=>by
     have hng:some u ≠ (Value.slice px j cx).ownBlock:=fun e=>own_ty hY7.xr hY7.xu (by decide) e.symm rfl
     have hu7:u < W7.heap.size:=(Array.getElem?_eq_some_iff.1 hY7.xu).1
     have hb8:=((hg8.block _ (by rw [World.size_alloc];omega) hng).trans ((kb_alloc 0 W7 ob).block _ (Nat.zero_le _) hu7)).trans hY7.xu
     refine ⟨⟨cell_of hb8 rfl,fun j=>frozen_of hb8⟩,?_⟩
     rw [hVC,hrv,hv] at ho8
     exact hY7.push ho8 hg8 (by rw [← hv];exact hmm):∀ (ob:Obj) (v':Value) (w8:World),_)
    have HNX:Hid (oe=exts o (F x).C (j+1)):=by
     show oe=ext (exts o (F x).C j) ((F x).C j)
     rw [← (show oj = _ from HOJ),← hv]
     exact hoe
    unfold s4 at hW7
    have HW7:Hid (W7 = _):=hW7
    clear hY5 hY6 hY7 s5z b6 hvl hul hxs hv hn1 hn2 hn3 hn4 hoe hmm hrv hb6 hW7 hVC HOJ HVC HXD HO p1 p2 p3 hi0 HY5 hj0
    go_upto_region 20 with fail
    rw [← (show W7 = _ from HW7)]
    clear HW7 q0 q1 q2 q3 qz
    go_upto_region 21 with (at_builtin;refine wpList_append_own _ rfl (.tmp 67) (.tmp 69) 48 rfl (u+1) 41 i0 (.agg #[.int .i64 0,.int .i64 0,.string ⟨#[]⟩,.int .i64 0]) 4 40 Try.underlying48 HI0 hz0 hz1 hz2 rfl (by decide) _ _ _ rfl (howna _) ⟨W7.heap.size,0,none⟩ 1 1 [.int .i64 rv.k,.int .i64 rv.m,.string rv.x,.int .i64 rv.r] rfl rfl hqc h1c (by unfold maxLen;omega) (by omega) (by simp;omega) ?_;intro v' w8 hown1 hgrow1 _;obtain ⟨px',cx',rfl⟩:=own_shape hown1;obtain ⟨⟨p1,p2⟩,HC8⟩:=(show ∀ (ob:Obj) (v':Value) (w8:World),_ from HSTP) _ _ _ hown1 hgrow1;replace HC8:Hid _:=HC8;clear HSTP hown1 hgrow1 howna hqc h1c e0 e1 e2 e3 g1)
    go_wp2_with fail
    go_roundw
    case rel=>exact ⟨j+1,_,by go_num,by omega,by rw [← (show oe = _ from HNX)];exact HC8⟩
    case measure=>simp [intOf];omega
theorem vok_lk {n:Nat} {v:Gv} (h:Vok n v) (hk:v.k=4) : 0≤v.r∧v.r < (n:Int):=by
 rcases h with h | h | h | h
 ·have:=h.1;omega
 ·rcases h.1 with q | q <;> omega
 ·have:=h.1;omega
 ·exact ⟨h.2.2.2.1,h.2.2.2.2⟩
theorem gok_lk {n:Nat} {F:Nat→Td} {a:Gv} (h:Gok n F a):Lk n F a:=⟨vok_lk h.2.1,fun i hi j hj=>vok_lk ((h.2.2 i hi).2 j hj)⟩
def cO (n:Nat) (F:Nat→Td) (a:Gv):List Int:=ords F (ext [] a) n
noncomputable def cA (n:Nat) (F:Nat→Td) (a:Gv):Gv:=if dc (Gok n F a)=true then rnm (cO n F a) a else ⟨0,0,⟨#[]⟩,0⟩
noncomputable def cN (n:Nat) (F:Nat→Td) (a:Gv):Nat:=if dc (Gok n F a)=true then (cO n F a).length else 0
def cF (n:Nat) (F:Nat→Td) (a:Gv):Nat→Td:=cnF F (cO n F a)
theorem nl_ords {n:Nat} {F:Nat→Td} {o:List Int} (h:Nl n o) (hl:∀ i,i < n→∀ j,j < (F i).c→((F i).C j).k=4→0≤((F i).C j).r∧((F i).C j).r < (n:Int)):∀ i,Nl n (ords F o i)
 | 0=>h
 | i+1=>by
  have hi:=nl_ords h hl i
  rw [ords_succ]
  split
  ·rename_i hlt
   exact nl_exts hi _ (hl _ (nth_lt hi hlt).1)
  ·exact hi
theorem nl_cO {n:Nat} {F:Nat→Td} {a:Gv} (h:Lk n F a):Nl n (cO n F a):=nl_ords (nl_ext ⟨List.nodup_nil,fun x hx=>by cases hx⟩ h.lr) h.lv n
theorem rnm_x (o:List Int) (v:Gv):(rnm o v).x=v.x:=by
 unfold rnm
 split <;> rfl
theorem own_blk {W:World} {B:Nat} {t:TypeId} {s n:Nat} {v:Value} {l:List Value} (h:W.ownsRow B t s v n l) (hn : 0 < n):∃ g cap cur,v = .slice (some ⟨g,0,none⟩) n cap∧v.ownBlock=some g∧B≤g∧g < W.heap.size∧n≤cap∧W.heap[g]? = some (.cells cur t (0,0))∧∀ i,i < n*s→W.cell? ⟨g,i,none⟩=l[i]?:=by
 obtain ⟨g,cap,e,hB,hc,hcell⟩:=own_cells h hn
 have e2:v.ownBlock=some g:=by rw [e];rfl
 obtain ⟨cur,hcur⟩:=own_vt h e2
 exact ⟨g,cap,cur,e,e2,hB,(h.lt g e2).2,hc,hcur,hcell⟩
theorem own_v {W:World} {B c:Nat} {v:Value} {o:List Int} {C:Nat→Gv} (h:W.ownsRow B 41 4 v c (vcl o C c)):OwV W v (v.ownBlock.getD 0) c:=by
 obtain ⟨p,cap,hp⟩:=own_shape h
 refine ⟨p,cap,hp,fun hc=>?_⟩
 obtain ⟨g,cap',cur,e,e2,hB,hlt,hcap,hcur,hcell⟩:=own_blk h hc
 rw [hp] at e
 injection e with e3 _ e4
 have e5:v.ownBlock.getD 0=g:=by rw [e2];rfl
 rw [e5]
 refine ⟨e3,by omega,fun j hj=>?_,fun j=>frozen_of hcur⟩
 have hl:(vcl o C c)[j]? = some ((vcl o C c)[j]'(by rw [vcl_len];exact hj)):=List.getElem?_eq_getElem _
 exact ⟨_,(hcell j hj).trans hl⟩
theorem FE.tx {w:World} {n:Nat} {F:Nat→Td} {o:List Int} {vn:Value} {V:Nat→Value} {W:World} (h:FE w n F o vn V W):RowTX w.heap.size W vn o.length (cnF F o):=by
 refine ⟨h.row,vn.ownBlock.getD 0,V,fun k=>(V k).ownBlock.getD 0,?_⟩
 obtain ⟨p,cap,hp⟩:=own_shape h.nn
 have hg : 0 < o.length→∃ g cur,vn.ownBlock=some g∧vn.ownBlock.getD 0=g∧p=some ⟨g,0,none⟩∧o.length≤cap∧w.heap.size≤g∧g < W.heap.size∧W.heap[g]? = some (.cells cur 50 (0,0))∧∀ i,i < o.length*2→W.cell? ⟨g,i,none⟩=(ncl F o V o.length)[i]?:=fun hn=>by
  obtain ⟨g,cap',cur,e,e2,hB,hlt,hcap,hcur,hcell⟩:=own_blk h.nn hn
  rw [hp] at e
  injection e with e3 _ e4
  exact ⟨g,cur,e2,by rw [e2];rfl,e3,by omega,hB,hlt,hcur,hcell⟩
 refine ⟨⟨p,cap,hp,fun hn=>?_⟩,fun hn=>?_,fun i hi=>?_,fun i hi=>?_,fun hn j=>?_,fun i hi=>own_v (h.vs i hi),fun i hi hc=>?_,fun i j hi hj hne hc1 hc2=>?_⟩
 ·obtain ⟨g,cur,e1,e2,e3,e4,e5,e6,e7,e8⟩:=hg hn
  rw [e2];exact ⟨e3,e4⟩
 ·obtain ⟨g,cur,e1,e2,e3,e4,e5,e6,e7,e8⟩:=hg hn
  rw [e2];exact ⟨e5,e6⟩
 ·obtain ⟨g,cur,e1,e2,e3,e4,e5,e6,e7,e8⟩:=hg (by omega)
  rw [e2]
  exact ⟨_,(e8 (i*2) (by omega)).trans (ncl_at F o V (t:=0) (by omega) hi)⟩
 ·obtain ⟨g,cur,e1,e2,e3,e4,e5,e6,e7,e8⟩:=hg (by omega)
  rw [e2]
  exact (e8 (i*2+1) (by omega)).trans (ncl_at F o V (t:=1) (by omega) hi)
 ·obtain ⟨g,cur,e1,e2,e3,e4,e5,e6,e7,e8⟩:=hg hn
  rw [e2];exact frozen_of e7
 ·obtain ⟨g,cur,e1,e2,e3,e4,e5,e6,e7,e8⟩:=hg (by omega)
  obtain ⟨g',cap',cur',f1,f2,f3,f4,f5,f6,f7⟩:=own_blk (h.vs i hi) hc
  have e9:(V i).ownBlock.getD 0=g':=by rw [f2];rfl
  show w.heap.size≤(V i).ownBlock.getD 0∧_∧_
  rw [e9,e2]
  refine ⟨f3,f4,fun q=>?_⟩
  have:=own_ne (h.vs i hi) h.nn (by decide) f2
  rw [e1] at this
  exact this (by rw [q])
 ·obtain ⟨g1,_,_,_,f2,_⟩:=own_blk (h.vs i hi) hc1
  obtain ⟨g2,_,_,_,f4,_⟩:=own_blk (h.vs j hj) hc2
  show (V i).ownBlock.getD 0 ≠ (V j).ownBlock.getD 0
  rw [f2,f4]
  show g1 ≠ g2
  rcases Nat.lt_or_gt_of_ne hne with q | q
  ·exact h.dv i j q hj g1 g2 f2 f4
  ·exact fun e=>h.dv j i q hi g2 g1 f4 f2 e.symm
end Go.Proofs.Ytamcnmnaadpfoaa.Fo
