import Derived.Test.YtamcnmnaadpfoaaFJrb
import Derived.Test.YtamcnmnaadpfoaaFUbb
import Derived.Deep.CutBlock
import Derived.Deep.CutRange
import Derived.Test.YtamcnmnaadpfoaaFXdj
set_option maxHeartbeats 16000000
namespace Go.Proofs.Ytamcnmnaadpfoaa.Fo
open Go.ChangeShapes Go.WideShapes Go.ChangeAt Go.RowKit
set_option linter.unusedVariables false
set_option maxRecDepth 100000
def jmF (n:Nat) (F:Nat→Td):Jd:=⟨(F 1).c,fun i=>(zat F 1 i).x,(zat F 0 0).m,(zat F 0 1).m,n - 3,fun i=>stF F (3+i)⟩
theorem jm_F (a:Gv) (ys:List (Int × List Gv)):jm (a,ys)=jmF ys.length (TF ys):=by
 unfold jm jmF
 have h1:(vsG (a,ys) 1).length=(TF ys 1).c:=rfl
 rw [h1,atv,atv]
 have h3:(fun i=>((vsG (a,ys) 1).getD i z0v).x)=fun i=>(zat (TF ys) 1 i).x:=funext (fun i=>by rw [atv];rfl)
 have h4:(fun i=>stG (vsG (a,ys) (3+i)))=fun i=>stF (TF ys) (3+i):=funext (fun i=>stG_F a ys (3+i))
 rw [h3,h4]
 rfl
structure CmF (n:Nat) (F:Nat→Td):Prop where
 n3 : 3≤n
 c0:(F 0).c=4
 s0:Sml (zat F 0 0)
 s1:Sml (zat F 0 1)
 c4:∀ i,3≤i→i < n→(F i).c=4
theorem cm_F {a:Gv} {ys:List (Int × List Gv)} (h:Cm (a,ys)):CmF ys.length (TF ys):=by
 obtain ⟨h1,h2,h3,h4,h5⟩:=h
 rw [atv] at h3 h4
 exact ⟨h1,h2,h3,h4,h5⟩
theorem no_cm {M:List UInt8} {a:Gv} {ys:List (Int × List Gv)} (h:UnM M true (a,ys)) (hn:¬ CmF ys.length (TF ys)):RjA M false j0:=rm_no2 h (.inl (fun q=>hn (cm_F q)))
def KrJ (M:List UInt8) (w:World) (K:Act→World→Prop):Prop:=∀ a' w',bodyPost Try.prog Try.f5 (RjM M w) .ret a' w'→K a' w'
theorem thenJ {c:Code} {K:Act→World→Prop} {Q:Exit→Act→World→Prop} {a:Act} {W:World} (h:c.wp Try.prog (Exit.then K fun _ _ _=>False) a W):c.wp Try.prog (Exit.then K Q) a W:=Code.wp_mono (fun e a' w' h=>by cases e <;> first | exact h | exact h.elim) h
theorem pck_len9 (n:Nat) (F:Nat→Td) (a:Gv):(pck n F a).length≤8192:=by
 unfold pck
 by_cases h:Gok n F a∧(pfl n F a).length≤8192
 ·rw [dc_t h,if_pos rfl];exact h.2
 ·rw [dc_f h];simp
theorem jir_len (J:Jd):(jir J).length≤8192:=by
 unfold jir
 split
 ·exact pck_len9 _ _ _
 ·simp
theorem sl3 {ad:Addr} {N cn:Nat} (h3 : 3≤N) (hc:N≤cn):∃ (pz:Option Addr) (cz:Nat),(∀ W,(Instr.sliceAt 42 (.slice (some ad) N cn) (some (.int .i64 3)) none none).run Try.prog W = .ok (.slice pz (N - 3) cz) W)∧N - 3≤cz∧(3 < N→∃ ae,pz=some ae∧ae=ad.add 6):=by
 refine ⟨if cn=3 then some ad else some (ad.add 6),cn - 3,fun W=>?_,by omega,fun h=>⟨ad.add 6,by rw [if_neg (by omega)],rfl⟩⟩
 have hT:Try.prog.underlying 42=some (.slice (Try.prog.elem 42)):=by kernel_rfl
 have hs:(sizeOf (Try.prog.elem 42)).run Try.prog W=Result.ok 2 W:=by kernel_rfl
 rw [run_sliceAt_slice _ _ _ _ _ _ hT,run_slice_l _ _ _ _ _ hT _ _ (by omega) (by omega),hs]
 simp [Result.andThen,sliced]
theorem pfl_bok {n:Nat} {F:Nat→Td} {a:Gv} (hG:Gok n F a) (hr:Rg n F a):Bok (pfl n F a):=by
 have g:=gb_of hG hr
 unfold pfl pbd gbl
 exact (Bok.app (fun x hx=>by simp at hx;omega) (((numb_bok _).app (pvl_bok g.hA.1)).app (cat_bok _ _ (fun k hk=>ndl_bok (g.hD k hk))))).app (eig_bok _ _)
theorem pck_bok {n:Nat} {F:Nat→Td} {a:Gv} (hr:Rg n F a):Bok (pck n F a):=by
 unfold pck
 by_cases h:Gok n F a∧(pfl n F a).length≤8192
 ·rw [if_pos (dc_t h)];exact pfl_bok h.1 hr
 ·rw [if_neg (by rw [dc_f h];decide)];exact bok_nil
theorem jir_bok (J:Jd):Bok (jir J):=by
 unfold jir
 by_cases h:Jok J
 ·rw [if_pos (dc_t h)];exact pck_bok (jok_rgG h)
 ·rw [if_neg (by rw [dc_f h];decide)];exact bok_nil
theorem own_strv {W:World} {B:Nat} {v:Value} {l:List ByteArray} (h:W.ownsRow B 9 1 v l.length (l.map Value.string)):RowV W v l.length (fun i=>.string (l.getD i ⟨#[]⟩)):=by
 obtain ⟨p,cap,hp⟩:=own_shape h
 refine ⟨p,cap,hp,fun hn=>?_⟩
 obtain ⟨g,cap',e,hB,hc,hcell⟩:=own_cells h hn
 rw [hp] at e
 injection e with e1 _ e3
 refine ⟨⟨g,0,none⟩,e1,by omega,fun i hi=>?_⟩
 rw [addr0,hcell i (by omega)]
 show _=some (Value.string (l.getD i ⟨#[]⟩))
 rw [List.getElem?_map,List.getD_eq_getElem?_getD,List.getElem?_eq_getElem hi]
 rfl
def BwT (B:Nat) (w:World) (v:Value):Prop:=∃ l:List Int,Bok l∧l.length≤8192∧w.ownsRow B 5 1 v l.length (bvs l)
theorem dr_image {lv sv : Value} {L : List ByteArray} {pl pc : Int} {T : Nat → Gv} {mm B : Nat} (w : World) (h1 : L.length ≤ 25) (h3 : w.ownsRow B 9 1 lv L.length (L.map Value.string)) (h4 : w.ownsRow B 38 4 sv mm (sls T mm)) (h5 : ∀ i, i < mm → SmG (T i)) (h6 : mm ≤ 2) :
  Calls Try.prog 19 #[.agg #[lv,.int .i64 pl,.int .i64 pc,sv]] w fun e w'=>∃ v,e = .returned v∧BwT w.heap.size w' v∧Kb 0 w w':=by
 have hl:=own_strv h3
 obtain ⟨b,_,hs,_⟩:=own_sls h4 0
 obtain ⟨p1,c1,rfl⟩:=own_shape h3
 obtain ⟨p2,c2,rfl⟩:=own_shape h4
 refine (sp_jr (J:=⟨L.length,fun i=>L.getD i ⟨#[]⟩,pl,pc,mm,T⟩) w hl hs (by show L.length≤_;omega) (by show mm≤_;omega) (fun i hi=>by have:=(h5 i hi).1;show ((T i).x.size:Int)≤_;omega)).mono ?_
 rintro e w' ⟨v,rfl,ho,hk⟩
 exact ⟨v,rfl,⟨_,jir_bok _,jir_len _,ho⟩,hk⟩
def Rn0 (b:Nat) (bad:Bool) (W:World):Prop:=W.heap[b]? = some (.cells #[.slice none 0 0,.int .i64 2,.bool bad] 70 (0,0))
def RnP (b:Nat) (v:Value) (W:World) (e:Ending) (w':World):Prop:=e = .returned v∧Rn0 b true w'∧Kg b W w'
theorem rn_byte {b:Nat} {bad:Bool} {W:World} (h:Rn0 b bad W):Calls Try.prog 69 #[.pointer (some ⟨b,0,none⟩)] W (RnP b (.int .u8 0) W):=by
 have c0:W.cell? ⟨b,0,none⟩=some (.slice none 0 0):=cell_of h rfl
 have c1:W.cell? ⟨b,1,none⟩=some (.int .i64 2):=cell_of h rfl
 have c2:W.cell? ⟨b,2,none⟩=some (.bool bad):=cell_of h rfl
 have f2:W.frozen? ⟨b,2,none⟩=false:=frozen_of h
 have HH:Hid (Rn0 b bad W):=h
 clear h
 go_enter Try.func69,Try.ntmps69
 go_wp2_with fail
 go_quiet (fail)
 go_wp2_with fail
 go_ret
 refine ⟨rfl,?_,?_⟩
 ·show (World.setCell _ _ _).heap[b]? = _
  rw [set_known _ (show (World.drewN _ _).heap[b]? = _ from HH)];rfl
 ·exact (((Kz.refl b W).drewN _).set 2 _).kg
theorem rn_num {b:Nat} {bad:Bool} {W:World} (h:Rn0 b bad W):Calls Try.prog 68 #[.pointer (some ⟨b,0,none⟩)] W (RnP b (.int .u64 0) W):=by
 have HB:=rn_byte h
 clear h
 go_enter Try.func68,Try.ntmps68
 go_upto_region 3 with fail
 go_loopw [3,4] (fun s3 s4 wr=>s3 = .int .u64 0∧s4 = .int .i64 0∧W=wr) (fun _ _ _=>0)
 case atStart=>exact ⟨rfl,rfl,rfl⟩
 case round =>
  obtain ⟨rfl,rfl,rfl⟩:=hrel
  go_wp2_with fail
  refine HB.mono ?_
  rintro e w1 ⟨rfl,hb,hk⟩
  clear HB
  go_wp2_with fail
  go_ret
  exact ⟨rfl,hb,hk⟩
theorem rn_small {b:Nat} {bad:Bool} {W:World} (h:Rn0 b bad W):Calls Try.prog 36 #[.pointer (some ⟨b,0,none⟩)] W (RnP b (.int .i64 0) W):=by
 have HB:=rn_num h
 clear h
 go_enter Try.func36,Try.ntmps36
 go_wp2_with fail
 refine HB.mono ?_
 rintro e w1 ⟨rfl,hb,hk⟩
 clear HB
 go_wp2_with fail
 go_ret
 exact ⟨rfl,hb,hk⟩
theorem rn_val {b:Nat} {bad:Bool} {W:World} (h:Rn0 b bad W):Calls Try.prog 37 #[.pointer (some ⟨b,0,none⟩)] W (RnP b (.agg #[.int .i64 0,.int .i64 0,.string ⟨#[]⟩,.int .i64 0]) W):=by
 have HA:Hid (∀ (bd:Bool) W1,Rn0 b bd W1→Calls Try.prog 69 #[.pointer (some ⟨b,0,none⟩)] W1 (RnP b (.int .u8 0) W1)):=(fun bd W1 h1=>rn_byte h1:∀ (bd:Bool) W1,_)
 have HH:Hid (Rn0 b bad W):=h
 clear h
 go_enter Try.func37,Try.ntmps37
 obtain ⟨r,hr⟩:∃ r,r=W.heap.size:=⟨_,rfl⟩
 obtain ⟨w0,hw0⟩:∃ w0,w0=W.alloc (.cells #[.int .i64 0,.int .i64 0,.string ⟨#[]⟩,.int .i64 0] 41):=⟨_,rfl⟩
 have k0:Kb 0 W w0:=by rw [hw0];exact kb_alloc _ _ _
 have hb:=(Array.getElem?_eq_some_iff.1 (show W.heap[b]? = _ from HH)).1
 have h0:Rn0 b bad w0:=(k0.block b (Nat.zero_le _) hb).trans HH
 have hR0:w0.heap[r]? = some (.cells #[.int .i64 0,.int .i64 0,.string ⟨#[]⟩,.int .i64 0] 41 (0,0)):=by rw [hw0,hr];exact alloc_new _ _ _
 have hrb:r ≠ b:=by omega
 have HB:=(show ∀ (bd:Bool) W1,_ from HA) bad w0 h0
 have HK0:Hid (Kb 0 W w0∧w0.heap[r]? = some (.cells #[.int .i64 0,.int .i64 0,.string ⟨#[]⟩,.int .i64 0] 41 (0,0))∧r ≠ b∧r=W.heap.size):=(⟨k0,hR0,hrb,hr⟩:_∧_)
 go_upto_region 1 with fail
 rw [← hw0,← hr]
 clear hw0 hr k0 hb h0 hR0 hrb HH HA
 go_wp2_with fail
 refine HB.mono ?_
 rintro e w1 ⟨rfl,hb1,hk1⟩
 obtain ⟨k0,hR0,hrb,hr⟩:=(show Kb 0 W w0∧w0.heap[r]? = some (.cells #[.int .i64 0,.int .i64 0,.string ⟨#[]⟩,.int .i64 0] 41 (0,0))∧r ≠ b∧r=W.heap.size from HK0)
 have hR1:w1.heap[r]? = some (.cells #[.int .i64 0,.int .i64 0,.string ⟨#[]⟩,.int .i64 0] 41 (0,0)):=(hk1.block r (Array.getElem?_eq_some_iff.1 hR0).1 hrb).trans hR0
 obtain ⟨w2,hw2⟩:∃ w2,w2=w1.alloc (.cells #[.int .i64 0,.int .i64 0,.string ⟨#[]⟩,.int .i64 0] 41):=⟨_,rfl⟩
 obtain ⟨q,hq⟩:∃ q,q=w1.heap.size:=⟨_,rfl⟩
 have k2:Kb 0 w1 w2:=by rw [hw2];exact kb_alloc _ _ _
 have hQ2:w2.heap[q]? = some (.cells #[.int .i64 0,.int .i64 0,.string ⟨#[]⟩,.int .i64 0] 41 (0,0)):=by rw [hw2,hq];exact alloc_new _ _ _
 have hR2:=blk_kb hR1 k2
 have HK2:Hid (w2=w1.alloc (.cells #[.int .i64 0,.int .i64 0,.string ⟨#[]⟩,.int .i64 0] 41)∧q=w1.heap.size):=(⟨hw2,hq⟩:_∧_)
 have HE:Hid (Rn0 b true w2∧Kg b w0 w2∧r ≠ b∧w2.heap[r]? = some (.cells #[.int .i64 0,.int .i64 0,.string ⟨#[]⟩,.int .i64 0] 41 (0,0))∧Kb 0 W w0∧r=W.heap.size):=(⟨(k2.block b (Nat.zero_le _) (Array.getElem?_eq_some_iff.1 (show w1.heap[b]? = _ from hb1)).1).trans hb1,hk1.trans (Kg.of_kb k2),hrb,hR2,k0,hr⟩:_∧_)
 have c0:w2.cell? ⟨q,0,none⟩=some (.int .i64 0):=cell_of hQ2 rfl
 have c1:w2.cell? ⟨q,1,none⟩=some (.int .i64 0):=cell_of hQ2 rfl
 have c2:w2.cell? ⟨q,2,none⟩=some (.string ⟨#[]⟩):=cell_of hQ2 rfl
 have c3:w2.cell? ⟨q,3,none⟩=some (.int .i64 0):=cell_of hQ2 rfl
 have r0:w2.cell? ⟨r,0,none⟩=some (.int .i64 0):=cell_of hR2 rfl
 have r1:w2.cell? ⟨r,1,none⟩=some (.int .i64 0):=cell_of hR2 rfl
 have r2:w2.cell? ⟨r,2,none⟩=some (.string ⟨#[]⟩):=cell_of hR2 rfl
 have r3:w2.cell? ⟨r,3,none⟩=some (.int .i64 0):=cell_of hR2 rfl
 have fr:∀ j,w2.frozen? ⟨r,j,none⟩=false:=fun j=>frozen_of hR2
 clear HB HK0 hb1 hk1 k0 hR0 hrb hr hR1 k2 hQ2 hR2 hw2 hq
 go_upto_region 2 with fail
 rw [← (show _∧_ from HK2).1,← (show _∧_ from HK2).2]
 clear HK2
 go_wp2_with fail
 obtain ⟨hb2,hk2,hrb,hR2,k0,hr⟩:=(show Rn0 b true w2∧Kg b w0 w2∧r ≠ b∧w2.heap[r]? = some (.cells #[.int .i64 0,.int .i64 0,.string ⟨#[]⟩,.int .i64 0] 41 (0,0))∧Kb 0 W w0∧r=W.heap.size from HE)
 obtain ⟨wS,hwS⟩:∃ wS,wS=(((w2.setCell ⟨r,0,none⟩ (.int .i64 0)).setCell ⟨r,1,none⟩ (.int .i64 0)).setCell ⟨r,2,none⟩ (.string ⟨#[]⟩)).setCell ⟨r,3,none⟩ (.int .i64 0):=⟨_,rfl⟩
 have zS:Kz r w2 wS:=by rw [hwS];exact ((((Kz.refl r w2).set 0 _).set 1 _).set 2 _).set 3 _
 have hRS:wS.heap[r]? = some (.cells #[.int .i64 0,.int .i64 0,.string ⟨#[]⟩,.int .i64 0] 41 (0,0)):=by rw [hwS,set_known _ (set_known _ (set_known _ (set_known _ hR2)))];rfl
 have t0:wS.cell? ⟨r,0,none⟩=some _:=cell_of hRS rfl
 have t1:wS.cell? ⟨r,1,none⟩=some _:=cell_of hRS rfl
 have t2:wS.cell? ⟨r,2,none⟩=some _:=cell_of hRS rfl
 have t3:wS.cell? ⟨r,3,none⟩=some _:=cell_of hRS rfl
 rw [← hwS]
 clear hwS hRS
 refine bodyPost_ret (v:=.agg #[.int .i64 0,.int .i64 0,.string ⟨#[]⟩,.int .i64 0]) (by simp [results,Try.results37,go_sem,t0,t1,t2,t3]) rfl ?_
 exact ⟨rfl,(zS.block b (fun e=>hrb e.symm)).trans hb2,⟨zS.os.trans (hk2.os.trans k0.os),zS.output.trans (hk2.output.trans k0.output),by rw [zS.size];exact Nat.le_trans k0.size hk2.size,fun i h1 h2=>(zS.block i (by omega)).trans ((hk2.block i (Nat.lt_of_lt_of_le h1 k0.size) h2).trans (k0.block i (Nat.zero_le _) h1))⟩⟩
theorem kb_of_kg {b:Nat} {W w w':World} (k:Kb 0 W w) (z:Kg b w w') (hb:W.heap.size≤b):Kb 0 W w' :=
 ⟨z.os.trans k.os,z.output.trans k.output,Nat.le_trans k.size z.size,fun q h1 h2=>(z.block q (Nat.lt_of_lt_of_le h2 k.size) (by omega)).trans (k.block q h1 h2)⟩
theorem unm_nil:UnM [] false gr0:=⟨fun e=>(nomatch e),fun _=>⟨rfl,fun g' _ _ h _=>h rfl⟩⟩
theorem sp_unpack_nil {W:World}:Calls Try.prog 16 #[.slice none 0 0] W (UmA [] W):=by
 obtain ⟨u,hu⟩:∃ u,u=W.heap.size:=⟨_,rfl⟩
 obtain ⟨w1,hw1⟩:∃ w1,w1=W.alloc (.cells #[.bool false,.int .i64 0,.int .i64 0,.string ⟨#[]⟩,.int .i64 0,.slice none 0 0] 46):=⟨_,rfl⟩
 have k1:Kb 0 W w1:=by rw [hw1];exact kb_alloc _ _ _
 have z1:w1.heap.size=u+1:=by rw [hw1,hu];exact World.size_alloc _ _
 have b1:w1.heap[u]? = some (.cells #[.bool false,.int .i64 0,.int .i64 0,.string ⟨#[]⟩,.int .i64 0,.slice none 0 0] 46 (0,0)):=by rw [hw1,hu];exact alloc_new _ _ _
 obtain ⟨b,hb⟩:∃ b,b=w1.heap.size:=⟨_,rfl⟩
 obtain ⟨w2,hw2⟩:∃ w2,w2=w1.alloc (.cells #[.slice none 0 0,.int .i64 2,.bool false] 70):=⟨_,rfl⟩
 have k2:Kb 0 w1 w2:=by rw [hw2];exact kb_alloc _ _ _
 have hR2:Rn0 b false w2:=by rw [hw2,hb];exact alloc_new _ _ _
 have hub:u ≠ b:=by omega
 have bu2:=blk_kb b1 k2
 have H2:Hid (Kb 0 W w2∧w2.heap[u]? = some (.cells #[.bool false,.int .i64 0,.int .i64 0,.string ⟨#[]⟩,.int .i64 0,.slice none 0 0] 46 (0,0))∧u ≠ b∧W.heap.size≤u∧W.heap.size≤b):=(⟨k1.trans k2,bu2,hub,by omega,by omega⟩:_∧_)
 have HB1:=rn_small hR2
 have HW:Hid (w1=W.alloc (.cells #[.bool false,.int .i64 0,.int .i64 0,.string ⟨#[]⟩,.int .i64 0,.slice none 0 0] 46)∧u=W.heap.size∧w2=w1.alloc (.cells #[.slice none 0 0,.int .i64 2,.bool false] 70)∧b=u+1):=(⟨hw1,hu,hw2,hb.trans z1⟩:_∧_)
 clear hw1 hu hw2 hb k1 z1 b1 k2 hR2 hub bu2
 go_enter Try.func16,Try.ntmps16
 go_upto_region 4 with fail
 rw [← (show _∧_∧_∧_ from HW).1,← (show _∧_∧_∧_ from HW).2.1,← (show _∧_∧_∧_ from HW).2.2.1,← (show _∧_∧_∧_ from HW).2.2.2]
 clear HW
 go_wp2_with fail
 refine HB1.mono ?_
 rintro e w3 ⟨rfl,hr3,hk3⟩
 obtain ⟨g,hg⟩:∃ g,g=w3.heap.size:=⟨_,rfl⟩
 obtain ⟨w4,hw4⟩:∃ w4,w4=w3.alloc (.cells #[.int .i64 0,.int .i64 0,.string ⟨#[]⟩,.int .i64 0,.slice none 0 0] 44):=⟨_,rfl⟩
 have k4:Kb 0 w3 w4:=by rw [hw4];exact kb_alloc _ _ _
 have bg4:w4.heap[g]? = some (.cells #[.int .i64 0,.int .i64 0,.string ⟨#[]⟩,.int .i64 0,.slice none 0 0] 44 (0,0)):=by rw [hw4,hg];exact alloc_new _ _ _
 have hr4:Rn0 b true w4:=(k4.block b (Nat.zero_le _) (Array.getElem?_eq_some_iff.1 (show w3.heap[b]? = _ from hr3)).1).trans hr3
 obtain ⟨kb2,bu2,hub,hWu,hWb⟩:=(show Kb 0 W w2∧w2.heap[u]? = some (.cells #[.bool false,.int .i64 0,.int .i64 0,.string ⟨#[]⟩,.int .i64 0,.slice none 0 0] 46 (0,0))∧u ≠ b∧W.heap.size≤u∧W.heap.size≤b from H2)
 have hu2:=(Array.getElem?_eq_some_iff.1 bu2).1
 have bu4:w4.heap[u]? = some (.cells #[.bool false,.int .i64 0,.int .i64 0,.string ⟨#[]⟩,.int .i64 0,.slice none 0 0] 46 (0,0)):=blk_kb ((hk3.block u hu2 hub).trans bu2) k4
 have hgu:g ≠ u:=by have:=hk3.size;omega
 have hgb:g ≠ b:=by have:=(Array.getElem?_eq_some_iff.1 (show w3.heap[b]? = _ from hr3)).1;omega
 have hWg:W.heap.size≤g:=by have:=hk3.size;have:=kb2.size;omega
 have H4:Hid (Kb 0 W w4∧w4.heap[u]? = some (.cells #[.bool false,.int .i64 0,.int .i64 0,.string ⟨#[]⟩,.int .i64 0,.slice none 0 0] 46 (0,0))∧w4.heap[g]? = some (.cells #[.int .i64 0,.int .i64 0,.string ⟨#[]⟩,.int .i64 0,.slice none 0 0] 44 (0,0))∧u ≠ b∧g ≠ u∧g ≠ b∧W.heap.size≤u∧W.heap.size≤b∧W.heap.size≤g):=(⟨(kb_of_kg kb2 hk3 hWb).trans k4,bu4,bg4,hub,hgu,hgb,hWu,hWb,hWg⟩:_∧_)
 have HB2:=rn_val hr4
 have HW4:Hid (w4=w3.alloc (.cells #[.int .i64 0,.int .i64 0,.string ⟨#[]⟩,.int .i64 0,.slice none 0 0] 44)∧g=w3.heap.size):=(⟨hw4,hg⟩:_∧_)
 clear HB1 hr3 hk3 hg hw4 k4 bg4 hr4 kb2 bu2 hub hWu hWb hu2 bu4 hgu hgb hWg H2
 go_upto_region 6 with fail
 rw [← (show _∧_ from HW4).1,← (show _∧_ from HW4).2]
 clear HW4
 go_wp2_with fail
 refine HB2.mono ?_
 rintro e w5 ⟨rfl,hr5,hk5⟩
 obtain ⟨k04,bu4,bg4,hub,hgu,hgb,hWu,hWb,hWg⟩:=(show Kb 0 W w4∧w4.heap[u]? = some (.cells #[.bool false,.int .i64 0,.int .i64 0,.string ⟨#[]⟩,.int .i64 0,.slice none 0 0] 46 (0,0))∧w4.heap[g]? = some (.cells #[.int .i64 0,.int .i64 0,.string ⟨#[]⟩,.int .i64 0,.slice none 0 0] 44 (0,0))∧u ≠ b∧g ≠ u∧g ≠ b∧W.heap.size≤u∧W.heap.size≤b∧W.heap.size≤g from H4)
 have bg5:w5.heap[g]? = some (.cells #[.int .i64 0,.int .i64 0,.string ⟨#[]⟩,.int .i64 0,.slice none 0 0] 44 (0,0)):=(hk5.block g (Array.getElem?_eq_some_iff.1 bg4).1 hgb).trans bg4
 have bu5:w5.heap[u]? = some (.cells #[.bool false,.int .i64 0,.int .i64 0,.string ⟨#[]⟩,.int .i64 0,.slice none 0 0] 46 (0,0)):=(hk5.block u (Array.getElem?_eq_some_iff.1 bu4).1 hub).trans bu4
 have g0:w5.cell? ⟨g,0,none⟩=some (.int .i64 0):=cell_of bg5 rfl
 have g1:w5.cell? ⟨g,1,none⟩=some (.int .i64 0):=cell_of bg5 rfl
 have g2:w5.cell? ⟨g,2,none⟩=some (.string ⟨#[]⟩):=cell_of bg5 rfl
 have g3:w5.cell? ⟨g,3,none⟩=some (.int .i64 0):=cell_of bg5 rfl
 have fg:∀ j,w5.frozen? ⟨g,j,none⟩=false:=fun j=>frozen_of bg5
 obtain ⟨w6,hw6⟩:∃ w6,w6=(((w5.setCell ⟨g,0,none⟩ (.int .i64 0)).setCell ⟨g,1,none⟩ (.int .i64 0)).setCell ⟨g,2,none⟩ (.string ⟨#[]⟩)).setCell ⟨g,3,none⟩ (.int .i64 0):=⟨_,rfl⟩
 have z6:Kz g w5 w6:=by rw [hw6];exact ((((Kz.refl g w5).set 0 _).set 1 _).set 2 _).set 3 _
 have bu6:w6.heap[u]? = some (.cells #[.bool false,.int .i64 0,.int .i64 0,.string ⟨#[]⟩,.int .i64 0,.slice none 0 0] 46 (0,0)):=(z6.block u (fun e=>hgu e.symm)).trans bu5
 have hr6:Rn0 b true w6:=(z6.block b (fun e=>hgb e.symm)).trans hr5
 have k05:Kb 0 W w5:=kb_of_kg k04 hk5 hWb
 have k06:Kb 0 W w6:=kb_of_kg k05 z6.kg hWg
 have c2:w6.cell? ⟨b,2,none⟩=some (.bool true):=cell_of hr6 rfl
 have fu:∀ j,w6.frozen? ⟨u,j,none⟩=false:=fun j=>frozen_of bu6
 have u0:w6.cell? ⟨u,0,none⟩=some (.bool false):=cell_of bu6 rfl
 have u1:w6.cell? ⟨u,1,none⟩=some (.int .i64 0):=cell_of bu6 rfl
 have u2:w6.cell? ⟨u,2,none⟩=some (.int .i64 0):=cell_of bu6 rfl
 have u3:w6.cell? ⟨u,3,none⟩=some (.string ⟨#[]⟩):=cell_of bu6 rfl
 have u4:w6.cell? ⟨u,4,none⟩=some (.int .i64 0):=cell_of bu6 rfl
 have u5:w6.cell? ⟨u,5,none⟩=some (.slice none 0 0):=cell_of bu6 rfl
 have H6:Hid (Kb 0 W w6∧w6.heap[u]? = some (.cells #[.bool false,.int .i64 0,.int .i64 0,.string ⟨#[]⟩,.int .i64 0,.slice none 0 0] 46 (0,0))∧W.heap.size≤u):=(⟨k06,bu6,hWu⟩:_∧_)
 have HW6:Hid (w6 = _):=hw6
 clear HB2 hr5 hk5 k04 bu4 bg4 hub hgu hgb hWu hWb hWg bg5 bu5 z6 bu6 hr6 k05 k06 hw6 H4
 go_upto_region 7 with fail
 rw [← (show w6 = _ from HW6)]
 clear HW6 g0 g1 g2 g3 fg
 go_wp2_with fail
 go_loopw [6] (fun s6 wr=>s6 = .int .i64 0∧w6=wr) (fun _ _=>0)
 case atStart=>exact ⟨rfl,rfl⟩
 case round =>
  obtain ⟨rfl,rfl⟩:=hrel
  go_wp2_with fail
  obtain ⟨k06,bu6,hWu⟩:=(show Kb 0 W w6∧w6.heap[u]? = some (.cells #[.bool false,.int .i64 0,.int .i64 0,.string ⟨#[]⟩,.int .i64 0,.slice none 0 0] 46 (0,0))∧W.heap.size≤u from H6)
  obtain ⟨wS,hwS⟩:∃ wS,wS=((((((w6.setCell ⟨u,0,none⟩ (.bool false)).setCell ⟨u,1,none⟩ (.int .i64 0)).setCell ⟨u,2,none⟩ (.int .i64 0)).setCell ⟨u,3,none⟩ (.string ⟨#[]⟩)).setCell ⟨u,4,none⟩ (.int .i64 0)).setCell ⟨u,5,none⟩ (.slice none 0 0)):=⟨_,rfl⟩
  have zS:Kz u w6 wS:=by rw [hwS];exact (((((((Kz.refl u w6).set 0 _).set 1 _).set 2 _).set 3 _).set 4 _).set 5 _)
  have hRS:wS.heap[u]? = some (.cells #[.bool false,.int .i64 0,.int .i64 0,.string ⟨#[]⟩,.int .i64 0,.slice none 0 0] 46 (0,0)):=by rw [hwS,set_known _ (set_known _ (set_known _ (set_known _ (set_known _ (set_known _ bu6)))))];rfl
  have t0:wS.cell? ⟨u,0,none⟩=some _:=cell_of hRS rfl
  have t1:wS.cell? ⟨u,1,none⟩=some _:=cell_of hRS rfl
  have t2:wS.cell? ⟨u,2,none⟩=some _:=cell_of hRS rfl
  have t3:wS.cell? ⟨u,3,none⟩=some _:=cell_of hRS rfl
  have t4:wS.cell? ⟨u,4,none⟩=some _:=cell_of hRS rfl
  have t5:wS.cell? ⟨u,5,none⟩=some _:=cell_of hRS rfl
  rw [← hwS]
  clear hwS hRS
  refine bodyPost_ret (v:=.agg #[.bool false,.int .i64 0,.int .i64 0,.string ⟨#[]⟩,.int .i64 0,.slice none 0 0]) (by simp [results,Try.results16,go_sem,t0,t1,t2,t3,t4,t5]) rfl ?_
  exact uma_nil unm_nil (kb_of_kg k06 zS.kg hWu)
end Go.Proofs.Ytamcnmnaadpfoaa.Fo
