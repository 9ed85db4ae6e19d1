import Derived.Test.YtamcnmnaadpfoaaFUav
import Derived.Test.YtamcnmnaadpfoaaFPah
import Derived.Deep.CutBlock
import Derived.Deep.CutRange
import Derived.Deep.AppendLies
set_option maxHeartbeats 64000000
namespace Go.Proofs.Ytamcnmnaadpfoaa.Fo
open Go.ChangeShapes Go.WideShapes Go.ChangeAt Go.RowKit
set_option linter.unusedVariables false
set_option maxRecDepth 100000
theorem bse_iff (Q:List Int) (M:List UInt8):Bse Q.length M.length (fun i=>Q.getD i 0) (fun i=>((M.getD i 0).toNat:Int))↔Q=toI M:=by
 constructor
 ·rintro ⟨h1,h2⟩
  refine List.ext_getElem (by rw [toI_len];exact h1) (fun i hi hj=>?_)
  have h:=h2 i hi
  have hm:i < M.length:=by omega
  simp only [List.getD,List.getElem?_eq_getElem hi,List.getElem?_eq_getElem hm,Option.getD_some] at h
  rw [h]
  simp [toI]
 ·intro h
  subst h
  refine ⟨toI_len M,fun i hi=>?_⟩
  have hm:i < M.length:=by rw [← toI_len];exact hi
  simp [toI,List.getD,hm]
theorem rowU_own {W:World} {B:Nat} {p:Option Addr} {c n:Nat} {l:List Int} (h:W.ownsRow B 5 1 (.slice p n c) l.length (bvs l)):RowU W p l.length c (fun i=>l.getD i 0):=fun h0=>by
 obtain ⟨p',c',e,h2⟩:=own_rowv h
 obtain ⟨rfl,_,rfl⟩:=(Value.slice.injEq _ _ _ _ _ _).mp e
 obtain ⟨a,e1,e2,e3⟩:=h2 h0
 exact ⟨a,e1,e2,e3⟩
theorem pfl_ten {n:Nat} {F:Nat→Td} {a:Gv} : 0 < (pfl n F a).length:=by
 unfold pfl
 rw [show pbd n F a = [72,49] ++ gbl (rnm (cO n F a) a) (cO n F a).length (cF n F a) from rfl]
 simp
def UmA (M:List UInt8) (W:World) (e:Ending) (w':World):Prop:=∃ (ok:Bool) (r:Gv) (v:Value) (L:List (Int × List Gv)),e = .returned (.agg #[.bool ok,.int .i64 r.k,.int .i64 r.m,.string r.x,.int .i64 r.r,v])∧RowT 0 w' v L.length (TF L)∧UnM M ok (r,L)∧Kb 0 W w'
theorem uma_nil {M:List UInt8} {W w':World} (h:UnM M false gr0) (k:Kb 0 W w'):UmA M W (.returned (.agg #[.bool false,.int .i64 0,.int .i64 0,.string ⟨#[]⟩,.int .i64 0,.slice none 0 0])) w' :=
 ⟨false,⟨0,0,⟨#[]⟩,0⟩,.slice none 0 0,[],rfl,⟨none,0,rfl,fun h=>absurd h (Nat.lt_irrefl 0)⟩,h,k⟩
theorem sp_unpack_long {p : Option Addr} {c : Nat} {M : List UInt8} {W : World} (hM : M.length ≤ 1048576) (hlong : 8192 < M.length) :
  Calls Try.prog 16 #[.slice p M.length c] W (UmA M W):=by
 have hMI:(M.length:Int)≤1048576:=by omega
 have hl:(8192:Int) < (M.length:Int):=by omega
 have HD:Hid (∀ w',Kb 0 W w'→UmA M W (.returned (.agg #[.bool false,.int .i64 0,.int .i64 0,.string ⟨#[]⟩,.int .i64 0,.slice none 0 0])) w'):=(fun w' k=>uma_nil (unm_long hlong) k:∀ w',_)
 clear hM hlong
 have bg:(W.alloc (.cells #[.bool false,.int .i64 0,.int .i64 0,.string ⟨#[]⟩,.int .i64 0,.slice none 0 0] 46)).heap[W.heap.size]? = some (.cells #[.bool false,.int .i64 0,.int .i64 0,.string ⟨#[]⟩,.int .i64 0,.slice none 0 0] 46 (0,0)):=alloc_new _ _ _
 have d0:(W.alloc (.cells #[.bool false,.int .i64 0,.int .i64 0,.string ⟨#[]⟩,.int .i64 0,.slice none 0 0] 46)).cell? ⟨W.heap.size,0,none⟩=some (.bool false):=cell_of bg rfl
 have d1:(W.alloc (.cells #[.bool false,.int .i64 0,.int .i64 0,.string ⟨#[]⟩,.int .i64 0,.slice none 0 0] 46)).cell? ⟨W.heap.size,1,none⟩=some (.int .i64 0):=cell_of bg rfl
 have d2:(W.alloc (.cells #[.bool false,.int .i64 0,.int .i64 0,.string ⟨#[]⟩,.int .i64 0,.slice none 0 0] 46)).cell? ⟨W.heap.size,2,none⟩=some (.int .i64 0):=cell_of bg rfl
 have d3:(W.alloc (.cells #[.bool false,.int .i64 0,.int .i64 0,.string ⟨#[]⟩,.int .i64 0,.slice none 0 0] 46)).cell? ⟨W.heap.size,3,none⟩=some (.string ⟨#[]⟩):=cell_of bg rfl
 have d4:(W.alloc (.cells #[.bool false,.int .i64 0,.int .i64 0,.string ⟨#[]⟩,.int .i64 0,.slice none 0 0] 46)).cell? ⟨W.heap.size,4,none⟩=some (.int .i64 0):=cell_of bg rfl
 have d5:(W.alloc (.cells #[.bool false,.int .i64 0,.int .i64 0,.string ⟨#[]⟩,.int .i64 0,.slice none 0 0] 46)).cell? ⟨W.heap.size,5,none⟩=some (.slice none 0 0):=cell_of bg rfl
 clear bg
 go_enter Try.func16,Try.ntmps16
 go_wp2_with fail
 refine bodyPost_ret (by simp [results,Try.results16,go_sem,d0,d1,d2,d3,d4,d5];rfl) rfl ?_
 exact (show ∀ w',_→_ from HD) _ (kb_alloc 0 W _)
theorem sp_unpack {a : Addr} {c : Nat} {M : List UInt8} {W : World} (hcap : M.length ≤ c) (hrow : ∀ i (x : UInt8), M[i]? = some x → W.cell? (a.add i) = some (.int .u8 (x.toNat : Int))) (hal : a.block < W.heap.size) (hM : M.length ≤ 8192) :
    Calls Try.prog 16 #[.slice (some a) M.length c] W (UmA M W):=by
  have hl:¬ (8192:Int) < (M.length:Int):=by omega
  obtain ⟨b,hb⟩:∃ b,b=W.heap.size+1:=⟨_,rfl⟩
  obtain ⟨uB,hu⟩:∃ uB,uB=W.heap.size:=⟨_,rfl⟩
  obtain ⟨w1,hw1⟩:∃ w1,w1=W.alloc (.cells #[.bool false,.int .i64 0,.int .i64 0,.string ⟨#[]⟩,.int .i64 0,.slice none 0 0] 46):=⟨_,rfl⟩
  have k1:Kb 0 W w1:=by rw [hw1];exact kb_alloc _ _ _
  have z1:w1.heap.size=W.heap.size+1:=by rw [hw1,World.size_alloc]
  have b1:w1.heap[uB]? = some (.cells #[.bool false,.int .i64 0,.int .i64 0,.string ⟨#[]⟩,.int .i64 0,.slice none 0 0] 46 (0,0)):=by rw [hw1,hu];exact alloc_new _ _ _
  obtain ⟨w2,hw2⟩:∃ w2,w2=w1.alloc (.cells #[.slice (some a) M.length c,.int .i64 2,.bool false] 70):=⟨_,rfl⟩
  have k12:Kb 0 w1 w2:=by rw [hw2];exact kb_alloc _ _ _
  have z2:w2.heap.size=W.heap.size+2:=by rw [hw2,World.size_alloc,z1]
  have b2:w2.heap[b]? = some (.cells #[.slice (some a) M.length c,.int .i64 2,.bool false] 70 (0,0)):=by rw [hw2,hb,← z1];exact alloc_new _ _ _
  have s2:w2.heap[uB]? = some (.cells #[.bool false,.int .i64 0,.int .i64 0,.string ⟨#[]⟩,.int .i64 0,.slice none 0 0] 46 (0,0)):=(k12.block _ (Nat.zero_le _) (by omega)).trans b1
  have k2:Kb 0 W w2:=k1.trans k12
  have r2:RD b a c M 2 false w2:=⟨b2,by omega,hM,hcap,by omega,fun i x hx=>k2.cellA (Nat.zero_le _) (hrow i x hx)⟩
  have HB:=rd_small r2
  have HW:Hid (w1=W.alloc (.cells #[.bool false,.int .i64 0,.int .i64 0,.string ⟨#[]⟩,.int .i64 0,.slice none 0 0] 46)∧w2=w1.alloc (.cells #[.slice (some a) M.length c,.int .i64 2,.bool false] 70)∧b=W.heap.size+1∧w1.heap.size=W.heap.size+1):=(⟨hw1,hw2,hb,z1⟩:_∧_)
  have HK:Hid (Kb 0 W w2∧w2.heap.size=W.heap.size+2∧w2.heap[uB]? = some (.cells #[.bool false,.int .i64 0,.int .i64 0,.string ⟨#[]⟩,.int .i64 0,.slice none 0 0] 46 (0,0))∧b=W.heap.size+1∧uB=W.heap.size∧M.length≤8192∧a.block < W.heap.size∧M.length≤c∧(∀ i (x:UInt8),M[i]? = some x→W.cell? (a.add i)=some (.int .u8 (x.toNat:Int)))):=(⟨k2,z2,s2,hb,hu,hM,hal,hcap,hrow⟩:_∧_)
  have HU:Hid (uB=W.heap.size):=hu
  clear hM k1 z1 b1 k12 z2 b2 s2 k2 r2 hw1 hw2 hb hal hu hrow hcap
  go_enter Try.func16,Try.ntmps16
  go_upto_region 4 with fail
  rw [← (show _∧_∧_∧_ from HW).1,← (show _∧_∧_∧_ from HW).2.1,← (show _∧_∧_∧_ from HW).2.2.1,← (show uB = _ from HU)]
  clear HW HU
  go_upto_region 5 with (go_at_call 36;refine HB.mono ?_;rintro e w3 ⟨v3,k3,bad3,rfl,y1,y2,y3,n,rfl,y4,y5,y6⟩)
  clear HB
  go_upto_region 6 with fail
  generalize hw4:World.alloc w3 _=w4
  obtain ⟨gB,hgB⟩:∃ gB,gB=w3.heap.size:=⟨_,rfl⟩
  rw [← hgB]
  have k34:Kb 0 w3 w4:=by rw [← hw4];exact kb_alloc _ _ _
  have b4:w4.heap[gB]? = some (.cells #[.int .i64 0,.int .i64 0,.string ⟨#[]⟩,.int .i64 0,.slice none 0 0] 44 (0,0)):=by rw [← hw4,hgB];exact alloc_new _ _ _
  have z4:w4.heap.size=w3.heap.size+1:=by rw [← hw4,World.size_alloc]
  have HV:=rd_val (y1.kb k34)
  have z3:=y3.size
  have HG:Hid (Kz b w2 w3∧Kb 0 w3 w4∧w4.heap[gB]? = some (.cells #[.int .i64 0,.int .i64 0,.string ⟨#[]⟩,.int .i64 0,.slice none 0 0] 44 (0,0))∧w4.heap.size=w3.heap.size+1∧gB=w3.heap.size∧w3.heap.size=w2.heap.size∧(∀ (y:Nat) rest,y≤5000→M.drop 2=vb y ++ rest→n=y∧k3=2+(vb y).length∧bad3=false)):=(⟨y3,k34,b4,z4,hgB,z3,y6⟩:_∧_)
  have hgb:gB ≠ b:=by have:=(show Kb 0 W w2∧w2.heap.size=W.heap.size+2∧w2.heap[uB]? = some (.cells #[.bool false,.int .i64 0,.int .i64 0,.string ⟨#[]⟩,.int .i64 0,.slice none 0 0] 46 (0,0))∧b=W.heap.size+1∧_ from HK).2.2.2.1;have:=(show Kb 0 W w2∧w2.heap.size=W.heap.size+2∧_ from HK).2.1;omega
  have HGB:Hid (∀ w5,Kg b w4 w5→w5.heap[gB]? = some (.cells #[.int .i64 0,.int .i64 0,.string ⟨#[]⟩,.int .i64 0,.slice none 0 0] 44 (0,0))):=(fun w5 z=>(z.block gB (by omega) hgb).trans b4:∀ w5,_)
  clear hw4 hgB k34 b4 z4 z3 y1 y2 y3 y5 y6
  go_upto_region 7 with (go_at_call 37;refine HV.mono ?_;rintro e w5 ⟨g,k5,bad5,rfl,x1,x2,x3,x4,x5,x6⟩;have b5:=(show ∀ w5,Kg b w4 w5→_ from HGB) w5 x3;have g0:w5.cell? ⟨gB,0,none⟩=some (.int .i64 0):=cell_of b5 rfl;have g1:w5.cell? ⟨gB,1,none⟩=some (.int .i64 0):=cell_of b5 rfl;have g2:w5.cell? ⟨gB,2,none⟩=some (.string ⟨#[]⟩):=cell_of b5 rfl;have g3:w5.cell? ⟨gB,3,none⟩=some (.int .i64 0):=cell_of b5 rfl;have gz:∀ j,w5.frozen? ⟨gB,j,none⟩=false:=fun j=>frozen_of b5)
  clear HV HGB g0 g1 g2 g3 gz
  generalize hw6:World.setCell _ _ _=w6
  have kz6:Kz gB w5 w6:=by rw [← hw6];exact ((((Kz.refl gB w5).set 0 _).set 1 _).set 2 _).set 3 _
  have b6:w6.heap[gB]? = some (.cells #[.int .i64 g.k,.int .i64 g.m,.string g.x,.int .i64 g.r,.slice none 0 0] 44 (0,0)):=by rw [← hw6,set_known _ (set_known _ (set_known _ (set_known _ b5)))];rfl
  clear hw6
  obtain ⟨k2,z2,s2,hb,hu,hM,hal,hcap,hrow⟩:=(show _∧_∧_∧_∧_∧_∧_∧_∧_ from HK)
  obtain ⟨y3,k34,b4,z4,hgB,z3,y6⟩:=(show _∧_∧_∧_∧_∧_∧_ from HG)
  have z5:=x3.size
  have z6:=kz6.size
  have HM:Hid (MT b a c M k5 bad5 gB g w6 n [] k5 bad5 (.slice none 0 0) w6):=(⟨x1.far2 (kz6.block b (by omega)) (kz6.block _ (by omega)),id,Kbh.refl _ _ _,b6,World.ownsRow_nil _ _ _ _,⟨fun _=>0,fun _=>0,fun i z hz=>by simp at hz,fun i j _ hj=>by simp at hj,fun g i _ hj=>by simp at hj⟩,fun x hx=>(nomatch hx),Nat.zero_le _,LJ.zero (fun e _=>e),by omega,by omega,by omega,by omega,by omega⟩:MT b a c M k5 bad5 gB g w6 n [] k5 bad5 (.slice none 0 0) w6)
  have kW6:Kb 0 W w6:=⟨kz6.os.trans (x3.os.trans (k34.os.trans (y3.os.trans k2.os))),kz6.output.trans (x3.output.trans (k34.output.trans (y3.output.trans k2.output))),by omega,fun q _ hq=>(kz6.block q (by omega)).trans ((x3.block q (by omega) (by omega)).trans ((k34.block q (Nat.zero_le _) (by omega)).trans ((y3.block q (by omega)).trans (k2.block q (Nat.zero_le _) hq))))⟩
  have s6:w6.heap[uB]? = some (.cells #[.bool false,.int .i64 0,.int .i64 0,.string ⟨#[]⟩,.int .i64 0,.slice none 0 0] 46 (0,0)):=(kz6.block uB (by omega)).trans ((x3.block uB (by omega) (by omega)).trans ((k34.block uB (Nat.zero_le _) (by omega)).trans ((y3.block uB (by omega)).trans s2)))
  have HQ:Hid (Kb 0 W w6∧w6.heap[uB]? = some (.cells #[.bool false,.int .i64 0,.int .i64 0,.string ⟨#[]⟩,.int .i64 0,.slice none 0 0] 46 (0,0))∧Rv g∧(bad3=true→bad5=true)∧(∀ (y:Gv) rest,Wv y→M.drop k3=v8 y ++ rest→g=y∧k5=k3+(v8 y).length∧bad5=bad3)∧(∀ (y:Nat) rest,y≤5000→M.drop 2=vb y ++ rest→n=y∧k3=2+(vb y).length∧bad3=false)∧uB < gB∧uB < b∧W.heap.size+3≤w6.heap.size∧gB < w6.heap.size):=(⟨kW6,s6,x4,fun e=>x5 (.inr e),x6,y6,by omega,by omega,by omega,by omega⟩:_∧_)
  have hn5:(n:Int)≤5000:=by omega
  clear kz6 b6 b5 x1 x2 x3 x4 x5 x6 y3 k34 b4 z4 hgB z3 y6 k2 z2 s2 hb hu hM hal z5 z6 kW6 s6 HG hgb y4 hcap hrow
  go_upto_block 0 with fail
  go_cut [] from 84 to 84 (fun wx=>∃ (L:List TV) (kk:Nat) (bb:Bool) (v:Value),Hid (MT b a c M k5 bad5 gB g w6 n L kk bb v wx∧LX te Tok5 M k5 bad5 600 (n:Int) (L.map (·.1)) kk bb))
  case first =>
    clear HK HQ
    go_wp2_with fail
    go_loopw [6] (fun s wr=>∃ (L:List TV) (kk:Nat) (bb:Bool) (v:Value),s = .int .i64 (L.length:Int)∧Hid (MT b a c M k5 bad5 gB g w6 n L kk bb v wr)) (fun s _=>n - (intOf s).toNat)
    case atStart=>exact ⟨[],k5,bad5,_,rfl,HM⟩
    case round =>
      clear HM
      obtain ⟨L,kk,bb,v,rfl,HR⟩:=hrel
      have hR:=(show MT b a c M k5 bad5 gB g w6 n L kk bb v wr from HR)
      obtain ⟨ad,cap,rfl⟩:=own_shape hR.row
      clear HR
      have c2:wr.cell? ⟨b,2,none⟩=some (.bool bb):=cell_of hR.rd.blk rfl
      have hmo:=hR.mo
      by_cases hgo:L.length < n∧bb=false
      · obtain ⟨hgo,rfl⟩:=hgo
        have hgI:(L.length:Int) < (n:Int):=by omega
        obtain ⟨wo,hwo⟩:∃ wo,wo=wr:=⟨_,rfl⟩
        rw [← hwo] at hR c2 ⊢
        clear hwo wr
        have HC1:=rd_small hR.rd
        have HST:Hid (MT b a c M k5 bad5 gB g w6 n L kk false (.slice ad L.length cap) wo):=hR
        clear hR
        go_upto_region 11 with (go_at_call 36;refine HC1.mono ?_;rintro e w1 ⟨v1,k1,b1,rfl,y1,y2,y3,t,rfl,y4,y5,y6⟩)
        clear HC1 c2
        generalize hwx:World.alloc w1 _=wx
        obtain ⟨xB,hxB⟩:∃ xB,xB=w1.heap.size:=⟨_,rfl⟩
        rw [← hxB]
        have kx:Kb 0 w1 wx:=by rw [← hwx];exact kb_alloc _ _ _
        have bx:wx.heap[xB]? = some (.cells #[.int .i64 (t:Int),.slice none 0 0] 50 (0,0)):=by rw [← hwx,hxB];exact alloc_new _ _ _
        have zx:wx.heap.size=w1.heap.size+1:=by rw [← hwx,World.size_alloc]
        have HC2:=rd_small (y1.kb kx)
        have HY:Hid (Kz b wo w1∧Kb 0 w1 wx∧wx.heap[xB]? = some (.cells #[.int .i64 (t:Int),.slice none 0 0] 50 (0,0))∧wx.heap.size=w1.heap.size+1∧xB=w1.heap.size∧(∀ (y:Nat) rest,y≤5000→M.drop kk=vb y ++ rest→t=y∧k1=kk+(vb y).length∧b1=false)):=(⟨y3,kx,bx,zx,hxB,y6⟩:_∧_)
        clear hwx hxB kx bx zx y1 y2 y3 y4 y5 y6
        go_upto_block 2 with (go_at_call 36;refine HC2.mono ?_;rintro e w2 ⟨v2,k2,b2,rfl,y1,y2,y3,m,rfl,y4,y5,y6⟩)
        clear HC2
        obtain ⟨u3,kx,bx,zx,hxB,u6⟩:=(show _∧_∧_∧_∧_∧_ from HY)
        have hS:=(show MT b a c M k5 bad5 gB g w6 n L kk false (.slice ad L.length cap) wo from HST)
        have hz0:=hS.kb.size
        have hb0:=hS.hb
        have ha0:=hS.ha
        have hu3:=u3.size
        have hy3:=y3.size
        have hm5:(m:Int)≤5000:=by omega
        have kgo:Kg b wo w2:=(u3.kg.trans (Kg.of_kb kx)).trans y3.kg
        have HMI:Hid (ML 50 glc 41 4 v8 Rv Wv b a c M k2 b2 xB (fun v=>#[.int .i64 (t:Int),v]) w2 300 m [] k2 b2 (.slice none 0 0) w2):=(⟨y1,id,Kbh.refl _ _ _,(y3.block xB (by omega)).trans bx,World.ownsRow_nil _ _ _ _,fun x hx=>(nomatch hx),Nat.zero_le _,LJ.zero (fun e _=>e),by omega,by omega,by omega,by omega,by omega⟩:ML 50 glc 41 4 v8 Rv Wv b a c M k2 b2 xB (fun v=>#[.int .i64 (t:Int),v]) w2 300 m [] k2 b2 (.slice none 0 0) w2)
        have HZ:Hid (Kg b wo w2∧wo.heap.size≤xB∧xB < w2.heap.size∧w6.heap.size≤wo.heap.size∧b < w6.heap.size∧(∀ (y:Nat) rest,y≤5000→M.drop kk=vb y ++ rest→t=y∧k1=kk+(vb y).length∧b1=false)∧(∀ (y:Nat) rest,y≤5000→M.drop k1=vb y ++ rest→m=y∧k2=k1+(vb y).length∧b2=b1)):=(⟨kgo,by omega,by omega,hz0,hb0,u6,y6⟩:_∧_)
        clear HY hS u3 kx bx zx hxB u6 y1 y2 y3 y4 y5 y6 hz0 hb0 ha0 hu3 hy3 kgo
        go_cut [] from 84 to 84 (fun wx=>∃ (Lq:List Gv) (kq:Nat) (bq:Bool) (vq:Value),Hid (ML 50 glc 41 4 v8 Rv Wv b a c M k2 b2 xB (fun v=>#[.int .i64 (t:Int),v]) w2 300 m Lq kq bq vq wx∧LX v8 Wv M k2 b2 300 (m:Int) Lq kq bq))
        case first =>
          clear HST HZ
          go_wp2_with fail
          go_loopw [8] (fun s wr=>∃ (Lq:List Gv) (kq:Nat) (bq:Bool) (vq:Value),s = .int .i64 ((m:Int) - (Lq.length:Int))∧Hid (ML 50 glc 41 4 v8 Rv Wv b a c M k2 b2 xB (fun v=>#[.int .i64 (t:Int),v]) w2 300 m Lq kq bq vq wr)) (fun s _=>(intOf s).toNat)
          case atStart=>exact ⟨[],k2,b2,_,by simp,HMI⟩
          case round =>
            clear HMI
            obtain ⟨Lq,kq,bq,vq,rfl,HR⟩:=hrel
            have hR:=(show ML 50 glc 41 4 v8 Rv Wv b a c M k2 b2 xB (fun v=>#[.int .i64 (t:Int),v]) w2 300 m Lq kq bq vq wr from HR)
            obtain ⟨aq,cq,rfl⟩:=own_shape hR.row
            clear HR
            have c2:wr.cell? ⟨b,2,none⟩=some (.bool bq):=cell_of hR.rd.blk rfl
            have hmq:=hR.mo
            by_cases hgq:Lq.length < m∧bq=false
            · obtain ⟨hgq,rfl⟩:=hgq
              have hgI2:(0:Int) < (m:Int) - (Lq.length:Int):=by omega
              have hLI:(Lq.length:Int)≤5000:=by omega
              have HV:=rd_val hR.rd
              have HSI:Hid (ML 50 glc 41 4 v8 Rv Wv b a c M k2 b2 xB (fun v=>#[.int .i64 (t:Int),v]) w2 300 m Lq kq false (.slice aq Lq.length cq) wr):=hR
              clear hR
              go_upto_region 15 with (go_at_call 37;refine HV.mono ?_;rintro e w4 ⟨x,k4,b4,rfl,x1,x2,x3,x4,x5,x6⟩)
              clear HV c2
              generalize hw5:World.alloc w4 _=w5
              obtain ⟨u,hu⟩:∃ u,u=w4.heap.size:=⟨_,rfl⟩
              rw [← hu]
              have k45:Kb 0 w4 w5:=by rw [← hw5];exact kb_alloc _ _ _
              have bu:w5.heap[u]? = some (.cells #[.int .i64 x.k,.int .i64 x.m,.string x.x,.int .i64 x.r] 41 (0,0)):=by rw [← hw5,hu];exact alloc_new _ _ _
              have hS:=(show ML 50 glc 41 4 v8 Rv Wv b a c M k2 b2 xB (fun v=>#[.int .i64 (t:Int),v]) w2 300 m Lq kq false (.slice aq Lq.length cq) wr from HSI)
              have z5:=k45.size
              have z4:=x3.size
              have hbz:=hS.hb
              have hwz:=hS.kb.size
              have Y1:=x1.kb k45
              have Y3:=x3.trans (Kg.of_kb k45)
              have d5:w5.cell? ⟨xB,1,none⟩=some (.slice aq Lq.length cq):=cell_of ((Y3.block xB (by have:=hS.hh;omega) hS.bn).trans hS.bh) rfl
              have f0:w5.cell? ⟨u,0,none⟩=some (.int .i64 x.k):=cell_of bu rfl
              have f1:w5.cell? ⟨u,1,none⟩=some (.int .i64 x.m):=cell_of bu rfl
              have f2:w5.cell? ⟨u,2,none⟩=some (.string x.x):=cell_of bu rfl
              have f3:w5.cell? ⟨u,3,none⟩=some (.int .i64 x.r):=cell_of bu rfl
              have hown:=Kg.row (Kg.of_kb (b:=b) (kb_alloc 0 w5 (.cells #[.int .i64 x.k,.int .i64 x.m,.string x.x,.int .i64 x.r] 41))) (Kg.row Y3 hS.row hbz) hbz
              have hqc:=qr_cells w5 #[.int .i64 x.k,.int .i64 x.m,.string x.x,.int .i64 x.r] 41 [.int .i64 x.k,.int .i64 x.m,.string x.x,.int .i64 x.r] rfl
              have h1c:∀ u ∈ ([.int .i64 x.k,.int .i64 x.m,.string x.x,.int .i64 x.r]:List Value),u.oneCell'=true:=by intro u hu;simp at hu;rcases hu with rfl | rfl | rfl | rfl <;> rfl
              have HSTP:Hid (∀ (v':Value) (w3:World),w3.ownsRow w2.heap.size 41 4 v' (Lq.length+1) (Lq.flatMap glc ++ [.int .i64 x.k,.int .i64 x.m,.string x.x,.int .i64 x.r])→(w5.alloc (.cells #[.int .i64 x.k,.int .i64 x.m,.string x.x,.int .i64 x.r] 41)).grownBy w3 (Value.slice aq Lq.length cq).ownBlock→ML 50 glc 41 4 v8 Rv Wv b a c M k2 b2 xB (fun v=>#[.int .i64 (t:Int),v]) w2 300 m (Lq ++ [x]) k4 b4 v' (w3.setCell ⟨xB,1,none⟩ v')∧w3.heap[xB]? = some (.cells #[.int .i64 (t:Int),.slice aq Lq.length cq] 50 (0,0))):=(fun v' w3 h1 h2=>⟨hS.step rfl hgq Y1 Y3 x4 (fun y rest _ hy hd=>x6 y rest hy hd) h1 h2 rfl,hS.blk Y3 h2⟩:∀ (v':Value) (w3:World),_)
              obtain ⟨i0,hi0,hz0,hzs,hzb⟩:=info_parts infoV
              have HI0:Hid (Try.prog.info? 41=some i0):=hi0
              have hsz:w2.heap.size≤w5.heap.size:=by omega
              clear hi0 Y1 Y3 x1 x2 x3 x4 x5 x6 HSI hS bu hw5 hu k45 z5 z4 hbz hwz
              go_wp2_with (at_builtin;refine wpList_append_own _ rfl (.tmp 54) (.tmp 56) 48 rfl w2.heap.size 41 i0 (.agg #[.int .i64 0,.int .i64 0,.string ⟨#[]⟩,.int .i64 0]) 4 40 Try.underlying48 HI0 hz0 hzs hzb rfl (by decide) _ _ _ rfl hown ⟨w5.heap.size,0,none⟩ 1 1 [.int .i64 x.k,.int .i64 x.m,.string x.x,.int .i64 x.r] rfl rfl hqc h1c (by unfold maxLen;omega) (by omega) (by simp;omega) ?_;intro v' w3 hown3 hgr3 _;obtain ⟨HN,hbb⟩:=(show ∀ (v':Value) (w3:World),_ from HSTP) _ _ hown3 hgr3;obtain ⟨a3,c3,rfl⟩:=own_shape hown3;have t1:w3.cell? ⟨xB,1,none⟩=some (.slice aq Lq.length cq):=cell_of hbb rfl;have t2:w3.frozen? ⟨xB,1,none⟩=false:=frozen_of hbb;have HN2:Hid (ML 50 glc 41 4 v8 Rv Wv b a c M k2 b2 xB (fun v=>#[.int .i64 (t:Int),v]) w2 300 m (Lq ++ [x]) k4 b4 (.slice a3 (Lq.length+1) c3) (w3.setCell ⟨xB,1,none⟩ (.slice a3 (Lq.length+1) c3))):=HN;clear HN hbb hown3 hgr3 hown hqc h1c HSTP)
              go_roundw
              case rel=>exact ⟨Lq ++ [x],k4,b4,_,by rw [List.length_append,List.length_singleton];go_num,HN2⟩
              case measure=>simp [intOf];omega
            · have hX2:∃ (Lq:List Gv) (kq:Nat) (bq:Bool) (vq:Value),Hid (ML 50 glc 41 4 v8 Rv Wv b a c M k2 b2 xB (fun v=>#[.int .i64 (t:Int),v]) w2 300 m Lq kq bq vq wr∧LX v8 Wv M k2 b2 300 (m:Int) Lq kq bq):=⟨Lq,kq,bq,_,(⟨hR,hR.ex.done (fun e=>hgq ⟨by have:=e.1;omega,e.2⟩)⟩:_∧_)⟩
              have HX:Hid _:=hX2
              clear hX2 hR
              by_cases hlt:Lq.length < m
              · obtain rfl : bq = true := by
                  by_cases e:bq=false
                  · exact (hgq ⟨hlt,e⟩).elim
                  · simpa using e
                have hgI2:(0:Int) < (m:Int) - (Lq.length:Int):=by omega
                go_wp2_with fail
                go_meet
                case rel=>exact HX
              · have hgI2:¬ (0:Int) < (m:Int) - (Lq.length:Int):=by omega
                go_wp2_with fail
                go_meet
                case rel=>exact HX
        case rest =>
          clear HMI
          obtain ⟨Lq,kq,bq,vq,HU2⟩:=hcut
          rename World=>wz
          obtain ⟨mq,hxq⟩:=(show _∧_ from HU2)
          obtain ⟨aq,cq,rfl⟩:=own_shape mq.row
          clear HU2
          obtain ⟨kgo,h1x,h2x,hz0,hb0,u6,y6⟩:=(show _∧_∧_∧_∧_∧_∧_ from HZ)
          have hS:=(show MT b a c M k5 bad5 gB g w6 n L kk false (.slice ad L.length cap) wo from HST)
          have kgz:Kg b wo wz:=⟨mq.kb.os.trans kgo.os,mq.kb.output.trans kgo.output,Nat.le_trans kgo.size mq.kb.size,fun i h1 h2=>(mq.kb.block i (by have:=kgo.size;omega) h2 (by omega)).trans (kgo.block i h1 h2)⟩
          have hmo2:=mq.mo
          have hzz:=mq.kb.size
          have hzw:=kgo.size
          have hrq:wz.ownsRow wo.heap.size 41 4 (.slice aq Lq.length cq) Lq.length (Lq.flatMap glc):=ownsRow_mono9 mq.row (by omega)
          have d4:wz.cell? ⟨gB,4,none⟩=some (.slice ad L.length cap):=cell_of (hS.at kgz) rfl
          have f0:wz.cell? ⟨xB,0,none⟩=some (.int .i64 (t:Int)):=cell_of mq.bh rfl
          have f1:wz.cell? ⟨xB,1,none⟩=some (.slice aq Lq.length cq):=cell_of mq.bh rfl
          have hown:=Kg.row (Kg.of_kb (b:=b) (kb_alloc 0 wz (.cells #[.int .i64 (t:Int),.slice aq Lq.length cq] 50))) (Kg.row kgz hS.row hb0) hb0
          have hqc:=qr_cells wz #[.int .i64 (t:Int),.slice aq Lq.length cq] 50 [.int .i64 (t:Int),.slice aq Lq.length cq] rfl
          have h1c:∀ u ∈ ([.int .i64 (t:Int),.slice aq Lq.length cq]:List Value),u.oneCell'=true:=by intro u hu;simp at hu;rcases hu with rfl | rfl <;> rfl
          have HSTP:Hid (∀ (g' c':Nat) (w3:World),w3.ownsRow w6.heap.size 50 2 (.slice (some ⟨g',0,none⟩) (L.length+1) c') (L.length+1) (L.flatMap tvc ++ [.int .i64 (t:Int),.slice aq Lq.length cq])→(wz.alloc (.cells #[.int .i64 (t:Int),.slice aq Lq.length cq] 50)).grownBy w3 (Value.slice ad L.length cap).ownBlock→((Value.slice ad L.length cap).ownBlock=some g'∨g'=wz.heap.size+1)→MT b a c M k5 bad5 gB g w6 n (L ++ [(((t:Int),Lq),.slice aq Lq.length cq)]) kq bq (.slice (some ⟨g',0,none⟩) (L.length+1) c') (w3.setCell ⟨gB,4,none⟩ (.slice (some ⟨g',0,none⟩) (L.length+1) c'))∧w3.heap[gB]? = some (.cells #[.int .i64 g.k,.int .i64 g.m,.string g.x,.int .i64 g.r,.slice ad L.length cap] 44 (0,0))):=(fun g' c' w3 h1 h2 h3=>⟨hS.step rfl hgo (q:=((t:Int),Lq)) mq.rd kgz hrq ⟨mq.tt,by show Lq.length≤5000;omega⟩ (fun y rest _ hy hd=>te_ex u6 y6 hxq y rest hy hd) h1 h2 h3,hS.blk kgz h2⟩:∀ (g' c':Nat) (w3:World),_)
          obtain ⟨i0,hi0,hz0',hzs,hzb⟩:=info_parts infoT
          have HI0:Hid (Try.prog.info? 50=some i0):=hi0
          have hsz:w6.heap.size≤wz.heap.size:=by omega
          have hL5:(L.length:Int)≤5000:=by omega
          clear hi0 mq hxq kgo h1x h2x hz0 hb0 u6 y6 hS kgz hzz hzw hrq HST HZ hmo2
          go_wp2_with (at_builtin;refine wpList_append_lies _ rfl (.tmp 60) (.tmp 62) 42 rfl w6.heap.size 50 i0 (.agg #[.int .i64 0,.slice none 0 0]) 2 32 Try.underlying42 HI0 hz0' hzs hzb rfl (by decide) _ _ _ rfl hown ⟨wz.heap.size,0,none⟩ 1 1 [.int .i64 (t:Int),.slice aq Lq.length cq] rfl rfl hqc h1c (by decide) (by unfold maxLen;omega) (by omega) (by simp;omega) (wz.heap.size+1) (by simp) ?_;intro g' cap' w3 hown3 hgr3 hl3 _;obtain ⟨HN,hbb⟩:=(show ∀ (g' c':Nat) (w3:World),_ from HSTP) _ _ _ hown3 hgr3 hl3;have t1:w3.cell? ⟨gB,4,none⟩=some (.slice ad L.length cap):=cell_of hbb rfl;have t2:w3.frozen? ⟨gB,4,none⟩=false:=frozen_of hbb;have HN2:Hid (MT b a c M k5 bad5 gB g w6 n (L ++ [(((t:Int),Lq),.slice aq Lq.length cq)]) kq bq (.slice (some ⟨g',0,none⟩) (L.length+1) cap') (w3.setCell ⟨gB,4,none⟩ (.slice (some ⟨g',0,none⟩) (L.length+1) cap'))):=HN;clear HN hbb hown3 hgr3 hl3 hown hqc h1c HSTP)
          go_roundw
          case rel=>exact ⟨L ++ [(((t:Int),Lq),.slice aq Lq.length cq)],kq,bq,_,by rw [List.length_append,List.length_singleton];go_num,HN2⟩
          case measure=>simp [intOf];omega
      · have hX2:∃ (L:List TV) (kk:Nat) (bb:Bool) (v:Value),Hid (MT b a c M k5 bad5 gB g w6 n L kk bb v wr∧LX te Tok5 M k5 bad5 600 (n:Int) (L.map (·.1)) kk bb):=⟨L,kk,bb,_,(⟨hR,hR.ex.done (fun e=>hgo ⟨by have:=e.1;rw [List.length_map] at this;omega,e.2⟩)⟩:_∧_)⟩
        have HX:Hid _:=hX2
        clear hX2 hR
        by_cases hlt:L.length < n
        · obtain rfl : bb = true := by
            by_cases e:bb=false
            · exact (hgo ⟨hlt,e⟩).elim
            · simpa using e
          have hgI:(L.length:Int) < (n:Int):=by omega
          go_wp2_with fail
          go_meet
          case rel=>exact HX
        · have hgI:¬ (L.length:Int) < (n:Int):=by omega
          go_wp2_with fail
          go_meet
          case rel=>exact HX
  case rest =>
    clear HM
    obtain ⟨L,kk,bb,v,HU⟩:=hcut
    rename World=>wz
    obtain ⟨mt,hx⟩:=(show _∧_ from HU)
    obtain ⟨ad,cap,rfl⟩:=own_shape mt.row
    clear HU
    obtain ⟨kW6,s6,rvg,hb35,xv,xn,hug,hub,hz6,hgz⟩:=(show _∧_∧_∧_∧_∧_∧_∧_∧_∧_ from HQ)
    obtain ⟨kW2,z2,s2,hb,hu,hM,hal,hcap,hrow⟩:=(show _∧_∧_∧_∧_∧_∧_∧_∧_ from HK)
    clear HQ HK s2 kW2
    have kWz:Kb 0 W wz:=⟨mt.kb.os.trans kW6.os,mt.kb.output.trans kW6.output,Nat.le_trans kW6.size mt.kb.size,fun i _ hi=>(mt.kb.block i (by omega) (by omega) (by omega)).trans (kW6.block i (Nat.zero_le _) hi)⟩
    have sz:wz.heap[uB]? = some (.cells #[.bool false,.int .i64 0,.int .i64 0,.string ⟨#[]⟩,.int .i64 0,.slice none 0 0] 46 (0,0)):=(mt.kb.block uB (by omega) (by omega) (by omega)).trans s6
    have cl:wz.cell? ⟨b,2,none⟩=some (.bool bb):=cell_of mt.rd.blk rfl
    have q0:wz.cell? ⟨gB,0,none⟩=some (.int .i64 g.k):=cell_of mt.bh rfl
    have q1:wz.cell? ⟨gB,1,none⟩=some (.int .i64 g.m):=cell_of mt.bh rfl
    have q2:wz.cell? ⟨gB,2,none⟩=some (.string g.x):=cell_of mt.bh rfl
    have q3:wz.cell? ⟨gB,3,none⟩=some (.int .i64 g.r):=cell_of mt.bh rfl
    have q4:wz.cell? ⟨gB,4,none⟩=some (.slice ad L.length cap):=cell_of mt.bh rfl
    have hex:∀ g',Rd M g'→sm5 g'→((g,L.map (·.1)):Gr)=g'∧bb=false:=fun g' hg' hs'=>by
      obtain ⟨rest,p1,p2,p3,p4⟩:=hg'
      unfold g8 at p4
      rw [List.append_assoc] at p4
      obtain ⟨r1,r2,r3⟩:=xn _ _ (by omega) p4
      have p5:=drop_app p4
      rw [← r2,List.append_assoc] at p5
      obtain ⟨t1,t2,t3⟩:=xv _ _ p1 p5
      have p6:=drop_app p5
      rw [← t2] at p6
      obtain ⟨w1,w2,w3⟩:=hx g'.2 rest (by rw [t3,r3]) (fun y hy=>⟨p2 y hy,hs' y hy⟩) (by rw [r1]) p3 p6
      exact ⟨Prod.ext t1 w1,w3⟩
    have hlen:(L.map (·.1)).length=L.length:=List.length_map _
    have hmo:=mt.mo
    have hbg:Bg L.length (TF (L.map (·.1))) g∧Rg L.length (TF (L.map (·.1))) g:=by
      have hq:∀ i,i < L.length→∃ z,z ∈ L∧TF (L.map (·.1)) i=td9 z.1:=fun i hi=>⟨L[i],List.getElem_mem hi,by unfold TF;simp [List.getD,List.getElem?_eq_getElem hi]⟩
      have hg:∀ i,i < L.length→∀ j,j < (TF (L.map (·.1)) i).c→Rv ((TF (L.map (·.1)) i).C j):=fun i hi j hj=>by
        obtain ⟨z,h1,h2⟩:=hq i hi
        rw [h2] at hj ⊢
        have hj':j < z.1.2.length:=hj
        have:(td9 z.1).C j=z.1.2[j]:=by show z.1.2.getD j default = _;simp [List.getD,List.getElem?_eq_getElem hj']
        rw [this]
        exact (mt.tt z h1).1 _ (List.getElem_mem hj')
      refine ⟨⟨by omega,by have:=rvg.x;omega,fun i hi=>?_,fun i hi j hj=>by have:=(hg i hi j hj).x;omega⟩,⟨⟨rvg.m0,rvg.m1⟩,fun i hi j hj=>⟨(hg i hi j hj).m0,(hg i hi j hj).m1⟩⟩⟩
      obtain ⟨z,h1,h2⟩:=hq i hi
      rw [h2]
      have:=(mt.tt z h1).2
      show z.1.2.length≤_
      omega
    cases bb with
    | true =>
      have bq:wz.heap[uB]? = some (.cells #[.bool false,.int .i64 0,.int .i64 0,.string ⟨#[]⟩,.int .i64 0,.slice none 0 0] 46 (0,0)):=sz
      have g0:wz.cell? ⟨uB,0,none⟩=some (.bool false):=cell_of bq rfl
      have g1:wz.cell? ⟨uB,1,none⟩=some (.int .i64 0):=cell_of bq rfl
      have g2:wz.cell? ⟨uB,2,none⟩=some (.int .i64 0):=cell_of bq rfl
      have g3:wz.cell? ⟨uB,3,none⟩=some (.string ⟨#[]⟩):=cell_of bq rfl
      have g4:wz.cell? ⟨uB,4,none⟩=some (.int .i64 0):=cell_of bq rfl
      have g5:wz.cell? ⟨uB,5,none⟩=some (.slice none 0 0):=cell_of bq rfl
      have gz:∀ j,wz.frozen? ⟨uB,j,none⟩=false:=fun j=>frozen_of bq
      obtain ⟨WF,hWF,bF,hfr,hzF,ho1,ho2⟩:=six_set (.bool false) (.int .i64 0) (.int .i64 0) (.string ⟨#[]⟩) (.int .i64 0) (.slice none 0 0) bq
      have e0:WF.cell? ⟨uB,0,none⟩=some (.bool false):=cell_of bF rfl
      have e1:WF.cell? ⟨uB,1,none⟩=some (.int .i64 0):=cell_of bF rfl
      have e2:WF.cell? ⟨uB,2,none⟩=some (.int .i64 0):=cell_of bF rfl
      have e3:WF.cell? ⟨uB,3,none⟩=some (.string ⟨#[]⟩):=cell_of bF rfl
      have e4:WF.cell? ⟨uB,4,none⟩=some (.int .i64 0):=cell_of bF rfl
      have e5:WF.cell? ⟨uB,5,none⟩=some (.slice none 0 0):=cell_of bF rfl
      have kF:Kb 0 W WF:=⟨ho1.trans kWz.os,ho2.trans kWz.output,by rw [hzF];exact kWz.size,fun q _ h2=>(hfr q (by omega)).trans (kWz.block q (Nat.zero_le _) h2)⟩
      have HFIN:Hid (UmA M W (.returned (.agg #[.bool false,.int .i64 0,.int .i64 0,.string ⟨#[]⟩,.int .i64 0,.slice none 0 0])) WF):=(uma_nil (unm_no hex (.inl rfl)) kF:UmA M W _ WF)
      have HWF:Hid (WF = _):=hWF
      clear bq bF hfr hzF ho1 ho2 kF hWF kW6 s6 rvg hb35 xv xn hug hub hz6 hgz hb hu hM hal hcap hrow kWz sz hex hlen hmo hbg mt hx z2 q0 q1 q2 q3 q4
      go_wp2_with fail
      rw [← (show WF = _ from HWF)]
      clear HWF
      refine bodyPost_ret (by simp [results,Try.results16,go_sem,e0,e1,e2,e3,e4,e5];rfl) rfl ?_
      exact HFIN
    | false =>
      have HGO:=sp_gok (a:=g) wz (rowT_of9 mt.row mt.own) hbg.1
      unfold grv at HGO
      have HALL:Hid (Kb 0 W wz∧wz.heap[gB]? = some (.cells #[.int .i64 g.k,.int .i64 g.m,.string g.x,.int .i64 g.r,.slice ad L.length cap] 44 (0,0))∧wz.heap[uB]? = some (.cells #[.bool false,.int .i64 0,.int .i64 0,.string ⟨#[]⟩,.int .i64 0,.slice none 0 0] 46 (0,0))∧(∀ g',Rd M g'→sm5 g'→((g,L.map (·.1)):Gr)=g')∧(Bg L.length (TF (L.map (·.1))) g∧Rg L.length (TF (L.map (·.1))) g)∧wz.ownsRow w6.heap.size 50 2 (.slice ad L.length cap) L.length (L.flatMap tvc)∧OwnT w6.heap.size wz L (Value.slice ad L.length cap).ownBlock∧uB=W.heap.size∧W.heap.size+3≤w6.heap.size∧gB < wz.heap.size∧M.length≤8192∧a.block < W.heap.size∧M.length≤c∧(∀ i (x:UInt8),M[i]? = some x→W.cell? (a.add i)=some (.int .u8 (x.toNat:Int)))):=(⟨kWz,mt.bh,sz,fun g' h1 h2=>(hex g' h1 h2).1,hbg,mt.row,mt.own,hu,hz6,by have:=mt.kb.size;omega,hM,hal,hcap,hrow⟩:_∧_)
      by_cases hG:Gok L.length (TF (L.map (·.1))) g
      rotate_left
      · have hp:M ≠ []→pck L.length (TF (L.map (·.1))) g ≠ toI M:=fun hm e=>hG (pck_read hbg.2 e hm).1
        rw [dc_f hG] at HGO
        have hsz:∀ w',Kb 0 wz w'→w'.heap[uB]? = some (.cells #[.bool false,.int .i64 0,.int .i64 0,.string ⟨#[]⟩,.int .i64 0,.slice none 0 0] 46 (0,0)):=fun w' k=>(k.block _ (Nat.zero_le _) (by have:=mt.kb.size;omega)).trans sz
        have HNO:Hid (∀ w',Kb 0 wz w'→Kb 0 W w'∧w'.heap[uB]? = some (.cells #[.bool false,.int .i64 0,.int .i64 0,.string ⟨#[]⟩,.int .i64 0,.slice none 0 0] 46 (0,0))∧UnM M false gr0∧uB=W.heap.size):=(fun w' k=>⟨kWz.trans k,hsz w' k,unm_no (g:=(g,L.map (·.1))) hex (.inr (hlen ▸ hp)),hu⟩:∀ w',_)
        clear kW6 s6 rvg hb35 xv xn hug hub hz6 hgz hb hu hM hal hcap hrow kWz sz hex hlen hmo hbg mt hx z2 hp hsz HALL
        go_wp2_with fail
        refine HGO.mono ?_
        rintro e w7 ⟨rfl,k7⟩
        obtain ⟨kW7,s7,hno,hu⟩:=(show ∀ w',_→_ from HNO) w7 k7
        clear HGO HNO k7 q0 q1 q2 q3 q4 cl
        have bq:w7.heap[uB]? = some (.cells #[.bool false,.int .i64 0,.int .i64 0,.string ⟨#[]⟩,.int .i64 0,.slice none 0 0] 46 (0,0)):=s7
        have g0:w7.cell? ⟨uB,0,none⟩=some (.bool false):=cell_of bq rfl
        have g1:w7.cell? ⟨uB,1,none⟩=some (.int .i64 0):=cell_of bq rfl
        have g2:w7.cell? ⟨uB,2,none⟩=some (.int .i64 0):=cell_of bq rfl
        have g3:w7.cell? ⟨uB,3,none⟩=some (.string ⟨#[]⟩):=cell_of bq rfl
        have g4:w7.cell? ⟨uB,4,none⟩=some (.int .i64 0):=cell_of bq rfl
        have g5:w7.cell? ⟨uB,5,none⟩=some (.slice none 0 0):=cell_of bq rfl
        have gz:∀ j,w7.frozen? ⟨uB,j,none⟩=false:=fun j=>frozen_of bq
        obtain ⟨WF,hWF,bF,hfr,hzF,ho1,ho2⟩:=six_set (.bool false) (.int .i64 0) (.int .i64 0) (.string ⟨#[]⟩) (.int .i64 0) (.slice none 0 0) bq
        have e0:WF.cell? ⟨uB,0,none⟩=some (.bool false):=cell_of bF rfl
        have e1:WF.cell? ⟨uB,1,none⟩=some (.int .i64 0):=cell_of bF rfl
        have e2:WF.cell? ⟨uB,2,none⟩=some (.int .i64 0):=cell_of bF rfl
        have e3:WF.cell? ⟨uB,3,none⟩=some (.string ⟨#[]⟩):=cell_of bF rfl
        have e4:WF.cell? ⟨uB,4,none⟩=some (.int .i64 0):=cell_of bF rfl
        have e5:WF.cell? ⟨uB,5,none⟩=some (.slice none 0 0):=cell_of bF rfl
        have kF:Kb 0 W WF:=⟨ho1.trans kW7.os,ho2.trans kW7.output,by rw [hzF];exact kW7.size,fun q _ h2=>(hfr q (by omega)).trans (kW7.block q (Nat.zero_le _) h2)⟩
        have HFIN:Hid (UmA M W (.returned (.agg #[.bool false,.int .i64 0,.int .i64 0,.string ⟨#[]⟩,.int .i64 0,.slice none 0 0])) WF):=(uma_nil hno kF:UmA M W _ WF)
        have HWF:Hid (WF = _):=hWF
        clear bq bF hfr hzF ho1 ho2 kF hWF kW7 s7 hno hu
        go_wp2_with fail
        rw [← (show WF = _ from HWF)]
        clear HWF
        refine bodyPost_ret (by simp [results,Try.results16,go_sem,e0,e1,e2,e3,e4,e5];rfl) rfl ?_
        exact HFIN
      rw [dc_t hG] at HGO
      clear kW6 s6 rvg hb35 xv xn hug hub hz6 hgz hb hu hM hal hcap hrow kWz sz hex hlen hmo hbg mt hx z2
      go_wp2_with fail
      refine HGO.mono ?_
      rintro e w7 ⟨rfl,k7⟩
      obtain ⟨kWz,bz,sz,hex,hbg,hrw,how,hu,hz6,hgz,hM,hal,hcap,hrow⟩:=(show _∧_∧_∧_∧_∧_∧_∧_∧_∧_∧_∧_∧_∧_ from HALL)
      clear HGO q0 q1 q2 q3 q4 cl
      have b7:w7.heap[gB]? = some (.cells #[.int .i64 g.k,.int .i64 g.m,.string g.x,.int .i64 g.r,.slice ad L.length cap] 44 (0,0)):=(k7.block _ (Nat.zero_le _) hgz).trans bz
      have HP:=sp_pack0 (a:=g) w7 ((rowT_of9 hrw how).keep k7) hbg.1 hG hbg.2
      unfold grv at HP
      have q0:w7.cell? ⟨gB,0,none⟩=some (.int .i64 g.k):=cell_of b7 rfl
      have q1:w7.cell? ⟨gB,1,none⟩=some (.int .i64 g.m):=cell_of b7 rfl
      have q2:w7.cell? ⟨gB,2,none⟩=some (.string g.x):=cell_of b7 rfl
      have q3:w7.cell? ⟨gB,3,none⟩=some (.int .i64 g.r):=cell_of b7 rfl
      have q4:w7.cell? ⟨gB,4,none⟩=some (.slice ad L.length cap):=cell_of b7 rfl
      obtain ⟨Q,hQ⟩:∃ Q,Q=pfl L.length (TF (L.map (·.1))) g:=⟨_,rfl⟩
      rw [← hQ] at HP
      have HQ:Hid (Q=pfl L.length (TF (L.map (·.1))) g∧Kb 0 wz w7∧w7.heap[gB]? = some (.cells #[.int .i64 g.k,.int .i64 g.m,.string g.x,.int .i64 g.r,.slice ad L.length cap] 44 (0,0))∧Gok L.length (TF (L.map (·.1))) g):=(⟨hQ,k7,b7,hG⟩:_∧_)
      clear hQ k7 b7 kWz bz sz hex hbg hrw how hu hz6 hgz hM hal hcap hrow hG
      go_wp2_with fail
      refine HP.mono ?_
      rintro e w8 ⟨v8',rfl,o8,k8⟩
      obtain ⟨p8,c8,rfl⟩:=own_shape o8
      obtain ⟨hQ,k7,b7,hG⟩:=(show _∧_∧_∧_ from HQ)
      obtain ⟨kWz,bz,sz,hex,hbg,hrw,how,hu,hz6,hgz,hM,hal,hcap,hrow⟩:=(show _∧_∧_∧_∧_∧_∧_∧_∧_∧_∧_∧_∧_∧_ from HALL)
      clear HP q0 q1 q2 q3 q4 HALL HQ
      have k78:=k7.trans k8
      have kW8:=kWz.trans k78
      have hz8:=k7.size
      have s8:w8.heap[uB]? = some (.cells #[.bool false,.int .i64 0,.int .i64 0,.string ⟨#[]⟩,.int .i64 0,.slice none 0 0] 46 (0,0)):=(k78.block _ (Nat.zero_le _) (by have:=kWz.size;have:=(Array.getElem?_eq_some_iff.1 sz).1;omega)).trans sz
      have b8:w8.heap[gB]? = some (.cells #[.int .i64 g.k,.int .i64 g.m,.string g.x,.int .i64 g.r,.slice ad L.length cap] 44 (0,0)):=(k8.block _ (Nat.zero_le _) (by omega)).trans b7
      have hlen:(L.map (·.1)).length=L.length:=List.length_map _
      have hQl:Q.length≤1000000000:=by rw [hQ];exact Nat.le_trans (pfl_len hG hbg.2) (by omega)
      have HE:=sp_equal (D:=fun i=>((M.getD i 0).toNat:Int)) w8 (rowU_own o8) (show RowU w8 (some a) M.length c _ from fun h0=>⟨a,rfl,hcap,fun i hi=>by
        rw [kW8.cellA (Nat.zero_le _) (hrow i M[i] (List.getElem?_eq_getElem hi))]
        simp [List.getD,List.getElem?_eq_getElem hi]⟩) hQl (by omega)
      by_cases hRM:Q=toI M
      · have hd:dc (Bse Q.length M.length (fun i=>Q.getD i 0) (fun i=>((M.getD i 0).toNat:Int)))=true:=dc_t ((bse_iff Q M).2 hRM)
        rw [hd] at HE
        have hp:pck L.length (TF (L.map (·.1))) g=toI M:=by
          unfold pck
          rw [if_pos (dc_t ⟨hG,by rw [← hQ,hRM,toI_len];exact hM⟩),← hQ,hRM]
        have hM0:M ≠ []:=fun e=>by
          have h1:=pfl_ten (n:=L.length) (F:=TF (L.map (·.1))) (a:=g)
          rw [← hQ,hRM,e] at h1
          simp [toI] at h1
        have q0:∀ d,(w8.drewN d).cell? ⟨gB,0,none⟩=some (.int .i64 g.k):=fun d=>cell_of b8 rfl
        have q1:∀ d,(w8.drewN d).cell? ⟨gB,1,none⟩=some (.int .i64 g.m):=fun d=>cell_of b8 rfl
        have q2:∀ d,(w8.drewN d).cell? ⟨gB,2,none⟩=some (.string g.x):=fun d=>cell_of b8 rfl
        have q3:∀ d,(w8.drewN d).cell? ⟨gB,3,none⟩=some (.int .i64 g.r):=fun d=>cell_of b8 rfl
        have q4:∀ d,(w8.drewN d).cell? ⟨gB,4,none⟩=some (.slice ad L.length cap):=fun d=>cell_of b8 rfl
        have HNX:Hid (∀ w9,Kb 0 w8 w9→Kb 0 W w9∧w9.heap[uB]? = some (.cells #[.bool false,.int .i64 0,.int .i64 0,.string ⟨#[]⟩,.int .i64 0,.slice none 0 0] 46 (0,0))∧w9.heap[gB]? = some (.cells #[.int .i64 g.k,.int .i64 g.m,.string g.x,.int .i64 g.r,.slice ad L.length cap] 44 (0,0))∧w9.ownsRow w6.heap.size 50 2 (.slice ad L.length cap) L.length (L.flatMap tvc)∧OwnT w6.heap.size w9 L (Value.slice ad L.length cap).ownBlock∧uB < w6.heap.size∧uB=W.heap.size∧UnM M true (g,L.map (·.1))):=(fun w9 k9=>⟨kW8.trans k9,(k9.block _ (Nat.zero_le _) (Array.getElem?_eq_some_iff.1 s8).1).trans s8,(k9.block _ (Nat.zero_le _) (Array.getElem?_eq_some_iff.1 b8).1).trans b8,rowBlk9 hrw (fun i e=>(k78.trans k9).block i (Nat.zero_le _) (hrw.lt i e).2),how.mono (Nat.le_refl _) (k78.trans k9).size (fun i h1 h2=>(k78.trans k9).block i (Nat.zero_le _) h2),by omega,hu,unm_yes (g:=(g,L.map (·.1))) (hlen ▸ hbg.2) hM0 (hlen ▸ hp) hex⟩:∀ w9,_)
        clear hd hp hM0 k78 kW8 hz8 s8 b8 hlen hQl kWz bz sz hex hbg hrw how hu hz6 hgz hM hal hcap hrow hQ k7 b7 hG o8 k8 hRM
        go_wp2_with fail
        refine HE.mono ?_
        rintro e w9 ⟨rfl,d9,hw9⟩
        obtain ⟨kW9,s9,b9,hrw,how,hu6,hu,hun⟩:=(show ∀ w9,_→_ from HNX) w9 (by rw [hw9];exact (Kb.refl 0 w8).drewN d9)
        clear HE HNX hw9 q0 q1 q2 q3 q4
        have q0:w9.cell? ⟨gB,0,none⟩=some (.int .i64 g.k):=cell_of b9 rfl
        have q1:w9.cell? ⟨gB,1,none⟩=some (.int .i64 g.m):=cell_of b9 rfl
        have q2:w9.cell? ⟨gB,2,none⟩=some (.string g.x):=cell_of b9 rfl
        have q3:w9.cell? ⟨gB,3,none⟩=some (.int .i64 g.r):=cell_of b9 rfl
        have q4:w9.cell? ⟨gB,4,none⟩=some (.slice ad L.length cap):=cell_of b9 rfl
        have bq:w9.heap[uB]? = some (.cells #[.bool false,.int .i64 0,.int .i64 0,.string ⟨#[]⟩,.int .i64 0,.slice none 0 0] 46 (0,0)):=s9
        have g0:w9.cell? ⟨uB,0,none⟩=some (.bool false):=cell_of bq rfl
        have g1:w9.cell? ⟨uB,1,none⟩=some (.int .i64 0):=cell_of bq rfl
        have g2:w9.cell? ⟨uB,2,none⟩=some (.int .i64 0):=cell_of bq rfl
        have g3:w9.cell? ⟨uB,3,none⟩=some (.string ⟨#[]⟩):=cell_of bq rfl
        have g4:w9.cell? ⟨uB,4,none⟩=some (.int .i64 0):=cell_of bq rfl
        have g5:w9.cell? ⟨uB,5,none⟩=some (.slice none 0 0):=cell_of bq rfl
        have gz:∀ j,w9.frozen? ⟨uB,j,none⟩=false:=fun j=>frozen_of bq
        obtain ⟨WF,hWF,bF,hfr,hzF,ho1,ho2⟩:=six_set (.bool true) (.int .i64 g.k) (.int .i64 g.m) (.string g.x) (.int .i64 g.r) (.slice ad L.length cap) bq
        have e0:WF.cell? ⟨uB,0,none⟩=some (.bool true):=cell_of bF rfl
        have e1:WF.cell? ⟨uB,1,none⟩=some (.int .i64 g.k):=cell_of bF rfl
        have e2:WF.cell? ⟨uB,2,none⟩=some (.int .i64 g.m):=cell_of bF rfl
        have e3:WF.cell? ⟨uB,3,none⟩=some (.string g.x):=cell_of bF rfl
        have e4:WF.cell? ⟨uB,4,none⟩=some (.int .i64 g.r):=cell_of bF rfl
        have e5:WF.cell? ⟨uB,5,none⟩=some (.slice ad L.length cap):=cell_of bF rfl
        have kF:Kb 0 W WF:=⟨ho1.trans kW9.os,ho2.trans kW9.output,by rw [hzF];exact kW9.size,fun q _ h2=>(hfr q (by omega)).trans (kW9.block q (Nat.zero_le _) h2)⟩
        have HFIN:Hid (UmA M W (.returned (.agg #[.bool true,.int .i64 g.k,.int .i64 g.m,.string g.x,.int .i64 g.r,.slice ad L.length cap])) WF):=(⟨true,g,_,L.map (·.1),rfl,by rw [List.length_map];exact rowT_of9 (rowBlk9 hrw (fun i e=>hfr i (by have:=(hrw.lt i e).1;omega))) (how.mono (Nat.le_refl _) (by rw [hzF];exact Nat.le_refl _) (fun i h1 h2=>hfr i (by omega))),hun,kF⟩:UmA M W _ WF)
        have HWF:Hid (WF = _):=hWF
        clear bq bF hfr hzF ho1 ho2 kF hWF kW9 s9 b9 hrw how hu6 hu hun
        go_wp2_with fail
        rw [← (show WF = _ from HWF)]
        clear HWF
        refine bodyPost_ret (by simp [results,Try.results16,go_sem,e0,e1,e2,e3,e4,e5];rfl) rfl ?_
        exact HFIN
      · have hd:dc (Bse Q.length M.length (fun i=>Q.getD i 0) (fun i=>((M.getD i 0).toNat:Int)))=false:=dc_f (fun h=>hRM ((bse_iff Q M).1 h))
        rw [hd] at HE
        have hp:M ≠ []→pck L.length (TF (L.map (·.1))) g ≠ toI M:=fun hm e=>hRM (by rw [hQ];exact (pck_read hbg.2 e hm).2.1)
        have HNX:Hid (∀ w9,Kb 0 w8 w9→Kb 0 W w9∧w9.heap[uB]? = some (.cells #[.bool false,.int .i64 0,.int .i64 0,.string ⟨#[]⟩,.int .i64 0,.slice none 0 0] 46 (0,0))∧uB=W.heap.size∧UnM M false gr0):=(fun w9 k9=>⟨kW8.trans k9,(k9.block _ (Nat.zero_le _) (Array.getElem?_eq_some_iff.1 s8).1).trans s8,hu,unm_no (g:=(g,L.map (·.1))) (lost:=false) (fun g' h1 h2=>⟨hex g' h1 h2,rfl⟩) (.inr (hlen ▸ hp))⟩:∀ w9,_)
        clear hd hp k78 kW8 hz8 s8 b8 hlen hQl kWz bz sz hex hbg hrw how hu hz6 hgz hM hal hcap hrow hQ k7 b7 hG o8 k8 hRM
        go_wp2_with fail
        refine HE.mono ?_
        rintro e w9 ⟨rfl,d9,hw9⟩
        obtain ⟨kW9,s9,hu,hun⟩:=(show ∀ w9,_→_ from HNX) w9 (by rw [hw9];exact (Kb.refl 0 w8).drewN d9)
        clear HE HNX hw9
        have bq:w9.heap[uB]? = some (.cells #[.bool false,.int .i64 0,.int .i64 0,.string ⟨#[]⟩,.int .i64 0,.slice none 0 0] 46 (0,0)):=s9
        have g0:w9.cell? ⟨uB,0,none⟩=some (.bool false):=cell_of bq rfl
        have g1:w9.cell? ⟨uB,1,none⟩=some (.int .i64 0):=cell_of bq rfl
        have g2:w9.cell? ⟨uB,2,none⟩=some (.int .i64 0):=cell_of bq rfl
        have g3:w9.cell? ⟨uB,3,none⟩=some (.string ⟨#[]⟩):=cell_of bq rfl
        have g4:w9.cell? ⟨uB,4,none⟩=some (.int .i64 0):=cell_of bq rfl
        have g5:w9.cell? ⟨uB,5,none⟩=some (.slice none 0 0):=cell_of bq rfl
        have gz:∀ j,w9.frozen? ⟨uB,j,none⟩=false:=fun j=>frozen_of bq
        obtain ⟨WF,hWF,bF,hfr,hzF,ho1,ho2⟩:=six_set (.bool false) (.int .i64 0) (.int .i64 0) (.string ⟨#[]⟩) (.int .i64 0) (.slice none 0 0) bq
        have e0:WF.cell? ⟨uB,0,none⟩=some (.bool false):=cell_of bF rfl
        have e1:WF.cell? ⟨uB,1,none⟩=some (.int .i64 0):=cell_of bF rfl
        have e2:WF.cell? ⟨uB,2,none⟩=some (.int .i64 0):=cell_of bF rfl
        have e3:WF.cell? ⟨uB,3,none⟩=some (.string ⟨#[]⟩):=cell_of bF rfl
        have e4:WF.cell? ⟨uB,4,none⟩=some (.int .i64 0):=cell_of bF rfl
        have e5:WF.cell? ⟨uB,5,none⟩=some (.slice none 0 0):=cell_of bF rfl
        have kF:Kb 0 W WF:=⟨ho1.trans kW9.os,ho2.trans kW9.output,by rw [hzF];exact kW9.size,fun q _ h2=>(hfr q (by omega)).trans (kW9.block q (Nat.zero_le _) h2)⟩
        have HFIN:Hid (UmA M W (.returned (.agg #[.bool false,.int .i64 0,.int .i64 0,.string ⟨#[]⟩,.int .i64 0,.slice none 0 0])) WF):=(uma_nil hun kF:UmA M W _ WF)
        have HWF:Hid (WF = _):=hWF
        clear bq bF hfr hzF ho1 ho2 kF hWF kW9 s9 hu hun
        go_wp2_with fail
        rw [← (show WF = _ from HWF)]
        clear HWF
        refine bodyPost_ret (by simp [results,Try.results16,go_sem,e0,e1,e2,e3,e4,e5];rfl) rfl ?_
        exact HFIN
end Go.Proofs.Ytamcnmnaadpfoaa.Fo
