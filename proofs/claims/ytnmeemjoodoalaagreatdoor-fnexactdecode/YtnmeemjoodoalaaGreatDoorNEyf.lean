import Derived.Test.YtnmeemjoodoalaaGreatDoorNEgi
import Derived.Deep.RegionHeldLaw
set_option maxHeartbeats 16000000
namespace Go.Proofs.YtnmeemjoodoalaaGreatDoor.Fo
open Go.ChangeShapes Go.WideShapes Go.ChangeAt Go.RowKit
set_option linter.unusedVariables false
set_option maxRecDepth 100000
theorem mp_nil (W : World) (pa : Option Addr) (cp : Nat) (k : Int) : Calls Tryz.prog 28 #[.slice pa 0 cp,.int .i64 k] W fun e w'=>e = .returned (.int .i64 k) ∧ w' = W:=by
  go_enter Tryz.func28,Tryz.ntmps28
  go_wp2_with fail
  refine wp_loop_rounds 1 ?_
  rw [rounds_succ]
  go_wp2_with fail
  go_ret
  exact ⟨by simp,rfl⟩
theorem mp_pros {B E : Nat} {lo hi : Nat → Nat} {g n cp : Nat} {Z : Nat → PV} {k : Int} {W0 : World} (h1 : 1 ≤ k) (h2 : k ≤ 1000) (hn : n ≤ 1048576) (hz : (∀ j, j < n → (Z j).1.U.length ≤ 1048576 ∧ (Z j).1.C.length ≤ 1048576 ∧ (Z j).1.N.length ≤ 1048576 ∧ (Z j).1.D.length ≤ 1048576)) (hsm : sm (fun j => nq (Z j)) n ≤ 100000000) (hm : MI B E lo hi g n Z k (sm (fun j => nq (Z j))) W0 0 W0) :
    Calls Tryz.prog 28 #[.slice (some ⟨g,0,none⟩) n cp,.int .i64 k] W0 fun e w'=>e = .returned (.int .i64 (k + (sm (fun j=>nq (Z j)) n : Int))) ∧ MI B E lo hi g n Z k (sm (fun j=>nq (Z j))) W0 n w':=by
  have HH : Hid ((∀ j,j < n → (Z j).1.U.length ≤ 1048576 ∧ (Z j).1.C.length ≤ 1048576 ∧ (Z j).1.N.length ≤ 1048576 ∧ (Z j).1.D.length ≤ 1048576) ∧ sm (fun j=>nq (Z j)) n ≤ 100000000):=(⟨hz,hsm⟩ : _ ∧ _)
  have HM : Hid (MI B E lo hi g n Z k (sm (fun j=>nq (Z j))) W0 0 W0):=hm
  have hnI : (n : Int) ≤ 1048576:=by omega
  clear hz hsm hm hn
  go_enter Tryz.func28,Tryz.ntmps28
  go_wp2_with fail
  go_loopw [1,5] (fun s1 s5 wr=>∃ i : Nat,i ≤ n ∧ s5 = .int .i64 (i : Int) ∧ s1 = .int .i64 (k + (sm (fun j=>nq (Z j)) i : Int)) ∧ Hid (MI B E lo hi g n Z k (sm (fun j=>nq (Z j))) W0 i wr)) (fun _ s5 _=>n - (intOf s5).toNat)
  case atStart=>exact ⟨0,by omega,rfl,by simp [sm],HM⟩
  case round =>
    clear HM
    obtain ⟨i,hi',rfl,rfl,HK⟩:=hrel
    by_cases hin : i < n
    · have hI : (i : Int) < (n : Int):=by omega
      obtain ⟨hz,hsm⟩:=(show _ ∧ _ from HH)
      have hmo:=sm_mono (fun j=>nq (Z j)) (show i + 1 ≤ n from hin)
      have hsu : sm (fun j=>nq (Z j)) (i + 1) = sm (fun j=>nq (Z j)) i + nq (Z i):=rfl
      obtain ⟨yu,yc,yn,yd⟩:=hz i hin
      obtain ⟨K,hK⟩ : ∃ K : Int,K = k + (sm (fun j=>nq (Z j)) i : Int):=⟨_,rfl⟩
      obtain ⟨nu,hnu⟩ : ∃ nu,nu = (Z i).1.U.length:=⟨_,rfl⟩
      obtain ⟨nc,hnc⟩ : ∃ nc,nc = (Z i).1.C.length:=⟨_,rfl⟩
      obtain ⟨nn,hnn⟩ : ∃ nn,nn = (Z i).1.N.length:=⟨_,rfl⟩
      obtain ⟨nd,hnd⟩ : ∃ nd,nd = (Z i).1.D.length:=⟨_,rfl⟩
      have hnq : nq (Z i) = 5 + 2 * nu + 5 * nc + 5 * nn + 4 * nd:=by rw [hnu,hnc,hnn,hnd];rfl
      have hK1 : 1 ≤ K:=by omega
      have hK2 : K + 5 + 2 * (nu : Int) + 5 * (nc : Int) + 5 * (nn : Int) + 4 * (nd : Int) ≤ 200000000:=by omega
      have hKb : K ≤ 200000000:=by omega
      have HKK : Hid (k + (sm (fun j=>nq (Z j)) (i + 1) : Int) = K + 5 + 2 * (nu : Int) + 5 * (nc : Int) + 5 * (nn : Int) + 4 * (nd : Int)):=(by rw [hsu,hK];omega : k + (sm (fun j=>nq (Z j)) (i + 1) : Int) = _)
      have mi:=(show MI B E lo hi g n Z k (sm (fun j=>nq (Z j))) W0 i wr from HK)
      have HQ : Hid (K = k + (sm (fun j=>nq (Z j)) i : Int) ∧ nu = (Z i).1.U.length ∧ nc = (Z i).1.C.length ∧ nn = (Z i).1.N.length ∧ nd = (Z i).1.D.length):=(⟨hK,hnu,hnc,hnn,hnd⟩ : _ ∧ _)
      rw [← hnu] at yu
      rw [← hnc] at yc
      rw [← hnn] at yn
      rw [← hnd] at yd
      rw [← hK]
      have hs : HSt g i K wr 0 wr:=HSt.zero g i K wr mi.gl
      obtain ⟨rv5,rv6,rv7,rv8⟩:=mi.rv i hin
      have wq:=mi.wq i (Nat.le_refl _) hin
      have HD0 : Hid ((∀ t,t < 5 → ∃ u,wr.cell? ⟨g,i * 9 + t,none⟩ = some u) ∧ (∀ j,wr.frozen? ⟨g,j,none⟩ = false)):=(⟨mi.hd i hin,mi.fz⟩ : _ ∧ _)
      have HRV : Hid (wr.cell? ⟨g,i * 9 + 5,none⟩ = some (Z i).2.1 ∧ wr.cell? ⟨g,i * 9 + 6,none⟩ = some (Z i).2.2.1 ∧ wr.cell? ⟨g,i * 9 + 7,none⟩ = some (Z i).2.2.2.1 ∧ wr.cell? ⟨g,i * 9 + 8,none⟩ = some (Z i).2.2.2.2):=(⟨rv5,rv6,rv7,rv8⟩ : _ ∧ _)
      have HWQ : Hid (WQ (lo i) (hi i) wr (Z i) ∧ ¬ (lo i ≤ g ∧ g < hi i) ∧ g < wr.heap.size):=(⟨wq,mi.gn i hin,mi.gl⟩ : _ ∧ _)
      have HS : Hid (HSt g i K wr 0 wr):=hs
      clear hz hsm hmo hsu hK hnu hnc hnn hnd hnq mi hs rv5 rv6 rv7 rv8 wq
      obtain ⟨u0,cu0⟩ : ∃ u,wr.cell? ⟨g,i * 9 + 0,none⟩ = some u:=by
        rw [(show HSt g i K wr 0 wr from HS).old _ (by omega)]
        exact (show _ ∧ _ from HD0).1 0 (by omega)
      have cf0 : wr.frozen? ⟨g,i * 9 + 0,none⟩ = false:=((show HSt g i K wr 0 wr from HS).fz _).trans ((show _ ∧ _ from HD0).2 _)
      rw [Nat.add_zero] at cu0 cf0
      have HT:=mark_text (K).toNat (by omega) (by omega) wr
      rw [Int.toNat_of_nonneg (by omega)] at HT
      obtain ⟨tx0,htx⟩ : ∃ tx,tx = (⟨#[109]⟩ ++ mtl (K).toNat ⟨#[]⟩ : ByteArray):=⟨_,rfl⟩
      rw [← htx] at HT
      have HTX : Hid (tx0 = (⟨#[109]⟩ ++ mtl (K).toNat ⟨#[]⟩ : ByteArray)):=htx
      have HCU : Hid (∀ W',Below wr.heap.size wr W' → W'.cell? ⟨g,i * 9,none⟩ = some u0 ∧ W'.frozen? ⟨g,i * 9,none⟩ = false ∧ HSt g i K wr 0 W'):=(fun W' b=>⟨(Kb.of_below b 0).cell cu0,((Kb.of_below b 0).frozen (Nat.zero_le _) (World.block_lt_of_cell? _ _ cu0)).trans cf0,(show HSt g i K wr 0 wr from HS).kb (Kb.of_below b 0)⟩ : ∀ W',_)
      clear cu0 cf0 htx
      go_upto_region 5 with (go_at_call 66;refine HT.mono ?_;rintro e z0 ⟨rfl,bz⟩;obtain ⟨cu0,cf0,kz⟩:=(show ∀ W',Below wr.heap.size wr W' → _ from HCU) z0 bz)
      have HKZ : Hid (HSt g i K wr 0 z0):=kz
      clear HT bz HCU kz HS
      generalize hy : World.setCell z0 _ _ = y0
      have HK0 : Hid (HSt g i K wr 1 y0):=by
        rw [← hy]
        refine (show HSt g i K wr 0 z0 from HKZ).set cu0 ?_
        show _ = mkS (K + 0)
        rw [show K + (0 : Int) = K by omega]
        rw [show tx0 = _ from HTX]
        rfl
      clear hy cu0 cf0 u0 HKZ HTX
      obtain ⟨u1,cu1⟩ : ∃ u,y0.cell? ⟨g,i * 9 + 1,none⟩ = some u:=by
        rw [(show HSt g i K wr 1 y0 from HK0).old _ (by omega)]
        exact (show _ ∧ _ from HD0).1 1 (by omega)
      have cf1 : y0.frozen? ⟨g,i * 9 + 1,none⟩ = false:=((show HSt g i K wr 1 y0 from HK0).fz _).trans ((show _ ∧ _ from HD0).2 _)
      go_upto_region 7 with fail
      generalize hy : World.setCell y0 _ _ = y1
      have HK1 : Hid (HSt g i K wr 2 y1):=by
        rw [← hy]
        refine (show HSt g i K wr 1 y0 from HK0).set cu1 ?_
        show _ = mkI (K + 1)
        rw [show K + (1 : Int) = K + 1 by omega]
        skip
        rfl
      clear hy cu1 cf1 u1 HK0
      obtain ⟨u2,cu2⟩ : ∃ u,y1.cell? ⟨g,i * 9 + 2,none⟩ = some u:=by
        rw [(show HSt g i K wr 2 y1 from HK1).old _ (by omega)]
        exact (show _ ∧ _ from HD0).1 2 (by omega)
      have cf2 : y1.frozen? ⟨g,i * 9 + 2,none⟩ = false:=((show HSt g i K wr 2 y1 from HK1).fz _).trans ((show _ ∧ _ from HD0).2 _)
      go_upto_region 9 with fail
      generalize hy : World.setCell y1 _ _ = y2
      have HK2 : Hid (HSt g i K wr 3 y2):=by
        rw [← hy]
        refine (show HSt g i K wr 2 y1 from HK1).set cu2 ?_
        show _ = mkI (K + 2)
        rw [show K + (2 : Int) = K + 1 + 1 by omega]
        skip
        rfl
      clear hy cu2 cf2 u2 HK1
      obtain ⟨u3,cu3⟩ : ∃ u,y2.cell? ⟨g,i * 9 + 3,none⟩ = some u:=by
        rw [(show HSt g i K wr 3 y2 from HK2).old _ (by omega)]
        exact (show _ ∧ _ from HD0).1 3 (by omega)
      have cf3 : y2.frozen? ⟨g,i * 9 + 3,none⟩ = false:=((show HSt g i K wr 3 y2 from HK2).fz _).trans ((show _ ∧ _ from HD0).2 _)
      go_upto_region 11 with fail
      generalize hy : World.setCell y2 _ _ = y3
      have HK3 : Hid (HSt g i K wr 4 y3):=by
        rw [← hy]
        refine (show HSt g i K wr 3 y2 from HK2).set cu3 ?_
        show _ = mkB (K + 3)
        rw [show K + (3 : Int) = K + 1 + 1 + 1 by omega]
        skip
        rfl
      clear hy cu3 cf3 u3 HK2
      obtain ⟨u4,cu4⟩ : ∃ u,y3.cell? ⟨g,i * 9 + 4,none⟩ = some u:=by
        rw [(show HSt g i K wr 4 y3 from HK3).old _ (by omega)]
        exact (show _ ∧ _ from HD0).1 4 (by omega)
      have cf4 : y3.frozen? ⟨g,i * 9 + 4,none⟩ = false:=((show HSt g i K wr 4 y3 from HK3).fz _).trans ((show _ ∧ _ from HD0).2 _)
      go_upto_region 13 with fail
      generalize hy : World.setCell y3 _ _ = y4
      have HK4 : Hid (HSt g i K wr 5 y4):=by
        rw [← hy]
        refine (show HSt g i K wr 4 y3 from HK3).set cu4 ?_
        show _ = mkI (K + 4)
        rw [show K + (4 : Int) = K + 1 + 1 + 1 + 1 by omega]
        skip
        rfl
      clear hy cu4 cf4 u4 HK3
      have hs4:=(show HSt g i K wr 5 y4 from HK4)
      obtain ⟨wq,hgn,hgl⟩:=(show _ ∧ _ ∧ _ from HWQ)
      obtain ⟨rv5,rv6,rv7,rv8⟩:=(show _ ∧ _ ∧ _ ∧ _ from HRV)
      obtain ⟨e0,eu,ec,en,ed⟩:=(show _ ∧ _ ∧ _ ∧ _ ∧ _ from HQ)
      have z4:=hs4.size
      have wq4 : WQ (lo i) (hi i) y4 (Z i):=wq.blk hs4.size (fun b h1 h2 h3=>hs4.block b h1 (fun e=>hgn ⟨by omega,by omega⟩))
      obtain ⟨s1,s2,s3,o1,o2,o3,o4,w5,w6,w7,w8⟩:=wq4
      rw [← eu] at w5
      rw [← ec] at w6
      rw [← en] at w7
      rw [← ed] at w8
      have c5 : y4.cell? ⟨g,i * 9 + 5,none⟩ = some (Z i).2.1:=(hs4.old _ (by omega)).trans rv5
      have c6 : y4.cell? ⟨g,i * 9 + 6,none⟩ = some (Z i).2.2.1:=(hs4.old _ (by omega)).trans rv6
      have c7 : y4.cell? ⟨g,i * 9 + 7,none⟩ = some (Z i).2.2.2.1:=(hs4.old _ (by omega)).trans rv7
      have c8 : y4.cell? ⟨g,i * 9 + 8,none⟩ = some (Z i).2.2.2.2:=(hs4.old _ (by omega)).trans rv8
      have hgl4 : g < y4.heap.size:=by omega
      have HN : Hid (∀ x4,KI (lo i) (hi i) y4 x4 → MQ (lo i) (hi i) x4 (Z i) K → MI B E lo hi g n Z k (sm (fun j=>nq (Z j))) W0 (i + 1) x4):=(fun x4 q1 q2=>by
        have mi:=(show MI B E lo hi g n Z k (sm (fun j=>nq (Z j))) W0 i wr from HK)
        exact mi.next hin (by rw [← e0];exact hs4) q1 (by rw [← e0];exact q2) : ∀ x4,_)
      have HE : Hid (nu = (Z i).1.U.length ∧ nc = (Z i).1.C.length ∧ nn = (Z i).1.N.length ∧ nd = (Z i).1.D.length):=(⟨eu,ec,en,ed⟩ : _ ∧ _)
      clear HWQ HRV HQ HD0 hs4 wq rv5 rv6 rv7 rv8 e0 eu ec en ed hgl HK4 HK
      generalize hv5 : (Z i).2.1 = v5 at *
      generalize hv6 : (Z i).2.2.1 = v6 at *
      generalize hv7 : (Z i).2.2.2.1 = v7 at *
      generalize hv8 : (Z i).2.2.2.2 = v8 at *
      obtain ⟨p5,q5,rfl⟩ : ∃ pa cp,v5 = .slice pa nu cp:=by obtain ⟨pa,cp,g,e,_⟩:=w5;exact ⟨pa,cp,e⟩
      obtain ⟨p6,q6,rfl⟩ : ∃ pa cp,v6 = .slice pa nc cp:=by obtain ⟨pa,cp,g,e,_⟩:=w6;exact ⟨pa,cp,e⟩
      obtain ⟨p7,q7,rfl⟩ : ∃ pa cp,v7 = .slice pa nn cp:=by obtain ⟨pa,cp,g,e,_⟩:=w7;exact ⟨pa,cp,e⟩
      obtain ⟨p8,q8,rfl⟩ : ∃ pa cp,v8 = .slice pa nd cp:=by obtain ⟨pa,cp,g,e,_⟩:=w8;exact ⟨pa,cp,e⟩
      have HV : Hid ((Z i).2.1 = .slice p5 nu q5 ∧ (Z i).2.2.1 = .slice p6 nc q6 ∧ (Z i).2.2.2.1 = .slice p7 nn q7 ∧ (Z i).2.2.2.2 = .slice p8 nd q8):=(⟨hv5,hv6,hv7,hv8⟩ : _ ∧ _)
      clear hv5 hv6 hv7 hv8
      have HGN : Hid (¬ (lo i ≤ g ∧ g < hi i) ∧ lo i ≤ s1 ∧ s1 ≤ s2 ∧ s2 ≤ s3 ∧ s3 ≤ hi i):=(⟨hgn,o1,o2,o3,o4⟩ : _ ∧ _)
      have HW : Hid (WRow y4 (.slice p5 nu q5) nu 2 (lo i) s1 ∧ WRow y4 (.slice p6 nc q6) nc 5 s1 s2 ∧ WRow y4 (.slice p7 nn q7) nn 5 s2 s3 ∧ WRow y4 (.slice p8 nd q8) nd 4 s3 (hi i)):=(⟨w5,w6,w7,w8⟩ : _ ∧ _)
      clear hgn o1 o2 o3 o4 w5 w6 w7 w8
      have HB : Hid (1 ≤ K ∧ K + 5 + 2 * (nu : Int) + 5 * (nc : Int) + 5 * (nn : Int) + 4 * (nd : Int) ≤ 200000000 ∧ nu ≤ 1048576 ∧ nc ≤ 1048576 ∧ nn ≤ 1048576 ∧ nd ≤ 1048576):=(⟨hK1,hK2,yu,yc,yn,yd⟩ : _ ∧ _)
      have HC : Hid (y4.cell? ⟨g,i * 9 + 5,none⟩ = some (.slice p5 nu q5) ∧ y4.cell? ⟨g,i * 9 + 6,none⟩ = some (.slice p6 nc q6) ∧ y4.cell? ⟨g,i * 9 + 7,none⟩ = some (.slice p7 nn q7) ∧ y4.cell? ⟨g,i * 9 + 8,none⟩ = some (.slice p8 nd q8) ∧ g < y4.heap.size):=(⟨c5,c6,c7,c8,hgl4⟩ : _ ∧ _)
      clear hK2 yu yc yn yd c5 c6 c7 c8 hgl4 z4
      have H:=mw_ups (K + 1 + 1 + 1 + 1 + 1) (by obtain ⟨b1,b2,b3,b4,b5,b6⟩:=(show _ ∧ _ ∧ _ ∧ _ ∧ _ ∧ _ from HB);omega) (by obtain ⟨b1,b2,b3,b4,b5,b6⟩:=(show _ ∧ _ ∧ _ ∧ _ ∧ _ ∧ _ from HB);omega) (by obtain ⟨b1,b2,b3,b4,b5,b6⟩:=(show _ ∧ _ ∧ _ ∧ _ ∧ _ ∧ _ from HB);exact b3) (show _ ∧ _ ∧ _ ∧ _ from HW).1
      have ca : y4.cell? ⟨g,i * 9 + 5,none⟩ = some (.slice p5 nu q5):=(show _ ∧ _ ∧ _ ∧ _ ∧ _ from HC).1
      go_upto_region 15 with (go_at_call 67;refine H.mono ?_;rintro e x0 ⟨rfl,k0,m0⟩)
      have KR0 : Hid (KI (lo i) s1 y4 x0 ∧ MRow vU x0 (.slice p5 nu q5) nu 2 (lo i) s1 (K + 1 + 1 + 1 + 1 + 1)):=(⟨k0,m0⟩ : _ ∧ _)
      have KA0 : Hid (KI (lo i) s1 y4 x0):=k0
      clear H ca k0 m0
      have H:=mw_vals (K + 1 + 1 + 1 + 1 + 1 + 2 * (nu : Int)) (by obtain ⟨b1,b2,b3,b4,b5,b6⟩:=(show _ ∧ _ ∧ _ ∧ _ ∧ _ ∧ _ from HB);omega) (by obtain ⟨b1,b2,b3,b4,b5,b6⟩:=(show _ ∧ _ ∧ _ ∧ _ ∧ _ ∧ _ from HB);omega) (by obtain ⟨b1,b2,b3,b4,b5,b6⟩:=(show _ ∧ _ ∧ _ ∧ _ ∧ _ ∧ _ from HB);exact b4) (((show _ ∧ _ ∧ _ ∧ _ from HW).2.1).blk (show KI _ _ y4 x0 from KA0).size (fun b h1 h2 h3=>(show KI _ _ y4 x0 from KA0).block b h1 (fun e=>by have:=(show _ ∧ _ ∧ _ ∧ _ ∧ _ from HGN);omega)))
      have ca : x0.cell? ⟨g,i * 9 + 6,none⟩ = some (.slice p6 nc q6):=(World.cell?_of_block ((show KI _ _ y4 x0 from KA0).block g (show _ ∧ _ ∧ _ ∧ _ ∧ _ from HC).2.2.2.2 (fun e=>by have:=(show _ ∧ _ ∧ _ ∧ _ ∧ _ from HGN);omega))).trans (show _ ∧ _ ∧ _ ∧ _ ∧ _ from HC).2.1
      go_upto_region 16 with (go_at_call 68;refine H.mono ?_;rintro e x1 ⟨rfl,k1,m1⟩)
      have KR1 : Hid (KI s1 s2 x0 x1 ∧ MRow vV x1 (.slice p6 nc q6) nc 5 s1 s2 (K + 1 + 1 + 1 + 1 + 1 + 2 * (nu : Int))):=(⟨k1,m1⟩ : _ ∧ _)
      have KA1 : Hid (KI (lo i) s2 y4 x1):=((show KI _ _ y4 x0 from KA0).mono (Nat.le_refl _) (by have:=(show _ ∧ _ ∧ _ ∧ _ ∧ _ from HGN);omega)).trans (k1.mono (by have:=(show _ ∧ _ ∧ _ ∧ _ ∧ _ from HGN);omega) (Nat.le_refl _))
      clear H ca k1 m1
      have H:=mw_inss (K + 1 + 1 + 1 + 1 + 1 + 2 * (nu : Int) + 5 * (nc : Int)) (by obtain ⟨b1,b2,b3,b4,b5,b6⟩:=(show _ ∧ _ ∧ _ ∧ _ ∧ _ ∧ _ from HB);omega) (by obtain ⟨b1,b2,b3,b4,b5,b6⟩:=(show _ ∧ _ ∧ _ ∧ _ ∧ _ ∧ _ from HB);omega) (by obtain ⟨b1,b2,b3,b4,b5,b6⟩:=(show _ ∧ _ ∧ _ ∧ _ ∧ _ ∧ _ from HB);exact b5) (((show _ ∧ _ ∧ _ ∧ _ from HW).2.2.1).blk (show KI _ _ y4 x1 from KA1).size (fun b h1 h2 h3=>(show KI _ _ y4 x1 from KA1).block b h1 (fun e=>by have:=(show _ ∧ _ ∧ _ ∧ _ ∧ _ from HGN);omega)))
      have ca : x1.cell? ⟨g,i * 9 + 7,none⟩ = some (.slice p7 nn q7):=(World.cell?_of_block ((show KI _ _ y4 x1 from KA1).block g (show _ ∧ _ ∧ _ ∧ _ ∧ _ from HC).2.2.2.2 (fun e=>by have:=(show _ ∧ _ ∧ _ ∧ _ ∧ _ from HGN);omega))).trans (show _ ∧ _ ∧ _ ∧ _ ∧ _ from HC).2.2.1
      go_upto_region 17 with (go_at_call 69;refine H.mono ?_;rintro e x2 ⟨rfl,k2,m2⟩)
      have KR2 : Hid (KI s2 s3 x1 x2 ∧ MRow vI x2 (.slice p7 nn q7) nn 5 s2 s3 (K + 1 + 1 + 1 + 1 + 1 + 2 * (nu : Int) + 5 * (nc : Int))):=(⟨k2,m2⟩ : _ ∧ _)
      have KA2 : Hid (KI (lo i) s3 y4 x2):=((show KI _ _ y4 x1 from KA1).mono (Nat.le_refl _) (by have:=(show _ ∧ _ ∧ _ ∧ _ ∧ _ from HGN);omega)).trans (k2.mono (by have:=(show _ ∧ _ ∧ _ ∧ _ ∧ _ from HGN);omega) (Nat.le_refl _))
      clear H ca k2 m2
      have H:=mw_nams (K + 1 + 1 + 1 + 1 + 1 + 2 * (nu : Int) + 5 * (nc : Int) + 5 * (nn : Int)) (by obtain ⟨b1,b2,b3,b4,b5,b6⟩:=(show _ ∧ _ ∧ _ ∧ _ ∧ _ ∧ _ from HB);omega) (by obtain ⟨b1,b2,b3,b4,b5,b6⟩:=(show _ ∧ _ ∧ _ ∧ _ ∧ _ ∧ _ from HB);omega) (by obtain ⟨b1,b2,b3,b4,b5,b6⟩:=(show _ ∧ _ ∧ _ ∧ _ ∧ _ ∧ _ from HB);exact b6) (((show _ ∧ _ ∧ _ ∧ _ from HW).2.2.2).blk (show KI _ _ y4 x2 from KA2).size (fun b h1 h2 h3=>(show KI _ _ y4 x2 from KA2).block b h1 (fun e=>by have:=(show _ ∧ _ ∧ _ ∧ _ ∧ _ from HGN);omega)))
      have ca : x2.cell? ⟨g,i * 9 + 8,none⟩ = some (.slice p8 nd q8):=(World.cell?_of_block ((show KI _ _ y4 x2 from KA2).block g (show _ ∧ _ ∧ _ ∧ _ ∧ _ from HC).2.2.2.2 (fun e=>by have:=(show _ ∧ _ ∧ _ ∧ _ ∧ _ from HGN);omega))).trans (show _ ∧ _ ∧ _ ∧ _ ∧ _ from HC).2.2.2.1
      go_wp2_with (go_at_call 70;refine H.mono ?_;rintro e x3 ⟨rfl,k3,m3⟩)
      have KR3 : Hid (KI s3 (hi i) x2 x3 ∧ MRow vM x3 (.slice p8 nd q8) nd 4 s3 (hi i) (K + 1 + 1 + 1 + 1 + 1 + 2 * (nu : Int) + 5 * (nc : Int) + 5 * (nn : Int))):=(⟨k3,m3⟩ : _ ∧ _)
      have KA3 : Hid (KI (lo i) (hi i) y4 x3):=((show KI _ _ y4 x2 from KA2).mono (Nat.le_refl _) (by have:=(show _ ∧ _ ∧ _ ∧ _ ∧ _ from HGN);omega)).trans (k3.mono (by have:=(show _ ∧ _ ∧ _ ∧ _ ∧ _ from HGN);omega) (Nat.le_refl _))
      clear H ca k3 m3
      have HF : Hid (MI B E lo hi g n Z k (sm (fun j=>nq (Z j))) W0 (i + 1) x3):=by
        obtain ⟨hgn,o1,o2,o3,o4⟩:=(show _ ∧ _ ∧ _ ∧ _ ∧ _ from HGN)
        obtain ⟨eu,ec,en,ed⟩:=(show _ ∧ _ ∧ _ ∧ _ from HE)
        obtain ⟨k0,m0⟩:=(show _ ∧ _ from KR0)
        obtain ⟨k1,m1⟩:=(show _ ∧ _ from KR1)
        obtain ⟨k2,m2⟩:=(show _ ∧ _ from KR2)
        obtain ⟨k3,m3⟩:=(show _ ∧ _ from KR3)
        have k13 : KI s1 (hi i) x0 x3:=((k1.mono (Nat.le_refl _) (by omega)).trans (k2.mono (by omega) (by omega))).trans (k3.mono (by omega) (Nat.le_refl _))
        have k23 : KI s2 (hi i) x1 x3:=(k2.mono (Nat.le_refl _) (by omega)).trans (k3.mono (by omega) (Nat.le_refl _))
        have n0:=m0.blk (by omega) (fun b h1 h2 h3=>k13.block b h1 (fun e=>by omega))
        have n1:=m1.blk (by omega) (fun b h1 h2 h3=>k23.block b h1 (fun e=>by omega))
        have n2:=m2.blk (by omega) (fun b h1 h2 h3=>k3.block b h1 (fun e=>by omega))
        refine (show ∀ x4,KI (lo i) (hi i) y4 x4 → _ → _ from HN) x3 (show KI _ _ y4 x3 from KA3) ⟨s1,s2,s3,o1,o2,o3,o4,?_,?_,?_,?_⟩
        · rw [(show _ ∧ _ ∧ _ ∧ _ from HV).1,← eu,show K + 5 = K + 1 + 1 + 1 + 1 + 1 by omega];exact n0
        · rw [(show _ ∧ _ ∧ _ ∧ _ from HV).2.1,← ec,← eu,show K + 5 + 2 * (nu : Int) = K + 1 + 1 + 1 + 1 + 1 + 2 * (nu : Int) by omega];exact n1
        · rw [(show _ ∧ _ ∧ _ ∧ _ from HV).2.2.1,← en,← eu,← ec,show K + 5 + 2 * (nu : Int) + 5 * (nc : Int) = K + 1 + 1 + 1 + 1 + 1 + 2 * (nu : Int) + 5 * (nc : Int) by omega];exact n2
        · rw [(show _ ∧ _ ∧ _ ∧ _ from HV).2.2.2,← ed,← eu,← ec,← en,show K + 5 + 2 * (nu : Int) + 5 * (nc : Int) + 5 * (nn : Int) = K + 1 + 1 + 1 + 1 + 1 + 2 * (nu : Int) + 5 * (nc : Int) + 5 * (nn : Int) by omega];exact m3
      have HKN : Hid (k + (sm (fun j=>nq (Z j)) (i + 1) : Int) = K + 1 + 1 + 1 + 1 + 1 + 2 * (nu : Int) + 5 * (nc : Int) + 5 * (nn : Int) + 4 * (nd : Int)):=(by rw [(show _ = _ from HKK)];omega : k + (sm (fun j=>nq (Z j)) (i + 1) : Int) = _)
      clear HGN HW HE HN KR0 KR1 KR2 KR3 KA0 KA1 KA2 KA3 HB HC HV
      go_wp2_with fail
      go_roundw
      case rel=>exact ⟨i + 1,by omega,by go_num,by rw [show _ = _ from HKN],HF⟩
      case measure=>simp [intOf];omega
    · obtain rfl : i = n:=by omega
      have hI : ¬ (i : Int) < (i : Int):=by omega
      clear HH
      go_wp2_with fail
      go_ret
      exact ⟨rfl,HK⟩
theorem hp_nil (W : World) (pa : Option Addr) (cp : Nat) (k : Int) : Calls Tryz.prog 35 #[.slice pa 0 cp,.int .i64 k] W fun e w'=>e = .returned (.int .i64 k) ∧ w' = W:=by
  go_enter Tryz.func35,Tryz.ntmps35
  go_wp2_with fail
  refine wp_loop_rounds 1 ?_
  rw [rounds_succ]
  go_wp2_with fail
  go_ret
  exact ⟨by simp,rfl⟩
theorem hp_pros {B E : Nat} {lo hi : Nat → Nat} {g n cp : Nat} {Z : Nat → PV} {k : Int} {W0 W : World} (h1 : 1 ≤ k) (h2 : k ≤ 1000) (hn : n ≤ 1048576) (hz : (∀ j, j < n → (Z j).1.U.length ≤ 1048576 ∧ (Z j).1.C.length ≤ 1048576 ∧ (Z j).1.N.length ≤ 1048576 ∧ (Z j).1.D.length ≤ 1048576)) (hsm : sm (fun j => nq (Z j)) n ≤ 100000000) (hm : MI B E lo hi g n Z k (sm (fun j => nq (Z j))) W0 n W) :
    Calls Tryz.prog 35 #[.slice (some ⟨g,0,none⟩) n cp,.int .i64 k] W fun e w'=>e = .returned (.int .i64 (k + (sm (fun j=>nq (Z j)) n : Int))) ∧ Kb 0 W w':=by
  have HH : Hid ((∀ j,j < n → (Z j).1.U.length ≤ 1048576 ∧ (Z j).1.C.length ≤ 1048576 ∧ (Z j).1.N.length ≤ 1048576 ∧ (Z j).1.D.length ≤ 1048576) ∧ sm (fun j=>nq (Z j)) n ≤ 100000000):=(⟨hz,hsm⟩ : _ ∧ _)
  have HM : Hid (MI B E lo hi g n Z k (sm (fun j=>nq (Z j))) W0 n W):=hm
  have hnI : (n : Int) ≤ 1048576:=by omega
  clear hz hsm hm hn
  go_enter Tryz.func35,Tryz.ntmps35
  go_wp2_with fail
  go_loopw [1,5] (fun s1 s5 wr=>∃ i : Nat,i ≤ n ∧ s5 = .int .i64 (i : Int) ∧ s1 = .int .i64 (k + (sm (fun j=>nq (Z j)) i : Int)) ∧ Hid (Kb 0 W wr)) (fun _ s5 _=>n - (intOf s5).toNat)
  case atStart=>exact ⟨0,by omega,rfl,by simp [sm],Kb.refl _ _⟩
  case round =>
    obtain ⟨i,hi',rfl,rfl,HK⟩:=hrel
    by_cases hin : i < n
    · have hI : (i : Int) < (n : Int):=by omega
      obtain ⟨hz,hsm⟩:=(show _ ∧ _ from HH)
      have hmo:=sm_mono (fun j=>nq (Z j)) (show i + 1 ≤ n from hin)
      have hsu : sm (fun j=>nq (Z j)) (i + 1) = sm (fun j=>nq (Z j)) i + nq (Z i):=rfl
      obtain ⟨yu,yc,yn,yd⟩:=hz i hin
      obtain ⟨K,hK⟩ : ∃ K : Int,K = k + (sm (fun j=>nq (Z j)) i : Int):=⟨_,rfl⟩
      obtain ⟨nu,hnu⟩ : ∃ nu,nu = (Z i).1.U.length:=⟨_,rfl⟩
      obtain ⟨nc,hnc⟩ : ∃ nc,nc = (Z i).1.C.length:=⟨_,rfl⟩
      obtain ⟨nn,hnn⟩ : ∃ nn,nn = (Z i).1.N.length:=⟨_,rfl⟩
      obtain ⟨nd,hnd⟩ : ∃ nd,nd = (Z i).1.D.length:=⟨_,rfl⟩
      have hnq : nq (Z i) = 5 + 2 * nu + 5 * nc + 5 * nn + 4 * nd:=by rw [hnu,hnc,hnn,hnd];rfl
      have hK1 : 1 ≤ K:=by omega
      have hK2 : K + 5 + 2 * (nu : Int) + 5 * (nc : Int) + 5 * (nn : Int) + 4 * (nd : Int) ≤ 200000000:=by omega
      have hKb : K ≤ 200000000:=by omega
      have HKK : Hid (k + (sm (fun j=>nq (Z j)) (i + 1) : Int) = K + 5 + 2 * (nu : Int) + 5 * (nc : Int) + 5 * (nn : Int) + 4 * (nd : Int)):=(by rw [hsu,hK];omega : k + (sm (fun j=>nq (Z j)) (i + 1) : Int) = _)
      have mi:=(show MI B E lo hi g n Z k (sm (fun j=>nq (Z j))) W0 n W from HM)
      have kk:=(show Kb 0 W wr from HK)
      rw [← hnu] at yu
      rw [← hnc] at yc
      rw [← hnn] at yn
      rw [← hnd] at yd
      have mh:=mi.mh i hin
      rw [← hK] at mh
      have mq:=(mi.mq i hin).blk (w':=wr) (fun b h1 _ _=>kk.block b (Nat.zero_le _) h1)
      rw [← hK] at mq
      obtain ⟨rv5,rv6,rv7,rv8⟩:=mi.rv i hin
      have q0 : wr.cell? ⟨g,i * 9,none⟩ = some (mkS (K)):=by
        have:=kk.cell (mh 0 (by omega))
        rw [show K + ((0 : Nat) : Int) = K by omega] at this
        exact this
      have q1 : wr.cell? ⟨g,i * 9 + 1,none⟩ = some (mkI (K + 1)):=by
        have:=kk.cell (mh 1 (by omega))
        rw [show K + ((1 : Nat) : Int) = K + 1 by omega] at this
        exact this
      have q2 : wr.cell? ⟨g,i * 9 + 2,none⟩ = some (mkI (K + 1 + 1)):=by
        have:=kk.cell (mh 2 (by omega))
        rw [show K + ((2 : Nat) : Int) = K + 1 + 1 by omega] at this
        exact this
      have q3 : wr.cell? ⟨g,i * 9 + 3,none⟩ = some (mkB (K + 1 + 1 + 1)):=by
        have:=kk.cell (mh 3 (by omega))
        rw [show K + ((3 : Nat) : Int) = K + 1 + 1 + 1 by omega] at this
        exact this
      have q4 : wr.cell? ⟨g,i * 9 + 4,none⟩ = some (mkI (K + 1 + 1 + 1 + 1)):=by
        have:=kk.cell (mh 4 (by omega))
        rw [show K + ((4 : Nat) : Int) = K + 1 + 1 + 1 + 1 by omega] at this
        exact this
      obtain ⟨s1,s2,s3,o1,o2,o3,o4,m5,m6,m7,m8⟩:=mq
      rw [← hnu] at m5 m6 m7 m8
      rw [← hnc] at m6 m7 m8
      rw [← hnn] at m7 m8
      rw [← hnd] at m8
      have r5:=kk.cell rv5
      have r6:=kk.cell rv6
      have r7:=kk.cell rv7
      have r8:=kk.cell rv8
      generalize (Z i).2.1 = v5 at *
      generalize (Z i).2.2.1 = v6 at *
      generalize (Z i).2.2.2.1 = v7 at *
      generalize (Z i).2.2.2.2 = v8 at *
      obtain ⟨p5,q5,rfl⟩ : ∃ pa cp,v5 = .slice pa nu cp:=by obtain ⟨pa,cp,g,e,_⟩:=m5;exact ⟨pa,cp,e⟩
      obtain ⟨p6,q6,rfl⟩ : ∃ pa cp,v6 = .slice pa nc cp:=by obtain ⟨pa,cp,g,e,_⟩:=m6;exact ⟨pa,cp,e⟩
      obtain ⟨p7,q7,rfl⟩ : ∃ pa cp,v7 = .slice pa nn cp:=by obtain ⟨pa,cp,g,e,_⟩:=m7;exact ⟨pa,cp,e⟩
      obtain ⟨p8,q8,rfl⟩ : ∃ pa cp,v8 = .slice pa nd cp:=by obtain ⟨pa,cp,g,e,_⟩:=m8;exact ⟨pa,cp,e⟩
      rw [show K + 5 = K + 1 + 1 + 1 + 1 + 1 by omega] at m5 m6 m7 m8
      have HB : Hid (1 ≤ K ∧ K + 5 + 2 * (nu : Int) + 5 * (nc : Int) + 5 * (nn : Int) + 4 * (nd : Int) ≤ 200000000 ∧ nu ≤ 1048576 ∧ nc ≤ 1048576 ∧ nn ≤ 1048576 ∧ nd ≤ 1048576):=(⟨hK1,hK2,yu,yc,yn,yd⟩ : _ ∧ _)
      have HR : Hid (wr.cell? ⟨g,i * 9 + 5,none⟩ = some (.slice p5 nu q5) ∧ wr.cell? ⟨g,i * 9 + 6,none⟩ = some (.slice p6 nc q6) ∧ wr.cell? ⟨g,i * 9 + 7,none⟩ = some (.slice p7 nn q7) ∧ wr.cell? ⟨g,i * 9 + 8,none⟩ = some (.slice p8 nd q8)):=(⟨r5,r6,r7,r8⟩ : _ ∧ _)
      have HMR : Hid (MRow vU wr (.slice p5 nu q5) nu 2 (lo i) s1 (K + 1 + 1 + 1 + 1 + 1) ∧ MRow vV wr (.slice p6 nc q6) nc 5 s1 s2 (K + 1 + 1 + 1 + 1 + 1 + 2 * (nu : Int)) ∧ MRow vI wr (.slice p7 nn q7) nn 5 s2 s3 (K + 1 + 1 + 1 + 1 + 1 + 2 * (nu : Int) + 5 * (nc : Int)) ∧ MRow vM wr (.slice p8 nd q8) nd 4 s3 (hi i) (K + 1 + 1 + 1 + 1 + 1 + 2 * (nu : Int) + 5 * (nc : Int) + 5 * (nn : Int))):=(⟨m5,m6,m7,m8⟩ : _ ∧ _)
      have hmt : ∀ W',Calls Tryz.prog 66 #[.int .i64 K] W' fun e w'=>e = .returned (.string (⟨#[109]⟩ ++ mtl K.toNat ⟨#[]⟩)) ∧ Below W'.heap.size W' w':=fun W'=>by
        have HT:=mark_text K.toNat (by omega) (by omega) W'
        rw [Int.toNat_of_nonneg (by omega)] at HT
        exact HT
      unfold mkS at q0
      unfold mkI at q1 q2 q4
      unfold mkB at q3
      generalize (⟨#[109]⟩ ++ mtl K.toNat ⟨#[]⟩ : ByteArray) = X at hmt q0
      have HKP : Hid (∀ (W0 W' : World),Below W0.heap.size W0 W' → W0.heap = wr.heap → W0.os = wr.os → W0.output = wr.output → Kb 0 wr W'):=(fun W0 W' hb e1 e2 e3=>⟨hb.os.trans e2,hb.output.trans e3,by rw [← e1];exact hb.size,fun i _ hi=>by rw [hb.block i (by rw [e1];exact hi),e1]⟩ : ∀ (W0 W' : World),_)
      rw [← hK]
      have HQ : Hid (wr.cell? ⟨g,i * 9 + 1,none⟩ = some (.int .i64 (K + 1)) ∧ wr.cell? ⟨g,i * 9 + 2,none⟩ = some (.int .i64 (K + 1 + 1)) ∧ wr.cell? ⟨g,i * 9 + 3,none⟩ = some (.bool ((K + 1 + 1 + 1) % 3 == 0)) ∧ wr.cell? ⟨g,i * 9 + 4,none⟩ = some (.int .i64 (K + 1 + 1 + 1 + 1))):=(⟨q1,q2,q3,q4⟩ : _ ∧ _)
      clear hz hsm hmo hsu hK hnu hnc hnn hnd hnq mi kk mh rv5 rv6 rv7 rv8 o1 o2 o3 o4 m5 m6 m7 m8 r5 r6 r7 r8 hK2 yu yc yn yd q1 q2 q3 q4
      go_upto_region 4 with fail
      go_region_held_law (fun W'=>W'.cell? ⟨g,i * 9,none⟩ = some (.string X)) (first | exact q0 | exact ((show ∀ (W0 W' : World),Below W0.heap.size W0 W' → W0.heap = wr.heap → W0.os = wr.os → W0.output = wr.output → Kb 0 wr W' from HKP) _ _ bz rfl rfl rfl).cell q0) ((go_at_call 66;refine (hmt _).mono ?_;rintro e z ⟨rfl,bz⟩))
      all_goals
        have kz : Kb 0 wr z:=(show ∀ (W0 W' : World),Below W0.heap.size W0 W' → W0.heap = wr.heap → W0.os = wr.os → W0.output = wr.output → Kb 0 wr W' from HKP) _ _ bz rfl rfl rfl
        have HKW : Hid (Kb 0 W wr):=HK
        have HZ : Hid (Kb 0 wr z):=kz
        have q1:=kz.cell (show _ ∧ _ ∧ _ ∧ _ from HQ).1
        have q2:=kz.cell (show _ ∧ _ ∧ _ ∧ _ from HQ).2.1
        have q3:=kz.cell (show _ ∧ _ ∧ _ ∧ _ from HQ).2.2.1
        have q4:=kz.cell (show _ ∧ _ ∧ _ ∧ _ from HQ).2.2.2
        clear HK kz bz HKP hmt HQ
        go_upto_region 19 with fail
        clear q0 q1 q2 q3 q4
        have H:=hw_ups (K + 1 + 1 + 1 + 1 + 1) (by obtain ⟨b1,b2,b3,b4,b5,b6⟩:=(show _ ∧ _ ∧ _ ∧ _ ∧ _ ∧ _ from HB);omega) (by obtain ⟨b1,b2,b3,b4,b5,b6⟩:=(show _ ∧ _ ∧ _ ∧ _ ∧ _ ∧ _ from HB);omega) (by obtain ⟨b1,b2,b3,b4,b5,b6⟩:=(show _ ∧ _ ∧ _ ∧ _ ∧ _ ∧ _ from HB);exact b3) (((show _ ∧ _ ∧ _ ∧ _ from HMR).1).blk (w':=z) (by omega) (fun b h1 _ _=>(show Kb 0 wr z from HZ).block b (Nat.zero_le _) h1))
        have ca : z.cell? ⟨g,i * 9 + 5,none⟩ = some (.slice p5 nu q5):=(show Kb 0 wr z from HZ).cell ((show _ ∧ _ ∧ _ ∧ _ from HR).1)
        go_upto_region 20 with (go_at_call 87;refine H.mono ?_;rintro e x0 ⟨rfl,k0⟩)
        have KZ0 : Hid (Kb 0 wr x0):=(show Kb 0 wr z from HZ).trans k0
        clear H ca k0
        have hp : ¬ (K + 1 + 1 + 1 + 1 + 1 + 2 * (nu : Int)) < 0:=by omega
        go_upto_region 22 with fail
        clear hp
        have H:=hw_vals (K + 1 + 1 + 1 + 1 + 1 + 2 * (nu : Int)) (by obtain ⟨b1,b2,b3,b4,b5,b6⟩:=(show _ ∧ _ ∧ _ ∧ _ ∧ _ ∧ _ from HB);omega) (by obtain ⟨b1,b2,b3,b4,b5,b6⟩:=(show _ ∧ _ ∧ _ ∧ _ ∧ _ ∧ _ from HB);omega) (by obtain ⟨b1,b2,b3,b4,b5,b6⟩:=(show _ ∧ _ ∧ _ ∧ _ ∧ _ ∧ _ from HB);exact b4) (((show _ ∧ _ ∧ _ ∧ _ from HMR).2.1).blk (w':=x0) (by omega) (fun b h1 _ _=>(show Kb 0 wr x0 from KZ0).block b (Nat.zero_le _) h1))
        have ca : x0.cell? ⟨g,i * 9 + 6,none⟩ = some (.slice p6 nc q6):=(show Kb 0 wr x0 from KZ0).cell ((show _ ∧ _ ∧ _ ∧ _ from HR).2.1)
        go_upto_region 23 with (go_at_call 88;refine H.mono ?_;rintro e x1 ⟨rfl,k1⟩)
        have KZ1 : Hid (Kb 0 wr x1):=(show Kb 0 wr x0 from KZ0).trans k1
        clear H ca k1
        have hp : ¬ (K + 1 + 1 + 1 + 1 + 1 + 2 * (nu : Int) + 5 * (nc : Int)) < 0:=by omega
        go_upto_region 25 with fail
        clear hp
        have H:=hw_inss (K + 1 + 1 + 1 + 1 + 1 + 2 * (nu : Int) + 5 * (nc : Int)) (by obtain ⟨b1,b2,b3,b4,b5,b6⟩:=(show _ ∧ _ ∧ _ ∧ _ ∧ _ ∧ _ from HB);omega) (by obtain ⟨b1,b2,b3,b4,b5,b6⟩:=(show _ ∧ _ ∧ _ ∧ _ ∧ _ ∧ _ from HB);omega) (by obtain ⟨b1,b2,b3,b4,b5,b6⟩:=(show _ ∧ _ ∧ _ ∧ _ ∧ _ ∧ _ from HB);exact b5) (((show _ ∧ _ ∧ _ ∧ _ from HMR).2.2.1).blk (w':=x1) (by omega) (fun b h1 _ _=>(show Kb 0 wr x1 from KZ1).block b (Nat.zero_le _) h1))
        have ca : x1.cell? ⟨g,i * 9 + 7,none⟩ = some (.slice p7 nn q7):=(show Kb 0 wr x1 from KZ1).cell ((show _ ∧ _ ∧ _ ∧ _ from HR).2.2.1)
        go_upto_region 26 with (go_at_call 89;refine H.mono ?_;rintro e x2 ⟨rfl,k2⟩)
        have KZ2 : Hid (Kb 0 wr x2):=(show Kb 0 wr x1 from KZ1).trans k2
        clear H ca k2
        have hp : ¬ (K + 1 + 1 + 1 + 1 + 1 + 2 * (nu : Int) + 5 * (nc : Int) + 5 * (nn : Int)) < 0:=by omega
        go_upto_region 28 with fail
        clear hp
        have H:=hw_nams (K + 1 + 1 + 1 + 1 + 1 + 2 * (nu : Int) + 5 * (nc : Int) + 5 * (nn : Int)) (by obtain ⟨b1,b2,b3,b4,b5,b6⟩:=(show _ ∧ _ ∧ _ ∧ _ ∧ _ ∧ _ from HB);omega) (by obtain ⟨b1,b2,b3,b4,b5,b6⟩:=(show _ ∧ _ ∧ _ ∧ _ ∧ _ ∧ _ from HB);omega) (by obtain ⟨b1,b2,b3,b4,b5,b6⟩:=(show _ ∧ _ ∧ _ ∧ _ ∧ _ ∧ _ from HB);exact b6) (((show _ ∧ _ ∧ _ ∧ _ from HMR).2.2.2).blk (w':=x2) (by omega) (fun b h1 _ _=>(show Kb 0 wr x2 from KZ2).block b (Nat.zero_le _) h1))
        have ca : x2.cell? ⟨g,i * 9 + 8,none⟩ = some (.slice p8 nd q8):=(show Kb 0 wr x2 from KZ2).cell ((show _ ∧ _ ∧ _ ∧ _ from HR).2.2.2)
        go_upto_region 29 with (go_at_call 90;refine H.mono ?_;rintro e x3 ⟨rfl,k3⟩)
        have KZ3 : Hid (Kb 0 wr x3):=(show Kb 0 wr x2 from KZ2).trans k3
        clear H ca k3
        have hp : ¬ (K + 1 + 1 + 1 + 1 + 1 + 2 * (nu : Int) + 5 * (nc : Int) + 5 * (nn : Int) + 4 * (nd : Int)) < 0:=by omega
        have HK9 : Hid (Kb 0 W x3):=by
          exact (show Kb 0 W wr from HKW).trans (show Kb 0 wr x3 from KZ3)
        have HKN : Hid (k + (sm (fun j=>nq (Z j)) (i + 1) : Int) = K + 1 + 1 + 1 + 1 + 1 + 2 * (nu : Int) + 5 * (nc : Int) + 5 * (nn : Int) + 4 * (nd : Int)):=(by rw [(show _ = _ from HKK)];omega : k + (sm (fun j=>nq (Z j)) (i + 1) : Int) = _)
        clear HMR HR HB HZ KZ0 KZ1 KZ2 KZ3
        go_wp2_with fail
        go_roundw
        case rel=>exact ⟨i + 1,by omega,by go_num,by rw [show _ = _ from HKN],HK9⟩
        case measure=>simp [intOf];omega
    · obtain rfl : i = n:=by omega
      have hI : ¬ (i : Int) < (i : Int):=by omega
      clear HH HM
      go_wp2_with fail
      go_ret
      exact ⟨rfl,HK⟩
end Go.Proofs.YtnmeemjoodoalaaGreatDoor.Fo
