import Derived.Test.YtjggnnmnegcpjaaGreatDoorQSpf
import Derived.Deep.RegionHeldLaw
set_option maxRecDepth 100000
set_option maxHeartbeats 8000000
namespace Go.Proofs.YtjggnnmnegcpjaaGreatDoor.Fo
open Go.ChangeShapes Go.WideShapes Go.ChangeAt Go.RowKit
set_option linter.unusedVariables false
theorem im_shaped_t {v : Value} {n : Nat} {F : Nat → Gv} (w : World) (hg : Gd w) (hf : RowF w v n F) (i : Nat) (hi : i < n) (hn : n ≤ 1048576) (hp : (F i).p ≤ 1048576) (hq : (F i).q ≤ 1048576) (hk : 40 ≤ (F i).a.k ∧ (F i).a.k ≤ 42) :
    Calls Tryz.prog 81 #[v,.int .i64 (i:Int)] w fun e w'=>e = .returned (.bool (dc (Ipk nmp flp F (F i).a (F i).p (F i).A (F i).q (F i).K (i:Int))))∧Kz w w':=by
  obtain ⟨pf,cf,rfl,hf2⟩:=hf
  obtain ⟨c,rfl,hcc,hrc⟩:=hf2 (by omega)
  obtain ⟨vn,vk,hc,hrn,hrk⟩:=hrc i hi
  obtain ⟨pn,cn,rfl,hn2⟩:=hrn
  obtain ⟨pk,ck,rfl,hk2⟩:=hrk
  have hiI:(i:Int) < (n:Int):=by omega
  have hnI:(n:Int)≤1048576:=by omega
  have hqI:((F i).q:Int)≤1048576:=by omega
  obtain ⟨R,hR⟩:∃ R,R=dc (Ipk nmp flp F (F i).a (F i).p (F i).A (F i).q (F i).K (i:Int)):=⟨_,rfl⟩
  have HR:Hid (R=dc (Ipk nmp flp F (F i).a (F i).p (F i).A (F i).q (F i).K (i:Int))):=hR
  rw [← hR]
  obtain ⟨Ra,hRa⟩:∃ Ra,Ra=dc (alw nmp flp (rwk (F i).a.k (F i).q) (F i).a (F i).p (F i).A (F i).q):=⟨_,rfl⟩
  have HRA:Hid (Ra=dc (alw nmp flp (rwk (F i).a.k (F i).q) (F i).a (F i).p (F i).A (F i).q)):=hRa
  have HSH:Hid (∀ W,Calls Tryz.prog 125 #[.agg #[.int .i64 (F i).a.k,.int .i64 (F i).a.f,.int .i64 (F i).a.t,.int .i64 (F i).a.l,.int .i64 (F i).a.o,.int .i64 (F i).a.m,.string (F i).a.x,.slice pn (F i).p cn,.slice pk (F i).q ck]] W fun e w'=>e = .returned (.iface 209 (.agg #[.int .i64 (F i).a.k,.int .i64 (F i).a.f,.int .i64 (F i).a.t,.int .i64 (F i).a.l,.int .i64 (F i).a.o,.int .i64 (F i).a.m,.string (F i).a.x,.slice pn (F i).p cn,.slice pk (F i).q ck]))∧Below W.heap.size W w'):=(fun W=>im_sht (F i).a _ _ hk W:∀ W,_)
  have HRW:Hid (∀ W,Calls Tryz.prog 352 #[.agg #[.int .i64 (F i).a.k,.int .i64 (F i).a.f,.int .i64 (F i).a.t,.int .i64 (F i).a.l,.int .i64 (F i).a.o,.int .i64 (F i).a.m,.string (F i).a.x,.slice pn (F i).p cn,.slice pk (F i).q ck]] W fun e w'=>e = .returned (rwv (rwk (F i).a.k (F i).q))∧Below W.heap.size W w'):=(fun W=>im_rowt (F i).a _ pk (F i).q ck hk hq W:∀ W,_)
  have HAL:Hid (∀ W,Kz w W→Calls Tryz.prog 126 #[rwv (rwk (F i).a.k (F i).q),.agg #[.int .i64 (F i).a.k,.int .i64 (F i).a.f,.int .i64 (F i).a.t,.int .i64 (F i).a.l,.int .i64 (F i).a.o,.int .i64 (F i).a.m,.string (F i).a.x,.slice pn (F i).p cn,.slice pk (F i).q ck]] W fun e w'=>e = .returned (.bool Ra)∧Kz W w'):=(fun W hz=>by
    rw [hRa]
    exact im_allows (rwk (F i).a.k (F i).q) (rwk_t _ _) (a:=(F i).a) W (hz.gd hg) ((show RowV w (.slice pn (F i).p cn) (F i).p _ from ⟨pn,cn,rfl,hn2⟩).kz hz) ⟨pk,ck,rfl⟩ hp hq:∀ W,_)
  have HKD:Hid ((∀ W j,j < (F i).q→((F i).a.k=7→(F i).q≤3)→Calls Tryz.prog 351 #[.agg #[.int .i64 (F i).a.k,.int .i64 (F i).a.f,.int .i64 (F i).a.t,.int .i64 (F i).a.l,.int .i64 (F i).a.o,.int .i64 (F i).a.m,.string (F i).a.x,.slice pn (F i).p cn,.slice pk (F i).q ck],.int .i64 (j:Int)] W fun e w'=>e = .returned (.int .i64 (sdk (F i).a.k (F i).a.m (F i).q j))∧Below W.heap.size W w')):=(fun W j hj h7=>im_kidt (F i).a _ pk (F i).q ck j hk hq hj h7 W:∀ W j,_)
  have HCL:Hid (Cel9 w (c.add (i*9)) (F i).a (.slice pn (F i).p cn) (.slice pk (F i).q ck)):=hc
  have HCX:Hid (Gd w∧(∀ i,i < n→FormC w (c.add (i*9)) (F i))∧(0 < (F i).q→∃ a:Addr,pk=some a∧(F i).q≤ck∧∀ j,j < (F i).q→w.cell? (a.add j)=some (.int .i64 ((F i).K j)))):=(⟨hg,hrc,hk2⟩:_∧_∧_)
  have mt:=mth_t.row
  obtain ⟨d0,d1,d2,d3,d4,d5,d6,d7,d8⟩:=hc
  have HIN:Hid (i < n):=hi
  clear hf2 hrc hn2 hk2 hR hRa hg hi hn hp hq hk
  go_enter Tryz.func81,Tryz.ntmps81
  go_wp2_with fail
  refine ((show ∀ W,Calls Tryz.prog 125 #[.agg #[.int .i64 (F i).a.k,.int .i64 (F i).a.f,.int .i64 (F i).a.t,.int .i64 (F i).a.l,.int .i64 (F i).a.o,.int .i64 (F i).a.m,.string (F i).a.x,.slice pn (F i).p cn,.slice pk (F i).q ck]] W fun e w'=>e = .returned (.iface 209 (.agg #[.int .i64 (F i).a.k,.int .i64 (F i).a.f,.int .i64 (F i).a.t,.int .i64 (F i).a.l,.int .i64 (F i).a.o,.int .i64 (F i).a.m,.string (F i).a.x,.slice pn (F i).p cn,.slice pk (F i).q ck]))∧Below W.heap.size W w' from HSH) w).mono ?_
  rintro e w1 ⟨rfl,b1⟩
  have K1:Kz w w1:=.of_below b1
  have s1:=((show Cel9 w (c.add (i*9)) (F i).a (.slice pn (F i).p cn) (.slice pk (F i).q ck) from HCL).kz K1).conj
  clear d0 d1 d2 d3 d4 d5 d6 d7 d8 b1 HSH
  go_wp2_with fail
  go_region_held_law (fun W'=>W'.cell? (c.add (i*9))=some (.int .i64 (F i).a.k)∧W'.cell? ⟨(c.add (i*9)).block,(c.add (i*9)).off+1,none⟩=some (.int .i64 (F i).a.f)∧W'.cell? ⟨(c.add (i*9)).block,(c.add (i*9)).off+2,none⟩=some (.int .i64 (F i).a.t)∧W'.cell? ⟨(c.add (i*9)).block,(c.add (i*9)).off+3,none⟩=some (.int .i64 (F i).a.l)∧W'.cell? ⟨(c.add (i*9)).block,(c.add (i*9)).off+4,none⟩=some (.int .i64 (F i).a.o)∧W'.cell? ⟨(c.add (i*9)).block,(c.add (i*9)).off+5,none⟩=some (.int .i64 (F i).a.m)∧W'.cell? ⟨(c.add (i*9)).block,(c.add (i*9)).off+6,none⟩=some (.string (F i).a.x)∧W'.cell? ⟨(c.add (i*9)).block,(c.add (i*9)).off+7,none⟩=some (.slice pn (F i).p cn)∧W'.cell? ⟨(c.add (i*9)).block,(c.add (i*9)).off+8,none⟩=some (.slice pk (F i).q ck)) (first | exact s3 | exact s2 | exact s1)
    (first
      | (go_at_call 352;refine ((show ∀ W,Calls Tryz.prog 352 #[.agg #[.int .i64 (F i).a.k,.int .i64 (F i).a.f,.int .i64 (F i).a.t,.int .i64 (F i).a.l,.int .i64 (F i).a.o,.int .i64 (F i).a.m,.string (F i).a.x,.slice pn (F i).p cn,.slice pk (F i).q ck]] W fun e w'=>e = .returned (rwv (rwk (F i).a.k (F i).q))∧Below W.heap.size W w' from HRW) _).mono ?_;rintro e w2 ⟨rfl,b2⟩;have K2:Kz w w2:=K1.trans ⟨b2.os,b2.output,b2.size,b2.block⟩;have s2:=((show Cel9 w (c.add (i*9)) (F i).a (.slice pn (F i).p cn) (.slice pk (F i).q ck) from HCL).kz K2).conj)
      | (go_at_call 126;refine ((show ∀ W,Kz w W→Calls Tryz.prog 126 #[rwv (rwk (F i).a.k (F i).q),.agg #[.int .i64 (F i).a.k,.int .i64 (F i).a.f,.int .i64 (F i).a.t,.int .i64 (F i).a.l,.int .i64 (F i).a.o,.int .i64 (F i).a.m,.string (F i).a.x,.slice pn (F i).p cn,.slice pk (F i).q ck]] W fun e w'=>e = .returned (.bool Ra)∧Kz W w' from HAL) _ K2).mono ?_;rintro e w3 ⟨rfl,k3⟩;have K3:Kz w w3:=K2.trans k3;have s3:=((show Cel9 w (c.add (i*9)) (F i).a (.slice pn (F i).p cn) (.slice pk (F i).q ck) from HCL).kz K3).conj))
  clear s1 s2 K1 K2 b2 k3 HRW HAL mt
  by_cases hal:alw nmp flp (rwk (F i).a.k (F i).q) (F i).a (F i).p (F i).A (F i).q
  case neg =>
    have hra:Ra=false:=(show Ra = _ from HRA).trans (dc_f hal)
    have HX:Hid (R=false):=(show R = _ from HR).trans (dc_f (fun z=>hal z.1))
    have HZ:Hid (Kz w w3):=K3
    subst hra
    clear hal K3 s3 HRA HR HCL HCX HKD
    go_wp2_with fail
    go_ret
    exact ⟨by rw [show R=false from HX];rfl,HZ⟩
  have hra:Ra=true:=(show Ra = _ from HRA).trans (dc_t hal)
  subst hra
  rw [show (!true)=false from rfl]
  have HAW:Hid (alw nmp flp (rwk (F i).a.k (F i).q) (F i).a (F i).p (F i).A (F i).q):=hal
  have HK0:Hid (Kz w w3):=K3
  obtain ⟨f0,f1,f2,f3,f4,f5,f6,f7,f8⟩:=s3
  clear hal K3 HRA HCL
  go_wp2_with fail
  clear f0 f1 f2 f3 f4 f5 f6 f7 f8
  go_loopw [31] (fun s31 wr=>∃ j:Nat,s31 = .int .i64 (j:Int)∧j≤(F i).q∧Hid (Kz w wr∧∀ m,m < j→0≤(F i).K m∧(F i).K m < (i:Int)∧tk (sdk (F i).a.k (F i).a.m (F i).q m) (kdk F (F i).K m))) (fun s31 _=>(F i).q - (intOf s31).toNat)
  case atStart=>exact ⟨0,rfl,Nat.zero_le _,(⟨HK0,fun m hm=>by omega⟩:_∧_)⟩
  case round =>
    clear HK0
    obtain ⟨j,rfl,hjq,HI⟩:=hrel
    obtain ⟨hz,ha⟩:=(show Kz w wr∧∀ m,m < j→0≤(F i).K m∧(F i).K m < (i:Int)∧tk (sdk (F i).a.k (F i).a.m (F i).q m) (kdk F (F i).K m) from HI)
    obtain ⟨hg,hrc,hk2⟩:=(show Gd w∧(∀ i,i < n→FormC w (c.add (i*9)) (F i))∧(0 < (F i).q→∃ a:Addr,pk=some a∧(F i).q≤ck∧∀ j,j < (F i).q→w.cell? (a.add j)=some (.int .i64 ((F i).K j))) from HCX)
    rcases Nat.lt_or_ge j (F i).q with hj | hj
    · have hjI:(j:Int) < ((F i).q:Int):=by omega
      obtain ⟨b,rfl,hcb,hrb⟩:=hk2 (by omega)
      have qa:=(hz.cell (lt_of_cell' (hrb j hj))).trans (hrb j hj)
      obtain ⟨kx,hkx⟩:∃ kx,kx=(F i).K j:=⟨_,rfl⟩
      rw [← hkx] at qa
      have HZ:Hid (Kz w wr):=hz
      rcases Int.lt_or_le kx 0 with g0 | g0
      · have HX:Hid (R=false):=(show R = _ from HR).trans (dc_f (fun z=>by have:=(z.2 j hj).1;omega))
        clear HI HR HCX HKD hz ha hg hrc hk2 hrb hkx HAW
        go_wp2_with fail
        go_quiet (skip)
        go_wp2_with fail
        go_ret
        exact ⟨by rw [show R=false from HX];rfl,by first | exact HZ | exact Kz.drewN HZ _⟩
      · have g0':¬ kx < 0:=by omega
        rcases Int.lt_or_le kx (i:Int) with g1 | g1
        · have g1':¬ (i:Int)≤kx:=by omega
          have hkn:kx.toNat < n:=by have:=(show i < n from HIN);omega
          have hkI:kx < (n:Int):=by omega
          obtain ⟨vn2,vk2,hc2,hrn2,hrk2⟩:=hrc kx.toNat hkn
          obtain ⟨pn2,cn2,rfl,_⟩:=hrn2
          obtain ⟨pk2,ck2,rfl,_⟩:=hrk2
          have HC2:Hid (Cel9 w (c.add (kx.toNat*9)) (F kx.toNat).a (.slice pn2 (F kx.toNat).p cn2) (.slice pk2 (F kx.toNat).q ck2)):=hc2
          have s1:=(hc2.kz hz).conj
          have h7:(F i).a.k=7→(F i).q≤3:=fun e=>by
            have:=(show alw nmp flp (rwk (F i).a.k (F i).q) (F i).a (F i).p (F i).A (F i).q from HAW).2.1.2
            rw [e] at this
            have e2:(rwk 7 (F i).q).kh=3:=rfl
            omega
          have hkd:kdk F (F i).K j=(F kx.toNat).a.k:=by unfold kdk;rw [← hkx]
          obtain ⟨Rt,hRt⟩:∃ Rt,Rt=dc (tk (sdk (F i).a.k (F i).a.m (F i).q j) (F kx.toNat).a.k):=⟨_,rfl⟩
          have HTK:Hid (∀ W,Calls Tryz.prog 127 #[.int .i64 (sdk (F i).a.k (F i).a.m (F i).q j),.agg #[.int .i64 (F kx.toNat).a.k,.int .i64 (F kx.toNat).a.f,.int .i64 (F kx.toNat).a.t,.int .i64 (F kx.toNat).a.l,.int .i64 (F kx.toNat).a.o,.int .i64 (F kx.toNat).a.m,.string (F kx.toNat).a.x,.slice pn2 (F kx.toNat).p cn2,.slice pk2 (F kx.toNat).q ck2]] W fun e w'=>e = .returned (.bool Rt)∧Below W.heap.size W w'):=(fun W=>by rw [hRt];exact im_tk _ (F kx.toNat).a pn2 (F kx.toNat).p cn2 pk2 (F kx.toNat).q ck2 (sdk_in _ _ _ _) W:∀ W,_)
          have HK7:Hid (∀ W,Calls Tryz.prog 351 #[.agg #[.int .i64 (F i).a.k,.int .i64 (F i).a.f,.int .i64 (F i).a.t,.int .i64 (F i).a.l,.int .i64 (F i).a.o,.int .i64 (F i).a.m,.string (F i).a.x,.slice pn (F i).p cn,.slice (some b) (F i).q ck],.int .i64 (j:Int)] W fun e w'=>e = .returned (.int .i64 (sdk (F i).a.k (F i).a.m (F i).q j))∧Below W.heap.size W w'):=(fun W=>(show ∀ W j,_ from HKD) W j hj h7:∀ W,_)
          have HY:Hid (tk (sdk (F i).a.k (F i).a.m (F i).q j) (F kx.toNat).a.k→∀ m,m < j+1→0≤(F i).K m∧(F i).K m < (i:Int)∧tk (sdk (F i).a.k (F i).a.m (F i).q m) (kdk F (F i).K m)):=(fun ht m hm=>by
            by_cases e:m=j
            · rw [e,hkd,← hkx];exact ⟨g0,g1,ht⟩
            · exact ha m (by omega):_→∀ m,_)
          have HNO:Hid (¬ tk (sdk (F i).a.k (F i).a.m (F i).q j) (F kx.toNat).a.k→R=false):=(fun ht=>(show R = _ from HR).trans (dc_f (fun z=>ht (by have:=(z.2 j hj).2.2;rw [hkd] at this;exact this))):_→_)
          have HRT:Hid (Rt=dc (tk (sdk (F i).a.k (F i).a.m (F i).q j) (F kx.toNat).a.k)):=hRt
          have mt:=mth_t.kid
          have K1:=hz
          clear HI HR HCX HKD hz ha hg hrc hk2 hrb hkx HAW hc2 h7 hkd hRt g1 hkn
          generalize sdk (F i).a.k (F i).a.m (F i).q j=sd at *
          go_wp2_with fail
          have g0d:(kx < 0)=False:=eq_false (by omega)
          have g1d:((i:Int)≤kx)=False:=eq_false (by omega)
          go_region_held_law (fun W'=>W'.cell? (c.add (kx.toNat*9))=some (.int .i64 (F kx.toNat).a.k)∧W'.cell? ⟨(c.add (kx.toNat*9)).block,(c.add (kx.toNat*9)).off+1,none⟩=some (.int .i64 (F kx.toNat).a.f)∧W'.cell? ⟨(c.add (kx.toNat*9)).block,(c.add (kx.toNat*9)).off+2,none⟩=some (.int .i64 (F kx.toNat).a.t)∧W'.cell? ⟨(c.add (kx.toNat*9)).block,(c.add (kx.toNat*9)).off+3,none⟩=some (.int .i64 (F kx.toNat).a.l)∧W'.cell? ⟨(c.add (kx.toNat*9)).block,(c.add (kx.toNat*9)).off+4,none⟩=some (.int .i64 (F kx.toNat).a.o)∧W'.cell? ⟨(c.add (kx.toNat*9)).block,(c.add (kx.toNat*9)).off+5,none⟩=some (.int .i64 (F kx.toNat).a.m)∧W'.cell? ⟨(c.add (kx.toNat*9)).block,(c.add (kx.toNat*9)).off+6,none⟩=some (.string (F kx.toNat).a.x)∧W'.cell? ⟨(c.add (kx.toNat*9)).block,(c.add (kx.toNat*9)).off+7,none⟩=some (.slice pn2 (F kx.toNat).p cn2)∧W'.cell? ⟨(c.add (kx.toNat*9)).block,(c.add (kx.toNat*9)).off+8,none⟩=some (.slice pk2 (F kx.toNat).q ck2)) (first | exact s3 | exact s2 | exact s1)
            (first
              | (go_at_call 351;refine ((show ∀ W,Calls Tryz.prog 351 #[.agg #[.int .i64 (F i).a.k,.int .i64 (F i).a.f,.int .i64 (F i).a.t,.int .i64 (F i).a.l,.int .i64 (F i).a.o,.int .i64 (F i).a.m,.string (F i).a.x,.slice pn (F i).p cn,.slice (some b) (F i).q ck],.int .i64 (j:Int)] W fun e w'=>e = .returned (.int .i64 sd)∧Below W.heap.size W w' from HK7) _).mono ?_;rintro e w2 ⟨rfl,b2⟩;have K2:Kz w w2:=K1.trans ⟨b2.os,b2.output,b2.size,b2.block⟩;have s2:=((show Cel9 w (c.add (kx.toNat*9)) (F kx.toNat).a (.slice pn2 (F kx.toNat).p cn2) (.slice pk2 (F kx.toNat).q ck2) from HC2).kz K2).conj)
              | (go_at_call 127;refine ((show ∀ W,Calls Tryz.prog 127 #[.int .i64 sd,.agg #[.int .i64 (F kx.toNat).a.k,.int .i64 (F kx.toNat).a.f,.int .i64 (F kx.toNat).a.t,.int .i64 (F kx.toNat).a.l,.int .i64 (F kx.toNat).a.o,.int .i64 (F kx.toNat).a.m,.string (F kx.toNat).a.x,.slice pn2 (F kx.toNat).p cn2,.slice pk2 (F kx.toNat).q ck2]] W fun e w'=>e = .returned (.bool Rt)∧Below W.heap.size W w' from HTK) _).mono ?_;rintro e w3 ⟨rfl,b3⟩;have K3:Kz w w3:=K2.trans ⟨b3.os,b3.output,b3.size,b3.block⟩;have s3:=((show Cel9 w (c.add (kx.toNat*9)) (F kx.toNat).a (.slice pn2 (F kx.toNat).p cn2) (.slice pk2 (F kx.toNat).q ck2) from HC2).kz K3).conj))
          have HZ3:Hid (Kz w w3):=K3
          clear s1 s2 s3 K1 K2 K3 b2 b3 HTK HK7 mt HC2 qa
          by_cases ht:tk sd (F kx.toNat).a.k
          · have hrt:Rt=true:=(show Rt = _ from HRT).trans (dc_t ht)
            subst hrt
            have HY2:Hid (Kz w w3∧∀ m,m < j+1→0≤(F i).K m∧(F i).K m < (i:Int)∧tk (sdk (F i).a.k (F i).a.m (F i).q m) (kdk F (F i).K m)):=(⟨HZ3,HY ht⟩:_∧_)
            clear ht HRT HY HNO HZ3
            go_wp2_with fail
            go_roundw
            case rel=>exact ⟨j+1,by go_num,by omega,HY2⟩
            case measure=>simp [intOf];omega
          · have hrt:Rt=false:=(show Rt = _ from HRT).trans (dc_f ht)
            subst hrt
            have HX:Hid (R=false):=HNO ht
            clear ht HRT HY HNO
            go_wp2_with fail
            go_ret
            exact ⟨by rw [show R=false from HX];rfl,HZ3⟩
        · have HX:Hid (R=false):=(show R = _ from HR).trans (dc_f (fun z=>by have:=(z.2 j hj).2.1;omega))
          clear HI HR HCX HKD hz ha hg hrc hk2 hrb hkx HAW g0
          go_wp2_with fail
          have g0d:(kx < 0)=False:=eq_false (by omega)
          have g1d:((i:Int)≤kx)=True:=eq_true (by omega)
          go_quiet (skip)
          go_wp2_with fail
          go_ret
          exact ⟨by rw [show R=false from HX];rfl,by first | exact HZ | exact Kz.drewN HZ _⟩
    · have ej:j=(F i).q:=by omega
      have HX:Hid (R=true):=(show R = _ from HR).trans (dc_t ⟨HAW,by rw [ej] at ha;exact ha⟩)
      have HZ:Hid (Kz w wr):=hz
      rw [ej]
      clear HI HR HCX HKD hz ha hg hrc hk2 HAW ej hj hjq
      go_wp2_with fail
      go_ret
      exact ⟨by rw [show R=true from HX];rfl,HZ⟩
theorem im_shaped_n {v : Value} {n : Nat} {F : Nat → Gv} (w : World) (hf : RowF w v n F) (i : Nat) (hi : i < n) (hn : n ≤ 1048576) (hk : ¬ (1 ≤ (F i).a.k ∧ (F i).a.k ≤ 16) ∧ ¬ (20 ≤ (F i).a.k ∧ (F i).a.k ≤ 37) ∧ ¬ (40 ≤ (F i).a.k ∧ (F i).a.k ≤ 42)) :
    Calls Tryz.prog 81 #[v,.int .i64 (i:Int)] w fun e w'=>e = .returned (.bool false)∧Kz w w':=by
  obtain ⟨pf,cf,rfl,hf2⟩:=hf
  obtain ⟨c,rfl,hcc,hrc⟩:=hf2 (by omega)
  obtain ⟨vn,vk,hc,hrn,hrk⟩:=hrc i hi
  obtain ⟨pn,cn,rfl,hn2⟩:=hrn
  obtain ⟨pk,ck,rfl,hk2⟩:=hrk
  have hiI:(i:Int) < (n:Int):=by omega
  have HSH:Hid (∀ W,Calls Tryz.prog 125 #[.agg #[.int .i64 (F i).a.k,.int .i64 (F i).a.f,.int .i64 (F i).a.t,.int .i64 (F i).a.l,.int .i64 (F i).a.o,.int .i64 (F i).a.m,.string (F i).a.x,.slice pn (F i).p cn,.slice pk (F i).q ck]] W fun e w'=>e = .returned .nilIface∧Below W.heap.size W w'):=(fun W=>im_shn (F i).a _ _ hk W:∀ W,_)
  obtain ⟨d0,d1,d2,d3,d4,d5,d6,d7,d8⟩:=hc
  clear hf2 hrc hn2 hk2 hk
  go_enter Tryz.func81,Tryz.ntmps81
  go_wp2_with fail
  refine ((show ∀ W,Calls Tryz.prog 125 #[.agg #[.int .i64 (F i).a.k,.int .i64 (F i).a.f,.int .i64 (F i).a.t,.int .i64 (F i).a.l,.int .i64 (F i).a.o,.int .i64 (F i).a.m,.string (F i).a.x,.slice pn (F i).p cn,.slice pk (F i).q ck]] W fun e w'=>e = .returned .nilIface∧Below W.heap.size W w' from HSH) w).mono ?_
  rintro e w1 ⟨rfl,b1⟩
  have HZ:Hid (Kz w w1):=Kz.of_below b1
  clear d0 d1 d2 d3 d4 d5 d6 d7 d8 b1 HSH
  go_wp2_with fail
  go_quiet (skip)
  go_wp2_with fail
  go_ret
  exact ⟨rfl,by first | exact HZ | exact Kz.drewN HZ _⟩
theorem im_shaped {v : Value} {n : Nat} {F : Nat → Gv} (w : World) (hg : Gd w) (hf : RowF w v n F) (i : Nat) (hi : i < n) (hn : n ≤ 1048576) (hp : (F i).p ≤ 1048576) (hq : (F i).q ≤ 1048576) (hm : -9223372036854775808 ≤ (F i).a.m ∧ (F i).a.m ≤ 9223372036854775807) :
    Calls Tryz.prog 81 #[v,.int .i64 (i:Int)] w fun e w'=>e = .returned (.bool (dc (ndk nmp flp F i)))∧Kz w w':=by
  rw [dc_iff (ndk_iff hm)]
  by_cases h1 : 1≤(F i).a.k∧(F i).a.k≤16
  · rw [dc_iff (and_iff_right (show kok (F i).a.k from .inl h1))]
    exact im_shaped_s w hg hf i hi hn hp hq h1
  · by_cases h2 : 20≤(F i).a.k∧(F i).a.k≤37
    · rw [dc_iff (and_iff_right (show kok (F i).a.k from .inr (.inl h2)))]
      exact im_shaped_e w hg hf i hi hn hp hq h2
    · by_cases h3 : 40≤(F i).a.k∧(F i).a.k≤42
      · rw [dc_iff (and_iff_right (show kok (F i).a.k from .inr (.inr h3)))]
        exact im_shaped_t w hg hf i hi hn hp hq h3
      · rw [dc_f (fun h=>by have:=h.1;unfold kok at this;omega)]
        exact im_shaped_n w hf i hi hn ⟨h1,h2,h3⟩
inductive Mis (F:Nat→Gv) (n:Nat):Int→Prop
  | at (i:Nat):i < n→(∀ j,j < i→ndk nmp flp F j)→¬ ndk nmp flp F i→Mis F n (i:Int)
  | none:(∀ j,j < n→ndk nmp flp F j)→Mis F n (-1)
theorem im_misshapen {v : Value} {n : Nat} {F : Nat → Gv} (w : World) (hg : Gd w) (hf : RowF w v n F) (hn : n ≤ 1048576) (hp : ∀ i, i < n → (F i).p ≤ 1048576) (hq : ∀ i, i < n → (F i).q ≤ 1048576) (hm : ∀ i, i < n → -9223372036854775808 ≤ (F i).a.m ∧ (F i).a.m ≤ 9223372036854775807) :
    Calls Tryz.prog 46 #[v] w fun e w'=>∃ r:Int,e = .returned (.int .i64 r)∧Mis F n r∧Kz w w':=by
  have HC:Hid (∀ W i,Kz w W→i < n→Calls Tryz.prog 81 #[v,.int .i64 (i:Int)] W fun e w'=>e = .returned (.bool (dc (ndk nmp flp F i)))∧Kz W w'):=(fun W i hz hi=>im_shaped W (hz.gd hg) (hf.kz hz) i hi hn (hp i hi) (hq i hi) (hm i hi):∀ W i,_)
  obtain ⟨pf,cf,rfl,_⟩:=hf
  have hnI:(n:Int)≤1048576:=by omega
  clear hg hn hp hq hm
  go_enter Tryz.func46,Tryz.ntmps46
  go_wp2_with fail
  go_loopw [6] (fun s6 wr=>∃ i:Nat,s6 = .int .i64 (i:Int)∧i≤n∧Hid (Kz w wr∧∀ j,j < i→ndk nmp flp F j)) (fun s6 _=>n - (intOf s6).toNat)
  case atStart=>exact ⟨0,rfl,Nat.zero_le _,(⟨Kz.refl _,fun j hj=>by omega⟩:_∧_)⟩
  case round =>
    obtain ⟨i,rfl,hin,HI⟩:=hrel
    obtain ⟨hz,ha⟩:=(show Kz w wr∧∀ j,j < i→ndk nmp flp F j from HI)
    rcases Nat.lt_or_ge i n with hi | hi
    · have hiI:(i:Int) < (n:Int):=by omega
      have hc:=(show ∀ W i,_ from HC) wr i hz hi
      by_cases hd:ndk nmp flp F i
      · rw [dc_t hd] at hc
        have HX:Hid (Kz w wr∧∀ j,j < i+1→ndk nmp flp F j):=(⟨hz,fun j hj=>by
          by_cases e:j=i
          · rw [e];exact hd
          · exact ha j (by omega)⟩:_∧_)
        clear HI hz ha hd HC
        go_wp2_with fail
        refine hc.mono ?_
        rintro e w1 ⟨rfl,k1⟩
        have HX1:Hid (Kz w w1∧∀ j,j < i+1→ndk nmp flp F j):=(⟨HX.1.trans k1,HX.2⟩:_∧_)
        clear hc k1 HX
        go_wp2_with fail
        go_roundw
        case rel=>exact ⟨i+1,by go_num,by omega,HX1⟩
        case measure=>simp [intOf];omega
      · rw [dc_f hd] at hc
        have HX:Hid (Kz w wr∧Mis F n (i:Int)):=(⟨hz,.at i hi ha hd⟩:_∧_)
        clear HI hz ha hd HC
        go_wp2_with fail
        refine hc.mono ?_
        rintro e w1 ⟨rfl,k1⟩
        have HX1:Hid (Kz w w1∧Mis F n (i:Int)):=(⟨HX.1.trans k1,HX.2⟩:_∧_)
        clear hc k1 HX
        go_wp2_with fail
        go_ret
        exact ⟨(i:Int),rfl,HX1.2,HX1.1⟩
    · obtain rfl:i=n:=by omega
      have HX:Hid (Kz w wr∧Mis F i (-1)):=(⟨hz,.none ha⟩:_∧_)
      clear HI hz ha HC
      go_wp2_with fail
      go_ret
      exact ⟨-1,rfl,HX.2,HX.1⟩
theorem im_ends {v : Value} {n : Nat} {F : Nat → Gv} (w : World) (hf : RowF w v n F) (hn : n ≤ 1048576) :
    Calls Tryz.prog 45 #[v] w fun e w'=>e = .returned (.bool (dc (0 < n∧n≤3000∧(F (n - 1)).a.k=1)))∧Kz w w':=by
  obtain ⟨pf,cf,rfl,hf2⟩:=hf
  have hnI:(n:Int)≤1048576:=by omega
  rcases Nat.eq_zero_or_pos n with h0 | h0
  · subst h0
    rw [dc_f (by omega)]
    clear hf2
    go_enter Tryz.func45,Tryz.ntmps45
    go_wp2_with fail
    go_ret
    exact ⟨rfl,.refl _⟩
  · have h0' : 0 < (n:Int):=by omega
    rcases Nat.lt_or_ge 3000 n with h1 | h1
    · rw [dc_f (by omega)]
      have h1':¬ (n:Int)≤3000:=by omega
      clear hf2
      go_enter Tryz.func45,Tryz.ntmps45
      go_wp2_with fail
      go_ret
      exact ⟨rfl,.refl _⟩
    · obtain ⟨c,rfl,hcc,hrc⟩:=hf2 h0
      have h1':(n:Int)≤3000:=by omega
      obtain ⟨vn,vk,hc,_,_⟩:=hrc (n - 1) (by omega)
      obtain ⟨m,hm⟩:∃ m:Nat,m=n - 1:=⟨_,rfl⟩
      rw [← hm] at hc ⊢
      have hm1:(n:Int) - 1=(m:Int):=by omega
      have hm2:(m:Int) < (n:Int):=by omega
      have d0:=hc.c0
      by_cases hk:(F m).a.k=1
      · rw [dc_t ⟨h0,h1,hk⟩]
        have hk':=beq1 hk
        clear hf2 hrc hc hm hk
        go_enter Tryz.func45,Tryz.ntmps45
        go_wp2_with fail
        go_ret
        exact ⟨rfl,.refl _⟩
      · rw [dc_f (fun z=>hk z.2.2)]
        have hk':=bne hk
        clear hf2 hrc hc hm hk
        go_enter Tryz.func45,Tryz.ntmps45
        go_wp2_with fail
        go_ret
        exact ⟨rfl,.refl _⟩
end Go.Proofs.YtjggnnmnegcpjaaGreatDoor.Fo
