import Derived.Test.YtfpidccjcemcjaaGreatMZsq
import Derived.Test.YtfpidccjcemcjaaGreatMNdl
import Derived.Test.YtfpidccjcemcjaaGreatMNbi
set_option maxHeartbeats 16000000
namespace Go.Proofs.YtfpidccjcemcjaaGreat.Fo
open Go.ChangeShapes Go.WideShapes Go.ChangeAt Go.RowKit
set_option linter.unusedVariables false
set_option maxRecDepth 100000
structure Mth (t:TypeId) (fr fk:Nat):Prop where
 row:∀ v W,Sem.run Tryz.prog (Go.method 275 t v "loop.example/heddle/impl.row") W = .ok (fr,v) W
 tak:∀ v W,Sem.run Tryz.prog (Go.method 275 t v "loop.example/heddle/impl.takes") W = .ok (fk,v) W
 nla:∀ v W,Sem.run Tryz.prog (Go.nilAhead 275 t v "loop.example/heddle/impl.takes") W = .ok (some false) W
theorem mth_s:Mth 150 127 128:=⟨fun _ _=>by kernel_rfl,fun _ _=>by kernel_rfl,fun _ _=>by kernel_rfl⟩
theorem mth_x:Mth 151 132 133:=⟨fun _ _=>by kernel_rfl,fun _ _=>by kernel_rfl,fun _ _=>by kernel_rfl⟩
theorem im_shape_g {TT FR FT : Nat} (mth : Mth TT FR FT) (eR : ∀ args w, (callFunc FR args).run Tryz.prog w = .ok (.enter FR args) w) (eT : ∀ args w, (callFunc FT args).run Tryz.prog w = .ok (.enter FT args) w) {A : Addr} {n ca t : Nat} {N : Nat → Nd} {a : Nv} {pr pk : Option Addr} {p cr q ck : Nat} {K : Nat → Int} (w : World)
    (hn:n≤1048576) (ht:t < n) (hp:p≤1048576) (hq:q≤1048576) (hg:a.g < 18446744073709551616)
    (hcel:CelN w (A.add (t*8)) a (.slice pr p cr) (.slice pk q ck)) (hra:∀ i,i < n→NodeC 0 w (A.add (i*8)) (N i)) (hab:∀ i,i < n→0≤(A.add (i*8)).block) (hk:RowB 0 w (.slice pk q ck) q (fun i=>.int .i64 (K i)))
    (hso:∀ W,Calls Tryz.prog 94 #[.agg #[.int .i64 a.k,.int .i64 a.l,.int .i64 a.o,.int .i64 a.m,.float .f64 a.g,.string a.x,.slice pr p cr,.slice pk q ck]] W fun e w'=>e = .returned (.iface TT (.agg #[.int .i64 a.k,.int .i64 a.l,.int .i64 a.o,.int .i64 a.m,.float .f64 a.g,.string a.x,.slice pr p cr,.slice pk q ck]))∧Kb 0 W w') (hrw:∀ W,Calls Tryz.prog FR #[.agg #[.int .i64 a.k,.int .i64 a.l,.int .i64 a.o,.int .i64 a.m,.float .f64 a.g,.string a.x,.slice pr p cr,.slice pk q ck]] W fun e w'=>e = .returned (.agg #[.int .i64 (rwk a.k q).l1,.int .i64 (rwk a.k q).l2,.int .i64 (rwk a.k q).o1,.int .i64 (rwk a.k q).o2,.int .i64 (rwk a.k q).m1,.int .i64 (rwk a.k q).m2,.int .i64 (rwk a.k q).r1,.int .i64 (rwk a.k q).r2,.int .i64 (rwk a.k q).k1,.int .i64 (rwk a.k q).k2,.bool (rwk a.k q).f,.bool (rwk a.k q).x])∧Kb 0 W w') (hal:∀ W,Calls Tryz.prog 95 #[.agg #[.int .i64 (rwk a.k q).l1,.int .i64 (rwk a.k q).l2,.int .i64 (rwk a.k q).o1,.int .i64 (rwk a.k q).o2,.int .i64 (rwk a.k q).m1,.int .i64 (rwk a.k q).m2,.int .i64 (rwk a.k q).r1,.int .i64 (rwk a.k q).r2,.int .i64 (rwk a.k q).k1,.int .i64 (rwk a.k q).k2,.bool (rwk a.k q).f,.bool (rwk a.k q).x],.agg #[.int .i64 a.k,.int .i64 a.l,.int .i64 a.o,.int .i64 a.m,.float .f64 a.g,.string a.x,.slice pr p cr,.slice pk q ck]] W fun e w'=>e = .returned (.bool (dc (alw (rwk a.k q) a p q)))∧Kb 0 W w') (htk:∀ W (i:Nat) (c:Int),i≤q→Calls Tryz.prog FT #[.agg #[.int .i64 a.k,.int .i64 a.l,.int .i64 a.o,.int .i64 a.m,.float .f64 a.g,.string a.x,.slice pr p cr,.slice pk q ck],.int .i64 (i:Int),.int .i64 c] W fun e w'=>e = .returned (.bool (dc (Tkp a q i c)))∧Kb 0 W w') :
    Calls Tryz.prog 81 #[.slice (some A) n ca,.int .i64 (t:Int)] w fun e w'=>e = .returned (.bool (dc (alw (rwk a.k q) a p q∧(∀ i,i < q→0≤K i∧K i < (t:Int)∧Tkp a q i (kz N (K i)))∧(a.k=35→Tbl N a q K))))∧Kb 0 w w':=by
  obtain ⟨d0,d1,d2,d3,d4,d5,d6,d7⟩:=hcel
  have hnI:(n:Int)≤1048576:=by omega
  have hpI:(p:Int)≤1048576:=by omega
  have hqI:(q:Int)≤1048576:=by omega
  have htI:(t:Int) < (n:Int):=by omega
  have hst:=hst0
  obtain ⟨R,hR⟩:∃ R,R=dc (alw (rwk a.k q) a p q∧(∀ i,i < q→0≤K i∧K i < (t:Int)∧Tkp a q i (kz N (K i)))∧(a.k=35→Tbl N a q K)):=⟨_,rfl⟩
  rw [← hR]
  have HR:Hid (R=dc (alw (rwk a.k q) a p q∧(∀ i,i < q→0≤K i∧K i < (t:Int)∧Tkp a q i (kz N (K i)))∧(a.k=35→Tbl N a q K))):=hR
  have HSO:Hid (∀ W,Calls Tryz.prog 94 #[.agg #[.int .i64 a.k,.int .i64 a.l,.int .i64 a.o,.int .i64 a.m,.float .f64 a.g,.string a.x,.slice pr p cr,.slice pk q ck]] W fun e w'=>e = .returned (.iface TT (.agg #[.int .i64 a.k,.int .i64 a.l,.int .i64 a.o,.int .i64 a.m,.float .f64 a.g,.string a.x,.slice pr p cr,.slice pk q ck]))∧Kb 0 W w'):=hso
  have HRW:Hid (∀ W,Calls Tryz.prog FR #[.agg #[.int .i64 a.k,.int .i64 a.l,.int .i64 a.o,.int .i64 a.m,.float .f64 a.g,.string a.x,.slice pr p cr,.slice pk q ck]] W fun e w'=>e = .returned (.agg #[.int .i64 (rwk a.k q).l1,.int .i64 (rwk a.k q).l2,.int .i64 (rwk a.k q).o1,.int .i64 (rwk a.k q).o2,.int .i64 (rwk a.k q).m1,.int .i64 (rwk a.k q).m2,.int .i64 (rwk a.k q).r1,.int .i64 (rwk a.k q).r2,.int .i64 (rwk a.k q).k1,.int .i64 (rwk a.k q).k2,.bool (rwk a.k q).f,.bool (rwk a.k q).x])∧Kb 0 W w'):=hrw
  have HAL0:Hid (∀ W,Calls Tryz.prog 95 #[.agg #[.int .i64 (rwk a.k q).l1,.int .i64 (rwk a.k q).l2,.int .i64 (rwk a.k q).o1,.int .i64 (rwk a.k q).o2,.int .i64 (rwk a.k q).m1,.int .i64 (rwk a.k q).m2,.int .i64 (rwk a.k q).r1,.int .i64 (rwk a.k q).r2,.int .i64 (rwk a.k q).k1,.int .i64 (rwk a.k q).k2,.bool (rwk a.k q).f,.bool (rwk a.k q).x],.agg #[.int .i64 a.k,.int .i64 a.l,.int .i64 a.o,.int .i64 a.m,.float .f64 a.g,.string a.x,.slice pr p cr,.slice pk q ck]] W fun e w'=>e = .returned (.bool (dc (alw (rwk a.k q) a p q)))∧Kb 0 W w'):=hal
  have HTK:Hid (∀ W (i:Nat) (c:Int),i≤q→Calls Tryz.prog FT #[.agg #[.int .i64 a.k,.int .i64 a.l,.int .i64 a.o,.int .i64 a.m,.float .f64 a.g,.string a.x,.slice pr p cr,.slice pk q ck],.int .i64 (i:Int),.int .i64 c] W fun e w'=>e = .returned (.bool (dc (Tkp a q i c)))∧Kb 0 W w'):=htk
  have HRA:Hid ((∀ i,i < n→NodeC 0 w (A.add (i*8)) (N i))∧RowB 0 w (.slice pk q ck) q (fun i=>.int .i64 (K i))∧n≤1048576∧q≤1048576∧t < n):=(⟨hra,hk,hn,hq,ht⟩:_∧_)
  have mt1:=mth.row
  have mt2:=mth.tak
  have mt3:=mth.nla
  clear hR hso hrw hal htk hra hk hn hp hq hg mth hab ht
  go_enter Tryz.func81,Tryz.ntmps81
  go_wp2_with fail
  refine ((uh HSO) _).mono ?_
  rintro e w2 ⟨rfl,kk2⟩
  have KW2:Kb 0 w w2:=(kb_alloc _ _ _).trans kk2
  have s1:w2.cell? ⟨w.heap.size,0,none⟩=some (.int .i64 a.k)∧w2.cell? ⟨w.heap.size,1,none⟩=some (.int .i64 a.l)∧w2.cell? ⟨w.heap.size,2,none⟩=some (.int .i64 a.o)∧w2.cell? ⟨w.heap.size,3,none⟩=some (.int .i64 a.m)∧w2.cell? ⟨w.heap.size,4,none⟩=some (.float .f64 a.g)∧w2.cell? ⟨w.heap.size,5,none⟩=some (.string a.x)∧w2.cell? ⟨w.heap.size,6,none⟩=some (.slice pr p cr)∧w2.cell? ⟨w.heap.size,7,none⟩=some (.slice pk q ck):=⟨kk2.cell (cell_of (alloc_new _ _ _) rfl),kk2.cell (cell_of (alloc_new _ _ _) rfl),kk2.cell (cell_of (alloc_new _ _ _) rfl),kk2.cell (cell_of (alloc_new _ _ _) rfl),kk2.cell (cell_of (alloc_new _ _ _) rfl),kk2.cell (cell_of (alloc_new _ _ _) rfl),kk2.cell (cell_of (alloc_new _ _ _) rfl),kk2.cell (cell_of (alloc_new _ _ _) rfl)⟩
  have HCELL:Hid (∀ W,Kb 0 w2 W→W.cell? ⟨w.heap.size,0,none⟩=some (.int .i64 a.k)∧W.cell? ⟨w.heap.size,1,none⟩=some (.int .i64 a.l)∧W.cell? ⟨w.heap.size,2,none⟩=some (.int .i64 a.o)∧W.cell? ⟨w.heap.size,3,none⟩=some (.int .i64 a.m)∧W.cell? ⟨w.heap.size,4,none⟩=some (.float .f64 a.g)∧W.cell? ⟨w.heap.size,5,none⟩=some (.string a.x)∧W.cell? ⟨w.heap.size,6,none⟩=some (.slice pr p cr)∧W.cell? ⟨w.heap.size,7,none⟩=some (.slice pk q ck)):=(fun W k=>⟨k.cell s1.1,k.cell s1.2.1,k.cell s1.2.2.1,k.cell s1.2.2.2.1,k.cell s1.2.2.2.2.1,k.cell s1.2.2.2.2.2.1,k.cell s1.2.2.2.2.2.2.1,k.cell s1.2.2.2.2.2.2.2⟩:∀ W,_)
  clear kk2 HSO d0 d1 d2 d3 d4 d5 d6 d7
  by_cases hal:alw (rwk a.k q) a p q
  case neg =>
    have hF:R=false:=by
      rw [show R=dc (alw (rwk a.k q) a p q∧(∀ i,i < q→0≤K i∧K i < (t:Int)∧Tkp a q i (kz N (K i)))∧(a.k=35→Tbl N a q K)) from HR]
      exact dc_f (fun g=>hal g.1)
    subst hF
    rw [dc_f hal] at HAL0
    have HAL:Hid (∀ W,Calls Tryz.prog 95 #[.agg #[.int .i64 (rwk a.k q).l1,.int .i64 (rwk a.k q).l2,.int .i64 (rwk a.k q).o1,.int .i64 (rwk a.k q).o2,.int .i64 (rwk a.k q).m1,.int .i64 (rwk a.k q).m2,.int .i64 (rwk a.k q).r1,.int .i64 (rwk a.k q).r2,.int .i64 (rwk a.k q).k1,.int .i64 (rwk a.k q).k2,.bool (rwk a.k q).f,.bool (rwk a.k q).x],.agg #[.int .i64 a.k,.int .i64 a.l,.int .i64 a.o,.int .i64 a.m,.float .f64 a.g,.string a.x,.slice pr p cr,.slice pk q ck]] W fun e w'=>e = .returned (.bool (false))∧Kb 0 W w'):=HAL0
    clear HAL0 HR hal HTK HRA
    go_wp2_with fail
    go_region_held_law (fun W'=>W'.cell? ⟨w.heap.size,0,none⟩=some (.int .i64 a.k)∧W'.cell? ⟨w.heap.size,1,none⟩=some (.int .i64 a.l)∧W'.cell? ⟨w.heap.size,2,none⟩=some (.int .i64 a.o)∧W'.cell? ⟨w.heap.size,3,none⟩=some (.int .i64 a.m)∧W'.cell? ⟨w.heap.size,4,none⟩=some (.float .f64 a.g)∧W'.cell? ⟨w.heap.size,5,none⟩=some (.string a.x)∧W'.cell? ⟨w.heap.size,6,none⟩=some (.slice pr p cr)∧W'.cell? ⟨w.heap.size,7,none⟩=some (.slice pk q ck)) (first | exact s3 | exact s2 | exact s1)
      (first
        | (refine ((uh HRW) _).mono ?_;rintro e x1 ⟨rfl,k1⟩;have K1:Kb 0 w x1:=KW2.trans ⟨k1.os,k1.output,k1.size,k1.block⟩;have s2:=(uh HCELL) x1 ⟨k1.os,k1.output,k1.size,k1.block⟩;have K1b:Kb 0 w2 x1:=⟨k1.os,k1.output,k1.size,k1.block⟩)
        | (go_at_call 95;refine ((uh HAL) _).mono ?_;rintro e x2 ⟨rfl,k2⟩;have K2:Kb 0 w x2:=K1.trans ⟨k2.os,k2.output,k2.size,k2.block⟩;have K2b:Kb 0 w2 x2:=K1b.trans ⟨k2.os,k2.output,k2.size,k2.block⟩;have s3:=(uh HCELL) x2 K2b))
    have HK2:Hid (Kb 0 w x2):=K2
    clear s1 s2 s3 K1 K2 K1b K2b k1 k2 HAL HRW HCELL KW2 mt1 mt2 mt3
    go_wp2_with fail
    go_ret
    exact ⟨rfl,HK2⟩
  rw [dc_t hal] at HAL0
  have HAL:Hid (∀ W,Calls Tryz.prog 95 #[.agg #[.int .i64 (rwk a.k q).l1,.int .i64 (rwk a.k q).l2,.int .i64 (rwk a.k q).o1,.int .i64 (rwk a.k q).o2,.int .i64 (rwk a.k q).m1,.int .i64 (rwk a.k q).m2,.int .i64 (rwk a.k q).r1,.int .i64 (rwk a.k q).r2,.int .i64 (rwk a.k q).k1,.int .i64 (rwk a.k q).k2,.bool (rwk a.k q).f,.bool (rwk a.k q).x],.agg #[.int .i64 a.k,.int .i64 a.l,.int .i64 a.o,.int .i64 a.m,.float .f64 a.g,.string a.x,.slice pr p cr,.slice pk q ck]] W fun e w'=>e = .returned (.bool (true))∧Kb 0 W w'):=HAL0
  have HR2:Hid (R=dc ((∀ i,i < q→0≤K i∧K i < (t:Int)∧Tkp a q i (kz N (K i)))∧(a.k=35→Tbl N a q K))):=by
    rw [show R=dc (alw (rwk a.k q) a p q∧(∀ i,i < q→0≤K i∧K i < (t:Int)∧Tkp a q i (kz N (K i)))∧(a.k=35→Tbl N a q K)) from HR]
    exact dc_iff ⟨fun h=>h.2,fun h=>⟨hal,h⟩⟩
  clear HAL0 HR hal
  go_wp2_with fail
  go_region_held_law (fun W'=>W'.cell? ⟨w.heap.size,0,none⟩=some (.int .i64 a.k)∧W'.cell? ⟨w.heap.size,1,none⟩=some (.int .i64 a.l)∧W'.cell? ⟨w.heap.size,2,none⟩=some (.int .i64 a.o)∧W'.cell? ⟨w.heap.size,3,none⟩=some (.int .i64 a.m)∧W'.cell? ⟨w.heap.size,4,none⟩=some (.float .f64 a.g)∧W'.cell? ⟨w.heap.size,5,none⟩=some (.string a.x)∧W'.cell? ⟨w.heap.size,6,none⟩=some (.slice pr p cr)∧W'.cell? ⟨w.heap.size,7,none⟩=some (.slice pk q ck)) (first | exact s3 | exact s2 | exact s1)
    (first
      | (refine ((uh HRW) _).mono ?_;rintro e x1 ⟨rfl,k1⟩;have K1:Kb 0 w x1:=KW2.trans ⟨k1.os,k1.output,k1.size,k1.block⟩;have s2:=(uh HCELL) x1 ⟨k1.os,k1.output,k1.size,k1.block⟩;have K1b:Kb 0 w2 x1:=⟨k1.os,k1.output,k1.size,k1.block⟩)
      | (go_at_call 95;refine ((uh HAL) _).mono ?_;rintro e x2 ⟨rfl,k2⟩;have K2:Kb 0 w x2:=K1.trans ⟨k2.os,k2.output,k2.size,k2.block⟩;have K2b:Kb 0 w2 x2:=K1b.trans ⟨k2.os,k2.output,k2.size,k2.block⟩;have s3:=(uh HCELL) x2 K2b))
  have HK2:Hid (Kb 0 w x2):=K2
  obtain ⟨c0,c1,c2,c3,c4,c5,c6,c7⟩:=s3
  clear s1 s2 K1 K2 K1b k1 k2 HAL HRW KW2
  have HC3:Hid (∀ W,Kb 0 x2 W→W.cell? ⟨w.heap.size,0,none⟩=some (.int .i64 a.k)∧W.cell? ⟨w.heap.size,1,none⟩=some (.int .i64 a.l)∧W.cell? ⟨w.heap.size,2,none⟩=some (.int .i64 a.o)∧W.cell? ⟨w.heap.size,3,none⟩=some (.int .i64 a.m)∧W.cell? ⟨w.heap.size,4,none⟩=some (.float .f64 a.g)∧W.cell? ⟨w.heap.size,5,none⟩=some (.string a.x)∧W.cell? ⟨w.heap.size,6,none⟩=some (.slice pr p cr)∧W.cell? ⟨w.heap.size,7,none⟩=some (.slice pk q ck)):=(fun W k=>(uh HCELL) W (K2b.trans k):∀ W,_)
  clear HCELL K2b mt1
  go_wp2_with fail
  clear c0 c1 c2 c3 c4 c5 c6 c7
  go_loopw [27] (fun s27 wr=>∃ i:Nat,s27 = .int .i64 (i:Int)∧i≤q∧Hid (Kb 0 w wr∧Kb 0 x2 wr∧∀ y,y < i→0≤K y∧K y < (t:Int)∧Tkp a q y (kz N (K y)))) (fun s27 _=>q - (intOf s27).toNat)
  case atStart=>exact ⟨0,rfl,Nat.zero_le _,(⟨HK2,Kb.refl _ _,fun y h=>by omega⟩:_∧_∧_)⟩
  case round =>
    clear HK2
    obtain ⟨i,rfl,hi,HX⟩:=hrel
    obtain ⟨kw,kx,hX⟩:=(uh HX)
    obtain ⟨hra,hrow,hn,hq,ht⟩:=(uh HRA)
    rcases Nat.lt_or_ge i q with h | h
    · have hI:(i:Int) < (q:Int):=by omega
      obtain ⟨pk',ck',e1,hrow2⟩:=hrow.keep kw
      obtain ⟨rfl,-,rfl⟩:pk=pk'∧q=q∧ck=ck':=by simpa using e1
      obtain ⟨b,rfl,hcb,-,hrb⟩:=hrow2 (by omega)
      have qa:wr.cell? (b.add i)=some (.int .i64 (K i)):=hrb i h
      have HKW:Hid (Kb 0 w wr):=kw
      rcases Int.lt_or_le (K i) 0 with g0 | g0
      · have hF : R = false := by
          rw [show R = _ from HR2]
          exact dc_f (fun z=>by have:=(z.1 i h).1;omega)
        subst hF
        clear HX hX HR2 HRA HTK HC3 hra hrow hrow2 hrb e1 kw kx hn hq ht mt2 mt3
        generalize K i=kz0 at *
        go_wp2_with fail
        go_quiet (skip)
        go_wp2_with fail
        go_ret
        exact ⟨rfl,by first | exact HKW | exact Kb.drewN HKW _⟩
      · have g0':¬ K i < 0:=by omega
        rcases Int.lt_or_le (K i) (t:Int) with g1 | g1
        · obtain ⟨kn,hkn⟩:=Int.eq_ofNat_of_zero_le g0
          have hknt:kn < n:=by omega
          have hz:kz N (K i)=(N kn).a.k:=by unfold kz;rw [hkn,Int.toNat_natCast]
          obtain ⟨_,_,⟨f0,-,-,-,-,-,-,-⟩,-,-⟩:=hra kn hknt
          have f1:=kw.cell f0
          rw [hkn] at qa
          obtain ⟨cc,hcc⟩:∃ cc,cc=(N kn).a.k:=⟨_,rfl⟩
          rw [← hcc] at f0 f1 hz
          have HT1:Hid (∀ W,Calls Tryz.prog FT #[.agg #[.int .i64 a.k,.int .i64 a.l,.int .i64 a.o,.int .i64 a.m,.float .f64 a.g,.string a.x,.slice pr p cr,.slice (some b) q ck],.int .i64 (i:Int),.int .i64 cc] W fun e w'=>e = .returned (.bool (dc (Tkp a q i cc)))∧Kb 0 W w'):=(fun W=>(uh HTK) W i cc (by omega):∀ W,_)
          have HCC:Hid (∀ W,Kb 0 wr W→W.cell? (A.add (kn*8))=some (.int .i64 cc)):=(fun W k=>k.cell f1:∀ W,_)
          have HY:Hid (Tkp a q i cc→∀ y,y < i+1→0≤K y∧K y < (t:Int)∧Tkp a q y (kz N (K y))):=(fun hh y hy=>by
            by_cases e:y=i
            · subst e;rw [hz];exact ⟨g0,g1,hh⟩
            · exact hX y (by omega):_→∀ y,_)
          have HNO:Hid (¬ Tkp a q i cc→R=false):=(fun hh=>by
            rw [show R = _ from HR2]
            exact dc_f (fun z=>hh (by have:=(z.1 i h).2.2;rw [hz] at this;exact this)):_→_)
          have g1':(kn:Int) < (t:Int):=by omega
          have g2':¬ (t:Int)≤(kn:Int):=by omega
          have g3':(kn:Int) < (n:Int):=by omega
          have HKX:Hid (Kb 0 x2 wr):=kx
          clear HX hX HRA HTK hra hrow hrow2 hrb e1 kw kx hn hq hkn hz hcc f0 g0 g0' g1 hknt h ht hi
          generalize K i=kz0 at *
          go_wp2_with fail
          have g0d:((kn:Int) < 0)=False:=eq_false (by omega)
          have g1d:((t:Int)≤(kn:Int))=False:=eq_false (by omega)
          go_region_held_law (fun W'=>W'.cell? (A.add (kn*8))=some (.int .i64 cc)) (first | exact s2 | exact f1)
            ((refine ((uh HT1) _).mono ?_;rintro e x3 ⟨rfl,k3⟩;have K3:Kb 0 wr x3:=⟨k3.os,k3.output,k3.size,k3.block⟩;have s2:=(uh HCC) x3 K3))
          have HK3:Hid (Kb 0 w x3∧Kb 0 x2 x3):=(⟨(uh HKW).trans K3,(uh HKX).trans K3⟩:_∧_)
          clear s2 K3 k3 f1 HT1 HCC HKW HKX g0d g1d
          by_cases hh:Tkp a q i cc
          · rw [dc_t hh]
            have HY2:Hid (Kb 0 w x3∧Kb 0 x2 x3∧∀ y,y < i+1→0≤K y∧K y < (t:Int)∧Tkp a q y (kz N (K y))):=(⟨HK3.1,HK3.2,HY hh⟩:_∧_∧_)
            clear hh HY HNO HK3
            go_wp2_with fail
            go_roundw
            case rel=>exact ⟨i+1,by go_num,by omega,HY2⟩
            case measure=>simp [intOf];omega
          · rw [dc_f hh]
            have hF:R=false:=HNO hh
            subst hF
            clear hh HY HNO HR2
            go_wp2_with fail
            go_ret
            exact ⟨rfl,HK3.1⟩
        · have hF : R = false := by
            rw [show R = _ from HR2]
            exact dc_f (fun z=>by have:=(z.1 i h).2.1;omega)
          subst hF
          clear HX hX HR2 HRA HTK HC3 hra hrow hrow2 hrb e1 kw kx hn hq ht mt2 mt3 g0
          generalize K i=kz0 at *
          go_wp2_with fail
          have g0d:(kz0 < 0)=False:=eq_false (by omega)
          have g1d:((t:Int)≤kz0)=True:=eq_true (by omega)
          go_quiet (skip)
          go_wp2_with fail
          go_ret
          exact ⟨rfl,by first | exact HKW | exact Kb.drewN HKW _⟩
    · obtain rfl:i=q:=by omega
      have hF:R=dc (a.k=35→Tbl N a i K):=by
        rw [show R = _ from HR2]
        exact dc_iff ⟨fun h=>h.2,fun h=>⟨hX,h⟩⟩
      obtain ⟨c0,c1,c2,c3,c4,c5,c6,c7⟩:=(uh HC3) wr kx
      have HKW:Hid (Kb 0 w wr):=kw
      by_cases hk:a.k=35
      · have hT:=fun (W:World) (k:Kb 0 w W)=>im_table (N:=N) (A:=A) (n:=n) (ca:=ca) (t:=t) a pr p cr pk i ck K W hn hq ht (fun j hj=>(hra j hj).keep zq k) (hrow.keep k) (fun j hj=>⟨(hX j hj).1,(hX j hj).2.1⟩)
        rw [dc_iff ⟨fun h=>h hk,fun h _=>h⟩] at hF
        unfold ndv at hT
        have HT:Hid (Calls Tryz.prog 96 #[.slice (some A) n ca,.agg #[.int .i64 a.k,.int .i64 a.l,.int .i64 a.o,.int .i64 a.m,.float .f64 a.g,.string a.x,.slice pr p cr,.slice pk i ck]] wr fun e w'=>e = .returned (.bool (dc (Tbl N a i K)))∧Kb 0 wr w'):=hT wr kw
        subst hF
        have gk:(a.k != 35)=false:=by simp [hk]
        have gk2:=beq1 hk
        clear HX hX HR2 HRA HTK HC3 hra hrow kw kx hn hq ht mt2 mt3 hT h hk
        go_wp2_with fail
        refine (uh HT).mono ?_
        rintro e w9 ⟨rfl,k9⟩
        have HK9:Hid (Kb 0 w w9):=(uh HKW).trans k9
        clear k9 HT c0 c1 c2 c3 c4 c5 c6 c7
        go_wp2_with fail
        go_ret
        exact ⟨rfl,HK9⟩
      · rw [dc_t (fun h=>absurd h hk)] at hF
        subst hF
        have gk:(a.k != 35)=true:=by simp [hk]
        have gk2:=bne hk
        clear HX hX HR2 HRA HTK HC3 hra hrow kw kx hn hq ht mt2 mt3 h hk
        go_wp2_with fail
        go_ret
        exact ⟨rfl,HKW⟩
def kd (N:Nat→Nd) (t i:Nat):Int:=if i < (N t).q then (if 0≤(N t).K i∧(N t).K i < (t:Int) then (N ((N t).K i).toNat).a.k else 0) else 0
theorem sp_kid {va : Value} {n : Nat} {N : Nat → Nd} (w : World) (ha : RowN 0 w va n N) (hn : n ≤ 1048576) (t i : Nat) (ht : t < n) (hi : i ≤ 1048576) (hq : (N t).q ≤ 1048576) :
  Calls Tryz.prog 71 #[va,.int .i64 (t:Int),.int .i64 (i:Int)] w fun e w'=>e = .returned (.int .i64 (kd N t i))∧w'=w:=by
 obtain ⟨pa,ca,rfl,ha2⟩:=ha
 obtain ⟨a,rfl,hca,-,hra⟩:=ha2 (by omega)
 obtain ⟨vr,vk,⟨d0,d1,d2,d3,d4,d5,d6,d7⟩,-,hk⟩:=hra t ht
 obtain ⟨pk,ck,rfl,hk2⟩:=hk
 have hnI:(n:Int)≤1048576:=by omega
 have hqI:((N t).q:Int)≤1048576:=by omega
 have hiI:(i:Int)≤1048576:=by omega
 have htI:(t:Int) < (n:Int):=by omega
 unfold kd
 rcases Nat.lt_or_ge i (N t).q with h | h
 ·rw [if_pos h]
  obtain ⟨b,rfl,hcb,-,hrb⟩:=hk2 (by omega)
  have e0:w.cell? (b.add i)=some (.int .i64 ((N t).K i)):=hrb i h
  have hI:(i:Int) < ((N t).q:Int):=by omega
  have hI':¬ ((N t).q:Int)≤(i:Int):=by omega
  by_cases c : 0≤(N t).K i∧(N t).K i < (t:Int)
  ·rw [if_pos c]
   obtain ⟨j,hj⟩:=Int.eq_ofNat_of_zero_le c.1
   obtain ⟨_,_,⟨f0,f1,f2,f3,f4,f5,f6,f7⟩,-,-⟩:=hra j (by omega)
   rw [hj,Int.toNat_natCast]
   rw [hj] at e0
   have c1:(j:Int) < (t:Int):=by omega
   have c2:¬ (t:Int)≤(j:Int):=by omega
   have c3:(j:Int) < (n:Int):=by omega
   clear hra hrb hk2 ha2 d0 d1 d2 d3 d4 d5 d6 f1 f2 f3 f4 f5 f6 f7 c hj hn hi hq h ht
   generalize (N j).a.k=y at *
   generalize (N t).q=q at *
   go_enter Tryz.func71,Tryz.ntmps71
   go_wp2_with fail
   go_ret
   exact ⟨rfl,rfl⟩
  ·rw [if_neg c]
   generalize (N t).K i=z at *
   rcases Int.lt_or_le z 0 with c1 | c1
   ·clear hra hrb hk2 ha2 d0 d1 d2 d3 d4 d5 d6 c hn hi hq h ht
    generalize (N t).q=q at *
    go_enter Tryz.func71,Tryz.ntmps71
    go_wp2_with fail
    go_ret
    exact ⟨rfl,rfl⟩
   ·have c2:(t:Int)≤z:=by omega
    have c3:¬ z < 0:=by omega
    clear hra hrb hk2 ha2 d0 d1 d2 d3 d4 d5 d6 c hn hi hq h ht
    generalize (N t).q=q at *
    go_enter Tryz.func71,Tryz.ntmps71
    go_wp2_with fail
    go_ret
    exact ⟨rfl,rfl⟩
 ·rw [if_neg (by omega)]
  have hI:((N t).q:Int)≤(i:Int):=by omega
  clear hra hk2 ha2 d0 d1 d2 d3 d4 d5 d6 hn hi hq h ht
  generalize (N t).q=q at *
  go_enter Tryz.func71,Tryz.ntmps71
  go_wp2_with fail
  go_ret
  exact ⟨rfl,rfl⟩
def exs (N:Nat→Nd) (t i j:Nat):Prop:=∀ x,i≤x→x < j→Ex (kd N t x)
theorem sp_exprs {va : Value} {n : Nat} {N : Nat → Nd} (w : World) (ha : RowN 0 w va n N) (hn : n ≤ 1048576) (t i j : Nat) (ht : t < n) (hi : i ≤ 1048576) (hj : j ≤ 1048576) (hq : (N t).q ≤ 1048576) :
  Calls Tryz.prog 73 #[va,.int .i64 (t:Int),.int .i64 (i:Int),.int .i64 (j:Int)] w fun e w'=>e = .returned (.bool (dc (exs N t i j)))∧w'=w:=by
 have HK:Hid (∀ x:Nat,x≤1048576→Calls Tryz.prog 71 #[va,.int .i64 (t:Int),.int .i64 (x:Int)] w fun e w'=>e = .returned (.int .i64 (kd N t x))∧w'=w):=(fun x hx=>sp_kid w ha hn t x ht hx hq:∀ x:Nat,_)
 obtain ⟨R,hR⟩:∃ R,R=dc (exs N t i j):=⟨_,rfl⟩
 rw [← hR]
 have HR:Hid (R=dc (exs N t i j)):=hR
 obtain ⟨pa,ca,rfl,-⟩:=ha
 have hjI:(j:Int)≤1048576:=by omega
 have hiI:(i:Int)≤1048576:=by omega
 clear hR hn ht hq
 go_enter Tryz.func73,Tryz.ntmps73
 go_wp2_with fail
 go_loopw [9] (fun s9 wr=>∃ x:Nat,s9 = .int .i64 (x:Int)∧x≤1048576∧wr=w∧Hid (i≤x∧∀ y,i≤y→y < x→Ex (kd N t y))) (fun s9 _=>j - (intOf s9).toNat)
 case atStart=>exact ⟨i,rfl,hi,rfl,(⟨Nat.le_refl _,fun y h1 h2=>by omega⟩:_∧_)⟩
 case round =>
  obtain ⟨x,rfl,hx,rfl,HX⟩:=hrel
  rcases Nat.lt_or_ge x j with h | h
  ·have hI:(x:Int) < (j:Int):=by omega
   have hX:=(uh HX)
   go_wp2_with fail
   refine ((uh HK) x hx).mono ?_
   rintro e w1 ⟨rfl,rfl⟩
   go_wp2_with fail
   refine (sp_expr _ _).mono ?_
   rintro e w2 ⟨rfl,rfl⟩
   by_cases c:Ex (kd N t x)
   ·rw [dc_t c]
    have HX2:Hid (i≤x+1∧∀ y,i≤y→y < x+1→Ex (kd N t y)):=(⟨by omega,fun y h1 h2=>by
     by_cases e:y=x
     ·subst e;exact c
     ·exact hX.2 y h1 (by omega)⟩:_∧_)
    clear HX hX c HR
    go_wp2_with fail
    go_roundw
    case rel=>exact ⟨x+1,by go_num,by omega,by trivial,HX2⟩
    case measure=>simp [intOf];omega
   ·rw [dc_f c]
    have HF:Hid (R=false):=by
     rw [show R=dc (exs N t i j) from HR]
     exact dc_f (fun g=>c (g x hX.1 h))
    clear HX hX c HR HK
    go_wp2_with fail
    go_ret
    have hF:=(uh HF)
    subst hF
    exact ⟨rfl,rfl⟩
  ·have hI:¬ (x:Int) < (j:Int):=by omega
   have HF:Hid (R=true):=by
    have hX:=(uh HX)
    rw [show R=dc (exs N t i j) from HR]
    exact dc_t (fun y h1 h2=>hX.2 y h1 (by omega))
   clear HX HR HK
   go_wp2_with fail
   go_ret
   have hF:=(uh HF)
   subst hF
   exact ⟨rfl,rfl⟩
structure Nst (w:World) (A:Addr) (n ca t:Nat) (a:Nv) (pr:Option Addr) (p cr:Nat) (pk:Option Addr) (q ck:Nat) (kdf:Nat→Int) (exf:Nat→Nat→Prop):Prop where
 cel:CelN w (A.add (t*8)) a (.slice pr p cr) (.slice pk q ck)
 hn:n≤1048576
 ht:t < n
 hp:p≤1048576
 hq:q≤1048576
 hg:a.g < 18446744073709551616
 kid:∀ (z:Nat) W,Kb 0 w W→z≤1048576→Calls Tryz.prog 71 #[.slice (some A) n ca,.int .i64 (t:Int),.int .i64 (z:Int)] W fun e w'=>e = .returned (.int .i64 (kdf z))∧w'=W
 exp:∀ (i j:Nat) W,Kb 0 w W→i≤1048576→j≤1048576→Calls Tryz.prog 73 #[.slice (some A) n ca,.int .i64 (t:Int),.int .i64 (i:Int),.int .i64 (j:Int)] W fun e w'=>e = .returned (.bool (dc (exf i j)))∧w'=W
theorem st_4 {A : Addr} {n ca t : Nat} {a : Nv} {pr pk : Option Addr} {p cr q ck : Nat} {kdf : Nat → Int} {exf : Nat → Nat → Prop} (w : World) (hx : Nst w A n ca t a pr p cr pk q ck kdf exf) (hk : a.k = 4) :
  Calls Tryz.prog 54 #[.slice (some A) n ca,.int .i64 (t:Int)] w fun e w'=>e = .returned (.bool (dc (q=1∧kdf 0=34∧Br false false false false a p 0)))∧Kb 0 w w':=by
 obtain ⟨d0,d1,d2,d3,d4,d5,d6,d7⟩:=hx.cel
 have hnI:(n:Int)≤1048576:=by have:=hx.hn;omega
 have hpI:(p:Int)≤1048576:=by have:=hx.hp;omega
 have hqN:=hx.hq
 have hqI:(q:Int)≤1048576:=by omega
 have htI:(t:Int) < (n:Int):=by have:=hx.ht;omega
 have QK0:Calls Tryz.prog 71 #[.slice (some A) n ca,.int .i64 (t:Int),.int .i64 0] (w.alloc (.cells #[.int .i64 a.k,.int .i64 a.l,.int .i64 a.o,.int .i64 a.m,.float .f64 a.g,.string a.x,.slice pr p cr,.slice pk q ck] 59)) fun e w'=>e = .returned (.int .i64 (kdf 0))∧w'=(w.alloc (.cells #[.int .i64 a.k,.int .i64 a.l,.int .i64 a.o,.int .i64 a.m,.float .f64 a.g,.string a.x,.slice pr p cr,.slice pk q ck] 59)):=hx.kid 0 _ (kb_alloc _ _ _) (by omega)
 have QKq0 : 0 < q→Calls Tryz.prog 71 #[.slice (some A) n ca,.int .i64 (t:Int),.int .i64 ((q:Int) - 1)] (w.alloc (.cells #[.int .i64 a.k,.int .i64 a.l,.int .i64 a.o,.int .i64 a.m,.float .f64 a.g,.string a.x,.slice pr p cr,.slice pk q ck] 59)) fun e w'=>e = .returned (.int .i64 (kdf (q - 1)))∧w'=(w.alloc (.cells #[.int .i64 a.k,.int .i64 a.l,.int .i64 a.o,.int .i64 a.m,.float .f64 a.g,.string a.x,.slice pr p cr,.slice pk q ck] 59)):=fun h=>by
  have:=hx.kid (q - 1) _ (kb_alloc 0 w (.cells #[.int .i64 a.k,.int .i64 a.l,.int .i64 a.o,.int .i64 a.m,.float .f64 a.g,.string a.x,.slice pr p cr,.slice pk q ck] 59)) (by omega)
  rw [show ((q - 1:Nat):Int)=(q:Int) - 1 by omega] at this
  exact this
 have QB:=fun W=>sp_bare_z a hx.hg pr p cr pk q ck 0 (by omega) hx.hp W
 unfold ndv at QB
 rw [hk] at d0 QB QK0  QKq0
 have HG:Hid (a.g < 18446744073709551616):=hx.hg
 clear hx
 have hst:=hst0
 have HQ:Hid (q≤1048576):=hqN
 clear hqN
 by_cases hq:q=1
 ·subst hq
  by_cases hk0:kdf 0=34
  ·have gk0:=beq1 hk0
   by_cases hb:Br false false false false a p 0
   ·rw [dc_t hb] at QB
    rw [dc_t ⟨rfl,hk0,hb⟩]
    first | (have QKq:=QKq0 (show 0 < q by omega);clear QKq0) | clear QKq0
    go_enter Tryz.func54,Tryz.ntmps54
    go_wp2_with (first
     | (go_at_call 71;first | (with_reducible refine QKq.mono ?_;rintro e w1 ⟨rfl,rfl⟩) | (with_reducible refine QK0.mono ?_;rintro e w1 ⟨rfl,rfl⟩))
     | (go_at_call 75;refine (sp_many _ _).mono ?_;rintro e w1 ⟨rfl,rfl⟩;first | rw [HMt] | rw [HMf] | skip)
     | (go_at_call 72;refine (QB _).mono ?_;rintro e w2 ⟨rfl,k2⟩;have HK2:Hid (Kb 0 _ w2):=k2;clear k2))
    go_ret
    exact ⟨by first | rfl | (simp only [*];rfl) | simp [*],by first | exact kb_alloc _ _ _ | exact (kb_alloc _ _ _).trans (uh HK2)⟩
   ·rw [dc_f hb] at QB
    rw [dc_f (fun g=>(hb) (g.2.2))]
    first | (have QKq:=QKq0 (show 0 < q by omega);clear QKq0) | clear QKq0
    go_enter Tryz.func54,Tryz.ntmps54
    go_wp2_with (first
     | (go_at_call 71;first | (with_reducible refine QKq.mono ?_;rintro e w1 ⟨rfl,rfl⟩) | (with_reducible refine QK0.mono ?_;rintro e w1 ⟨rfl,rfl⟩))
     | (go_at_call 75;refine (sp_many _ _).mono ?_;rintro e w1 ⟨rfl,rfl⟩;first | rw [HMt] | rw [HMf] | skip)
     | (go_at_call 72;refine (QB _).mono ?_;rintro e w2 ⟨rfl,k2⟩;have HK2:Hid (Kb 0 _ w2):=k2;clear k2))
    go_ret
    exact ⟨by first | rfl | (simp only [*];rfl) | simp [*],by first | exact kb_alloc _ _ _ | exact (kb_alloc _ _ _).trans (uh HK2)⟩
  ·have gk0:=bne hk0
   rw [dc_f (fun g=>(hk0) (g.2.1))]
   first | (have QKq:=QKq0 (show 0 < q by omega);clear QKq0) | clear QKq0
   go_enter Tryz.func54,Tryz.ntmps54
   go_wp2_with (first
    | (go_at_call 71;first | (with_reducible refine QKq.mono ?_;rintro e w1 ⟨rfl,rfl⟩) | (with_reducible refine QK0.mono ?_;rintro e w1 ⟨rfl,rfl⟩))
    | (go_at_call 75;refine (sp_many _ _).mono ?_;rintro e w1 ⟨rfl,rfl⟩;first | rw [HMt] | rw [HMf] | skip)
    | (go_at_call 72;refine (QB _).mono ?_;rintro e w2 ⟨rfl,k2⟩;have HK2:Hid (Kb 0 _ w2):=k2;clear k2))
   go_ret
   exact ⟨by first | rfl | (simp only [*];rfl) | simp [*],by first | exact kb_alloc _ _ _ | exact (kb_alloc _ _ _).trans (uh HK2)⟩
 ·skip
  by_cases hq0:q=0
  ·subst hq0
   rw [dc_f (fun g=>(hq) (g.1))]
   first | (have QKq:=QKq0 (show 0 < q by omega);clear QKq0) | clear QKq0
   go_enter Tryz.func54,Tryz.ntmps54
   go_wp2_with (first
    | (go_at_call 71;first | (with_reducible refine QKq.mono ?_;rintro e w1 ⟨rfl,rfl⟩) | (with_reducible refine QK0.mono ?_;rintro e w1 ⟨rfl,rfl⟩))
    | (go_at_call 75;refine (sp_many _ _).mono ?_;rintro e w1 ⟨rfl,rfl⟩;first | rw [HMt] | rw [HMf] | skip)
    | (go_at_call 72;refine (QB _).mono ?_;rintro e w2 ⟨rfl,k2⟩;have HK2:Hid (Kb 0 _ w2):=k2;clear k2))
   go_ret
   exact ⟨by first | rfl | (simp only [*];rfl) | simp [*],by first | exact kb_alloc _ _ _ | exact (kb_alloc _ _ _).trans (uh HK2)⟩
  ·have gq0:(0:Int) < (q:Int):=by omega
   have gq:((q:Int) == 1)=false:=bne (by omega)
   rw [dc_f (fun g=>(hq) (g.1))]
   first | (have QKq:=QKq0 (show 0 < q by omega);clear QKq0) | clear QKq0
   go_enter Tryz.func54,Tryz.ntmps54
   go_wp2_with (first
    | (go_at_call 71;first | (with_reducible refine QKq.mono ?_;rintro e w1 ⟨rfl,rfl⟩) | (with_reducible refine QK0.mono ?_;rintro e w1 ⟨rfl,rfl⟩))
    | (go_at_call 75;refine (sp_many _ _).mono ?_;rintro e w1 ⟨rfl,rfl⟩;first | rw [HMt] | rw [HMf] | skip)
    | (go_at_call 72;refine (QB _).mono ?_;rintro e w2 ⟨rfl,k2⟩;have HK2:Hid (Kb 0 _ w2):=k2;clear k2))
   go_ret
   exact ⟨by first | rfl | (simp only [*];rfl) | simp [*],by first | exact kb_alloc _ _ _ | exact (kb_alloc _ _ _).trans (uh HK2)⟩
theorem st_14 {A : Addr} {n ca t : Nat} {a : Nv} {pr pk : Option Addr} {p cr q ck : Nat} {kdf : Nat → Int} {exf : Nat → Nat → Prop} (w : World) (hx : Nst w A n ca t a pr p cr pk q ck kdf exf) (hk : a.k = 14) :
  Calls Tryz.prog 54 #[.slice (some A) n ca,.int .i64 (t:Int)] w fun e w'=>e = .returned (.bool (dc (q=1∧kdf 0=34∧Br false false false false a p 0)))∧Kb 0 w w':=by
 obtain ⟨d0,d1,d2,d3,d4,d5,d6,d7⟩:=hx.cel
 have hnI:(n:Int)≤1048576:=by have:=hx.hn;omega
 have hpI:(p:Int)≤1048576:=by have:=hx.hp;omega
 have hqN:=hx.hq
 have hqI:(q:Int)≤1048576:=by omega
 have htI:(t:Int) < (n:Int):=by have:=hx.ht;omega
 have QK0:Calls Tryz.prog 71 #[.slice (some A) n ca,.int .i64 (t:Int),.int .i64 0] (w.alloc (.cells #[.int .i64 a.k,.int .i64 a.l,.int .i64 a.o,.int .i64 a.m,.float .f64 a.g,.string a.x,.slice pr p cr,.slice pk q ck] 59)) fun e w'=>e = .returned (.int .i64 (kdf 0))∧w'=(w.alloc (.cells #[.int .i64 a.k,.int .i64 a.l,.int .i64 a.o,.int .i64 a.m,.float .f64 a.g,.string a.x,.slice pr p cr,.slice pk q ck] 59)):=hx.kid 0 _ (kb_alloc _ _ _) (by omega)
 have QKq0 : 0 < q→Calls Tryz.prog 71 #[.slice (some A) n ca,.int .i64 (t:Int),.int .i64 ((q:Int) - 1)] (w.alloc (.cells #[.int .i64 a.k,.int .i64 a.l,.int .i64 a.o,.int .i64 a.m,.float .f64 a.g,.string a.x,.slice pr p cr,.slice pk q ck] 59)) fun e w'=>e = .returned (.int .i64 (kdf (q - 1)))∧w'=(w.alloc (.cells #[.int .i64 a.k,.int .i64 a.l,.int .i64 a.o,.int .i64 a.m,.float .f64 a.g,.string a.x,.slice pr p cr,.slice pk q ck] 59)):=fun h=>by
  have:=hx.kid (q - 1) _ (kb_alloc 0 w (.cells #[.int .i64 a.k,.int .i64 a.l,.int .i64 a.o,.int .i64 a.m,.float .f64 a.g,.string a.x,.slice pr p cr,.slice pk q ck] 59)) (by omega)
  rw [show ((q - 1:Nat):Int)=(q:Int) - 1 by omega] at this
  exact this
 have QB:=fun W=>sp_bare_z a hx.hg pr p cr pk q ck 0 (by omega) hx.hp W
 unfold ndv at QB
 rw [hk] at d0 QB QK0  QKq0
 have HG:Hid (a.g < 18446744073709551616):=hx.hg
 clear hx
 have hst:=hst0
 have HQ:Hid (q≤1048576):=hqN
 clear hqN
 by_cases hq:q=1
 ·subst hq
  by_cases hk0:kdf 0=34
  ·have gk0:=beq1 hk0
   by_cases hb:Br false false false false a p 0
   ·rw [dc_t hb] at QB
    rw [dc_t ⟨rfl,hk0,hb⟩]
    first | (have QKq:=QKq0 (show 0 < q by omega);clear QKq0) | clear QKq0
    go_enter Tryz.func54,Tryz.ntmps54
    go_wp2_with (first
     | (go_at_call 71;first | (with_reducible refine QKq.mono ?_;rintro e w1 ⟨rfl,rfl⟩) | (with_reducible refine QK0.mono ?_;rintro e w1 ⟨rfl,rfl⟩))
     | (go_at_call 75;refine (sp_many _ _).mono ?_;rintro e w1 ⟨rfl,rfl⟩;first | rw [HMt] | rw [HMf] | skip)
     | (go_at_call 72;refine (QB _).mono ?_;rintro e w2 ⟨rfl,k2⟩;have HK2:Hid (Kb 0 _ w2):=k2;clear k2))
    go_ret
    exact ⟨by first | rfl | (simp only [*];rfl) | simp [*],by first | exact kb_alloc _ _ _ | exact (kb_alloc _ _ _).trans (uh HK2)⟩
   ·rw [dc_f hb] at QB
    rw [dc_f (fun g=>(hb) (g.2.2))]
    first | (have QKq:=QKq0 (show 0 < q by omega);clear QKq0) | clear QKq0
    go_enter Tryz.func54,Tryz.ntmps54
    go_wp2_with (first
     | (go_at_call 71;first | (with_reducible refine QKq.mono ?_;rintro e w1 ⟨rfl,rfl⟩) | (with_reducible refine QK0.mono ?_;rintro e w1 ⟨rfl,rfl⟩))
     | (go_at_call 75;refine (sp_many _ _).mono ?_;rintro e w1 ⟨rfl,rfl⟩;first | rw [HMt] | rw [HMf] | skip)
     | (go_at_call 72;refine (QB _).mono ?_;rintro e w2 ⟨rfl,k2⟩;have HK2:Hid (Kb 0 _ w2):=k2;clear k2))
    go_ret
    exact ⟨by first | rfl | (simp only [*];rfl) | simp [*],by first | exact kb_alloc _ _ _ | exact (kb_alloc _ _ _).trans (uh HK2)⟩
  ·have gk0:=bne hk0
   rw [dc_f (fun g=>(hk0) (g.2.1))]
   first | (have QKq:=QKq0 (show 0 < q by omega);clear QKq0) | clear QKq0
   go_enter Tryz.func54,Tryz.ntmps54
   go_wp2_with (first
    | (go_at_call 71;first | (with_reducible refine QKq.mono ?_;rintro e w1 ⟨rfl,rfl⟩) | (with_reducible refine QK0.mono ?_;rintro e w1 ⟨rfl,rfl⟩))
    | (go_at_call 75;refine (sp_many _ _).mono ?_;rintro e w1 ⟨rfl,rfl⟩;first | rw [HMt] | rw [HMf] | skip)
    | (go_at_call 72;refine (QB _).mono ?_;rintro e w2 ⟨rfl,k2⟩;have HK2:Hid (Kb 0 _ w2):=k2;clear k2))
   go_ret
   exact ⟨by first | rfl | (simp only [*];rfl) | simp [*],by first | exact kb_alloc _ _ _ | exact (kb_alloc _ _ _).trans (uh HK2)⟩
 ·skip
  by_cases hq0:q=0
  ·subst hq0
   rw [dc_f (fun g=>(hq) (g.1))]
   first | (have QKq:=QKq0 (show 0 < q by omega);clear QKq0) | clear QKq0
   go_enter Tryz.func54,Tryz.ntmps54
   go_wp2_with (first
    | (go_at_call 71;first | (with_reducible refine QKq.mono ?_;rintro e w1 ⟨rfl,rfl⟩) | (with_reducible refine QK0.mono ?_;rintro e w1 ⟨rfl,rfl⟩))
    | (go_at_call 75;refine (sp_many _ _).mono ?_;rintro e w1 ⟨rfl,rfl⟩;first | rw [HMt] | rw [HMf] | skip)
    | (go_at_call 72;refine (QB _).mono ?_;rintro e w2 ⟨rfl,k2⟩;have HK2:Hid (Kb 0 _ w2):=k2;clear k2))
   go_ret
   exact ⟨by first | rfl | (simp only [*];rfl) | simp [*],by first | exact kb_alloc _ _ _ | exact (kb_alloc _ _ _).trans (uh HK2)⟩
  ·have gq0:(0:Int) < (q:Int):=by omega
   have gq:((q:Int) == 1)=false:=bne (by omega)
   rw [dc_f (fun g=>(hq) (g.1))]
   first | (have QKq:=QKq0 (show 0 < q by omega);clear QKq0) | clear QKq0
   go_enter Tryz.func54,Tryz.ntmps54
   go_wp2_with (first
    | (go_at_call 71;first | (with_reducible refine QKq.mono ?_;rintro e w1 ⟨rfl,rfl⟩) | (with_reducible refine QK0.mono ?_;rintro e w1 ⟨rfl,rfl⟩))
    | (go_at_call 75;refine (sp_many _ _).mono ?_;rintro e w1 ⟨rfl,rfl⟩;first | rw [HMt] | rw [HMf] | skip)
    | (go_at_call 72;refine (QB _).mono ?_;rintro e w2 ⟨rfl,k2⟩;have HK2:Hid (Kb 0 _ w2):=k2;clear k2))
   go_ret
   exact ⟨by first | rfl | (simp only [*];rfl) | simp [*],by first | exact kb_alloc _ _ _ | exact (kb_alloc _ _ _).trans (uh HK2)⟩
end Go.Proofs.YtfpidccjcemcjaaGreat.Fo
