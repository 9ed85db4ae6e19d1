import Derived.Test.YtjakooihcbdcaaaGreatDoorMZsq
import Derived.Test.YtjakooihcbdcaaaGreatDoorMTmh
import Derived.Test.YtjakooihcbdcaaaGreatDoorMCfa
import Derived.Test.YtjakooihcbdcaaaGreatDoorMChb
set_option maxHeartbeats 8000000
namespace Go.Proofs.YtjakooihcbdcaaaGreatDoor.Fo
open Go.ChangeShapes Go.WideShapes Go.ChangeAt Go.RowKit
set_option linter.unusedVariables false
set_option maxRecDepth 100000
theorem wr_28 {np base : Nat} {d : Pd} {v : Value} {T : List Int} (a : Iv) (w : World) (ht : Tok np d a) (hO : OwI base w v T) (hl : (T.length : Int) = d.g) (hg : d.g ≤ 250) (hop : a.o = 28) :
  Calls Tryz.prog 63 #[.agg #[.int .i64 a.o,.int .i64 a.a,.int .i64 a.b,.int .i64 a.c,.int .i64 a.d],v] w (WrA a T base v w):=by
 obtain ⟨o,oa,ob,oc,od⟩:=a;dsimp only at hop;subst hop;have hr:=tok_a ht 0 (by omega);have hr : 0≤oa∧oa≤d.g - 1:=hr;obtain ⟨k,hk1,rfl⟩:∃ k:Nat,0≤k∧oa=(k:Int):=⟨oa.toNat,by omega,by omega⟩
 obtain ⟨b,q,cap,y,rfl,hbq,hcap,hbase,hob,c1,fz,hset⟩:=own_wr hO (k:=k) (by omega);have hput:put ⟨28,(k:Int),ob,oc,od⟩ T=T.set k 3:=rfl;have fz1:=fz k;have kI:(k:Int) < (T.length:Int):=by omega
 have lI:(T.length:Int)≤250:=by omega
 have cI:(T.length:Int)≤(cap:Int):=by omega
 have HS:Hid (∀ W',Kb 0 w W'→OwI base (W'.setCell (b.add k) (.int .i64 3)) (.slice (some b) T.length cap) (put ⟨28,(k:Int),ob,oc,od⟩ T)∧Kx q w (W'.setCell (b.add k) (.int .i64 3))):=(fun W' kk=>by rw [hput];exact hset W' kk 3:∀ W',_)
 have HB:Hid ((Value.slice (some b) T.length cap).ownBlock=some q):=hob;have c1':∀ o,(w.alloc o).cell? (b.add k)=some (.int .i64 y):=fun o=>(kb_alloc 0 w o).cell c1
 have fz':∀ o,(w.alloc o).frozen? (b.add k)=false:=fun o=>by
  have hlt:b.block < w.heap.size:=by have:=lt_of_cell' c1;rw [add_block] at this;exact this
  exact (World.frozen?_of_block (by rw [add_block];exact (kb_alloc 0 w o).block _ zq hlt)).trans fz1
 clear hr ht hO hl hg hbq hcap hbase hob hset hput fz c1 fz1 hk1;go_enter Tryz.func63,Tryz.ntmps63;go_wp2_with fail;refine ⟨rfl,.tuple #[],by simp [results,Tryz.results63],?_⟩;obtain ⟨s1,s2⟩:=(uh HS) _ (kb_alloc 0 w _);exact ⟨rfl,s1,fun q'=>⟨fun e=>by rw [(uh HB)] at e;cases e;exact s2,fun e=>by rw [(uh HB)] at e;cases e⟩⟩
theorem wr_40 {np base : Nat} {d : Pd} {v : Value} {T : List Int} (a : Iv) (w : World) (ht : Tok np d a) (hO : OwI base w v T) (hl : (T.length : Int) = d.g) (hg : d.g ≤ 250) (hop : a.o = 40) :
  Calls Tryz.prog 63 #[.agg #[.int .i64 a.o,.int .i64 a.a,.int .i64 a.b,.int .i64 a.c,.int .i64 a.d],v] w (WrA a T base v w):=by
 obtain ⟨o,oa,ob,oc,od⟩:=a;dsimp only at hop;subst hop;have hr:=tok_a ht 0 (by omega);have hr : 0≤oa∧oa≤d.g - 2:=hr;obtain ⟨k,hk1,rfl⟩:∃ k:Nat,1≤k∧oa=((k:Int) - 1):=⟨(oa+1).toNat,by omega,by omega⟩
 obtain ⟨b,q,cap,y,rfl,hbq,hcap,hbase,hob,c1,fz,hset⟩:=own_wr hO (k:=k) (by omega);have hput:put ⟨40,((k:Int) - 1),ob,oc,od⟩ T=T.set k 1:=by show T.set ((k:Int) - 1+1).toNat 1=T.set k 1;rw [show ((k:Int) - 1+1).toNat=k by omega]
 have fz1:=fz k;have kI:(k:Int) < (T.length:Int):=by omega
 have lI:(T.length:Int)≤250:=by omega
 have cI:(T.length:Int)≤(cap:Int):=by omega
 have HS:Hid (∀ W',Kb 0 w W'→OwI base (W'.setCell (b.add k) (.int .i64 1)) (.slice (some b) T.length cap) (put ⟨40,((k:Int) - 1),ob,oc,od⟩ T)∧Kx q w (W'.setCell (b.add k) (.int .i64 1))):=(fun W' kk=>by rw [hput];exact hset W' kk 1:∀ W',_)
 have HB:Hid ((Value.slice (some b) T.length cap).ownBlock=some q):=hob;have c1':∀ o,(w.alloc o).cell? (b.add k)=some (.int .i64 y):=fun o=>(kb_alloc 0 w o).cell c1
 have fz':∀ o,(w.alloc o).frozen? (b.add k)=false:=fun o=>by
  have hlt:b.block < w.heap.size:=by have:=lt_of_cell' c1;rw [add_block] at this;exact this
  exact (World.frozen?_of_block (by rw [add_block];exact (kb_alloc 0 w o).block _ zq hlt)).trans fz1
 clear hr ht hO hl hg hbq hcap hbase hob hset hput fz c1 fz1 hk1;go_enter Tryz.func63,Tryz.ntmps63;go_wp2_with fail;refine ⟨rfl,.tuple #[],by simp [results,Tryz.results63],?_⟩;obtain ⟨s1,s2⟩:=(uh HS) _ (kb_alloc 0 w _);exact ⟨rfl,s1,fun q'=>⟨fun e=>by rw [(uh HB)] at e;cases e;exact s2,fun e=>by rw [(uh HB)] at e;cases e⟩⟩
theorem wr_42 {np base : Nat} {d : Pd} {v : Value} {T : List Int} (a : Iv) (w : World) (ht : Tok np d a) (hO : OwI base w v T) (hl : (T.length : Int) = d.g) (hg : d.g ≤ 250) (hop : a.o = 42) :
  Calls Tryz.prog 63 #[.agg #[.int .i64 a.o,.int .i64 a.a,.int .i64 a.b,.int .i64 a.c,.int .i64 a.d],v] w (WrA a T base v w):=by
 obtain ⟨o,oa,ob,oc,od⟩:=a;dsimp only at hop;subst hop;have hr:=tok_a ht 0 (by omega);have hr : 0≤oa∧oa≤d.g - 1:=hr;obtain ⟨k,hk1,rfl⟩:∃ k:Nat,0≤k∧oa=(k:Int):=⟨oa.toNat,by omega,by omega⟩
 obtain ⟨b,q,cap,y,rfl,hbq,hcap,hbase,hob,c1,fz,hset⟩:=own_wr hO (k:=k) (by omega);have hput:put ⟨42,(k:Int),ob,oc,od⟩ T=T.set k 0:=rfl;have fz1:=fz k;have kI:(k:Int) < (T.length:Int):=by omega
 have lI:(T.length:Int)≤250:=by omega
 have cI:(T.length:Int)≤(cap:Int):=by omega
 have HS:Hid (∀ W',Kb 0 w W'→OwI base (W'.setCell (b.add k) (.int .i64 0)) (.slice (some b) T.length cap) (put ⟨42,(k:Int),ob,oc,od⟩ T)∧Kx q w (W'.setCell (b.add k) (.int .i64 0))):=(fun W' kk=>by rw [hput];exact hset W' kk 0:∀ W',_)
 have HB:Hid ((Value.slice (some b) T.length cap).ownBlock=some q):=hob;have c1':∀ o,(w.alloc o).cell? (b.add k)=some (.int .i64 y):=fun o=>(kb_alloc 0 w o).cell c1
 have fz':∀ o,(w.alloc o).frozen? (b.add k)=false:=fun o=>by
  have hlt:b.block < w.heap.size:=by have:=lt_of_cell' c1;rw [add_block] at this;exact this
  exact (World.frozen?_of_block (by rw [add_block];exact (kb_alloc 0 w o).block _ zq hlt)).trans fz1
 clear hr ht hO hl hg hbq hcap hbase hob hset hput fz c1 fz1 hk1;go_enter Tryz.func63,Tryz.ntmps63;go_wp2_with fail;refine ⟨rfl,.tuple #[],by simp [results,Tryz.results63],?_⟩;obtain ⟨s1,s2⟩:=(uh HS) _ (kb_alloc 0 w _);exact ⟨rfl,s1,fun q'=>⟨fun e=>by rw [(uh HB)] at e;cases e;exact s2,fun e=>by rw [(uh HB)] at e;cases e⟩⟩
theorem wr_41 {np base : Nat} {d : Pd} {v : Value} {T : List Int} (a : Iv) (w : World) (ht : Tok np d a) (hO : OwI base w v T) (hl : (T.length : Int) = d.g) (hg : d.g ≤ 250) (hop : a.o = 41) :
  Calls Tryz.prog 63 #[.agg #[.int .i64 a.o,.int .i64 a.a,.int .i64 a.b,.int .i64 a.c,.int .i64 a.d],v] w (WrA a T base v w):=by
 obtain ⟨o,oa,ob,oc,od⟩:=a;dsimp only at hop;subst hop;have hr:=tok_a ht 2 (by omega);have hr : 0≤oc∧oc≤d.g - 1:=hr;obtain ⟨k,hk1,rfl⟩:∃ k:Nat,0≤k∧oc=(k:Int):=⟨oc.toNat,by omega,by omega⟩
 obtain ⟨b,q,cap,y,rfl,hbq,hcap,hbase,hob,c1,fz,hset⟩:=own_wr hO (k:=k) (by omega);have hput:put ⟨41,oa,ob,(k:Int),od⟩ T=T.set k 3:=rfl;have fz1:=fz k;have kI:(k:Int) < (T.length:Int):=by omega
 have lI:(T.length:Int)≤250:=by omega
 have cI:(T.length:Int)≤(cap:Int):=by omega
 have HS:Hid (∀ W',Kb 0 w W'→OwI base (W'.setCell (b.add k) (.int .i64 3)) (.slice (some b) T.length cap) (put ⟨41,oa,ob,(k:Int),od⟩ T)∧Kx q w (W'.setCell (b.add k) (.int .i64 3))):=(fun W' kk=>by rw [hput];exact hset W' kk 3:∀ W',_)
 have HB:Hid ((Value.slice (some b) T.length cap).ownBlock=some q):=hob;have c1':∀ o,(w.alloc o).cell? (b.add k)=some (.int .i64 y):=fun o=>(kb_alloc 0 w o).cell c1
 have fz':∀ o,(w.alloc o).frozen? (b.add k)=false:=fun o=>by
  have hlt:b.block < w.heap.size:=by have:=lt_of_cell' c1;rw [add_block] at this;exact this
  exact (World.frozen?_of_block (by rw [add_block];exact (kb_alloc 0 w o).block _ zq hlt)).trans fz1
 clear hr ht hO hl hg hbq hcap hbase hob hset hput fz c1 fz1 hk1;go_enter Tryz.func63,Tryz.ntmps63;go_wp2_with fail;refine ⟨rfl,.tuple #[],by simp [results,Tryz.results63],?_⟩;obtain ⟨s1,s2⟩:=(uh HS) _ (kb_alloc 0 w _);exact ⟨rfl,s1,fun q'=>⟨fun e=>by rw [(uh HB)] at e;cases e;exact s2,fun e=>by rw [(uh HB)] at e;cases e⟩⟩
theorem put_def (n:Nat) (h1 : 1≤n) (h2:n≤42) (hn:n ≠ 6∧n ≠ 22∧n ≠ 27∧n ≠ 28∧n ≠ 40∧n ≠ 42∧n ≠ 41) (oa ob oc od:Int) (T:List Int):put ⟨(n:Int),oa,ob,oc,od⟩ T=if mr n 0=1 then T.set oa.toNat 1 else T:=by
 rcases (by omega:n=1∨n=2∨n=3∨n=4∨n=5∨n=7∨n=8∨n=9∨n=10∨n=11∨n=12∨n=13∨n=14∨n=15∨n=16∨n=17∨n=18∨n=19∨n=20∨n=21∨n=23∨n=24∨n=25∨n=26∨n=29∨n=30∨n=31∨n=32∨n=33∨n=34∨n=35∨n=36∨n=37∨n=38∨n=39) with rfl | rfl | rfl | rfl | rfl | rfl | rfl | rfl | rfl | rfl | rfl | rfl | rfl | rfl | rfl | rfl | rfl | rfl | rfl | rfl | rfl | rfl | rfl | rfl | rfl | rfl | rfl | rfl | rfl | rfl | rfl | rfl | rfl | rfl | rfl <;> rfl
theorem into_def (n:Nat) (h1 : 1≤n) (h2:n≤42) (hn:n ≠ 6∧n ≠ 22∧n ≠ 27∧n ≠ 28∧n ≠ 40∧n ≠ 42∧n ≠ 41) (hm:mr n 0=1):pcl (pr n 0)=12:=by
 rcases (by omega:n=1∨n=2∨n=3∨n=4∨n=5∨n=7∨n=8∨n=9∨n=10∨n=11∨n=12∨n=13∨n=14∨n=15∨n=16∨n=17∨n=18∨n=19∨n=20∨n=21∨n=23∨n=24∨n=25∨n=26∨n=29∨n=30∨n=31∨n=32∨n=33∨n=34∨n=35∨n=36∨n=37∨n=38∨n=39) with rfl | rfl | rfl | rfl | rfl | rfl | rfl | rfl | rfl | rfl | rfl | rfl | rfl | rfl | rfl | rfl | rfl | rfl | rfl | rfl | rfl | rfl | rfl | rfl | rfl | rfl | rfl | rfl | rfl | rfl | rfl | rfl | rfl | rfl | rfl <;> first | rfl | (exact absurd hm (by decide))
theorem mr0_lt (n:Nat) (h2:n≤42):mr n 0 < 22:=(cl_eq0 n (by omega) 0 (by omega)).2.2
theorem wr_def {np base : Nat} {d : Pd} {v : Value} {T : List Int} (a : Iv) (w : World) (ht : Tok np d a) (hO : OwI base w v T) (hl : (T.length : Int) = d.g) (hg : d.g ≤ 250) (hop : a.o ≠ 6 ∧ a.o ≠ 22 ∧ a.o ≠ 27 ∧ a.o ≠ 28 ∧ a.o ≠ 40 ∧ a.o ≠ 42 ∧ a.o ≠ 41) :
  Calls Tryz.prog 63 #[.agg #[.int .i64 a.o,.int .i64 a.a,.int .i64 a.b,.int .i64 a.c,.int .i64 a.d],v] w (WrA a T base v w):=by
 obtain ⟨o,oa,ob,oc,od⟩:=a;dsimp only at hop;obtain ⟨n,rfl⟩:∃ n:Nat,o=(n:Int):=⟨o.toNat,by have:=ht.1;dsimp only at this;omega⟩
 have h1 : 1≤n:=by have:=ht.1;dsimp only at this;omega
 have h2:n≤42:=by have:=ht.2.1;dsimp only at this;omega
 have hs:n ≠ 6∧n ≠ 22∧n ≠ 27∧n ≠ 28∧n ≠ 40∧n ≠ 42∧n ≠ 41:=⟨fun e=>hop.1 (by rw [e];rfl),fun e=>hop.2.1 (by rw [e];rfl),fun e=>hop.2.2.1 (by rw [e];rfl),fun e=>hop.2.2.2.1 (by rw [e];rfl),fun e=>hop.2.2.2.2.1 (by rw [e];rfl),fun e=>hop.2.2.2.2.2.1 (by rw [e];rfl),fun e=>hop.2.2.2.2.2.2 (by rw [e];rfl)⟩
 have hput:=put_def n h1 h2 hs oa ob oc od T;have HRo:=sp_roles n h1 h2;have g0:=bne (show (n:Int) ≠ 6 by omega);have g1:=bne (show (n:Int) ≠ 22 by omega);have g2:=bne (show (n:Int) ≠ 27 by omega);have g3:=bne (show (n:Int) ≠ 28 by omega);have g4:=bne (show (n:Int) ≠ 40 by omega);have g5:=bne (show (n:Int) ≠ 42 by omega);have g6:=bne (show (n:Int) ≠ 41 by omega);obtain ⟨m,hm⟩:∃ m,m=mr n 0:=⟨_,rfl⟩
 have hmI:(m:Int) < 22:=by have:=mr0_lt n h2;omega
 by_cases hm1:m=1
 ·have hcl:=into_def n h1 h2 hs (by rw [← hm];exact hm1);have hr:=tok_a ht 0 (by omega)
  have hr : 0≤oa∧oa≤d.g - 1:=by
   have e:(⟨(n:Int),oa,ob,oc,od⟩:Iv).o.toNat=n:=by simp
   rw [e,hcl] at hr;exact hr
  obtain ⟨k,rfl⟩:∃ k:Nat,oa=(k:Int):=⟨oa.toNat,by omega⟩
  obtain ⟨b,q,cap,y,rfl,hbq,hcap,hbase,hob,c1,fz,hset⟩:=own_wr hO (k:=k) (by omega);rw [if_pos (by rw [← hm];exact hm1)] at hput;have fz1:=fz k;have kI:(k:Int) < (T.length:Int):=by omega
  have lI:(T.length:Int)≤250:=by omega
  have cI:(T.length:Int)≤(cap:Int):=by omega
  have HS:Hid (∀ W',Kb 0 w W'→OwI base (W'.setCell (b.add k) (.int .i64 1)) (.slice (some b) T.length cap) (put ⟨(n:Int),(k:Int),ob,oc,od⟩ T)∧Kx q w (W'.setCell (b.add k) (.int .i64 1))):=(fun W' kk=>by rw [hput];exact hset W' kk 1:∀ W',_)
  have HB:Hid ((Value.slice (some b) T.length cap).ownBlock=some q):=hob;have c1':∀ W',Kb 0 w W'→W'.cell? (b.add k)=some (.int .i64 y):=fun W' kk=>kk.cell c1
  have fz':∀ W',Kb 0 w W'→W'.frozen? (b.add k)=false:=fun W' kk=>by
   have hlt:b.block < w.heap.size:=by have:=lt_of_cell' c1;rw [add_block] at this;exact this
   exact (World.frozen?_of_block (by rw [add_block];exact kk.block _ zq hlt)).trans fz1
  have HC:Hid ((∀ W',Kb 0 w W'→W'.cell? (b.add k)=some (.int .i64 y))∧∀ W',Kb 0 w W'→W'.frozen? (b.add k)=false):=(⟨c1',fz'⟩:_∧_)
  rw [← hm,hm1] at HRo;simp only [show ((1:Nat):Int)=1 from rfl] at HRo;clear hr ht hO hl hg hbq hcap hbase hob hset hput fz c1 fz1 c1' fz' hop hs hcl hm hm1 hmI h1 h2;go_enter Tryz.func63,Tryz.ntmps63;go_wp2_with (go_at_call 109;refine (HRo _).mono ?_;rintro e w3 ⟨rfl,hw3⟩;have kk:Kb 0 w w3:=(by rw [hw3];exact kb_alloc2 0 w _ _);have c9:=(uh HC).1 w3 kk;have f9:=(uh HC).2 w3 kk;clear kk;subst hw3);refine ⟨rfl,.tuple #[],by simp [results,Tryz.results63],?_⟩;obtain ⟨s1,s2⟩:=(uh HS) _ (kb_alloc2 0 w _ _);exact ⟨rfl,s1,fun q'=>⟨fun e=>by rw [(uh HB)] at e;cases e;exact s2,fun e=>by rw [(uh HB)] at e;cases e⟩⟩
 ·rw [if_neg (by rw [← hm];exact hm1)] at hput;rw [← hm] at HRo;have g9:=bne (show (m:Int) ≠ 1 by omega);have HS:Hid (∀ W',Kb 0 w W'→OwI base W' v (put ⟨(n:Int),oa,ob,oc,od⟩ T)):=(fun W' kk=>by rw [hput];exact hO.kb kk:∀ W',_)
  obtain ⟨ad,cap,rfl⟩:=own_shape hO;clear ht hO hl hg hput hop hs hm hm1 hmI h1 h2;go_enter Tryz.func63,Tryz.ntmps63;go_wp2_with (go_at_call 109;refine (HRo _).mono ?_;rintro e w3 ⟨rfl,rfl⟩);refine ⟨rfl,.tuple #[],by simp [results,Tryz.results63],?_⟩;exact ⟨rfl,(uh HS) _ (kb_alloc2 0 w _ _),fun q'=>⟨fun _=>Kx.of_kb (kb_alloc2 0 w _ _),fun _=>kb_alloc2 0 w _ _⟩⟩
theorem sp_write {np base : Nat} {d : Pd} {v : Value} {T : List Int} (a : Iv) (w : World) (ht : Tok np d a) (hO : OwI base w v T) (hl : (T.length : Int) = d.g) (hg : d.g ≤ 250) :
  Calls Tryz.prog 63 #[.agg #[.int .i64 a.o,.int .i64 a.a,.int .i64 a.b,.int .i64 a.c,.int .i64 a.d],v] w (WrA a T base v w):=by
 by_cases h:a.o=6
 ·exact wr_6 a w ht hO hl hg h
 have n6:=h;clear h;by_cases h:a.o=22
 ·exact wr_22 a w ht hO hl hg h
 have n22:=h;clear h;by_cases h:a.o=27
 ·exact wr_27 a w ht hO hl hg h
 have n27:=h;clear h;by_cases h:a.o=28
 ·exact wr_28 a w ht hO hl hg h
 have n28:=h;clear h;by_cases h:a.o=40
 ·exact wr_40 a w ht hO hl hg h
 have n40:=h;clear h;by_cases h:a.o=42
 ·exact wr_42 a w ht hO hl hg h
 have n42:=h;clear h;by_cases h:a.o=41
 ·exact wr_41 a w ht hO hl hg h
 have n41:=h;clear h;exact wr_def a w ht hO hl hg ⟨n6,n22,n27,n28,n40,n42,n41⟩
def Kv (vt:Value) (q:Nat) (W w':World):Prop:=Kx q W w'∧(vt.ownBlock=none→Kb 0 W w')
theorem Kv.trans {vt:Value} {q:Nat} {W w1 w2:World} (h:Kv vt q W w1) (k:Kv vt q w1 w2):Kv vt q W w2:=⟨h.1.trans k.1,fun e=>(h.2 e).trans (k.2 e)⟩
theorem Kv.of_kb {vt:Value} {q:Nat} {W w':World} (h:Kb 0 W w'):Kv vt q W w':=⟨Kx.of_kb h,fun _=>h⟩
theorem Kv.size {vt:Value} {q:Nat} {W w':World} (h:Kv vt q W w'):W.heap.size≤w'.heap.size:=h.1.size
structure RM (base q:Nat) (vt:Value) (w4:World) (Tl Sl Kl:List Int) (vk vs:Value) (W:World):Prop where
 kx:Kv vt q w4 W
 ty:OwI base W vt Tl
 tk:OwI w4.heap.size W vk Kl
 st:OwI w4.heap.size W vs Sl
 ne:∀ g,vk.ownBlock=some g→vs.ownBlock ≠ some g
 qq:∀ g,vt.ownBlock=some g→g=q
 q4:q < w4.heap.size
theorem RM.start {base q:Nat} {vt:Value} {w4:World} {Tl:List Int} (h:OwI base w4 vt Tl) (hq:∀ g,vt.ownBlock=some g→g=q) (h4:q < w4.heap.size):RM base q vt w4 Tl [] [] (.slice none 0 0) (.slice none 0 0) w4 :=
 ⟨⟨⟨rfl,rfl,Nat.le_refl _,fun _ _ _=>rfl⟩,fun _=>Kb.refl _ _⟩,h,World.ownsRow_nil _ _ _ _,World.ownsRow_nil _ _ _ _,fun g e=>(by cases e),hq,h4⟩
theorem RM.kb {base q:Nat} {vt:Value} {w4:World} {Tl Sl Kl:List Int} {vk vs:Value} {W W':World} (h:RM base q vt w4 Tl Sl Kl vk vs W) (k:Kb 0 W W'):RM base q vt w4 Tl Sl Kl vk vs W' :=
 ⟨h.kx.trans (Kv.of_kb k),h.ty.kb k,h.tk.kb k,h.st.kb k,h.ne,h.qq,h.q4⟩
theorem RM.hi {base q:Nat} {vt:Value} {w4:World} {Tl Sl Kl:List Int} {vk vs:Value} {W:World} (h:RM base q vt w4 Tl Sl Kl vk vs W):(∀ g,vk.ownBlock=some g→w4.heap.size≤g∧g < W.heap.size)∧∀ g,vs.ownBlock=some g→w4.heap.size≤g∧g < W.heap.size:=⟨fun g e=>h.tk.lt g e,fun g e=>h.st.lt g e⟩
theorem RM.setT {base q:Nat} {vt:Value} {w4:World} {Tl Sl Kl:List Int} {vk vs:Value} {W:World} (h:RM base q vt w4 Tl Sl Kl vk vs W) {k:Nat} (hk:k < Tl.length):∃ (b:Addr) (cap:Nat) (y:Int),vt = .slice (some b) Tl.length cap∧Tl.length≤cap∧Tl[k]? = some y∧W.cell? (b.add k)=some (.int .i64 y)∧(∀ j,W.frozen? (b.add j)=false)∧∀ W',Kb 0 W W'→∀ x,RM base q vt w4 (Tl.set k x) Sl Kl vk vs (W'.setCell (b.add k) (.int .i64 x)):=by
 obtain ⟨b,q',cap,y,e1,e2,e3,e4,e5,e6,e7,e8⟩:=own_wr h.ty hk;have hq:=h.qq q' e5;subst hq;obtain ⟨y',hy'⟩:∃ y,Tl[k]? = some y:=⟨_,List.getElem?_eq_getElem hk⟩
 have hyy:y=y':=by
  obtain ⟨pa,ca,f1,_,f2⟩:=h.ty.rz;obtain ⟨a,g1,-,g2⟩:=f2 (by omega);have:b=a:=by rw [e1,g1] at f1;simpa using (Value.slice.inj f1).1
  have h9:=g2 k y' hy';rw [← this,e6] at h9
  simpa using h9
 subst hyy;refine ⟨b,cap,y,e1,e3,hy',e6,e7,fun W' kk x=>?_⟩;obtain ⟨s1,s2⟩:=e8 W' kk x;have h4:=h.q4;have hb:∀ g,w4.heap.size≤g→g < W.heap.size→(W'.setCell (b.add k) (.int .i64 x)).heap[g]? = W.heap[g]?:=fun g h1 h2=>s2.block g h2 (by omega);exact ⟨⟨h.kx.1.trans s2,fun e=>by rw [e5] at e;cases e⟩,s1,rowBlk' h.tk (fun g e=>hb g (h.tk.lt g e).1 (h.tk.lt g e).2),rowBlk' h.st (fun g e=>hb g (h.st.lt g e).1 (h.st.lt g e).2),h.ne,h.qq,h.q4⟩
theorem iv_len (L:List Int):(iv L).length=L.length:=by unfold iv;simp
theorem owi_app {base:Nat} {W:World} {v:Value} {L:List Int} {x:Int} {n:Nat} (hn:n=L.length+1) (h:W.ownsRow base 3 1 v n (iv L ++ [.int .i64 x])):OwI base W v (L ++ [x]):=by
 unfold OwI;rw [iv_app,List.length_append,List.length_singleton,← hn];exact h
theorem RM.appS {base q:Nat} {vt:Value} {w4:World} {Tl Sl Kl:List Int} {vk vs:Value} {W:World} (h:RM base q vt w4 Tl Sl Kl vk vs W) {E:Obj} {g n c' H:Nat} {w7:World} {x:Int} {v':Value} (hv:v' = .slice (some ⟨g,0,none⟩) n c') (hn:n=Sl.length+1) (h1:w7.ownsRow w4.heap.size 3 1 v' n (iv Sl ++ [.int .i64 x])) (h2:(W.alloc E).grownBy w7 vs.ownBlock) (h3:vs.ownBlock=some g∨g=H) (hH:W.heap.size≤H):RM base q vt w4 Tl (Sl ++ [x]) Kl vk v' w7:=by
 have hhi:=h.hi;have h4:=h.q4;have hbl:∀ b,b < W.heap.size→some b ≠ vs.ownBlock→w7.heap[b]? = W.heap[b]?:=fun b hb hne=>(h2.block b (by rw [World.size_alloc];omega) hne).trans ((kb_alloc 0 W E).block b zq hb);have hs:=h2.size;rw [World.size_alloc] at hs;have hx:=h.kx.1;have hvb:v'.ownBlock=some g:=by rw [hv];rfl
 refine ⟨⟨⟨h2.os.trans hx.os,h2.output.trans hx.output,by have:=hx.size;omega,fun k hk hkq=>(hbl k (by have:=hx.size;omega) (fun e=>by have:=hhi.2 k e.symm;omega)).trans (hx.block k hk hkq)⟩,fun e=>((h.kx.2 e).alloc E).gr h2 (fun g eg=>(hhi.2 g eg).1)⟩,rowBlk' h.ty (fun b e=>hbl b (by have:=h.qq b e;have:=hx.size;omega) (fun e2=>by have:=h.qq b e;have:=hhi.2 b e2.symm;omega)),?_,?_,?_,h.qq,h4⟩
 ·exact rowBlk' h.tk (fun b e=>hbl b (hhi.1 b e).2 (fun e2=>h.ne b e e2.symm))
 ·exact owi_app hn h1
 ·intro b e e2;rw [hvb] at e2;have eg:g=b:=by simpa using e2
  subst eg;rcases h3 with h3 | h3
  ·exact h.ne g e h3
  ·have:=(hhi.1 g e).2;omega
theorem RM.appK {base q:Nat} {vt:Value} {w4:World} {Tl Sl Kl:List Int} {vk vs:Value} {W:World} (h:RM base q vt w4 Tl Sl Kl vk vs W) {E:Obj} {g n c' H:Nat} {w7:World} {x:Int} {v':Value} (hv:v' = .slice (some ⟨g,0,none⟩) n c') (hn:n=Kl.length+1) (h1:w7.ownsRow w4.heap.size 3 1 v' n (iv Kl ++ [.int .i64 x])) (h2:(W.alloc E).grownBy w7 vk.ownBlock) (h3:vk.ownBlock=some g∨g=H) (hH:W.heap.size≤H):RM base q vt w4 Tl Sl (Kl ++ [x]) v' vs w7:=by
 have hhi:=h.hi;have h4:=h.q4;have hbl:∀ b,b < W.heap.size→some b ≠ vk.ownBlock→w7.heap[b]? = W.heap[b]?:=fun b hb hne=>(h2.block b (by rw [World.size_alloc];omega) hne).trans ((kb_alloc 0 W E).block b zq hb);have hs:=h2.size;rw [World.size_alloc] at hs;have hx:=h.kx.1;have hvb:v'.ownBlock=some g:=by rw [hv];rfl
 refine ⟨⟨⟨h2.os.trans hx.os,h2.output.trans hx.output,by have:=hx.size;omega,fun k hk hkq=>(hbl k (by have:=hx.size;omega) (fun e=>by have:=hhi.1 k e.symm;omega)).trans (hx.block k hk hkq)⟩,fun e=>((h.kx.2 e).alloc E).gr h2 (fun g eg=>(hhi.1 g eg).1)⟩,rowBlk' h.ty (fun b e=>hbl b (by have:=h.qq b e;have:=hx.size;omega) (fun e2=>by have:=h.qq b e;have:=hhi.1 b e2.symm;omega)),?_,?_,?_,h.qq,h4⟩
 ·exact owi_app hn h1
 ·exact rowBlk' h.st (fun b e=>hbl b (hhi.2 b e).2 (fun e2=>h.ne b e2.symm e))
 ·intro b e e2;rw [hvb] at e;have eg:g=b:=by simpa using e
  subst eg;rcases h3 with h3 | h3
  ·exact h.ne g h3 e2
  ·have:=(hhi.2 g e2).2;omega
def RcP (o j:Nat):Prop:=(wts (pr o j) = []∧(wm (mr o j)).1=0)∨(wts (pr o j) = [(wm (mr o j)).1]∧opd (pr o j)=true∧(wm (mr o j)).2=true∧(wm (mr o j)).1 ≠ 0∧mr o j ≠ 18∧mr o j ≠ 19∧mr o j ≠ 20∧pcl (pr o j)=14)∨(wts (pr o j) = [(wm (mr o j)).1]∧opd (pr o j)=false∧(wm (mr o j)).2=false∧(wm (mr o j)).1 ≠ 0∧mr o j ≠ 18∧mr o j ≠ 19∧mr o j ≠ 20∧pcl (pr o j)=12)∨(pr o j=19∧mr o j=18)∨(pr o j=20∧mr o j=20)∨(pr o j=21∧mr o j=19∧o=40∧j=0)
instance (o j:Nat):Decidable (RcP o j):=by unfold RcP;infer_instance
theorem rc_all:∀ o,o < 43→∀ j,j < 4→RcP o j∧(o=40→j ≠ 0→wts (pr o j) = [])∧(o=11→wts (pr o j) = []):=by decide
theorem Kx.cellA {q:Nat} {W w':World} (h:Kx q W w') {b:Addr} {v:Value} (hb:b.block ≠ q) (hc:W.cell? b=some v):w'.cell? b=some v :=
 (World.cell?_of_block (h.block b.block (lt_of_cell' hc) hb)).trans hc
theorem Kv.cellA {vt:Value} {q:Nat} {W w':World} (h:Kv vt q W w') {b:Addr} {v:Value} (hb:b.block ≠ q) (hc:W.cell? b=some v):w'.cell? b=some v:=h.1.cellA hb hc
def mk (a:Iv) (j:Nat) (K:List Int):List Int:=K ++ (if a.o=40∧1≤j then [a.a] else [])
theorem take1 (L:List Int) (k:Nat) (y:Int):(L.drop k).take 1 = [y]↔L[k]? = some y:=by
 rcases Nat.lt_or_ge k L.length with h | h
 ·rw [List.drop_eq_getElem_cons h,List.getElem?_eq_getElem h];simp only [List.take_succ_cons,List.take_zero,List.cons.injEq,and_true,Option.some.injEq]
 ·rw [List.drop_eq_nil_of_le h,List.getElem?_eq_none h];simp
theorem take2 (L:List Int) (k:Nat) (y z:Int):(L.drop k).take 2 = [y,z]↔L[k]? = some y∧L[k+1]? = some z:=by
 rcases Nat.lt_or_ge k L.length with h | h
 ·rw [List.drop_eq_getElem_cons h,List.getElem?_eq_getElem h,← take1 L (k+1) z];simp only [List.take_succ_cons,List.cons.injEq,Option.some.injEq]
 ·rw [List.drop_eq_nil_of_le h,List.getElem?_eq_none h];simp
theorem take3 (L:List Int) (k:Nat) (y z u:Int):(L.drop k).take 3 = [y,z,u]↔L[k]? = some y∧L[k+1]? = some z∧L[k+2]? = some u:=by
 rcases Nat.lt_or_ge k L.length with h | h
 ·rw [List.drop_eq_getElem_cons h,List.getElem?_eq_getElem h,← take2 L (k+1) z u];simp only [List.take_succ_cons,List.cons.injEq,Option.some.injEq]
 ·rw [List.drop_eq_nil_of_le h,List.getElem?_eq_none h];simp
theorem rdn_none {a:Iv} {T:List Int} {i:Nat} (h:rdn a T i=none):∀ k,rdn a T (i+k)=none
 | 0=>h
 | k+1=>by show (rdn a T (i+k)).bind _=none;rw [rdn_none h k];rfl
theorem rd_fail {a:Iv} {T:List Int} {i:Nat} (hi:i≤4) (h:rdn a T i=none):rd a T=none:=by
 have:=rdn_none h (4 - i)
 rwa [show i+(4 - i)=4 by omega] at this
def RdP (F:Nat→Pd) (a:Iv) (T:List Int):Prop:=bx F a T∧∃ s,rd a T=some s
def RdA (F:Nat→Pd) (a:Iv) (T:List Int) (base q:Nat) (vt:Value) (w:World) (e:Ending) (w':World):Prop:=∃ vk,e = .returned (.tuple #[vk,.bool (dc (RdP F a T))])∧Kv vt q w w'∧∀ s,RdP F a T→rd a T=some s→OwI base w' vt s.T∧Rz (fun k=>w.heap.size≤k) w' vk (mk a 4 s.K)∧IsSl vk
theorem RdA.fail {F:Nat→Pd} {a:Iv} {T:List Int} {base q:Nat} {vt:Value} {w w':World} (h:¬ RdP F a T) (k:Kv vt q w w'):RdA F a T base q vt w (.returned (.tuple #[.slice none 0 0,.bool false])) w' :=
 ⟨_,by rw [dc_f h],k,fun s hp _=>absurd hp h⟩
theorem rdp_fail {F:Nat→Pd} {a:Iv} {T:List Int} {i:Nat} (hi:i≤4) (h:rdn a T i=none):¬ RdP F a T:=fun q=>by
 obtain ⟨s,hs⟩:=q.2;rw [rd_fail hi h] at hs;cases hs
theorem rdn_next {a:Iv} {T:List Int} {j:Nat} {s:Rs} (h:rdn a T j=some s):rdn a T (j+1)=rd1 (pr a.o.toNat j) (fld a j) s:=by
 show (rdn a T j).bind _ = _;rw [h];rfl
theorem rdn_len {a:Iv} {T:List Int}:∀ (j:Nat) (s:Rs),rdn a T j=some s→s.T.length=T.length∧s.S.length≤j∧s.K.length≤j
 | 0,s,h=>by cases h;exact ⟨rfl,Nat.le_refl _,Nat.le_refl _⟩
 | j+1,s,h=>by
  cases hr:rdn a T j with
  | none =>
   have h':(rdn a T j).bind (rd1 (pr a.o.toNat j) (fld a j))=some s:=h;rw [hr] at h';cases h'
  | some s' =>
   obtain ⟨i1,i2,i3⟩:=rdn_len j s' hr;rw [rdn_next hr] at h;unfold rd1 at h;split at h
   ·cases h;exact ⟨i1,by omega,by omega⟩
   ·split at h
    ·cases h;split
     ·refine ⟨by simpa using i1,by simpa using (by omega:s'.S.length≤j+1),by simp;omega⟩
     ·split
      ·exact ⟨i1,by omega,by omega⟩
      ·exact ⟨i1,by simp;omega,by simp;omega⟩
    ·cases h
theorem sp_rolesB (n:Nat) (h1 : 1≤n) (h2:n≤42) (w:World):Calls Tryz.prog 109 #[.int .i64 n] w fun e w'=>∃ F:Addr,e = .returned (.slice (some F) 4 4)∧(∀ j,j < 4→w'.cell? (F.add j)=some (.int .i64 (mr n j:Int)))∧Kb 0 w w'∧w.heap.size≤F.block:=by
 refine (sp_roles n h1 h2 w).mono ?_;rintro e w' ⟨rfl,rfl⟩;refine ⟨_,rfl,fun j hj=>?_,kb_alloc _ _ _,Nat.le_refl _⟩;rw [addr0];rcases (by omega:j=0∨j=1∨j=2∨j=3) with rfl | rfl | rfl | rfl <;> exact cell_of (alloc_new _ _ _) rfl
theorem sp_fieldsB (a:Iv) (w:World):Calls Tryz.prog 110 #[insv a] w fun e w'=>∃ F:Addr,e = .returned (.slice (some F) 4 4)∧(∀ j,j < 4→w'.cell? (F.add j)=some (.int .i64 (fld a j)))∧Kb 0 w w'∧w.heap.size≤F.block:=by
 refine (sp_fields a w).mono ?_;rintro e w' ⟨rfl,rfl⟩;refine ⟨_,rfl,fun j hj=>?_,kb_alloc2 _ _ _ _,by show w.heap.size≤w.heap.size+1;omega⟩;rw [addr0,show w.heap.size+1=(w.alloc (.cells #[.int .i64 a.o,.int .i64 a.a,.int .i64 a.b,.int .i64 a.c,.int .i64 a.d] 84)).heap.size from (World.size_alloc _ _).symm];rcases (by omega:j=0∨j=1∨j=2∨j=3) with rfl | rfl | rfl | rfl <;> exact cell_of (alloc_new _ _ _) rfl
def RL (a:Iv) (T:List Int) (base q:Nat) (vt:Value) (w4:World) (j:Nat) (vk vs:Value) (W:World):Prop:=∃ s,rdn a T j=some s∧RM base q vt w4 s.T s.S (mk a j s.K) vk vs W
theorem rgt_neg {x:Int} {k:Nat} (h:x = -1 - (k:Int)):rgt x=k∧x < 0:=by unfold rgt;refine ⟨?_,by omega⟩;rw [if_pos (by omega)];omega
theorem rgt_pos {x:Int} {k:Nat} (h:x=(k:Int)):rgt x=k∧¬ x < 0:=by unfold rgt;refine ⟨?_,by omega⟩;rw [if_neg (by omega)];omega
theorem rd1_one {r:Nat} {x:Int} {s:Rs} {wv:Int} {k:Nat} (g1:wts r = [wv]) (hk:rgt x=(k:Int)):rd1 r x s=if s.T[k]? = some wv∧¬ (x < 0∧(k:Int) ∈ s.S) then some (if x < 0 then ⟨s.T.set k 0,s.S,s.K ++ [(k:Int)]⟩ else if opd r=true then s else ⟨s.T,s.S ++ [(k:Int)],s.K⟩) else none:=by
 unfold rd1;rw [if_neg (by rw [g1];simp),g1,hk,show ((k:Int)).toNat=k from rfl,show ([wv]:List Int).length=1 from rfl];simp only [take1]
theorem rd1_more {r:Nat} {s:Rs} {k:Nat} (hr:r=19∨r=20∨r=21):rd1 r (k:Int) s=if (s.T.drop k).take (wts r).length=wts r then some ⟨s.T,s.S ++ [(k:Int)],s.K⟩ else none:=by
 have hx:=rgt_pos (x:=(k:Int)) (k:=k) rfl;unfold rd1;rw [if_neg (by rcases hr with rfl | rfl | rfl <;> decide),hx.1,show ((k:Int)).toNat=k from rfl];by_cases c:(s.T.drop k).take (wts r).length=wts r
 ·rw [if_pos ⟨c,fun q=>hx.2 q.1⟩,if_pos c,if_neg hx.2,if_neg (by rcases hr with rfl | rfl | rfl <;> decide)]
 ·rw [if_neg (fun q=>c q.1),if_neg c]
theorem mk_ne {a:Iv} {j:Nat} {K:List Int} (h:a.o ≠ 40):mk a j K=K:=by unfold mk;rw [if_neg (fun q=>h q.1)];simp
theorem rd_11 {a:Iv} (T:List Int) (h:a.o=11):rd a T=some ⟨T,[],[]⟩:=by
 have e:a.o.toNat=11:=by omega
 have st:∀ j,j < 4→rdn a T j=some ⟨T,[],[]⟩→rdn a T (j+1)=some ⟨T,[],[]⟩:=fun j hj hh=>by
  rw [rdn_next hh,e];unfold rd1;rw [if_pos ((rc_all 11 (by omega) j hj).2.2 rfl)]
 exact st 3 (by omega) (st 2 (by omega) (st 1 (by omega) (st 0 (by omega) rfl)))
