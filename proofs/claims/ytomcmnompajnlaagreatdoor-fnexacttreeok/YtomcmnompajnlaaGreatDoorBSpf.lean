import Derived.Test.YtomcmnompajnlaaGreatDoorBSpe
import Derived.Deep.RegionHeldLaw
set_option maxRecDepth 100000
set_option maxHeartbeats 8000000
namespace Go.Proofs.YtomcmnompajnlaaGreatDoor.Fo
open Go.ChangeShapes Go.WideShapes Go.ChangeAt Go.RowKit
set_option linter.unusedVariables false
structure Kz (a w:World):Prop where
  os:w.os=a.os
  output:w.output=a.output
  size:a.heap.size≤w.heap.size
  block:∀ i,i < a.heap.size→w.heap[i]? = a.heap[i]?
theorem Kz.refl (a:World):Kz a a:=⟨rfl,rfl,Nat.le_refl _,fun _ _=>rfl⟩
theorem Kz.trans {a b c:World} (h:Kz a b) (k:Kz b c):Kz a c :=
  ⟨k.os.trans h.os,k.output.trans h.output,Nat.le_trans h.size k.size,fun i hi=>(k.block i (Nat.lt_of_lt_of_le hi h.size)).trans (h.block i hi)⟩
theorem Kz.of_below {a w:World} (h:Below a.heap.size a w):Kz a w:=⟨h.os,h.output,h.size,h.block⟩
theorem Kz.of_kept {a w:World} (h:Rd.Kept a w):Kz a w :=
  have k:Kb a.heap.size a w:=Kb.of_kept h
  ⟨k.os,k.output,k.size,fun i hi=>k.block i hi (by omega)⟩
theorem Kz.kept {a w:World} (h:Kz a w):Rd.Kept a w :=
  Kb.kept (B:=a.heap.size) ⟨h.os,h.output,h.size,fun i hi _=>h.block i hi⟩ (Nat.le_refl _)
theorem Kz.drewN {a w:World} (h:Kz a w) (n:Nat):Kz a (w.drewN n):=⟨h.os,h.output,h.size,h.block⟩
theorem Kz.alloc {a w:World} (h:Kz a w) (o:Obj):Kz a (w.alloc o):=h.trans (.of_below (bel1 w o))
theorem Kz.cell {a w:World} (h:Kz a w) {p:Addr} (hp:p.block < a.heap.size):w.cell? p=a.cell? p:=World.cell?_of_block (h.block p.block hp)
theorem Kz.setNew {a w:World} (h:Kz a w) (p:Addr) (hp:a.heap.size≤p.block) (v:Value):Kz a (w.setCell p v) :=
  ⟨h.os,h.output,by simpa using h.size,fun i hi=>(Below.heap_setCell w _ _ _ (by omega)).trans (h.block i hi)⟩
theorem Kz.gd {a w:World} (h:Kz a w) (hg:Gd a):Gd w:=hg.blk (fun i hi=>h.block i (Nat.lt_of_lt_of_le hi hg.size)) (Nat.le_trans hg.size h.size)
theorem RowV.kz {W W':World} {v:Value} {n:Nat} {A:Nat→Value} (h:RowV W v n A) (hb:Kz W W'):RowV W' v n A:=by
  obtain ⟨pa,cap,h1,h2⟩:=h
  refine ⟨pa,cap,h1,fun hn=>?_⟩
  obtain ⟨a,ha,hc,hr⟩:=h2 hn
  exact ⟨a,ha,hc,fun i hi=>(hb.cell (lt_of_cell' (hr i hi))).trans (hr i hi)⟩
theorem Cel9.kz {W W':World} {b:Addr} {a:Fv} {vn vk:Value} (h:Cel9 W b a vn vk) (hb:Kz W W'):Cel9 W' b a vn vk:=by
  have hl:=lt_of_cell' h.c0
  have e:∀ j,W'.cell? ⟨b.block,j,none⟩=W.cell? ⟨b.block,j,none⟩:=fun j=>hb.cell (p:=⟨b.block,j,none⟩) hl
  exact ⟨(hb.cell hl).trans h.c0,(e _).trans h.c1,(e _).trans h.c2,(e _).trans h.c3,(e _).trans h.c4,(e _).trans h.c5,(e _).trans h.c6,(e _).trans h.c7,(e _).trans h.c8⟩
theorem FormC.kz {W W':World} {b:Addr} {g:Gv} (h:FormC W b g) (hb:Kz W W'):FormC W' b g:=by
  obtain ⟨vn,vk,h1,h2,h3⟩:=h
  exact ⟨vn,vk,h1.kz hb,h2.kz hb,h3.kz hb⟩
theorem RowF.kz {W W':World} {v:Value} {n:Nat} {F:Nat→Gv} (h:RowF W v n F) (hb:Kz W W'):RowF W' v n F:=by
  obtain ⟨pa,cap,h1,h2⟩:=h
  exact ⟨pa,cap,h1,fun hn=>by obtain ⟨a,ha,hc,hr⟩:=h2 hn;exact ⟨a,ha,hc,fun i hi=>(hr i hi).kz hb⟩⟩
theorem im_noname (x:ByteArray) (w:World) (hg:Gd w):Calls Tryz.prog 141 #[.string x] w fun e w'=>e = .returned (.bool (!dc (nmp x)))∧Kz w w':=by
  have h1:=fun f t l n=>nm_w x f t l n w hg
  clear hg
  generalize dc (nmp x)=z at h1 ⊢
  go_enter Tryz.func141,Tryz.ntmps141
  go_wp2_with fail
  refine (h1 _ _ _ _).mono ?_
  rintro e w1 ⟨R,rfl,hR,hk⟩
  have HK:Hid (Kz w w1):=Kz.of_kept hk
  clear h1 hk
  cases z with
  | true =>
    have g1:=str1 (fun h=>by have:=hR.1 h;cases this)
    clear hR
    go_wp2_with fail
    go_ret
    exact ⟨by simp [g1],HK⟩
  | false =>
    have g1:=hR.2 rfl
    subst g1
    clear hR
    go_wp2_with fail
    go_ret
    exact ⟨rfl,HK⟩
theorem en_noname:∀ args w,(callFunc 141 args).run Tryz.prog w = .ok (.enter 141 args) w:=enters_of Tryz.func141 (by kernel_rfl) rfl
theorem im_index {v : Value} {p : Nat} {A : Nat → ByteArray} (w : World) (hg : Gd w) (hr : RowV w v p (fun i => .string (A i))) (hp : p ≤ 1048576) :
    Calls Tryz.prog 157 #[v,.func (.func 141) #[] #[]] w fun e w'=>∃ r:Int,e = .returned (.int .i64 r)∧((0≤r∧¬ ∀ j,j < p→nmp (A j))∨(r = -1∧∀ j,j < p→nmp (A j)))∧Kz w w':=by
  obtain ⟨pa,ca,rfl,hr2⟩:=hr
  have hpI:(p:Int)≤1048576:=by omega
  have HR:Hid (Gd w∧(0 < p→∃ a:Addr,pa=some a∧p≤ca∧∀ i,i < p→w.cell? (a.add i)=some (.string (A i)))):=(⟨hg,hr2⟩:_∧_)
  clear hg hr2 hp
  have eg:=en_noname
  go_enter Tryz.func157,Tryz.ntmps157
  go_wp2_with fail
  go_loopw [8] (fun s8 wr=>∃ i:Nat,s8 = .int .i64 (i:Int)∧i≤p∧Hid (Kz w wr∧∀ j,j < i→nmp (A j))) (fun s8 _=>p - (intOf s8).toNat)
  case atStart=>exact ⟨0,rfl,Nat.zero_le _,(⟨Kz.refl _,fun j hj=>by omega⟩:_∧_)⟩
  case round =>
    obtain ⟨i,rfl,hin,HI⟩:=hrel
    obtain ⟨hk,ha⟩:=(show Kz w wr∧∀ j,j < i→nmp (A j) from HI)
    obtain ⟨hg,hr2⟩:=(show Gd w∧(0 < p→∃ a:Addr,pa=some a∧p≤ca∧∀ i,i < p→w.cell? (a.add i)=some (.string (A i))) from HR)
    rcases Nat.lt_or_ge i p with hi | hi
    · have hiI:(i:Int) < (p:Int):=by omega
      obtain ⟨a,rfl,hca,hra⟩:=hr2 (by omega)
      have qa:=(hk.cell (lt_of_cell' (hra i hi))).trans (hra i hi)
      have hcall:=im_noname (A i) wr (hk.gd hg)
      by_cases hn:nmp (A i)
      · rw [dc_t hn] at hcall
        have HX:Hid (Kz w wr∧∀ j,j < i+1→nmp (A j)):=(⟨hk,fun j hj=>by
          by_cases e:j=i
          · rw [e];exact hn
          · exact ha j (by omega)⟩:_∧_)
        clear HI hk ha hg hr2 hra hn
        generalize A i=x at *
        go_wp2_with (go_at_fn 141;refine hcall.mono ?_;rintro e w' ⟨rfl,hb'⟩)
        go_roundw
        case rel=>exact ⟨i+1,by go_num,by omega,(⟨HX.1.trans hb',HX.2⟩:_∧_)⟩
        case measure=>simp [intOf];omega
      · rw [dc_f hn] at hcall
        have HX:Hid (Kz w wr∧¬ ∀ j,j < p→nmp (A j)):=(⟨hk,fun h=>hn (h i hi)⟩:_∧_)
        clear HI hk ha hg hr2 hra hn
        generalize A i=x at *
        go_wp2_with (go_at_fn 141;refine hcall.mono ?_;rintro e w' ⟨rfl,hb'⟩)
        go_ret
        exact ⟨(i:Int),rfl,.inl ⟨by omega,HX.2⟩,HX.1.trans hb'⟩
    · obtain rfl:i=p:=by omega
      have HX:Hid (Kz w wr∧∀ j,j < i→nmp (A j)):=HI
      clear HR hg hr2 hk ha HI
      go_wp2_with fail
      go_ret
      exact ⟨-1,rfl,.inr ⟨rfl,HX.2⟩,HX.1⟩
theorem im_contains {v : Value} {p : Nat} {A : Nat → ByteArray} (w : World) (hg : Gd w) (hr : RowV w v p (fun i => .string (A i))) (hp : p ≤ 1048576) :
    Calls Tryz.prog 140 #[v,.func (.func 141) #[] #[]] w fun e w'=>e = .returned (.bool (!dc (∀ j,j < p→nmp (A j))))∧Kz w w':=by
  have h1:=im_index w hg hr hp
  obtain ⟨pa,ca,rfl,hr2⟩:=hr
  clear hg hr2 hp
  obtain ⟨z,hz⟩:∃ z,z=dc (∀ j,j < p→nmp (A j)):=⟨_,rfl⟩
  have HZ:Hid (z=dc (∀ j,j < p→nmp (A j))):=hz
  rw [← hz]
  clear hz
  go_enter Tryz.func140,Tryz.ntmps140
  go_wp2_with fail
  refine h1.mono ?_
  rintro e w1 ⟨r,rfl,hR,hk⟩
  have HK:Hid (Kz w w1):=hk
  clear h1 hk
  rcases hR with ⟨h0,hn⟩ | ⟨rfl,hn⟩
  · have HX:Hid (z=false):=(show z = _ from HZ).trans (dc_f hn)
    clear hn HZ
    go_wp2_with fail
    go_ret
    exact ⟨by rw [show z=false from HX];rfl,HK⟩
  · have HX:Hid (z=true):=(show z = _ from HZ).trans (dc_t hn)
    clear hn HZ
    go_wp2_with fail
    go_ret
    exact ⟨by rw [show z=true from HX];rfl,HK⟩
structure Bw (W:World) (b:Nat) (r:Rw):Prop where
  c0:W.cell? ⟨b,0,none⟩=some (.int .i64 r.kl)
  c1:W.cell? ⟨b,1,none⟩=some (.int .i64 r.kh)
  c2:W.cell? ⟨b,2,none⟩=some (.int .i64 r.nl)
  c3:W.cell? ⟨b,3,none⟩=some (.int .i64 r.nh)
  c4:W.cell? ⟨b,4,none⟩=some (.int .i64 r.ol)
  c5:W.cell? ⟨b,5,none⟩=some (.int .i64 r.oh)
  c6:W.cell? ⟨b,6,none⟩=some (.int .i64 r.ml)
  c7:W.cell? ⟨b,7,none⟩=some (.int .i64 r.mh)
  c8:W.cell? ⟨b,8,none⟩=some (.int .i64 r.t)
theorem Bw.kz {W W':World} {b:Nat} {r:Rw} (h:Bw W b r) (hb:Kz W W'):Bw W' b r:=by
  have hl:=lt_of_cell h.c0
  have e:∀ j,W'.cell? ⟨b,j,none⟩=W.cell? ⟨b,j,none⟩:=fun j=>hb.cell (p:=⟨b,j,none⟩) hl
  exact ⟨(e _).trans h.c0,(e _).trans h.c1,(e _).trans h.c2,(e _).trans h.c3,(e _).trans h.c4,(e _).trans h.c5,(e _).trans h.c6,(e _).trans h.c7,(e _).trans h.c8⟩
theorem Bw.new (W:World) (r:Rw) (t:TypeId):Bw (W.alloc (.cells #[.int .i64 r.kl,.int .i64 r.kh,.int .i64 r.nl,.int .i64 r.nh,.int .i64 r.ol,.int .i64 r.oh,.int .i64 r.ml,.int .i64 r.mh,.int .i64 r.t] t)) W.heap.size r:=by
  have e:∀ j,(W.alloc (.cells #[.int .i64 r.kl,.int .i64 r.kh,.int .i64 r.nl,.int .i64 r.nh,.int .i64 r.ol,.int .i64 r.oh,.int .i64 r.ml,.int .i64 r.mh,.int .i64 r.t] t)).cell? ⟨W.heap.size,j,none⟩=(#[.int .i64 r.kl,.int .i64 r.kh,.int .i64 r.nl,.int .i64 r.nh,.int .i64 r.ol,.int .i64 r.oh,.int .i64 r.ml,.int .i64 r.mh,.int .i64 r.t]:Array Value)[j]?:=fun j=>World.cell?_alloc_at _ _ _ _ rfl
  exact ⟨e 0,e 1,e 2,e 3,e 4,e 5,e 6,e 7,e 8⟩
theorem Bx.kz {W W':World} {b:Nat} {a:Fv} {vn vk:Value} (h:Bx W b a vn vk) (hb:Kz W W'):Bx W' b a vn vk:=by
  have hl:=lt_of_cell h.c0
  have e:∀ j,W'.cell? ⟨b,j,none⟩=W.cell? ⟨b,j,none⟩:=fun j=>hb.cell (p:=⟨b,j,none⟩) hl
  exact ⟨(e _).trans h.c0,(e _).trans h.c1,(e _).trans h.c2,(e _).trans h.c3,(e _).trans h.c4,(e _).trans h.c5,(e _).trans h.c6,(e _).trans h.c7,(e _).trans h.c8⟩
theorem im_holdz (x y k:Int) (w:World):Calls Tryz.prog 122 #[.agg #[.int .i64 x,.int .i64 y],.int .i64 k] w fun e w'=>e = .returned (.bool (dc (x≤k∧k≤y)))∧Kz w w':=(im_holds x y k w).mono fun _ _ h=>⟨h.1,.of_below h.2⟩
theorem im_altext (r:Rw) (hr:r.t=0∨r.t=1∨r.t=3∨r.t=4) (x:ByteArray) (w:World) (hg:Gd w):Calls Tryz.prog 123 #[rwv r,.string x] w fun e w'=>e = .returned (.bool (dc (txo nmp flp r.t x)))∧Kz w w':=by
  obtain ⟨kl,kh,nl,nh,ol,oh,ml,mh,t⟩:=r
  have hr':t=0∨t=1∨t=3∨t=4:=hr
  clear hr
  show Calls Tryz.prog 123 #[rwv ⟨kl,kh,nl,nh,ol,oh,ml,mh,t⟩,.string x] w fun e w'=>e = .returned (.bool (dc (txo nmp flp t x)))∧Kz w w'
  unfold rwv
  rcases hr' with rfl | rfl | rfl | rfl
  · rw [txo_0]
    clear hg
    by_cases h:x=⟨#[]⟩
    · rw [dc_t h]
      subst h
      go_enter Tryz.func123,Tryz.ntmps123
      go_wp2_with fail
      go_ret
      exact ⟨rfl,.of_below (bel1 _ _)⟩
    · rw [dc_f h]
      have h1:=str1 h
      clear h
      go_enter Tryz.func123,Tryz.ntmps123
      go_wp2_with fail
      go_ret
      exact ⟨by simp [h1],.of_below (bel1 _ _)⟩
  · rw [txo_1]
    have h1:=fun f u l n (o:Obj)=>nm_w x f u l n (w.alloc o) ((Kz.of_below (bel1 w o)).gd hg)
    clear hg
    generalize dc (nmp x)=z at h1 ⊢
    go_enter Tryz.func123,Tryz.ntmps123
    go_wp2_with fail
    refine (h1 _ _ _ _ _).mono ?_
    rintro e w1 ⟨R,rfl,hR,hk⟩
    have HK:Hid (Kz w w1):=(Kz.of_below (bel1 _ _)).trans (Kz.of_kept hk)
    clear h1 hk
    cases z with
    | true =>
      have g1:=str1 (fun h=>by have:=hR.1 h;cases this)
      clear hR
      go_wp2_with fail
      go_ret
      exact ⟨by simp [g1],HK⟩
    | false =>
      have g1:=hR.2 rfl
      subst g1
      clear hR
      go_wp2_with fail
      go_ret
      exact ⟨rfl,HK⟩
  · rw [txo_3]
    have h1:=fun f u l n (o:Obj)=>fl_w x f u l n (w.alloc o) ((Kz.of_below (bel1 w o)).gd hg)
    clear hg
    generalize dc (flp x)=z at h1 ⊢
    go_enter Tryz.func123,Tryz.ntmps123
    go_wp2_with fail
    refine (h1 _ _ _ _ _).mono ?_
    rintro e w1 ⟨R,rfl,hR,hk⟩
    have HK:Hid (Kz w w1):=(Kz.of_below (bel1 _ _)).trans (Kz.of_kept hk)
    clear h1 hk
    cases z with
    | true =>
      have g1:=str1 (fun h=>by have:=hR.1 h;cases this)
      clear hR
      go_wp2_with fail
      go_ret
      exact ⟨by simp [g1],HK⟩
    | false =>
      have g1:=hR.2 rfl
      subst g1
      clear hR
      go_wp2_with fail
      go_ret
      exact ⟨rfl,HK⟩
  · rw [txo_4]
    have h1:=fun f u l n (o:Obj)=>st_w x f u l n (w.alloc o) ((Kz.of_below (bel1 w o)).gd hg)
    clear hg
    generalize dc (x.size≤4000)=z at h1 ⊢
    go_enter Tryz.func123,Tryz.ntmps123
    go_wp2_with fail
    refine (h1 _ _ _ _ _).mono ?_
    rintro e w1 ⟨R,rfl,hR,hk⟩
    have HK:Hid (Kz w w1):=(Kz.of_below (bel1 _ _)).trans (Kz.of_kept hk)
    clear h1 hk
    cases z with
    | true =>
      have g1:=str1 (fun h=>by have:=hR.1 h;cases this)
      clear hR
      go_wp2_with fail
      go_ret
      exact ⟨by simp [g1],HK⟩
    | false =>
      have g1:=hR.2 rfl
      subst g1
      clear hR
      go_wp2_with fail
      go_ret
      exact ⟨rfl,HK⟩
theorem im_alnames (r : Rw) {v : Value} {p : Nat} {A : Nat → ByteArray} (w : World) (hg : Gd w) (hr : RowV w v p (fun i => .string (A i))) (hp : p ≤ 1048576) :
    Calls Tryz.prog 124 #[rwv r,v] w fun e w'=>e = .returned (.bool (dc ((r.nl≤(p:Int)∧(p:Int)≤r.nh)∧∀ j,j < p→nmp (A j))))∧Kz w w':=by
  have HC:Hid (∀ W,Kz w W→Calls Tryz.prog 140 #[v,.func (.func 141) #[] #[]] W fun e w'=>e = .returned (.bool (!dc (∀ j,j < p→nmp (A j))))∧Kz W w'):=(fun W hk=>im_contains W (hk.gd hg) (hr.kz hk) hp:∀ W,_)
  obtain ⟨pa,ca,rfl,hr2⟩:=hr
  have hpI:(p:Int)≤1048576:=by omega
  clear hg hr2 hp
  obtain ⟨kl,kh,nl,nh,ol,oh,ml,mh,t⟩:=r
  obtain ⟨R,hR⟩:∃ R,R=dc ((nl≤(p:Int)∧(p:Int)≤nh)∧∀ j,j < p→nmp (A j)):=⟨_,rfl⟩
  have HR:Hid (R=dc ((nl≤(p:Int)∧(p:Int)≤nh)∧∀ j,j < p→nmp (A j))):=hR
  show Calls Tryz.prog 124 #[rwv ⟨kl,kh,nl,nh,ol,oh,ml,mh,t⟩,.slice pa p ca] w fun e w'=>e = .returned (.bool (dc ((nl≤(p:Int)∧(p:Int)≤nh)∧∀ j,j < p→nmp (A j))))∧Kz w w'
  rw [← hR]
  clear hR
  have hkz:=fun o:Obj=>Kz.of_below (bel1 w o)
  unfold rwv
  go_enter Tryz.func124,Tryz.ntmps124
  go_wp2_with fail
  refine (im_holdz _ _ _ _).mono ?_
  rintro e w1 ⟨rfl,k1⟩
  have K1:=(hkz _).trans k1
  have HK1:Hid (Kz w w1):=K1
  clear hkz k1
  by_cases h:nl≤(p:Int)∧(p:Int)≤nh
  · rw [dc_t h]
    have hc:=(show ∀ W,_ from HC) w1 K1
    clear K1 HC
    go_wp2_with fail
    refine hc.mono ?_
    rintro e w2 ⟨rfl,k2⟩
    have HK2:Hid (Kz w w2):=(show Kz w w1 from HK1).trans k2
    clear hc k2 HK1
    by_cases g:∀ j,j < p→nmp (A j)
    · rw [dc_t g]
      have HX:Hid (R=true):=(show R = _ from HR).trans (dc_t ⟨h,g⟩)
      clear h g HR
      go_wp2_with fail
      go_ret
      exact ⟨by rw [show R=true from HX];rfl,HK2⟩
    · rw [dc_f g]
      have HX:Hid (R=false):=(show R = _ from HR).trans (dc_f (fun z=>g z.2))
      clear h g HR
      go_wp2_with fail
      go_ret
      exact ⟨by rw [show R=false from HX];rfl,HK2⟩
  · rw [dc_f h]
    have HX:Hid (R=false):=(show R = _ from HR).trans (dc_f (fun z=>h z.1))
    clear h HR K1 HC
    go_wp2_with fail
    go_ret
    exact ⟨by rw [show R=false from HX];rfl,HK1⟩
theorem im_allows (r : Rw) (ht : r.t = 0 ∨ r.t = 1 ∨ r.t = 3 ∨ r.t = 4) {a : Fv} {vn vk : Value} {p q : Nat} {A : Nat → ByteArray} (w : World) (hg : Gd w) (hn : RowV w vn p (fun i => .string (A i))) (hk : ∃ pk ck, vk = .slice pk q ck) (hp : p ≤ 1048576) (hq : q ≤ 1048576) :
    Calls Tryz.prog 91 #[rwv r,fmv a vn vk] w fun e w'=>e = .returned (.bool (dc (alw nmp flp r a p A q)))∧Kz w w':=by
  obtain ⟨pk,ck,rfl⟩:=hk
  have HN:Hid (∀ W,Kz w W→Calls Tryz.prog 124 #[rwv r,vn] W fun e w'=>e = .returned (.bool (dc ((r.nl≤(p:Int)∧(p:Int)≤r.nh)∧∀ j,j < p→nmp (A j))))∧Kz W w'):=(fun W hz=>im_alnames r W (hz.gd hg) (hn.kz hz) hp:∀ W,_)
  have HT:Hid (∀ W,Kz w W→Calls Tryz.prog 123 #[rwv r,.string a.x] W fun e w'=>e = .returned (.bool (dc (txo nmp flp r.t a.x)))∧Kz W w'):=(fun W hz=>im_altext r ht a.x W (hz.gd hg):∀ W,_)
  obtain ⟨pn,cn,rfl,hn2⟩:=hn
  have hqI:(q:Int)≤1048576:=by omega
  clear hg hn2 hp hq ht
  obtain ⟨kl,kh,nl,nh,ol,oh,ml,mh,t⟩:=r
  obtain ⟨k,f,u,l,o,m,x⟩:=a
  obtain ⟨R,hR⟩:∃ R,R=dc (alw nmp flp ⟨kl,kh,nl,nh,ol,oh,ml,mh,t⟩ ⟨k,f,u,l,o,m,x⟩ p A q):=⟨_,rfl⟩
  rw [← hR]
  have OUT:Hid (∀ g:alw nmp flp ⟨kl,kh,nl,nh,ol,oh,ml,mh,t⟩ ⟨k,f,u,l,o,m,x⟩ p A q→False,R=false):=(fun g=>hR.trans (dc_f g):∀ g:alw nmp flp ⟨kl,kh,nl,nh,ol,oh,ml,mh,t⟩ ⟨k,f,u,l,o,m,x⟩ p A q→False,R=false)
  have YES:Hid (alw nmp flp ⟨kl,kh,nl,nh,ol,oh,ml,mh,t⟩ ⟨k,f,u,l,o,m,x⟩ p A q→R=true):=(fun g=>hR.trans (dc_t g):alw nmp flp ⟨kl,kh,nl,nh,ol,oh,ml,mh,t⟩ ⟨k,f,u,l,o,m,x⟩ p A q→R=true)
  clear hR
  obtain ⟨W2,hW2⟩:∃ W2,W2=(w.alloc (.cells #[.int .i64 kl,.int .i64 kh,.int .i64 nl,.int .i64 nh,.int .i64 ol,.int .i64 oh,.int .i64 ml,.int .i64 mh,.int .i64 t] 140)).alloc (.cells #[.int .i64 k,.int .i64 f,.int .i64 u,.int .i64 l,.int .i64 o,.int .i64 m,.string x,.slice pn p cn,.slice pk q ck] 64):=⟨_,rfl⟩
  have K2:Kz w W2:=by rw [hW2];exact .of_below (bel2 _ _ _)
  have bw2:Bw W2 w.heap.size ⟨kl,kh,nl,nh,ol,oh,ml,mh,t⟩:=by
    rw [hW2];exact (Bw.new w ⟨kl,kh,nl,nh,ol,oh,ml,mh,t⟩ 140).kz (.of_below (bel1 _ _))
  have bx2:Bx W2 (w.heap.size+1) ⟨k,f,u,l,o,m,x⟩ (.slice pn p cn) (.slice pk q ck):=by
    rw [hW2]
    have:=Bx.new (w.alloc (.cells #[.int .i64 kl,.int .i64 kh,.int .i64 nl,.int .i64 nh,.int .i64 ol,.int .i64 oh,.int .i64 ml,.int .i64 mh,.int .i64 t] 140)) ⟨k,f,u,l,o,m,x⟩ (.slice pn p cn) (.slice pk q ck) 64
    simpa using this
  have HB2:Hid (Kz w W2∧Bw W2 w.heap.size ⟨kl,kh,nl,nh,ol,oh,ml,mh,t⟩∧Bx W2 (w.heap.size+1) ⟨k,f,u,l,o,m,x⟩ (.slice pn p cn) (.slice pk q ck)):=(⟨K2,bw2,bx2⟩:_∧_∧_)
  clear K2 bw2 bx2
  unfold rwv fmv at *
  go_enter Tryz.func91,Tryz.ntmps91
  by_cases h0 : 0≤f
  case neg =>
    have HX:Hid (R=false):=OUT (fun z=>h0 z.1.1)
    clear hW2 HB2 HN HT OUT YES
    go_wp2_with fail
    go_ret
    exact ⟨by rw [show R=false from HX];rfl,.of_below (bel2 _ _ _)⟩
  by_cases h1:f≤u
  case neg =>
    have HX:Hid (R=false):=OUT (fun z=>h1 z.1.2.1)
    clear hW2 HB2 HN HT OUT YES
    go_wp2_with fail
    go_ret
    exact ⟨by rw [show R=false from HX];rfl,.of_below (bel2 _ _ _)⟩
  by_cases h2 : 0≤l
  case neg =>
    have HX:Hid (R=false):=OUT (fun z=>h2 z.1.2.2)
    clear hW2 HB2 HN HT OUT YES
    go_wp2_with fail
    go_ret
    exact ⟨by rw [show R=false from HX];rfl,.of_below (bel2 _ _ _)⟩
  go_wp2_with fail
  rw [← hW2]
  clear hW2
  refine (im_holdz kl kh (q:Int) W2).mono ?_
  rintro e W3 ⟨rfl,kz0⟩
  have HB3:Hid (Kz w W3∧Bw W3 w.heap.size ⟨kl,kh,nl,nh,ol,oh,ml,mh,t⟩∧Bx W3 (w.heap.size+1) ⟨k,f,u,l,o,m,x⟩ (.slice pn p cn) (.slice pk q ck)):=(⟨HB2.1.trans kz0,HB2.2.1.kz kz0,HB2.2.2.kz kz0⟩:_∧_∧_)
  clear kz0 HB2
  by_cases g0:kl≤(q:Int)∧(q:Int)≤kh
  case neg =>
    rw [dc_f g0]
    have HX:Hid (R=false):=OUT (fun z=>g0 z.2.1)
    have HZ:Hid (Kz w W3):=HB3.1
    clear HB3 HN HT OUT YES g0
    go_wp2_with fail
    go_ret
    exact ⟨by rw [show R=false from HX];rfl,HZ⟩
  rw [dc_t g0]
  obtain ⟨r0,r1,r2,r3,r4,r5,r6,r7,r8⟩:=(show Kz w W3∧Bw W3 w.heap.size ⟨kl,kh,nl,nh,ol,oh,ml,mh,t⟩∧_ from HB3).2.1
  have d:=(show Kz w W3∧Bw W3 w.heap.size ⟨kl,kh,nl,nh,ol,oh,ml,mh,t⟩∧Bx W3 (w.heap.size+1) ⟨k,f,u,l,o,m,x⟩ (.slice pn p cn) (.slice pk q ck) from HB3).2.2.c4
  go_wp2_with fail
  clear d r0 r1 r2 r3 r4 r5 r6 r7 r8
  refine (im_holdz ol oh o W3).mono ?_
  rintro e W4 ⟨rfl,kz1⟩
  have HB4:Hid (Kz w W4∧Bw W4 w.heap.size ⟨kl,kh,nl,nh,ol,oh,ml,mh,t⟩∧Bx W4 (w.heap.size+1) ⟨k,f,u,l,o,m,x⟩ (.slice pn p cn) (.slice pk q ck)):=(⟨HB3.1.trans kz1,HB3.2.1.kz kz1,HB3.2.2.kz kz1⟩:_∧_∧_)
  clear kz1 HB3
  by_cases g1:ol≤o∧o≤oh
  case neg =>
    rw [dc_f g1]
    have HX:Hid (R=false):=OUT (fun z=>g1 z.2.2.1)
    have HZ:Hid (Kz w W4):=HB4.1
    clear HB4 HN HT OUT YES g1
    go_wp2_with fail
    go_ret
    exact ⟨by rw [show R=false from HX];rfl,HZ⟩
  rw [dc_t g1]
  obtain ⟨r0,r1,r2,r3,r4,r5,r6,r7,r8⟩:=(show Kz w W4∧Bw W4 w.heap.size ⟨kl,kh,nl,nh,ol,oh,ml,mh,t⟩∧_ from HB4).2.1
  have d:=(show Kz w W4∧Bw W4 w.heap.size ⟨kl,kh,nl,nh,ol,oh,ml,mh,t⟩∧Bx W4 (w.heap.size+1) ⟨k,f,u,l,o,m,x⟩ (.slice pn p cn) (.slice pk q ck) from HB4).2.2.c5
  go_wp2_with fail
  clear d r0 r1 r2 r3 r4 r5 r6 r7 r8
  refine (im_holdz ml mh m W4).mono ?_
  rintro e W5 ⟨rfl,kz2⟩
  have HB5:Hid (Kz w W5∧Bw W5 w.heap.size ⟨kl,kh,nl,nh,ol,oh,ml,mh,t⟩∧Bx W5 (w.heap.size+1) ⟨k,f,u,l,o,m,x⟩ (.slice pn p cn) (.slice pk q ck)):=(⟨HB4.1.trans kz2,HB4.2.1.kz kz2,HB4.2.2.kz kz2⟩:_∧_∧_)
  clear kz2 HB4
  by_cases g2:ml≤m∧m≤mh
  case neg =>
    rw [dc_f g2]
    have HX:Hid (R=false):=OUT (fun z=>g2 z.2.2.2.1)
    have HZ:Hid (Kz w W5):=HB5.1
    clear HB5 HN HT OUT YES g2
    go_wp2_with fail
    go_ret
    exact ⟨by rw [show R=false from HX];rfl,HZ⟩
  rw [dc_t g2]
  obtain ⟨r0,r1,r2,r3,r4,r5,r6,r7,r8⟩:=(show Kz w W5∧Bw W5 w.heap.size ⟨kl,kh,nl,nh,ol,oh,ml,mh,t⟩∧_ from HB5).2.1
  have d:=(show Kz w W5∧Bw W5 w.heap.size ⟨kl,kh,nl,nh,ol,oh,ml,mh,t⟩∧Bx W5 (w.heap.size+1) ⟨k,f,u,l,o,m,x⟩ (.slice pn p cn) (.slice pk q ck) from HB5).2.2.c6
  go_wp2_with fail
  clear d r0 r1 r2 r3 r4 r5 r6 r7 r8
  refine (((show ∀ W,Kz w W→Calls Tryz.prog 123 #[.agg #[.int .i64 kl,.int .i64 kh,.int .i64 nl,.int .i64 nh,.int .i64 ol,.int .i64 oh,.int .i64 ml,.int .i64 mh,.int .i64 t],.string x] W fun e w'=>e = .returned (.bool (dc (txo nmp flp t x)))∧Kz W w' from HT) W5 (show Kz w W5∧_ from HB5).1)).mono ?_
  rintro e W6 ⟨rfl,kz3⟩
  have HB6:Hid (Kz w W6∧Bw W6 w.heap.size ⟨kl,kh,nl,nh,ol,oh,ml,mh,t⟩∧Bx W6 (w.heap.size+1) ⟨k,f,u,l,o,m,x⟩ (.slice pn p cn) (.slice pk q ck)):=(⟨HB5.1.trans kz3,HB5.2.1.kz kz3,HB5.2.2.kz kz3⟩:_∧_∧_)
  clear kz3 HB5
  by_cases g3:txo nmp flp t x
  case neg =>
    rw [dc_f g3]
    have HX:Hid (R=false):=OUT (fun z=>g3 z.2.2.2.2.1)
    have HZ:Hid (Kz w W6):=HB6.1
    clear HB6 HN HT OUT YES g3
    go_wp2_with fail
    go_ret
    exact ⟨by rw [show R=false from HX];rfl,HZ⟩
  rw [dc_t g3]
  obtain ⟨r0,r1,r2,r3,r4,r5,r6,r7,r8⟩:=(show Kz w W6∧Bw W6 w.heap.size ⟨kl,kh,nl,nh,ol,oh,ml,mh,t⟩∧_ from HB6).2.1
  have d:=(show Kz w W6∧Bw W6 w.heap.size ⟨kl,kh,nl,nh,ol,oh,ml,mh,t⟩∧Bx W6 (w.heap.size+1) ⟨k,f,u,l,o,m,x⟩ (.slice pn p cn) (.slice pk q ck) from HB6).2.2.c7
  go_wp2_with fail
  clear d r0 r1 r2 r3 r4 r5 r6 r7 r8
  refine (((show ∀ W,Kz w W→Calls Tryz.prog 124 #[.agg #[.int .i64 kl,.int .i64 kh,.int .i64 nl,.int .i64 nh,.int .i64 ol,.int .i64 oh,.int .i64 ml,.int .i64 mh,.int .i64 t],.slice pn p cn] W fun e w'=>e = .returned (.bool (dc ((nl≤(p:Int)∧(p:Int)≤nh)∧∀ j,j < p→nmp (A j))))∧Kz W w' from HN) W6 (show Kz w W6∧_ from HB6).1)).mono ?_
  rintro e W7 ⟨rfl,kz4⟩
  have HB7:Hid (Kz w W7∧Bw W7 w.heap.size ⟨kl,kh,nl,nh,ol,oh,ml,mh,t⟩∧Bx W7 (w.heap.size+1) ⟨k,f,u,l,o,m,x⟩ (.slice pn p cn) (.slice pk q ck)):=(⟨HB6.1.trans kz4,HB6.2.1.kz kz4,HB6.2.2.kz kz4⟩:_∧_∧_)
  clear kz4 HB6
  by_cases g4:(nl≤(p:Int)∧(p:Int)≤nh)∧∀ j,j < p→nmp (A j)
  case neg =>
    rw [dc_f g4]
    have HX:Hid (R=false):=OUT (fun z=>g4 z.2.2.2.2.2)
    have HZ:Hid (Kz w W7):=HB7.1
    clear HB7 HN HT OUT YES g4
    go_wp2_with fail
    go_ret
    exact ⟨by rw [show R=false from HX];rfl,HZ⟩
  rw [dc_t g4]
  have HX:Hid (R=true):=YES ⟨⟨h0,h1,h2⟩,g0,g1,g2,g3,g4⟩
  have HZ:Hid (Kz w W7):=HB7.1
  clear HB7 HN HT OUT YES g4
  go_wp2_with fail
  go_ret
  exact ⟨by rw [show R=true from HX];rfl,HZ⟩
theorem Cel9.conj {W:World} {b:Addr} {a:Fv} {vn vk:Value} (h:Cel9 W b a vn vk):W.cell? b=some (.int .i64 a.k)∧W.cell? ⟨b.block,b.off+1,none⟩=some (.int .i64 a.f)∧W.cell? ⟨b.block,b.off+2,none⟩=some (.int .i64 a.t)∧W.cell? ⟨b.block,b.off+3,none⟩=some (.int .i64 a.l)∧W.cell? ⟨b.block,b.off+4,none⟩=some (.int .i64 a.o)∧W.cell? ⟨b.block,b.off+5,none⟩=some (.int .i64 a.m)∧W.cell? ⟨b.block,b.off+6,none⟩=some (.string a.x)∧W.cell? ⟨b.block,b.off+7,none⟩=some vn∧W.cell? ⟨b.block,b.off+8,none⟩=some vk:=⟨h.c0,h.c1,h.c2,h.c3,h.c4,h.c5,h.c6,h.c7,h.c8⟩
theorem rwk_t (k:Int) (q:Nat):(rwk k q).t=0∨(rwk k q).t=1∨(rwk k q).t=3∨(rwk k q).t=4:=by
  unfold rwk
  split <;> simp
theorem sdk_in (k m:Int) (q i:Nat) : 0≤sdk k m q i∧sdk k m q i≤9:=by
  unfold sdk
  repeat' split
  all_goals omega
structure Mth (t:TypeId) (fr fk:Nat):Prop where
  row:∀ v W,Sem.run Tryz.prog (Go.method 371 t v "loop.example/heddle/impl.row") W = .ok (fr,v) W
  kid:∀ v W,Sem.run Tryz.prog (Go.method 371 t v "loop.example/heddle/impl.kid") W = .ok (fk,v) W
theorem mth_s:Mth 167 223 222:=⟨fun _ _=>by kernel_rfl,fun _ _=>by kernel_rfl⟩
theorem mth_e:Mth 168 226 225:=⟨fun _ _=>by kernel_rfl,fun _ _=>by kernel_rfl⟩
theorem mth_t:Mth 169 228 227:=⟨fun _ _=>by kernel_rfl,fun _ _=>by kernel_rfl⟩
theorem im_fit {TT FR FK : Nat} (mth : Mth TT FR FK) (eK : ∀ args w, (callFunc FK args).run Tryz.prog w = .ok (.enter FK args) w) {pf : Option Addr} {cf n : Nat} {F : Nat → Gv} (w : World) (hf : RowF w (.slice pf n cf) n F) (i : Nat) (hi : i < n) (hn : n ≤ 1048576) (hq : (F i).q ≤ 1048576) (pn : Option Addr) (cn : Nat) (pk : Option Addr) (ck : Nat) (hkd : ∀ W j, j < (F i).q → Calls Tryz.prog FK #[.agg #[.int .i64 (F i).a.k, .int .i64 (F i).a.f, .int .i64 (F i).a.t, .int .i64 (F i).a.l, .int .i64 (F i).a.o, .int .i64 (F i).a.m, .string (F i).a.x, .slice pn (F i).p cn, .slice pk (F i).q ck], .int .i64 (j : Int)] W fun e w' => e = .returned (.int .i64 (sdk (F i).a.k (F i).a.m (F i).q j)) ∧ Below W.heap.size W w') (hc0 : ∃ c, pf = some c ∧ Cel9 w (c.add (i * 9)) (F i).a (.slice pn (F i).p cn) (.slice pk (F i).q ck)) :
    Calls Tryz.prog 94 #[.iface TT (.agg #[.int .i64 (F i).a.k,.int .i64 (F i).a.f,.int .i64 (F i).a.t,.int .i64 (F i).a.l,.int .i64 (F i).a.o,.int .i64 (F i).a.m,.string (F i).a.x,.slice pn (F i).p cn,.slice pk (F i).q ck]),.slice pf n cf,.int .i64 (i:Int)] w fun e w'=>e = .returned (.bool (dc (∀ j,j < (F i).q→0≤(F i).K j∧(F i).K j < (i:Int)∧tk (sdk (F i).a.k (F i).a.m (F i).q j) (kdk F (F i).K j))))∧Kz w w':=by
  obtain ⟨c,rfl,hc⟩:=hc0
  obtain ⟨hcc,hrc⟩:n≤cf∧∀ i,i < n→FormC w (c.add (i*9)) (F i):=by
    obtain ⟨pf,cf2,e,hf2⟩:=hf
    obtain ⟨c2,e2,hcc,hrc⟩:=hf2 (by omega)
    cases e
    cases e2
    exact ⟨hcc,hrc⟩
  have hk2 : 0 < (F i).q→∃ a:Addr,pk=some a∧(F i).q≤ck∧∀ j,j < (F i).q→w.cell? (a.add j)=some (.int .i64 ((F i).K j)):=by
    obtain ⟨vn,vk,hx,_,hrk⟩:=hrc i hi
    have e:=Option.some.inj (hx.c8.symm.trans hc.c8)
    subst e
    obtain ⟨pk2,ck2,e,hk2⟩:=hrk
    cases e
    exact hk2
  have hiI:(i:Int) < (n:Int):=by omega
  have hnI:(n:Int)≤1048576:=by omega
  have hqI:((F i).q:Int)≤1048576:=by omega
  obtain ⟨R,hR⟩:∃ R,R=dc (∀ j,j < (F i).q→0≤(F i).K j∧(F i).K j < (i:Int)∧tk (sdk (F i).a.k (F i).a.m (F i).q j) (kdk F (F i).K j)):=⟨_,rfl⟩
  have HR:Hid (R=dc (∀ j,j < (F i).q→0≤(F i).K j∧(F i).K j < (i:Int)∧tk (sdk (F i).a.k (F i).a.m (F i).q j) (kdk F (F i).K j))):=hR
  rw [← hR]
  have HKD:Hid (∀ W j,j < (F i).q→Calls Tryz.prog FK #[.agg #[.int .i64 (F i).a.k,.int .i64 (F i).a.f,.int .i64 (F i).a.t,.int .i64 (F i).a.l,.int .i64 (F i).a.o,.int .i64 (F i).a.m,.string (F i).a.x,.slice pn (F i).p cn,.slice pk (F i).q ck],.int .i64 (j:Int)] W fun e w'=>e = .returned (.int .i64 (sdk (F i).a.k (F i).a.m (F i).q j))∧Below W.heap.size W w'):=hkd
  have HCX:Hid ((∀ i,i < n→FormC w (c.add (i*9)) (F i))∧(0 < (F i).q→∃ a:Addr,pk=some a∧(F i).q≤ck∧∀ j,j < (F i).q→w.cell? (a.add j)=some (.int .i64 ((F i).K j)))):=(⟨hrc,hk2⟩:_∧_)
  have HK0:Hid (Kz w w):=Kz.of_below (Below.refl _ _)
  obtain ⟨d0,d1,d2,d3,d4,d5,d6,d7,d8⟩:=hc
  have HIN:Hid (i < n):=hi
  clear hf hrc hk2 hR hi hn hq hkd
  go_enter Tryz.func94,Tryz.ntmps94
  go_wp2_with fail
  clear d0 d1 d2 d3 d4 d5 d6 d7 d8
  go_loopw [15] (fun s15 wr=>∃ j:Nat,s15 = .int .i64 (j:Int)∧j≤(F i).q∧Hid (Kz w wr∧∀ m,m < j→0≤(F i).K m∧(F i).K m < (i:Int)∧tk (sdk (F i).a.k (F i).a.m (F i).q m) (kdk F (F i).K m))) (fun s15 _=>(F i).q - (intOf s15).toNat)
  case atStart=>exact ⟨0,rfl,Nat.zero_le _,(⟨HK0,fun m hm=>by omega⟩:_∧_)⟩
  case round =>
    clear HK0
    obtain ⟨j,rfl,hjq,HI⟩:=hrel
    obtain ⟨hz,ha⟩:=(show Kz w wr∧∀ m,m < j→0≤(F i).K m∧(F i).K m < (i:Int)∧tk (sdk (F i).a.k (F i).a.m (F i).q m) (kdk F (F i).K m) from HI)
    obtain ⟨hrc,hk2⟩:=(show (∀ i,i < n→FormC w (c.add (i*9)) (F i))∧(0 < (F i).q→∃ a:Addr,pk=some a∧(F i).q≤ck∧∀ j,j < (F i).q→w.cell? (a.add j)=some (.int .i64 ((F i).K j))) from HCX)
    rcases Nat.lt_or_ge j (F i).q with hj | hj
    · have hjI:(j:Int) < ((F i).q:Int):=by omega
      obtain ⟨b,rfl,hcb,hrb⟩:=hk2 (by omega)
      have qa:=(hz.cell (lt_of_cell' (hrb j hj))).trans (hrb j hj)
      obtain ⟨kx,hkx⟩:∃ kx,kx=(F i).K j:=⟨_,rfl⟩
      rw [← hkx] at qa
      have HZ:Hid (Kz w wr):=hz
      rcases Int.lt_or_le kx 0 with g0 | g0
      · have HX:Hid (R=false):=(show R = _ from HR).trans (dc_f (fun z=>by have:=(z j hj).1;omega))
        clear HI HR HCX HKD hz ha hrc hk2 hrb hkx
        go_wp2_with fail
        go_quiet (skip)
        go_wp2_with fail
        go_ret
        exact ⟨by rw [show R=false from HX];rfl,by first | exact HZ | exact Kz.drewN HZ _⟩
      · have g0':¬ kx < 0:=by omega
        rcases Int.lt_or_le kx (i:Int) with g1 | g1
        · have g1':¬ (i:Int)≤kx:=by omega
          have hkn:kx.toNat < n:=by have:=(show i < n from HIN);omega
          have hkI:kx < (n:Int):=by omega
          obtain ⟨vn2,vk2,hc2,hrn2,hrk2⟩:=hrc kx.toNat hkn
          obtain ⟨pn2,cn2,rfl,_⟩:=hrn2
          obtain ⟨pk2,ck2,rfl,_⟩:=hrk2
          have HC2:Hid (Cel9 w (c.add (kx.toNat*9)) (F kx.toNat).a (.slice pn2 (F kx.toNat).p cn2) (.slice pk2 (F kx.toNat).q ck2)):=hc2
          have s1:=(hc2.kz hz).conj
          have hke:kdk F (F i).K j=(F kx.toNat).a.k:=by unfold kdk;rw [← hkx]
          obtain ⟨Rt,hRt⟩:∃ Rt,Rt=dc (tk (sdk (F i).a.k (F i).a.m (F i).q j) (F kx.toNat).a.k):=⟨_,rfl⟩
          have HTK:Hid (∀ W,Calls Tryz.prog 126 #[.int .i64 (sdk (F i).a.k (F i).a.m (F i).q j),.agg #[.int .i64 (F kx.toNat).a.k,.int .i64 (F kx.toNat).a.f,.int .i64 (F kx.toNat).a.t,.int .i64 (F kx.toNat).a.l,.int .i64 (F kx.toNat).a.o,.int .i64 (F kx.toNat).a.m,.string (F kx.toNat).a.x,.slice pn2 (F kx.toNat).p cn2,.slice pk2 (F kx.toNat).q ck2]] W fun e w'=>e = .returned (.bool Rt)∧Below W.heap.size W w'):=(fun W=>by rw [hRt];exact im_tk _ (F kx.toNat).a pn2 (F kx.toNat).p cn2 pk2 (F kx.toNat).q ck2 (sdk_in _ _ _ _) W:∀ W,_)
          have HK7:Hid (∀ W,Calls Tryz.prog FK #[.agg #[.int .i64 (F i).a.k,.int .i64 (F i).a.f,.int .i64 (F i).a.t,.int .i64 (F i).a.l,.int .i64 (F i).a.o,.int .i64 (F i).a.m,.string (F i).a.x,.slice pn (F i).p cn,.slice (some b) (F i).q ck],.int .i64 (j:Int)] W fun e w'=>e = .returned (.int .i64 (sdk (F i).a.k (F i).a.m (F i).q j))∧Below W.heap.size W w'):=(fun W=>(show ∀ W j,_ from HKD) W j hj:∀ W,_)
          have HY:Hid (tk (sdk (F i).a.k (F i).a.m (F i).q j) (F kx.toNat).a.k→∀ m,m < j+1→0≤(F i).K m∧(F i).K m < (i:Int)∧tk (sdk (F i).a.k (F i).a.m (F i).q m) (kdk F (F i).K m)):=(fun ht m hm=>by
            by_cases e:m=j
            · rw [e,hke,← hkx];exact ⟨g0,g1,ht⟩
            · exact ha m (by omega):_→∀ m,_)
          have HNO:Hid (¬ tk (sdk (F i).a.k (F i).a.m (F i).q j) (F kx.toNat).a.k→R=false):=(fun ht=>(show R = _ from HR).trans (dc_f (fun z=>ht (by have:=(z j hj).2.2;rw [hke] at this;exact this))):_→_)
          have HRT:Hid (Rt=dc (tk (sdk (F i).a.k (F i).a.m (F i).q j) (F kx.toNat).a.k)):=hRt
          have mt:=mth.kid
          have K1:=hz
          clear HI HR HCX HKD hz ha hrc hk2 hrb hkx hc2 hke hRt g1 hkn
          generalize sdk (F i).a.k (F i).a.m (F i).q j=sd at *
          go_wp2_with fail
          have g0d:(kx < 0)=False:=eq_false (by omega)
          have g1d:((i:Int)≤kx)=False:=eq_false (by omega)
          go_region_held_law (fun W'=>W'.cell? (c.add (kx.toNat*9))=some (.int .i64 (F kx.toNat).a.k)∧W'.cell? ⟨(c.add (kx.toNat*9)).block,(c.add (kx.toNat*9)).off+1,none⟩=some (.int .i64 (F kx.toNat).a.f)∧W'.cell? ⟨(c.add (kx.toNat*9)).block,(c.add (kx.toNat*9)).off+2,none⟩=some (.int .i64 (F kx.toNat).a.t)∧W'.cell? ⟨(c.add (kx.toNat*9)).block,(c.add (kx.toNat*9)).off+3,none⟩=some (.int .i64 (F kx.toNat).a.l)∧W'.cell? ⟨(c.add (kx.toNat*9)).block,(c.add (kx.toNat*9)).off+4,none⟩=some (.int .i64 (F kx.toNat).a.o)∧W'.cell? ⟨(c.add (kx.toNat*9)).block,(c.add (kx.toNat*9)).off+5,none⟩=some (.int .i64 (F kx.toNat).a.m)∧W'.cell? ⟨(c.add (kx.toNat*9)).block,(c.add (kx.toNat*9)).off+6,none⟩=some (.string (F kx.toNat).a.x)∧W'.cell? ⟨(c.add (kx.toNat*9)).block,(c.add (kx.toNat*9)).off+7,none⟩=some (.slice pn2 (F kx.toNat).p cn2)∧W'.cell? ⟨(c.add (kx.toNat*9)).block,(c.add (kx.toNat*9)).off+8,none⟩=some (.slice pk2 (F kx.toNat).q ck2)) (first | exact s3 | exact s2 | exact s1)
            (first
              | (refine ((show ∀ W,Calls Tryz.prog FK #[.agg #[.int .i64 (F i).a.k,.int .i64 (F i).a.f,.int .i64 (F i).a.t,.int .i64 (F i).a.l,.int .i64 (F i).a.o,.int .i64 (F i).a.m,.string (F i).a.x,.slice pn (F i).p cn,.slice (some b) (F i).q ck],.int .i64 (j:Int)] W fun e w'=>e = .returned (.int .i64 sd)∧Below W.heap.size W w' from HK7) _).mono ?_;rintro e w2 ⟨rfl,b2⟩;have K2:Kz w w2:=K1.trans ⟨b2.os,b2.output,b2.size,b2.block⟩;have s2:=((show Cel9 w (c.add (kx.toNat*9)) (F kx.toNat).a (.slice pn2 (F kx.toNat).p cn2) (.slice pk2 (F kx.toNat).q ck2) from HC2).kz K2).conj)
              | (go_at_call 126;refine ((show ∀ W,Calls Tryz.prog 126 #[.int .i64 sd,.agg #[.int .i64 (F kx.toNat).a.k,.int .i64 (F kx.toNat).a.f,.int .i64 (F kx.toNat).a.t,.int .i64 (F kx.toNat).a.l,.int .i64 (F kx.toNat).a.o,.int .i64 (F kx.toNat).a.m,.string (F kx.toNat).a.x,.slice pn2 (F kx.toNat).p cn2,.slice pk2 (F kx.toNat).q ck2]] W fun e w'=>e = .returned (.bool Rt)∧Below W.heap.size W w' from HTK) _).mono ?_;rintro e w3 ⟨rfl,b3⟩;have K3:Kz w w3:=K2.trans ⟨b3.os,b3.output,b3.size,b3.block⟩;have s3:=((show Cel9 w (c.add (kx.toNat*9)) (F kx.toNat).a (.slice pn2 (F kx.toNat).p cn2) (.slice pk2 (F kx.toNat).q ck2) from HC2).kz K3).conj))
          have HZ3:Hid (Kz w w3):=K3
          clear s1 s2 s3 K1 K2 K3 b2 b3 HTK HK7 mt HC2 qa
          by_cases ht:tk sd (F kx.toNat).a.k
          · have hrt:Rt=true:=(show Rt = _ from HRT).trans (dc_t ht)
            subst hrt
            have HY2:Hid (Kz w w3∧∀ m,m < j+1→0≤(F i).K m∧(F i).K m < (i:Int)∧tk (sdk (F i).a.k (F i).a.m (F i).q m) (kdk F (F i).K m)):=(⟨HZ3,HY ht⟩:_∧_)
            clear ht HRT HY HNO HZ3
            go_wp2_with fail
            go_roundw
            case rel=>exact ⟨j+1,by go_num,by omega,HY2⟩
            case measure=>simp [intOf];omega
          · have hrt:Rt=false:=(show Rt = _ from HRT).trans (dc_f ht)
            subst hrt
            have HX:Hid (R=false):=HNO ht
            clear ht HRT HY HNO
            go_wp2_with fail
            go_ret
            exact ⟨by rw [show R=false from HX];rfl,HZ3⟩
        · have HX:Hid (R=false):=(show R = _ from HR).trans (dc_f (fun z=>by have:=(z j hj).2.1;omega))
          clear HI HR HCX HKD hz ha hrc hk2 hrb hkx g0
          go_wp2_with fail
          have g0d:(kx < 0)=False:=eq_false (by omega)
          have g1d:((i:Int)≤kx)=True:=eq_true (by omega)
          go_quiet (skip)
          go_wp2_with fail
          go_ret
          exact ⟨by rw [show R=false from HX];rfl,by first | exact HZ | exact Kz.drewN HZ _⟩
    · have ej:j=(F i).q:=by omega
      have HX:Hid (R=true):=(show R = _ from HR).trans (dc_t (by rw [ej] at ha;exact ha))
      have HZ:Hid (Kz w wr):=hz
      rw [ej]
      clear HI HR HCX HKD hz ha hrc hk2 ej hj hjq
      go_wp2_with fail
      go_ret
      exact ⟨by rw [show R=true from HX];rfl,HZ⟩
end Go.Proofs.YtomcmnompajnlaaGreatDoor.Fo
