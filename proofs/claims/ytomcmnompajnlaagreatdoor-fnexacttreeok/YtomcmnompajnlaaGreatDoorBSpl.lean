import Derived.Test.YtomcmnompajnlaaGreatDoorBSpi
set_option maxRecDepth 100000
set_option maxHeartbeats 4000000
namespace Go.Proofs.YtomcmnompajnlaaGreatDoor.Fo
open Go.ChangeShapes Go.WideShapes Go.ChangeAt Go.RowKit Go.Shelf
set_option linter.unusedVariables false
attribute [local go_sem] Oper.semAt_some
theorem im_deeper (d:Int) (w:World):Calls Tryz.prog 73 #[.int .i64 d] w fun e w'=>e = .returned (.bool (decide (100 < d)))∧w'=w:=by
  by_cases h : 100 < d
  · rw [decide_eq_true h]
    go_enter Tryz.func73,Tryz.ntmps73
    go_wp2_with fail
    go_ret
    exact ⟨rfl,rfl⟩
  · rw [decide_eq_false h]
    go_enter Tryz.func73,Tryz.ntmps73
    go_wp2_with fail
    go_ret
    exact ⟨rfl,rfl⟩
theorem en_deeper:∀ args w,(callFunc 73 args).run Tryz.prog w = .ok (.enter 73 args) w:=enters_of Tryz.func73 (by kernel_rfl) rfl
inductive Tdp (D:Nat→Int) (n:Nat):Int→Prop
  | at (i:Nat):i < n→(∀ j,j < i→D j≤100)→100 < D i→Tdp D n (i:Int)
  | none:(∀ j,j < n→D j≤100)→Tdp D n (-1)
theorem im_ixdeep {g n : Nat} {D : Nat → Int} (w : World) (hr : ∀ k, k < n → w.cell? ⟨g, k, none⟩ = some (.int .i64 (D k))) (hp : n ≤ 3000) :
    Calls Tryz.prog 44 #[.slice (some ⟨g,0,none⟩) n n,.func (.func 73) #[] #[]] w fun e w'=>(∃ r:Int,e = .returned (.int .i64 r)∧Tdp D n r)∧w'=w:=by
  have hpI:(n:Int)≤3000:=by omega
  have HR:Hid (∀ k,k < n→w.cell? ⟨g,k,none⟩=some (.int .i64 (D k))):=hr
  clear hr hp
  have eg:=en_deeper
  go_enter Tryz.func44,Tryz.ntmps44
  go_wp2_with fail
  go_loopw [8] (fun s8 wr=>∃ i:Nat,s8 = .int .i64 (i:Int)∧i≤n∧wr=w∧Hid (∀ j,j < i→D j≤100)) (fun s8 _=>n - (intOf s8).toNat)
  case atStart=>exact ⟨0,rfl,Nat.zero_le _,rfl,(fun j hj=>by omega:∀ j,j < 0→D j≤100)⟩
  case round =>
    obtain ⟨i,rfl,hin,rfl,HI⟩:=hrel
    have ha:=(show ∀ j,j < i→D j≤100 from HI)
    rcases Nat.lt_or_ge i n with hi | hi
    · have hiI:(i:Int) < (n:Int):=by omega
      have qa:=(show ∀ k,k < n→wr.cell? ⟨g,k,none⟩=some (.int .i64 (D k)) from HR) i hi
      have hcall:=im_deeper (D i) wr
      by_cases hn : 100 < D i
      · rw [decide_eq_true hn] at hcall
        have HX:Hid (Tdp D n (i:Int)):=.at i hi ha hn
        clear HI ha HR hn
        generalize D i=x at *
        go_wp2_with (go_at_fn 73;refine hcall.mono ?_;rintro e w' ⟨rfl,rfl⟩)
        go_ret
        exact ⟨⟨(i:Int),rfl,HX⟩,rfl⟩
      · rw [decide_eq_false hn] at hcall
        have HX:Hid (∀ j,j < i+1→D j≤100):=(fun j hj=>by
          by_cases e:j=i
          · rw [e];omega
          · exact ha j (by omega):∀ j,j < i+1→D j≤100)
        clear HI ha HR hn
        generalize D i=x at *
        go_wp2_with (go_at_fn 73;refine hcall.mono ?_;rintro e w' ⟨rfl,rfl⟩)
        go_roundw
        case rel=>exact ⟨i+1,by go_num,by omega,by first | trivial | rfl,HX⟩
        case measure=>simp [intOf];omega
    · obtain rfl:i=n:=by omega
      clear HR ha
      go_wp2_with fail
      go_ret
      exact ⟨⟨-1,rfl,.none HI⟩,rfl⟩
theorem im_deep {v : Value} {n : Nat} {F : Nat → Gv} {PK : Nat → Option Addr} {CK : Nat → Nat} (w : World) (hrx : RowV w v n (fun i => .slice (PK i) (F i).q (CK i))) (hrk : ∀ i, i < n → RowV w (.slice (PK i) (F i).q (CK i)) (F i).q (fun j => .int .i64 ((F i).K j))) (hn : n ≤ 3000) (hK : Kn F n) (hq : ∀ i, i < n → (F i).q ≤ 1048576) :
    Calls Tryz.prog 40 #[v] w fun e w'=>(∃ r:Int,e = .returned (.int .i64 r)∧Tdp (dpr F n n) n r)∧w'.os=w.os∧w'.output=w.output∧w.heap.size≤w'.heap.size∧∀ k,k < w.heap.size→w'.heap[k]? = w.heap[k]?:=by
  have HRX:=hrx
  obtain ⟨pf,cf,rfl,_⟩:=hrx
  obtain ⟨xs,hxo,hxl⟩:=ord_ex n n (Nat.le_refl _)
  have hnI:(n:Int)≤3000:=by omega
  have hmk:=run_make (P:=Tryz.prog) w 36 3 Tryz.t3 (.int .i64 0) Tryz.underlying36 (by kernel_rfl) (by kernel_rfl) .i64 .i64 (n:Int) (n:Int) (by omega) (Int.le_refl _) (by show (8:Int)*(n:Int)≤_;omega) (by omega)
  rw [Int.toNat_natCast] at hmk
  have HMB:=fun W=>bwk_make pf n cf W
  have HST:Hid (RowV w (.slice pf n cf) n (fun i=>.slice (PK i) (F i).q (CK i))∧(∀ i,i < n→RowV w (.slice (PK i) (F i).q (CK i)) (F i).q (fun j=>.int .i64 ((F i).K j)))∧Kn F n∧(∀ i,i < n→(F i).q≤1048576)∧Ord xs∧xs.length=n):=(⟨HRX,hrk,hK,hq,hxo,hxl⟩:_∧_∧_∧_∧_∧_)
  clear HRX hrk hK hq hxo
  refine (callsIn_wide (n:=3)).1 ?_
  refine callsIn_of_wp_marks Tryz.func40 rfl trivial ?_ rfl
  simp only [Tryz.ntmps40,List.size_toArray,List.length_cons,List.length_nil,Nat.reduceAdd,Nat.reduceSub,Array.replicate_succ,Array.replicate_zero,List.push_toArray,List.append_toArray,List.nil_append,List.cons_append]
  gi_wp2_with fail
  refine ⟨trivial,(callsIn_wide.2 (HMB _)).mono ?_⟩
  rintro en w4 ⟨rfl,hw4⟩
  gi_wp2_with fail
  obtain ⟨W3,hW3⟩:∃ W3,W3=(((w.alloc (.cells (madeCells #[.int .i64 0] (n*Tryz.t3.size)) 3)).alloc (.cells #[.slice (some ⟨w.heap.size,0,none⟩) n n] 36)).alloc (.cells #[.slice pf n cf] 71)):=⟨_,rfl⟩
  rw [← hW3]
  have z3:W3.heap.size=w.heap.size+3:=by rw [hW3];simp
  have d3:Dp w F n [] W3:=by
    rw [hW3]
    refine ⟨rfl,rfl,by simp,fun k hk=>?_,?_,fun k=>?_,fun _=>0,fun k hk=>?_,fun k=>by simp,fun _ k=>rfl⟩
    · rw [Below.heap_alloc _ _ _ (by simp;omega),Below.heap_alloc _ _ _ (by simp;omega),Below.heap_alloc _ _ _ hk]
    · rw [Below.heap_alloc _ _ _ (by simp)]
      have:=World.alloc_heap_new (w.alloc (.cells (madeCells #[.int .i64 0] (n*Tryz.t3.size)) 3)) (.cells #[.slice (some ⟨w.heap.size,0,none⟩) n n] 36)
      simpa using this
    · rw [World.frozen?_alloc_past _ _ _ (by simp;omega),World.frozen?_alloc_past _ _ _ (by simp)]
      exact World.frozen?_alloc_at _ _ _ _ (by simp)
    · rw [World.cell?_alloc_past _ _ _ (by simp;omega),World.cell?_alloc_past _ _ _ (by simp)]
      exact made_cell w (.int .i64 0) 3 n rfl k hk
  have s3:W3.cell? ⟨w.heap.size+1+1,0,none⟩=some (.slice pf n cf):=by
    rw [hW3,World.cell?_alloc_at _ _ _ _ (by simp)];rfl
  clear hW3 hw4 HMB hmk
  refine wpIn_rangeFunc_s0 (α:={j:Nat // j < n}) (n:=3) (by omega) (gf:=108) (lb:=#[.pointer (some ⟨w.heap.size+1+1,0,none⟩)]) rfl (enters_of Tryz.func108 (by kernel_rfl) rfl)
    (encs:=fun x=>#[.int .i64 (x.val:Int),.slice (PK x.val) (F x.val).q (CK x.val)]) (fun _=>rfl) (w.heap.size+1+1) (by omega) xs (fun _=>True) (Dp w F n) (by rw [z3];exact own_dp)
    (fun s X X' h hk=>h.blk hk.os hk.output hk.size (fun k hl=>hk.block k (by have:=h.size;omega) (by omega))) d3 (fun _ _ _ _ _=>trivial) ?iter
    (fun x=>{ tmps:=#[.slice pf n cf,undef,.int .i64 0,.pointer (some ⟨w.heap.size+1,0,none⟩),.int .i64 (x.val:Int),.slice (PK x.val) (F x.val).q (CK x.val),undef,undef,.slice pf n cf,.int .i64 (n:Int),.slice (some ⟨w.heap.size,0,none⟩) n n,.slice pf n cf,.func (.func 108) #[] #[.pointer (some ⟨w.heap.size+1+1,0,none⟩)],.int .i64 (x.val:Int),.slice (PK x.val) (F x.val).q (CK x.val),undef,undef,undef,undef,undef,undef,undef,undef,undef,undef,undef,undef,undef,undef,undef,undef,undef],defers:=[] }) ?assign ?body ?done
  case iter =>
    obtain ⟨hrx,hrk,hK,hq,hxo,_⟩:=(show RowV w (.slice pf n cf) n (fun i=>.slice (PK i) (F i).q (CK i))∧(∀ i,i < n→RowV w (.slice (PK i) (F i).q (CK i)) (F i).q (fun j=>.int .i64 ((F i).K j)))∧Kn F n∧(∀ i,i < n→(F i).q≤1048576)∧Ord xs∧xs.length=n from HST)
    intro lp J X hb hJ hJI hY h0
    refine (bwk_in 2 (by omega) lp (w.heap.size+1+1) w (q:=n) (by omega) hrx J (fun _ _=>False) (fun pre x W1 hj hl=>?_) X (fun k hk=>(hb.block k (by omega)).trans (d3.old k hk)) ((hb.cell (p:=⟨w.heap.size+1+1,0,none⟩) (lt_of_cell s3)).trans s3) h0).mono ?_
    · obtain ⟨fn,tmps,assign,body,hy,hR⟩:=hY pre x W1 hj (by rw [hxl];exact hl)
      refine ⟨fn,tmps,assign,body,hy,hR.mono fun e W' ⟨he,hj',hB⟩=>.inl ⟨he,hj',fun k hk=>?_⟩⟩
      rcases hk with hk | rfl
      · exact ((hJI _ _ hj').old k hk).trans ((hJI _ _ hj).old k hk).symm
      · exact hB
    · rintro e W' ⟨he,⟨ys,⟨o,l⟩,hj⟩ | ⟨_,_,f⟩⟩
      · rw [ord_uniq hxo o (hxl.trans l.symm)];exact ⟨he,hj,trivial⟩
      · exact f.elim
  case assign =>
    intro l x X K hKK
    gi_wp2
    exact hKK
  case body =>
    intro l pre x X hpl hi
    obtain ⟨hrx,hrk,hK,hq,hxo,_⟩:=(show RowV w (.slice pf n cf) n (fun i=>.slice (PK i) (F i).q (CK i))∧(∀ i,i < n→RowV w (.slice (PK i) (F i).q (CK i)) (F i).q (fun j=>.int .i64 ((F i).K j)))∧Kn F n∧(∀ i,i < n→(F i).q≤1048576)∧Ord xs∧xs.length=n from HST)
    obtain ⟨D,d1,d2,dd⟩:=hi.row
    obtain ⟨i,hix⟩:∃ i,i=x.val:=⟨_,rfl⟩
    have hin:i < n:=by rw [hix];exact x.property
    have hqi:=hq i hin
    have hqI:((F i).q:Int)≤1048576:=by omega
    have HQ0:Hid (Dq w F n (upd D (F i).K (D i+1) 0) X X):=⟨rfl,rfl,Nat.le_refl _,fun _ _ _=>rfl,fun o ho=>by
      have h0:=hi.fz
      cases o with
      | cells _ _ _=>rfl
      | _=>exact absurd (d1 i hin) (by simp [World.cell?,ho]),d1,hi.fz⟩
    have HEND:Hid (∀ W,Dq w F n (upd D (F i).K (D i+1) (F i).q) X W→bodyEnd W3.heap.size (w.heap.size+1+1) (Dp w F n) (pre ++ [x]) X .normal { tmps:=#[],defers:=[] } W):=(fun W hw=>by
      rw [hix] at hw
      refine (⟨hw.keeps _,hi.round (x:=x) (by omega) d2 dd hw,hw.old (w.heap.size+1+1) (by have:=hi.size;omega) (by omega)⟩:_∧_∧_):∀ W,_)
    have HIN:Hid (i < n∧Kn F n∧(∀ k,0≤D k∧D k≤(pre.length:Int))∧(∀ k,k < w.heap.size→X.heap[k]? = w.heap[k]?)∧X.heap[w.heap.size+1]? = some (.cells #[.slice (some ⟨w.heap.size,0,none⟩) n n] 36 (0,0))∧w.heap.size+3≤X.heap.size∧RowV w (.slice (PK i) (F i).q (CK i)) (F i).q (fun j=>.int .i64 ((F i).K j))):=(⟨hin,hK,d2,hi.old,hi.box,hi.size,hrk i hin⟩:_∧_∧_∧_∧_∧_∧_)
    have hpn:pre.length < 3000:=by omega
    rw [← hix]
    have mixed:Tryz.prog.follows .mixedOrders=true:=by kernel_rfl
    clear hi hrx hrk hK hq hxo d1 d2 dd hqi hix HST d3 s3
    gi_wp2_with fail
    gi_loopw [17] (fun s18 wr=>∃ j:Nat,s18 = .int .i64 (j:Int)∧j≤(F i).q∧Hid (Dq w F n (upd D (F i).K (D i+1) j) X wr)) (fun s18 _=>(F i).q - (intOf s18).toNat)
    case atStart=>exact ⟨0,rfl,Nat.zero_le _,HQ0⟩
    case round =>
      obtain ⟨j,rfl,hjq,HJ⟩:=hrel
      have hJ:=(show Dq w F n (upd D (F i).K (D i+1) j) X wr from HJ)
      obtain ⟨hin,hK,d2,hold,hbox,hsz,hrk⟩:=(show i < n∧Kn F n∧(∀ k,0≤D k∧D k≤(pre.length:Int))∧(∀ k,k < w.heap.size→X.heap[k]? = w.heap[k]?)∧X.heap[w.heap.size+1]? = some (.cells #[.slice (some ⟨w.heap.size,0,none⟩) n n] 36 (0,0))∧w.heap.size+3≤X.heap.size∧RowV w (.slice (PK i) (F i).q (CK i)) (F i).q (fun j=>.int .i64 ((F i).K j)) from HIN)
      clear HQ0
      rcases Nat.lt_or_ge j (F i).q with hj | hj
      · have hjI:(j:Int) < ((F i).q:Int):=by omega
        obtain ⟨pa,ca,hpe,hr2⟩:=hrk
        obtain ⟨b,hb,hcb,hra⟩:=hr2 (by omega)
        obtain ⟨e1,_,e2⟩:PK i=pa∧(F i).q=(F i).q∧CK i=ca:=by simpa using hpe
        subst e2
        rw [e1,hb] at *
        have q0w:=hra j hj
        have hl0:=lt_of_cell' q0w
        obtain ⟨k0,k1⟩:=hK i hin j hj
        obtain ⟨m,hm⟩:∃ m:Nat,(F i).K j=(m:Int):=⟨((F i).K j).toNat,by omega⟩
        have q0:wr.cell? (b.add j)=some (.int .i64 (m:Int)):=by
          rw [← hm];exact (World.cell?_of_block ((hJ.old _ (by omega) (by omega)).trans (hold _ hl0))).trans q0w
        have hb1:=(hJ.old (w.heap.size+1) (by omega) (by omega)).trans hbox
        have c3:wr.cell? ⟨w.heap.size+1,0,none⟩=some (.slice (some ⟨w.heap.size,0,none⟩) n n):=by simp [World.cell?,hb1]
        have q1:=hJ.row i hin
        rw [upd_far j (fun j' hj'=>(hK i hin j' (by omega)).2)] at q1
        have q2:=hJ.row m (by omega)
        have q3:=hJ.fz m
        have hmn:(m:Int) < (n:Int):=by omega
        have hiI:(i:Int) < (n:Int):=by omega
        have hd:=d2 i
        have hd1 : 0≤D i:=hd.1
        have hd2:D i≤3000:=by omega
        have HX:Hid (∀ d,Dq w F n (upd D (F i).K (D i+1) (j+1)) X ((wr.setCell ⟨w.heap.size,m,none⟩ (.int .i64 (D i+1))).drewN d)):=(fun d=>hJ.set m (by omega) (D i+1) _ (fun y hy=>by
          show (if (y:Int)=(F i).K j then D i+1 else upd D (F i).K (D i+1) j y) = _
          rw [hm]
          by_cases e:y=m
          · rw [if_pos (by omega),if_pos e]
          · rw [if_neg (by omega),if_neg e]) d:∀ d,_)
        clear hJ HJ k0 k1 hm hK d2 hold hbox hra q0w hl0 hb1 hd HIN HEND hr2
        generalize D i=z at *
        generalize upd D (F i).K (z+1) j m=z2 at *
        have hwz:IntKind.i64.wrap (z+1)=z+1:=by simp only [IntKind.wrap_i64];omega
        gi_wp2_with fail
        gi_region_with_o (fail)
        all_goals
          have HX1:Hid (Dq w F n (upd D (F i).K (z+1) (j+1)) X (wr.setCell ⟨w.heap.size,m,none⟩ (.int .i64 (z+1))).drew):=(show ∀ d,_ from HX) 1
          clear HX q0 q1 q2 q3 c3
          gi_wp2_with fail
          go_roundw
          case rel=>exact ⟨j+1,by go_num,by omega,HX1⟩
          case measure=>simp [intOf];omega
      · have ej:j=(F i).q:=by omega
        have HX:=(show ∀ W,_→_ from HEND) wr (by rw [← ej];exact hJ)
        have HX2:Hid (bodyEnd W3.heap.size (w.heap.size+1+1) (Dp w F n) (pre ++ [x]) X .normal { tmps:=#[],defers:=[] } wr):=HX
        rw [ej]
        clear hJ HJ HEND HIN hK d2 hold hbox hsz hrk ej hj hjq HX
        gi_wp2_with fail
        exact HX2
  case done =>
    rintro D' X hD hi _ hx
    obtain ⟨_,_,_,_,hxo,_⟩:=(show RowV w (.slice pf n cf) n (fun i=>.slice (PK i) (F i).q (CK i))∧(∀ i,i < n→RowV w (.slice (PK i) (F i).q (CK i)) (F i).q (fun j=>.int .i64 ((F i).K j)))∧Kn F n∧(∀ i,i < n→(F i).q≤1048576)∧Ord xs∧xs.length=n from HST)
    obtain ⟨D,d1,d2,dd⟩:=hi.row
    have c3:X.cell? ⟨w.heap.size+1,0,none⟩=some (.slice (some ⟨w.heap.size,0,none⟩) n n):=by simp [World.cell?,hi.box]
    have HC:=im_ixdeep X d1 hn
    have HX:Hid (D=dpr F n n∧X.os=w.os∧X.output=w.output∧w.heap.size+3≤X.heap.size∧(∀ k,k < w.heap.size→X.heap[k]? = w.heap[k]?)∧X.heap[D']? = some (.deferred (some []))):=(⟨by funext k;have:=dd hxo k;rw [hxl] at this;exact this,hi.os,hi.output,hi.size,hi.old,hx⟩:_∧_∧_∧_∧_∧_)
    clear hi d1 d2 dd HST d3 s3 hx
    gi_wp2_with fail
    refine ⟨trivial,(callsIn_wide.2 HC).mono ?_⟩
    rintro en w5 ⟨⟨r,rfl,hr⟩,rfl⟩
    obtain ⟨x1,x2,x3,x4,x5,x6⟩:=(show D=dpr F n n∧w5.os=w.os∧w5.output=w.output∧w.heap.size+3≤w5.heap.size∧(∀ k,k < w.heap.size→w5.heap[k]? = w.heap[k]?)∧w5.heap[D']? = some (.deferred (some [])) from HX)
    rw [x1] at hr
    clear HC c3 x1
    gi_wp2_with fail
    refine leaves_marks [D'] w5 (by simp) (fun r' hr'=>by rw [List.mem_singleton.1 hr'];exact x6) (fun w' h1 h2 h3 h4=>?_)
    refine ⟨_,by simp [results,Tryz.results40,go_sem];rfl,?_⟩
    exact ⟨⟨r,rfl,hr⟩,h1.trans x2,h2.trans x3,by omega,fun k hk=>(h4 k (fun e=>by have:=List.mem_singleton.1 e;omega)).trans (x5 k hk)⟩
end Go.Proofs.YtomcmnompajnlaaGreatDoor.Fo
