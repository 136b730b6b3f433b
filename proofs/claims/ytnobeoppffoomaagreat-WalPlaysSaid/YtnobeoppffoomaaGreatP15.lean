/-
  WalPlays: Get.
  Conditions: named in each theorem.
-/
import Derived.Test.YtnobeoppffoomaaGreatP14
import Derived.Test.YtnobeoppffoomaaGreatP0
set_option linter.unusedVariables false
set_option linter.unusedSimpArgs false
set_option maxHeartbeats 8000000
set_option maxRecDepth 100000
namespace Go.Proofs.YtnobeoppffoomaaGreat
open Go.RowKit
open Vi
structure Gq (w0:World) (g:Nat) (T:ByteArray) (b:Bool) (w:World):Prop where
 hr:Rd 225 g T b w
 fn:w.heap[w0.heap.size+1]?=some (.cells #[.func (.func 157) #[.pointer (some ⟨g,0,none⟩)] #[]] 142 (0,0))
 res:w.heap[w0.heap.size]?=some (.cells (ec ezz) 28 (0,0))
 fr:w0.grownBy w (some g)
 lg:g<w0.heap.size
 sz:T.size≤281474976710656
structure Gy (w0:World) (g p:Nat) (E:En) (T:ByteArray) (b:Bool) (w:World):Prop where
 q:Gq w0 g T b w
 al:w.heap[p]?=some (.cells (ec E) 28 (0,0))
 lp:w0.heap.size+1<p
section
variable {w0 w w1:World} {g p:Nat} {T T':ByteArray} {b b':Bool} {E E':En}
theorem Gq.step (h:Gq w0 g T b w) (hx:Rd 225 g T' b' w1) (hf:w.grownBy w1 (some g)) (hT:T'.size≤T.size):Gq w0 g T' b' w1:=by
 have h1:=h.lg
 exact ⟨hx,(hf.block _ (zgx h.fn) (by simp;omega)).trans h.fn,(hf.block _ (zgx h.res) (by simp;omega)).trans h.res,h.fr.trans hf,h.lg,Nat.le_trans hT h.sz⟩
theorem Gq.below (h:Gq w0 g T b w) (hb:Below w.heap.size w w1):Gq w0 g T b w1 :=
 ⟨h.hr.below hb h.hr.lt,(hb.block _ (zgx h.fn)).trans h.fn,(hb.block _ (zgx h.res)).trans h.res,gb_below h.fr hb,h.lg,h.sz⟩
theorem Gq.drew (h:Gq w0 g T b w):Gq w0 g T b w.drew:=⟨h.hr,h.fn,h.res,gb_below h.fr (Below.refl _ _).drew,h.lg,h.sz⟩
theorem Gq.fcell (h:Gq w0 g T b w):w.cell? ⟨w0.heap.size+1,0,none⟩=some (.func (.func 157) #[.pointer (some ⟨g,0,none⟩)] #[]):=zcr w _ 0 _ 142 (0,0) h.fn
theorem Gq.fcella (h:Gq w0 g T b w) (o:Obj):(w.alloc o).cell? ⟨w0.heap.size+1,0,none⟩=some (.func (.func 157) #[.pointer (some ⟨g,0,none⟩)] #[]):=(h.below ((Below.refl _ _).alloc (Nat.le_refl _) _)).fcell
theorem Gq.toY (E:En) (h:Gq w0 g T b w):Gy w0 g w.heap.size E T b (w.alloc (.cells (ec E) 28)) :=
 ⟨h.below ((Below.refl _ _).alloc (Nat.le_refl _) _),heap_alloc_new w _,(zgx h.fn)⟩
theorem Gy.step (h:Gy w0 g p E T b w) (hx:Rd 225 g T' b' w1) (hf:w.grownBy w1 (some g)) (hT:T'.size≤T.size):Gy w0 g p E T' b' w1:=by
 have h1:=h.q.lg
 have h2:=h.lp
 exact ⟨h.q.step hx hf hT,(hf.block _ (zgx h.al) (by simp;omega)).trans h.al,h.lp⟩
theorem Gy.below (h:Gy w0 g p E T b w) (hb:Below w.heap.size w w1):Gy w0 g p E T b w1 :=
 ⟨h.q.below hb,(hb.block _ (zgx h.al)).trans h.al,h.lp⟩
theorem Gy.drew (h:Gy w0 g p E T b w):Gy w0 g p E T b w.drew:=⟨h.q.drew,h.al,h.lp⟩
theorem Gy.fz (h:Gy w0 g p E T b w) (i:Nat):w.frozen? ⟨p,i,none⟩=false:=Md.of h.al
theorem Gy.cell (h:Gy w0 g p E T b w) (i:Nat):w.cell? ⟨p,i,none⟩=(ec E)[i]?:=zcr w _ i _ 28 (0,0) h.al
theorem Gy.set (h:Gy w0 g p E T b w) (i:Nat) (v:Value) (he:(ec E).setIfInBounds i v=ec E'):Gy w0 g p E' T b (w.setCell ⟨p,i,none⟩ v):=by
 have h1:=h.q.lg
 have h2:=h.lp
 refine ⟨⟨rd_set h.q.hr (by simp;omega),?_,?_,gb_set h.q.fr (by simp;omega),h.q.lg,h.q.sz⟩,?_,h.lp⟩
 ·rw [Below.heap_setCell _ _ _ _ (by simp;omega)];exact h.q.fn
 ·rw [Below.heap_setCell _ _ _ _ (by simp;omega)];exact h.q.res
 ·rw [←he];exact set_blk h.al i v
theorem Gy.sets (h:Gy w0 g p ezz T b w) (E':En):Gy w0 g p E' T b (((((((((((w.setCell ⟨p,0,none⟩ (.int .u64 E'.term)).setCell ⟨p,1,none⟩ (.int .u64 E'.index)).setCell ⟨p,2,none⟩ (.int .i64 E'.kind)).setCell ⟨p,3,none⟩ (.int .u64 E'.client)).setCell ⟨p,4,none⟩ (.int .u64 E'.seq)).setCell ⟨p,5,none⟩ (.int .u64 E'.block)).setCell ⟨p,6,none⟩ (.int .u64 E'.many)).setCell ⟨p,7,none⟩ (.int .i64 E'.node)).setCell ⟨p,8,none⟩ (.int .i64 E'.level)).setCell ⟨p,9,none⟩ (.string E'.data)).setCell ⟨p,10,none⟩ (.string E'.old)):=by
 have h1:=h.q.lg
 have h2:=h.lp
 have hB:Below (w0.heap.size+2) w (((((((((((w.setCell ⟨p,0,none⟩ (.int .u64 E'.term)).setCell ⟨p,1,none⟩ (.int .u64 E'.index)).setCell ⟨p,2,none⟩ (.int .i64 E'.kind)).setCell ⟨p,3,none⟩ (.int .u64 E'.client)).setCell ⟨p,4,none⟩ (.int .u64 E'.seq)).setCell ⟨p,5,none⟩ (.int .u64 E'.block)).setCell ⟨p,6,none⟩ (.int .u64 E'.many)).setCell ⟨p,7,none⟩ (.int .i64 E'.node)).setCell ⟨p,8,none⟩ (.int .i64 E'.level)).setCell ⟨p,9,none⟩ (.string E'.data)).setCell ⟨p,10,none⟩ (.string E'.old)):=below_all E' (Below.refl _ _) (by omega)
 refine ⟨⟨rd_all E' h.q.hr (by omega),?_,?_,gb_all E' h.q.fr (by omega),h.q.lg,h.q.sz⟩,store_all E' h.al,h.lp⟩
 ·exact (hB.block _ (by omega)).trans h.q.fn
 ·exact (hB.block _ (by omega)).trans h.q.res
end
theorem fixT_le (s:ByteArray) (k:Int):(fixT s k).size≤s.size:=by
 unfold fixT
 split
 ·rw [ByteArray.size_extract];omega
 ·exact Nat.zero_le _
theorem bytT_le (s:ByteArray) (k:Int):(bytT s k).size≤s.size:=by
 unfold bytT
 split
 ·rw [ByteArray.size_extract];omega
 ·exact Nat.zero_le _
section
variable (w0:World) (g p:Nat) (E:En) (T:ByteArray) (b:Bool) (k:Int) (w:World)
theorem gq_fix (h:Gq w0 g T b w) :
 Calls Tryz.prog 157 #[.pointer (some ⟨g,0,none⟩),.int .i64 k] w fun q w'=>q=.returned (.int .u64 (fixV T k))∧Gq w0 g (fixT T k) (b||!hasF T k) w'∧w'.cell? ⟨w0.heap.size+1,0,none⟩=some (.func (.func 157) #[.pointer (some ⟨g,0,none⟩)] #[])∧w.grownBy w' (some g) :=
 (fixedr_any g T b k w h.hr h.sz).mono fun q w' ⟨h1,h2,h3⟩=>⟨h1,h.step h2 h3 (fixT_le T k),(h.step h2 h3 (fixT_le T k)).fcell,h3⟩
theorem gq_byt (h:Gq w0 g T b w) :
 Calls Tryz.prog 160 #[.pointer (some ⟨g,0,none⟩),.int .i64 k] w fun q w'=>q=.returned (.string (bytV T k))∧Gq w0 g (bytT T k) (b||!hasB T k) w'∧w'.cell? ⟨w0.heap.size+1,0,none⟩=some (.func (.func 157) #[.pointer (some ⟨g,0,none⟩)] #[])∧w.grownBy w' (some g) :=
 (bytes_any g T b k w h.hr h.sz).mono fun q w' ⟨h1,h2,h3⟩=>⟨h1,h.step h2 h3 (bytT_le T k),(h.step h2 h3 (bytT_le T k)).fcell,h3⟩
theorem gq_small (h:Gq w0 g T b w) :
 Calls Tryz.prog 191 #[.pointer (some ⟨w0.heap.size+1,0,none⟩)] w fun q w'=>q=.returned (.int .i64 (fixV T 1))∧Gq w0 g (fixT T 1) (b||!hasF T 1) w'∧w'.cell? ⟨w0.heap.size+1,0,none⟩=some (.func (.func 157) #[.pointer (some ⟨g,0,none⟩)] #[])∧w.grownBy w' (some g):=by
 have c:=h.fcell
 have hv:=fixV_lt T 1 (by omega)
 rw [show (256:Nat) ^ 1=256 from by decide] at hv
 have K:=zh (gq_fix w0 g T b 1 w h)
 obtain ⟨v,hV⟩:∃ v,v=fixV T 1:=⟨_,rfl⟩
 have hv2:v<256:=by rw [hV];exact hv
 rw [←hV] at K ⊢
 have hw:IntKind.i64.wrap (v:Int)=(v:Int):=IntWalk.i64_in _ (by omega)
 clear h hV hv hv2
 go_enter Tryz.func191,Tryz.ntmps191
 go_wp2_with (go_at_call 157;(with_reducible refine K.out.mono ?_);rintro q w1 ⟨rfl,h1⟩)
 go_ret
 exact ⟨rfl,h1⟩
theorem gy_fix (h:Gy w0 g p E T b w) :
 Calls Tryz.prog 157 #[.pointer (some ⟨g,0,none⟩),.int .i64 k] w fun q w'=>q=.returned (.int .u64 (fixV T k))∧Gy w0 g p E (fixT T k) (b||!hasF T k) w'∧w'.cell? ⟨w0.heap.size+1,0,none⟩=some (.func (.func 157) #[.pointer (some ⟨g,0,none⟩)] #[]) :=
 (gq_fix w0 g T b k w h.q).mono fun q w' ⟨h1,h2,h3,h4⟩=>by
   have hy:=h.step h2.hr h4 (fixT_le T k)
   exact ⟨h1,hy,h3⟩
theorem gy_byt (h:Gy w0 g p E T b w) :
 Calls Tryz.prog 160 #[.pointer (some ⟨g,0,none⟩),.int .i64 k] w fun q w'=>q=.returned (.string (bytV T k))∧Gy w0 g p E (bytT T k) (b||!hasB T k) w'∧w'.cell? ⟨w0.heap.size+1,0,none⟩=some (.func (.func 157) #[.pointer (some ⟨g,0,none⟩)] #[]) :=
 (gq_byt w0 g T b k w h.q).mono fun q w' ⟨h1,h2,h3,h4⟩=>by
   have hy:=h.step h2.hr h4 (bytT_le T k)
   exact ⟨h1,hy,h3⟩
theorem gy_small (h:Gy w0 g p E T b w) :
 Calls Tryz.prog 191 #[.pointer (some ⟨w0.heap.size+1,0,none⟩)] w fun q w'=>q=.returned (.int .i64 (fixV T 1))∧Gy w0 g p E (fixT T 1) (b||!hasF T 1) w'∧w'.cell? ⟨w0.heap.size+1,0,none⟩=some (.func (.func 157) #[.pointer (some ⟨g,0,none⟩)] #[]) :=
 (gq_small w0 g T b w h.q).mono fun q w' ⟨h1,h2,h3,h4⟩=>by
   have hy:=h.step h2.hr h4 (fixT_le T 1)
   exact ⟨h1,hy,h3⟩
end
def getE' (s:ByteArray) (bad:Bool):En:=if bad then ezz else getE s
def fl9 (s:ByteArray) (bad:Bool):Bool:=bad||!hasF s 1||!hasF (t1 s) 8||!hasF (t2 s) 8||!hasF (t3 s) 8||!hasF (t4 s) 8||!hasF (t5 s) 4||!hasF (t6 s) 4||!hasF (t7 s) 1||!hasF (t8 s) 1
def getT' (s:ByteArray) (bad:Bool):ByteArray:=if bad then ⟨#[]⟩ else getT s
theorem ok_of2 (a b c d e f g h i:Nat) (D:ByteArray) (ha:a<18446744073709551616) (hb:b<18446744073709551616) (hc:c<256) (hd:d<18446744073709551616) (he:e<18446744073709551616) (hf:f<4294967296) (hg:g<4294967296) (hh:h<256) (hi:i<256) (hD:D.size≤256) :
 (⟨a,b,c,d,e,f,g,h,i,D,⟨#[]⟩⟩:En).Ok:=by
 constructor
 all_goals dsimp only
 all_goals first|omega|exact Nat.zero_le _
theorem prs_ok (s:ByteArray):(prs s).Ok:=by
 have h0:=fixV_lt s 1 (by omega)
 have h1:=fixV_lt (t1 s) 8 (by omega)
 have h2:=fixV_lt (t2 s) 8 (by omega)
 have h3:=fixV_lt (t3 s) 8 (by omega)
 have h4:=fixV_lt (t4 s) 8 (by omega)
 have h5:=fixV_lt (t5 s) 4 (by omega)
 have h6:=fixV_lt (t6 s) 4 (by omega)
 have h7:=fixV_lt (t7 s) 1 (by omega)
 have h8:=fixV_lt (t8 s) 1 (by omega)
 have h9:=fixV_lt (t9 s) 1 (by omega)
 rw [show (256:Nat) ^ 1=256 from by decide] at h0 h7 h8 h9
 rw [show (256:Nat) ^ 4=4294967296 from by decide] at h5 h6
 rw [show (256:Nat) ^ 8=18446744073709551616 from by decide] at h1 h2 h3 h4
 have hd:(dat s).size≤256:=by
  unfold dat bytV
  split
  ·rw [ByteArray.size_extract]
   have:nd s<256:=h9
   omega
  ·exact Nat.zero_le _
 exact ok_of2 _ _ _ _ _ _ _ _ _ _ h1 h2 h0 h3 h4 h5 h6 h7 h8 hd
theorem bytV_le (s:ByteArray) (k:Int) (n:Nat) (hk:k≤n):(bytV s k).size≤n:=by
 unfold bytV
 split
 ·rw [ByteArray.size_extract];omega
 ·exact Nat.zero_le _
def fl12 (s:ByteArray) (bad:Bool):Bool:=fl9 s bad||!hasF (t9 s) 1||!hasB (t10 s) (nd s)||!hasB (t11 s) (66-(nd s:Int))
theorem fl12_eq (s:ByteArray) (bad:Bool):fl12 s bad=(bad||!allO s):=by
 unfold fl12 fl9 allO hd10
 cases bad<;>simp [Bool.not_and,Bool.or_assoc]
theorem get_fail {s:ByteArray} {bad:Bool} (h:fl12 s bad=true∨mayB (prs s)=false∨((beh s).toList==(zer (beh s).size).toList)=false):getE' s bad=ezz∧getT' s bad=⟨#[]⟩∧(bad||!getO s)=true:=by
 cases bad with
 | true=>exact ⟨rfl,rfl,rfl⟩
 | false =>
   have ho:getO s=false:=by
    unfold getO
    rw [←beq_nums]
    rcases h with h|h|h
    ·rw [fl12_eq,Bool.false_or] at h
     have:allO s=false:=by simpa using h
     rw [this];rfl
    ·rw [h];simp
    ·rw [h];simp
   refine ⟨?_,?_,by rw [ho];rfl⟩
   ·show getE s=_
    unfold getE;rw [ho];rfl
   ·show getT s=_
    unfold getT;rw [ho];rfl
theorem get_fine {s:ByteArray} {bad:Bool} (h1:fl12 s bad=false) (h2:mayB (prs s)=true) (h3:((beh s).toList==(zer (beh s).size).toList)=true):getE' s bad=prs s∧getT' s bad=t12 s∧(bad||!getO s)=false:=by
 rw [fl12_eq] at h1
 cases bad with
 | true=>cases h1
 | false =>
   have ha:allO s=true:=by simpa using h1
   have ho:getO s=true:=by
    unfold getO
    rw [←beq_nums,ha,h2,h3];rfl
   have hs:=getO_size ho
   refine ⟨?_,?_,by rw [ho];rfl⟩
   ·show getE s=_
    unfold getE;rw [if_pos ho]
   ·show getT s=_
    unfold getT;rw [if_pos ho,(t_rest s hs.1 hs.2).2.2]
theorem get_any (g:Nat) (s:ByteArray) (bad:Bool) (w:World) (h:Rd 225 g s bad w) (hm:s.size≤281474976710656) :
 Calls Tryz.prog 164 #[rdp g] w fun q w'=>q=.returned (ev (getE' s bad))∧Rd 225 g (getT' s bad) (bad||!getO s) w'∧w.grownBy w' (some g):=by
 have hmf:∀ (fn:Fn) (first cap:Array Value) (w:World),(Instr.makeFunc fn first cap).run Tryz.prog w=.ok (.func fn first cap) w:=fun _ _ _ _=>rfl
 have hlt:=h.lt
 obtain ⟨W0,hW0⟩:∃ W0,W0=(w.alloc (Obj.cells (ec ezz) 28)).alloc (Obj.cells #[.func (.func 157) #[.pointer (some ⟨g,0,none⟩)] #[]] 142):=⟨_,rfl⟩
 have G0:Gq w g s bad W0:=by
  have k0:W0.heap[w.heap.size]?=some (.cells (ec ezz) 28 (0,0)):=by
   rw [hW0];exact (Lib.alloc_old _ _ _ (by simp)).trans (heap_alloc_new w _)
  have k1:W0.heap[w.heap.size+1]?=some (.cells #[.func (.func 157) #[.pointer (some ⟨g,0,none⟩)] #[]] 142 (0,0)):=by
   have h:=heap_alloc_new (w.alloc (Obj.cells (ec ezz) 28)) (Obj.cells #[.func (.func 157) #[.pointer (some ⟨g,0,none⟩)] #[]] 142)
   rw [show (w.alloc (Obj.cells (ec ezz) 28)).heap.size=w.heap.size+1 by simp] at h
   rw [hW0];exact h
  have hb:Below w.heap.size w W0:=by rw [hW0];exact ((Below.refl _ _).alloc (Nat.le_refl _) _).alloc (by simp) _
  exact ⟨h.below hb hlt,k1,k0,grownBy_below hb _,hlt,hm⟩
 have KS:=zh (gq_small w g)
 have KF:=zh (gq_fix w g)
 have KSy:=zh (gy_small w g)
 have KFy:=zh (gy_fix w g)
 have KBy:=zh (gy_byt w g)
 have HW0:=zh hW0
 have Gd:=G0.drew
 have c0:=G0.fcell
 clear hW0 h hm
 unfold rdp at *
 go_enter Tryz.func164,Tryz.ntmps164
 go_upto_region 3 with fail
 rw [←HW0.out]
 go_cut [6] from 9 to 61 (fun s6 wx=>∃ p,s6=.pointer (some ⟨p,0,none⟩)∧Gy w g p (prd s ⟨#[]⟩) (t9 s) (fl9 s bad) wx)
 case first =>
  refine wp_region_noPanic ?_
  refine wp_region_held_drew (S:=(fun w'=>w'.cell? ⟨w.heap.size+1,0,none⟩=some (.func (.func 157) #[.pointer (some ⟨g,0,none⟩)] #[]))) (by kernel_rfl) (by exact c0) (fun hHeld=>?_)
  refine wpAnyH_take (v:=?v0) (i:=0) rfl (by kernel_rfl) (by kernel_rfl) (by kernel_rfl) (fun _ _ _ h=>h) (Or.inl ⟨by kernel_rfl,?hy0⟩) (by assumption) ?rest0
  case hy0=>(intro w hSw;(try dsimp only at hSw);go_simp;first|done|(with_reducible rfl))
  try simp only [Act.put,List.setIfInBounds_toArray,List.set_cons_zero,List.set_cons_succ]
  refine wpAnyH_take (v:=?v2) (i:=2) rfl (by kernel_rfl) (by kernel_rfl) (by kernel_rfl) (fun _ _ _ h=>h) (Or.inl ⟨by kernel_rfl,?hy2⟩) (by assumption) ?rest2
  case hy2=>(intro w hSw;(try dsimp only at hSw);go_simp;first|done|(with_reducible rfl))
  try simp only [Act.put,List.setIfInBounds_toArray,List.set_cons_zero,List.set_cons_succ]
  refine wpAnyH_take (v:=?v4) (i:=4) rfl (by kernel_rfl) (by kernel_rfl) (by kernel_rfl) (fun _ _ _ h=>h) (Or.inl ⟨by kernel_rfl,?hy4⟩) (by assumption) ?rest4
  case hy4=>(intro w hSw;(try dsimp only at hSw);go_simp;first|done|(with_reducible rfl))
  try simp only [Act.put,List.setIfInBounds_toArray,List.set_cons_zero,List.set_cons_succ]
  refine wpAnyH_take (v:=?v6) (i:=6) rfl (by kernel_rfl) (by kernel_rfl) (by kernel_rfl) (fun _ _ _ h=>h) (Or.inl ⟨by kernel_rfl,?hy6⟩) (by assumption) ?rest6
  case hy6=>(intro w hSw;(try dsimp only at hSw);go_simp;first|done|(with_reducible rfl))
  try simp only [Act.put,List.setIfInBounds_toArray,List.set_cons_zero,List.set_cons_succ]
  refine wpAnyH_take (v:=?v8) (i:=8) rfl (by kernel_rfl) (by kernel_rfl) (by kernel_rfl) (fun _ _ _ h=>h) (Or.inl ⟨by kernel_rfl,?hy8⟩) (by assumption) ?rest8
  case hy8=>(intro w hSw;(try dsimp only at hSw);go_simp;first|done|(with_reducible rfl))
  try simp only [Act.put,List.setIfInBounds_toArray,List.set_cons_zero,List.set_cons_succ]
  refine wpAnyH_take (v:=?v10) (i:=10) rfl (by kernel_rfl) (by kernel_rfl) (by kernel_rfl) (fun _ _ _ h=>h) (Or.inl ⟨by kernel_rfl,?hy10⟩) (by assumption) ?rest10
  case hy10=>(intro w hSw;(try dsimp only at hSw);go_simp;first|done|(with_reducible rfl))
  try simp only [Act.put,List.setIfInBounds_toArray,List.set_cons_zero,List.set_cons_succ]
  refine wpAnyH_take (v:=?v12) (i:=12) rfl (by kernel_rfl) (by kernel_rfl) (by kernel_rfl) (fun _ _ _ h=>h) (Or.inl ⟨by kernel_rfl,?hy12⟩) (by assumption) ?rest12
  case hy12=>(intro w hSw;(try dsimp only at hSw);go_simp;first|done|(with_reducible rfl))
  try simp only [Act.put,List.setIfInBounds_toArray,List.set_cons_zero,List.set_cons_succ]
  refine wpAnyH_take (v:=?v14) (i:=14) rfl (by kernel_rfl) (by kernel_rfl) (by kernel_rfl) (fun _ _ _ h=>h) (Or.inl ⟨by kernel_rfl,?hy14⟩) (by assumption) ?rest14
  case hy14=>(intro w hSw;(try dsimp only at hSw);go_simp;first|done|(with_reducible rfl))
  try simp only [Act.put,List.setIfInBounds_toArray,List.set_cons_zero,List.set_cons_succ]
  refine wpAnyH_take (v:=?v16) (i:=16) rfl (by kernel_rfl) (by kernel_rfl) (by kernel_rfl) (fun _ _ _ h=>h) (Or.inl ⟨by kernel_rfl,?hy16⟩) (by assumption) ?rest16
  case hy16=>(intro w hSw;(try dsimp only at hSw);go_simp;first|done|(with_reducible rfl))
  try simp only [Act.put,List.setIfInBounds_toArray,List.set_cons_zero,List.set_cons_succ]
  have Gi:=G0
  have G0:=Gd
  refine wpAnyH_ready (rs:=[1,19]) (by kernel_rfl) (by simp) ?_
  refine AllReadyH.cons rfl (fun K hK=>?_) (AllReadyH.cons rfl (fun K hK=>?_) AllReadyH.nil)
  ·go_simp
   go_at_call 191
   (with_reducible refine (KS.out _ _ _ G0).mono ?_)
   rintro q w1 ⟨rfl,G1,c1,_⟩
   try go_wp2_with fail
   refine hK.out _ _ ?_ (fun hHeld=>?_)
   ·exact c1
   clear hK K
   try simp only [Act.put,List.setIfInBounds_toArray,List.set_cons_zero,List.set_cons_succ]
   refine wpAnyH_ready (rs:=[3,19]) (by kernel_rfl) (by simp) ?_
   refine AllReadyH.cons rfl (fun K hK=>?_) (AllReadyH.cons rfl (fun K hK=>?_) AllReadyH.nil)
   ·go_simp
    go_at_call 157
    (with_reducible refine (KF.out _ _ _ _ G1).mono ?_)
    rintro q w2 ⟨rfl,G2,c2,_⟩
    try go_wp2_with fail
    refine hK.out _ _ ?_ (fun hHeld=>?_)
    ·exact c2
    clear hK K
    try simp only [Act.put,List.setIfInBounds_toArray,List.set_cons_zero,List.set_cons_succ]
    refine wpAnyH_ready (rs:=[5,19]) (by kernel_rfl) (by simp) ?_
    refine AllReadyH.cons rfl (fun K hK=>?_) (AllReadyH.cons rfl (fun K hK=>?_) AllReadyH.nil)
    ·go_simp
     go_at_call 157
     (with_reducible refine (KF.out _ _ _ _ G2).mono ?_)
     rintro q w3 ⟨rfl,G3,c3,_⟩
     try go_wp2_with fail
     refine hK.out _ _ ?_ (fun hHeld=>?_)
     ·exact c3
     clear hK K
     try simp only [Act.put,List.setIfInBounds_toArray,List.set_cons_zero,List.set_cons_succ]
     refine wpAnyH_ready (rs:=[7,19]) (by kernel_rfl) (by simp) ?_
     refine AllReadyH.cons rfl (fun K hK=>?_) (AllReadyH.cons rfl (fun K hK=>?_) AllReadyH.nil)
     ·go_simp
      go_at_call 157
      (with_reducible refine (KF.out _ _ _ _ G3).mono ?_)
      rintro q w4 ⟨rfl,G4,c4,_⟩
      try go_wp2_with fail
      refine hK.out _ _ ?_ (fun hHeld=>?_)
      ·exact c4
      clear hK K
      try simp only [Act.put,List.setIfInBounds_toArray,List.set_cons_zero,List.set_cons_succ]
      refine wpAnyH_ready (rs:=[9,19]) (by kernel_rfl) (by simp) ?_
      refine AllReadyH.cons rfl (fun K hK=>?_) (AllReadyH.cons rfl (fun K hK=>?_) AllReadyH.nil)
      ·go_simp
       go_at_call 157
       (with_reducible refine (KF.out _ _ _ _ G4).mono ?_)
       rintro q w5 ⟨rfl,G5,c5,_⟩
       try go_wp2_with fail
       refine hK.out _ _ ?_ (fun hHeld=>?_)
       ·exact c5
       clear hK K
       try simp only [Act.put,List.setIfInBounds_toArray,List.set_cons_zero,List.set_cons_succ]
       refine wpAnyH_ready (rs:=[11,19]) (by kernel_rfl) (by simp) ?_
       refine AllReadyH.cons rfl (fun K hK=>?_) (AllReadyH.cons rfl (fun K hK=>?_) AllReadyH.nil)
       ·go_simp
        go_at_call 157
        (with_reducible refine (KF.out _ _ _ _ G5).mono ?_)
        rintro q w6 ⟨rfl,G6,c6,_⟩
        try go_wp2_with fail
        refine hK.out _ _ ?_ (fun hHeld=>?_)
        ·exact c6
        clear hK K
        try simp only [Act.put,List.setIfInBounds_toArray,List.set_cons_zero,List.set_cons_succ]
        refine wpAnyH_ready (rs:=[13,19]) (by kernel_rfl) (by simp) ?_
        refine AllReadyH.cons rfl (fun K hK=>?_) (AllReadyH.cons rfl (fun K hK=>?_) AllReadyH.nil)
        ·go_simp
         go_at_call 157
         (with_reducible refine (KF.out _ _ _ _ G6).mono ?_)
         rintro q w7 ⟨rfl,G7,c7,_⟩
         try go_wp2_with fail
         refine hK.out _ _ ?_ (fun hHeld=>?_)
         ·exact c7
         clear hK K
         try simp only [Act.put,List.setIfInBounds_toArray,List.set_cons_zero,List.set_cons_succ]
         refine wpAnyH_ready (rs:=[15,19]) (by kernel_rfl) (by simp) ?_
         refine AllReadyH.cons rfl (fun K hK=>?_) (AllReadyH.cons rfl (fun K hK=>?_) AllReadyH.nil)
         ·go_simp
          go_at_call 191
          (with_reducible refine (KS.out _ _ _ G7).mono ?_)
          rintro q w8 ⟨rfl,G8,c8,_⟩
          try go_wp2_with fail
          refine hK.out _ _ ?_ (fun hHeld=>?_)
          ·exact c8
          clear hK K
          try simp only [Act.put,List.setIfInBounds_toArray,List.set_cons_zero,List.set_cons_succ]
          refine wpAnyH_ready (rs:=[17,19]) (by kernel_rfl) (by simp) ?_
          refine AllReadyH.cons rfl (fun K hK=>?_) (AllReadyH.cons rfl (fun K hK=>?_) AllReadyH.nil)
          ·go_simp
           go_at_call 191
           (with_reducible refine (KS.out _ _ _ G8).mono ?_)
           rintro q w9 ⟨rfl,G9,c9,_⟩
           try go_wp2_with fail
           refine hK.out _ _ ?_ (fun hHeld=>?_)
           ·exact c9
           clear hK K
           try simp only [Act.put,List.setIfInBounds_toArray,List.set_cons_zero,List.set_cons_succ]
           refine wpAnyH_take (v:=?vn_18) (i:=18) rfl (by kernel_rfl) (by kernel_rfl) (by kernel_rfl) (fun _ _ _ h=>h) (Or.inl ⟨by kernel_rfl,?hyn_18⟩) (by assumption) ?restn_18
           case hyn_18=>(intro w hSw;(try dsimp only at hSw);go_simp;first|done|(with_reducible rfl))
           try simp only [Act.put,List.setIfInBounds_toArray,List.set_cons_zero,List.set_cons_succ]
           refine wpAnyH_ready (rs:=[19]) (by kernel_rfl) (by simp) ?_
           refine AllReadyH.cons rfl (fun K hK=>?_) AllReadyH.nil
           go_simp
           refine hK.out _ _ ?_ (fun hHeld=>?_)
           ·exact Gq.fcella G9 _
           clear hK K
           try simp only [Act.put,List.setIfInBounds_toArray,List.set_cons_zero,List.set_cons_succ]
           have G9y:=Gq.toY (prd s ⟨#[]⟩) G9
           refine wpAnyH_ready (rs:=[20]) (by kernel_rfl) (by simp) ?_
           refine AllReadyH.cons rfl (fun K hK=>?_) AllReadyH.nil
           go_simp
           refine hK.out _ _ ?_ (fun hHeld=>?_)
           ·exact G9y.q.fcell
           clear hK K
           try simp only [Act.put,List.setIfInBounds_toArray,List.set_cons_zero,List.set_cons_succ]
           refine wpAnyH_done (by kernel_rfl) ?_ _
           refine NoPanic.normal ?_
           go_wp2_with fail
           go_meet
           exact ⟨_,rfl,G9y⟩
          ·go_simp
           refine hK.out _ _ ?_ (fun hHeld=>?_)
           ·exact Gq.fcella G8 _
           clear hK K
           try simp only [Act.put,List.setIfInBounds_toArray,List.set_cons_zero,List.set_cons_succ]
           have G8y:=Gq.toY ezz G8
           refine wpAnyH_ready (rs:=[17]) (by kernel_rfl) (by simp) ?_
           refine AllReadyH.cons rfl (fun K hK=>?_) AllReadyH.nil
           go_simp
           go_at_call 191
           (with_reducible refine (KSy.out _ _ _ _ _ G8y).mono ?_)
           rintro q w9y ⟨rfl,G9y,c9y⟩
           try go_wp2_with fail
           refine hK.out _ _ ?_ (fun hHeld=>?_)
           ·exact c9y
           clear hK K
           try simp only [Act.put,List.setIfInBounds_toArray,List.set_cons_zero,List.set_cons_succ]
           refine wpAnyH_take (v:=?vb8_18) (i:=18) rfl (by kernel_rfl) (by kernel_rfl) (by kernel_rfl) (fun _ _ _ h=>h) (Or.inl ⟨by kernel_rfl,?hyb8_18⟩) (by assumption) ?restb8_18
           case hyb8_18=>(intro w hSw;(try dsimp only at hSw);go_simp;first|done|(with_reducible rfl))
           try simp only [Act.put,List.setIfInBounds_toArray,List.set_cons_zero,List.set_cons_succ]
           have e0:w9y.cell? ⟨w8.heap.size,0,none⟩=some (.int .u64 0):=G9y.cell 0
           have e1:w9y.cell? ⟨w8.heap.size,1,none⟩=some (.int .u64 0):=G9y.cell 1
           have e2:w9y.cell? ⟨w8.heap.size,2,none⟩=some (.int .i64 0):=G9y.cell 2
           have e3:w9y.cell? ⟨w8.heap.size,3,none⟩=some (.int .u64 0):=G9y.cell 3
           have e4:w9y.cell? ⟨w8.heap.size,4,none⟩=some (.int .u64 0):=G9y.cell 4
           have e5:w9y.cell? ⟨w8.heap.size,5,none⟩=some (.int .u64 0):=G9y.cell 5
           have e6:w9y.cell? ⟨w8.heap.size,6,none⟩=some (.int .u64 0):=G9y.cell 6
           have e7:w9y.cell? ⟨w8.heap.size,7,none⟩=some (.int .i64 0):=G9y.cell 7
           have e8:w9y.cell? ⟨w8.heap.size,8,none⟩=some (.int .i64 0):=G9y.cell 8
           have e9:w9y.cell? ⟨w8.heap.size,9,none⟩=some (.string ⟨#[]⟩):=G9y.cell 9
           have e10:w9y.cell? ⟨w8.heap.size,10,none⟩=some (.string ⟨#[]⟩):=G9y.cell 10
           have fz:=G9y.fz
           refine wpAnyH_ready (rs:=[20]) (by kernel_rfl) (by simp) ?_
           refine AllReadyH.cons rfl (fun K hK=>?_) AllReadyH.nil
           go_simp
           refine hK.out _ _ ?_ (fun hHeld=>?_)
           ·exact (G9y.sets (prd s ⟨#[]⟩)).q.fcell
           clear hK K
           try simp only [Act.put,List.setIfInBounds_toArray,List.set_cons_zero,List.set_cons_succ]
           refine wpAnyH_done (by kernel_rfl) ?_ _
           refine NoPanic.normal ?_
           go_wp2_with fail
           go_meet
           exact ⟨_,rfl,G9y.sets (prd s ⟨#[]⟩)⟩
         ·go_simp
          refine hK.out _ _ ?_ (fun hHeld=>?_)
          ·exact Gq.fcella G7 _
          clear hK K
          try simp only [Act.put,List.setIfInBounds_toArray,List.set_cons_zero,List.set_cons_succ]
          have G7y:=Gq.toY ezz G7
          refine wpAnyH_ready (rs:=[15]) (by kernel_rfl) (by simp) ?_
          refine AllReadyH.cons rfl (fun K hK=>?_) AllReadyH.nil
          go_simp
          go_at_call 191
          (with_reducible refine (KSy.out _ _ _ _ _ G7y).mono ?_)
          rintro q w8y ⟨rfl,G8y,c8y⟩
          try go_wp2_with fail
          refine hK.out _ _ ?_ (fun hHeld=>?_)
          ·exact c8y
          clear hK K
          try simp only [Act.put,List.setIfInBounds_toArray,List.set_cons_zero,List.set_cons_succ]
          refine wpAnyH_ready (rs:=[17]) (by kernel_rfl) (by simp) ?_
          refine AllReadyH.cons rfl (fun K hK=>?_) AllReadyH.nil
          go_simp
          go_at_call 191
          (with_reducible refine (KSy.out _ _ _ _ _ G8y).mono ?_)
          rintro q w9y ⟨rfl,G9y,c9y⟩
          try go_wp2_with fail
          refine hK.out _ _ ?_ (fun hHeld=>?_)
          ·exact c9y
          clear hK K
          try simp only [Act.put,List.setIfInBounds_toArray,List.set_cons_zero,List.set_cons_succ]
          refine wpAnyH_take (v:=?vb7_18) (i:=18) rfl (by kernel_rfl) (by kernel_rfl) (by kernel_rfl) (fun _ _ _ h=>h) (Or.inl ⟨by kernel_rfl,?hyb7_18⟩) (by assumption) ?restb7_18
          case hyb7_18=>(intro w hSw;(try dsimp only at hSw);go_simp;first|done|(with_reducible rfl))
          try simp only [Act.put,List.setIfInBounds_toArray,List.set_cons_zero,List.set_cons_succ]
          have e0:w9y.cell? ⟨w7.heap.size,0,none⟩=some (.int .u64 0):=G9y.cell 0
          have e1:w9y.cell? ⟨w7.heap.size,1,none⟩=some (.int .u64 0):=G9y.cell 1
          have e2:w9y.cell? ⟨w7.heap.size,2,none⟩=some (.int .i64 0):=G9y.cell 2
          have e3:w9y.cell? ⟨w7.heap.size,3,none⟩=some (.int .u64 0):=G9y.cell 3
          have e4:w9y.cell? ⟨w7.heap.size,4,none⟩=some (.int .u64 0):=G9y.cell 4
          have e5:w9y.cell? ⟨w7.heap.size,5,none⟩=some (.int .u64 0):=G9y.cell 5
          have e6:w9y.cell? ⟨w7.heap.size,6,none⟩=some (.int .u64 0):=G9y.cell 6
          have e7:w9y.cell? ⟨w7.heap.size,7,none⟩=some (.int .i64 0):=G9y.cell 7
          have e8:w9y.cell? ⟨w7.heap.size,8,none⟩=some (.int .i64 0):=G9y.cell 8
          have e9:w9y.cell? ⟨w7.heap.size,9,none⟩=some (.string ⟨#[]⟩):=G9y.cell 9
          have e10:w9y.cell? ⟨w7.heap.size,10,none⟩=some (.string ⟨#[]⟩):=G9y.cell 10
          have fz:=G9y.fz
          refine wpAnyH_ready (rs:=[20]) (by kernel_rfl) (by simp) ?_
          refine AllReadyH.cons rfl (fun K hK=>?_) AllReadyH.nil
          go_simp
          refine hK.out _ _ ?_ (fun hHeld=>?_)
          ·exact (G9y.sets (prd s ⟨#[]⟩)).q.fcell
          clear hK K
          try simp only [Act.put,List.setIfInBounds_toArray,List.set_cons_zero,List.set_cons_succ]
          refine wpAnyH_done (by kernel_rfl) ?_ _
          refine NoPanic.normal ?_
          go_wp2_with fail
          go_meet
          exact ⟨_,rfl,G9y.sets (prd s ⟨#[]⟩)⟩
        ·go_simp
         refine hK.out _ _ ?_ (fun hHeld=>?_)
         ·exact Gq.fcella G6 _
         clear hK K
         try simp only [Act.put,List.setIfInBounds_toArray,List.set_cons_zero,List.set_cons_succ]
         have G6y:=Gq.toY ezz G6
         refine wpAnyH_ready (rs:=[13]) (by kernel_rfl) (by simp) ?_
         refine AllReadyH.cons rfl (fun K hK=>?_) AllReadyH.nil
         go_simp
         go_at_call 157
         (with_reducible refine (KFy.out _ _ _ _ _ _ G6y).mono ?_)
         rintro q w7y ⟨rfl,G7y,c7y⟩
         try go_wp2_with fail
         refine hK.out _ _ ?_ (fun hHeld=>?_)
         ·exact c7y
         clear hK K
         try simp only [Act.put,List.setIfInBounds_toArray,List.set_cons_zero,List.set_cons_succ]
         refine wpAnyH_ready (rs:=[15]) (by kernel_rfl) (by simp) ?_
         refine AllReadyH.cons rfl (fun K hK=>?_) AllReadyH.nil
         go_simp
         go_at_call 191
         (with_reducible refine (KSy.out _ _ _ _ _ G7y).mono ?_)
         rintro q w8y ⟨rfl,G8y,c8y⟩
         try go_wp2_with fail
         refine hK.out _ _ ?_ (fun hHeld=>?_)
         ·exact c8y
         clear hK K
         try simp only [Act.put,List.setIfInBounds_toArray,List.set_cons_zero,List.set_cons_succ]
         refine wpAnyH_ready (rs:=[17]) (by kernel_rfl) (by simp) ?_
         refine AllReadyH.cons rfl (fun K hK=>?_) AllReadyH.nil
         go_simp
         go_at_call 191
         (with_reducible refine (KSy.out _ _ _ _ _ G8y).mono ?_)
         rintro q w9y ⟨rfl,G9y,c9y⟩
         try go_wp2_with fail
         refine hK.out _ _ ?_ (fun hHeld=>?_)
         ·exact c9y
         clear hK K
         try simp only [Act.put,List.setIfInBounds_toArray,List.set_cons_zero,List.set_cons_succ]
         refine wpAnyH_take (v:=?vb6_18) (i:=18) rfl (by kernel_rfl) (by kernel_rfl) (by kernel_rfl) (fun _ _ _ h=>h) (Or.inl ⟨by kernel_rfl,?hyb6_18⟩) (by assumption) ?restb6_18
         case hyb6_18=>(intro w hSw;(try dsimp only at hSw);go_simp;first|done|(with_reducible rfl))
         try simp only [Act.put,List.setIfInBounds_toArray,List.set_cons_zero,List.set_cons_succ]
         have e0:w9y.cell? ⟨w6.heap.size,0,none⟩=some (.int .u64 0):=G9y.cell 0
         have e1:w9y.cell? ⟨w6.heap.size,1,none⟩=some (.int .u64 0):=G9y.cell 1
         have e2:w9y.cell? ⟨w6.heap.size,2,none⟩=some (.int .i64 0):=G9y.cell 2
         have e3:w9y.cell? ⟨w6.heap.size,3,none⟩=some (.int .u64 0):=G9y.cell 3
         have e4:w9y.cell? ⟨w6.heap.size,4,none⟩=some (.int .u64 0):=G9y.cell 4
         have e5:w9y.cell? ⟨w6.heap.size,5,none⟩=some (.int .u64 0):=G9y.cell 5
         have e6:w9y.cell? ⟨w6.heap.size,6,none⟩=some (.int .u64 0):=G9y.cell 6
         have e7:w9y.cell? ⟨w6.heap.size,7,none⟩=some (.int .i64 0):=G9y.cell 7
         have e8:w9y.cell? ⟨w6.heap.size,8,none⟩=some (.int .i64 0):=G9y.cell 8
         have e9:w9y.cell? ⟨w6.heap.size,9,none⟩=some (.string ⟨#[]⟩):=G9y.cell 9
         have e10:w9y.cell? ⟨w6.heap.size,10,none⟩=some (.string ⟨#[]⟩):=G9y.cell 10
         have fz:=G9y.fz
         refine wpAnyH_ready (rs:=[20]) (by kernel_rfl) (by simp) ?_
         refine AllReadyH.cons rfl (fun K hK=>?_) AllReadyH.nil
         go_simp
         refine hK.out _ _ ?_ (fun hHeld=>?_)
         ·exact (G9y.sets (prd s ⟨#[]⟩)).q.fcell
         clear hK K
         try simp only [Act.put,List.setIfInBounds_toArray,List.set_cons_zero,List.set_cons_succ]
         refine wpAnyH_done (by kernel_rfl) ?_ _
         refine NoPanic.normal ?_
         go_wp2_with fail
         go_meet
         exact ⟨_,rfl,G9y.sets (prd s ⟨#[]⟩)⟩
       ·go_simp
        refine hK.out _ _ ?_ (fun hHeld=>?_)
        ·exact Gq.fcella G5 _
        clear hK K
        try simp only [Act.put,List.setIfInBounds_toArray,List.set_cons_zero,List.set_cons_succ]
        have G5y:=Gq.toY ezz G5
        refine wpAnyH_ready (rs:=[11]) (by kernel_rfl) (by simp) ?_
        refine AllReadyH.cons rfl (fun K hK=>?_) AllReadyH.nil
        go_simp
        go_at_call 157
        (with_reducible refine (KFy.out _ _ _ _ _ _ G5y).mono ?_)
        rintro q w6y ⟨rfl,G6y,c6y⟩
        try go_wp2_with fail
        refine hK.out _ _ ?_ (fun hHeld=>?_)
        ·exact c6y
        clear hK K
        try simp only [Act.put,List.setIfInBounds_toArray,List.set_cons_zero,List.set_cons_succ]
        refine wpAnyH_ready (rs:=[13]) (by kernel_rfl) (by simp) ?_
        refine AllReadyH.cons rfl (fun K hK=>?_) AllReadyH.nil
        go_simp
        go_at_call 157
        (with_reducible refine (KFy.out _ _ _ _ _ _ G6y).mono ?_)
        rintro q w7y ⟨rfl,G7y,c7y⟩
        try go_wp2_with fail
        refine hK.out _ _ ?_ (fun hHeld=>?_)
        ·exact c7y
        clear hK K
        try simp only [Act.put,List.setIfInBounds_toArray,List.set_cons_zero,List.set_cons_succ]
        refine wpAnyH_ready (rs:=[15]) (by kernel_rfl) (by simp) ?_
        refine AllReadyH.cons rfl (fun K hK=>?_) AllReadyH.nil
        go_simp
        go_at_call 191
        (with_reducible refine (KSy.out _ _ _ _ _ G7y).mono ?_)
        rintro q w8y ⟨rfl,G8y,c8y⟩
        try go_wp2_with fail
        refine hK.out _ _ ?_ (fun hHeld=>?_)
        ·exact c8y
        clear hK K
        try simp only [Act.put,List.setIfInBounds_toArray,List.set_cons_zero,List.set_cons_succ]
        refine wpAnyH_ready (rs:=[17]) (by kernel_rfl) (by simp) ?_
        refine AllReadyH.cons rfl (fun K hK=>?_) AllReadyH.nil
        go_simp
        go_at_call 191
        (with_reducible refine (KSy.out _ _ _ _ _ G8y).mono ?_)
        rintro q w9y ⟨rfl,G9y,c9y⟩
        try go_wp2_with fail
        refine hK.out _ _ ?_ (fun hHeld=>?_)
        ·exact c9y
        clear hK K
        try simp only [Act.put,List.setIfInBounds_toArray,List.set_cons_zero,List.set_cons_succ]
        refine wpAnyH_take (v:=?vb5_18) (i:=18) rfl (by kernel_rfl) (by kernel_rfl) (by kernel_rfl) (fun _ _ _ h=>h) (Or.inl ⟨by kernel_rfl,?hyb5_18⟩) (by assumption) ?restb5_18
        case hyb5_18=>(intro w hSw;(try dsimp only at hSw);go_simp;first|done|(with_reducible rfl))
        try simp only [Act.put,List.setIfInBounds_toArray,List.set_cons_zero,List.set_cons_succ]
        have e0:w9y.cell? ⟨w5.heap.size,0,none⟩=some (.int .u64 0):=G9y.cell 0
        have e1:w9y.cell? ⟨w5.heap.size,1,none⟩=some (.int .u64 0):=G9y.cell 1
        have e2:w9y.cell? ⟨w5.heap.size,2,none⟩=some (.int .i64 0):=G9y.cell 2
        have e3:w9y.cell? ⟨w5.heap.size,3,none⟩=some (.int .u64 0):=G9y.cell 3
        have e4:w9y.cell? ⟨w5.heap.size,4,none⟩=some (.int .u64 0):=G9y.cell 4
        have e5:w9y.cell? ⟨w5.heap.size,5,none⟩=some (.int .u64 0):=G9y.cell 5
        have e6:w9y.cell? ⟨w5.heap.size,6,none⟩=some (.int .u64 0):=G9y.cell 6
        have e7:w9y.cell? ⟨w5.heap.size,7,none⟩=some (.int .i64 0):=G9y.cell 7
        have e8:w9y.cell? ⟨w5.heap.size,8,none⟩=some (.int .i64 0):=G9y.cell 8
        have e9:w9y.cell? ⟨w5.heap.size,9,none⟩=some (.string ⟨#[]⟩):=G9y.cell 9
        have e10:w9y.cell? ⟨w5.heap.size,10,none⟩=some (.string ⟨#[]⟩):=G9y.cell 10
        have fz:=G9y.fz
        refine wpAnyH_ready (rs:=[20]) (by kernel_rfl) (by simp) ?_
        refine AllReadyH.cons rfl (fun K hK=>?_) AllReadyH.nil
        go_simp
        refine hK.out _ _ ?_ (fun hHeld=>?_)
        ·exact (G9y.sets (prd s ⟨#[]⟩)).q.fcell
        clear hK K
        try simp only [Act.put,List.setIfInBounds_toArray,List.set_cons_zero,List.set_cons_succ]
        refine wpAnyH_done (by kernel_rfl) ?_ _
        refine NoPanic.normal ?_
        go_wp2_with fail
        go_meet
        exact ⟨_,rfl,G9y.sets (prd s ⟨#[]⟩)⟩
      ·go_simp
       refine hK.out _ _ ?_ (fun hHeld=>?_)
       ·exact Gq.fcella G4 _
       clear hK K
       try simp only [Act.put,List.setIfInBounds_toArray,List.set_cons_zero,List.set_cons_succ]
       have G4y:=Gq.toY ezz G4
       refine wpAnyH_ready (rs:=[9]) (by kernel_rfl) (by simp) ?_
       refine AllReadyH.cons rfl (fun K hK=>?_) AllReadyH.nil
       go_simp
       go_at_call 157
       (with_reducible refine (KFy.out _ _ _ _ _ _ G4y).mono ?_)
       rintro q w5y ⟨rfl,G5y,c5y⟩
       try go_wp2_with fail
       refine hK.out _ _ ?_ (fun hHeld=>?_)
       ·exact c5y
       clear hK K
       try simp only [Act.put,List.setIfInBounds_toArray,List.set_cons_zero,List.set_cons_succ]
       refine wpAnyH_ready (rs:=[11]) (by kernel_rfl) (by simp) ?_
       refine AllReadyH.cons rfl (fun K hK=>?_) AllReadyH.nil
       go_simp
       go_at_call 157
       (with_reducible refine (KFy.out _ _ _ _ _ _ G5y).mono ?_)
       rintro q w6y ⟨rfl,G6y,c6y⟩
       try go_wp2_with fail
       refine hK.out _ _ ?_ (fun hHeld=>?_)
       ·exact c6y
       clear hK K
       try simp only [Act.put,List.setIfInBounds_toArray,List.set_cons_zero,List.set_cons_succ]
       refine wpAnyH_ready (rs:=[13]) (by kernel_rfl) (by simp) ?_
       refine AllReadyH.cons rfl (fun K hK=>?_) AllReadyH.nil
       go_simp
       go_at_call 157
       (with_reducible refine (KFy.out _ _ _ _ _ _ G6y).mono ?_)
       rintro q w7y ⟨rfl,G7y,c7y⟩
       try go_wp2_with fail
       refine hK.out _ _ ?_ (fun hHeld=>?_)
       ·exact c7y
       clear hK K
       try simp only [Act.put,List.setIfInBounds_toArray,List.set_cons_zero,List.set_cons_succ]
       refine wpAnyH_ready (rs:=[15]) (by kernel_rfl) (by simp) ?_
       refine AllReadyH.cons rfl (fun K hK=>?_) AllReadyH.nil
       go_simp
       go_at_call 191
       (with_reducible refine (KSy.out _ _ _ _ _ G7y).mono ?_)
       rintro q w8y ⟨rfl,G8y,c8y⟩
       try go_wp2_with fail
       refine hK.out _ _ ?_ (fun hHeld=>?_)
       ·exact c8y
       clear hK K
       try simp only [Act.put,List.setIfInBounds_toArray,List.set_cons_zero,List.set_cons_succ]
       refine wpAnyH_ready (rs:=[17]) (by kernel_rfl) (by simp) ?_
       refine AllReadyH.cons rfl (fun K hK=>?_) AllReadyH.nil
       go_simp
       go_at_call 191
       (with_reducible refine (KSy.out _ _ _ _ _ G8y).mono ?_)
       rintro q w9y ⟨rfl,G9y,c9y⟩
       try go_wp2_with fail
       refine hK.out _ _ ?_ (fun hHeld=>?_)
       ·exact c9y
       clear hK K
       try simp only [Act.put,List.setIfInBounds_toArray,List.set_cons_zero,List.set_cons_succ]
       refine wpAnyH_take (v:=?vb4_18) (i:=18) rfl (by kernel_rfl) (by kernel_rfl) (by kernel_rfl) (fun _ _ _ h=>h) (Or.inl ⟨by kernel_rfl,?hyb4_18⟩) (by assumption) ?restb4_18
       case hyb4_18=>(intro w hSw;(try dsimp only at hSw);go_simp;first|done|(with_reducible rfl))
       try simp only [Act.put,List.setIfInBounds_toArray,List.set_cons_zero,List.set_cons_succ]
       have e0:w9y.cell? ⟨w4.heap.size,0,none⟩=some (.int .u64 0):=G9y.cell 0
       have e1:w9y.cell? ⟨w4.heap.size,1,none⟩=some (.int .u64 0):=G9y.cell 1
       have e2:w9y.cell? ⟨w4.heap.size,2,none⟩=some (.int .i64 0):=G9y.cell 2
       have e3:w9y.cell? ⟨w4.heap.size,3,none⟩=some (.int .u64 0):=G9y.cell 3
       have e4:w9y.cell? ⟨w4.heap.size,4,none⟩=some (.int .u64 0):=G9y.cell 4
       have e5:w9y.cell? ⟨w4.heap.size,5,none⟩=some (.int .u64 0):=G9y.cell 5
       have e6:w9y.cell? ⟨w4.heap.size,6,none⟩=some (.int .u64 0):=G9y.cell 6
       have e7:w9y.cell? ⟨w4.heap.size,7,none⟩=some (.int .i64 0):=G9y.cell 7
       have e8:w9y.cell? ⟨w4.heap.size,8,none⟩=some (.int .i64 0):=G9y.cell 8
       have e9:w9y.cell? ⟨w4.heap.size,9,none⟩=some (.string ⟨#[]⟩):=G9y.cell 9
       have e10:w9y.cell? ⟨w4.heap.size,10,none⟩=some (.string ⟨#[]⟩):=G9y.cell 10
       have fz:=G9y.fz
       refine wpAnyH_ready (rs:=[20]) (by kernel_rfl) (by simp) ?_
       refine AllReadyH.cons rfl (fun K hK=>?_) AllReadyH.nil
       go_simp
       refine hK.out _ _ ?_ (fun hHeld=>?_)
       ·exact (G9y.sets (prd s ⟨#[]⟩)).q.fcell
       clear hK K
       try simp only [Act.put,List.setIfInBounds_toArray,List.set_cons_zero,List.set_cons_succ]
       refine wpAnyH_done (by kernel_rfl) ?_ _
       refine NoPanic.normal ?_
       go_wp2_with fail
       go_meet
       exact ⟨_,rfl,G9y.sets (prd s ⟨#[]⟩)⟩
     ·go_simp
      refine hK.out _ _ ?_ (fun hHeld=>?_)
      ·exact Gq.fcella G3 _
      clear hK K
      try simp only [Act.put,List.setIfInBounds_toArray,List.set_cons_zero,List.set_cons_succ]
      have G3y:=Gq.toY ezz G3
      refine wpAnyH_ready (rs:=[7]) (by kernel_rfl) (by simp) ?_
      refine AllReadyH.cons rfl (fun K hK=>?_) AllReadyH.nil
      go_simp
      go_at_call 157
      (with_reducible refine (KFy.out _ _ _ _ _ _ G3y).mono ?_)
      rintro q w4y ⟨rfl,G4y,c4y⟩
      try go_wp2_with fail
      refine hK.out _ _ ?_ (fun hHeld=>?_)
      ·exact c4y
      clear hK K
      try simp only [Act.put,List.setIfInBounds_toArray,List.set_cons_zero,List.set_cons_succ]
      refine wpAnyH_ready (rs:=[9]) (by kernel_rfl) (by simp) ?_
      refine AllReadyH.cons rfl (fun K hK=>?_) AllReadyH.nil
      go_simp
      go_at_call 157
      (with_reducible refine (KFy.out _ _ _ _ _ _ G4y).mono ?_)
      rintro q w5y ⟨rfl,G5y,c5y⟩
      try go_wp2_with fail
      refine hK.out _ _ ?_ (fun hHeld=>?_)
      ·exact c5y
      clear hK K
      try simp only [Act.put,List.setIfInBounds_toArray,List.set_cons_zero,List.set_cons_succ]
      refine wpAnyH_ready (rs:=[11]) (by kernel_rfl) (by simp) ?_
      refine AllReadyH.cons rfl (fun K hK=>?_) AllReadyH.nil
      go_simp
      go_at_call 157
      (with_reducible refine (KFy.out _ _ _ _ _ _ G5y).mono ?_)
      rintro q w6y ⟨rfl,G6y,c6y⟩
      try go_wp2_with fail
      refine hK.out _ _ ?_ (fun hHeld=>?_)
      ·exact c6y
      clear hK K
      try simp only [Act.put,List.setIfInBounds_toArray,List.set_cons_zero,List.set_cons_succ]
      refine wpAnyH_ready (rs:=[13]) (by kernel_rfl) (by simp) ?_
      refine AllReadyH.cons rfl (fun K hK=>?_) AllReadyH.nil
      go_simp
      go_at_call 157
      (with_reducible refine (KFy.out _ _ _ _ _ _ G6y).mono ?_)
      rintro q w7y ⟨rfl,G7y,c7y⟩
      try go_wp2_with fail
      refine hK.out _ _ ?_ (fun hHeld=>?_)
      ·exact c7y
      clear hK K
      try simp only [Act.put,List.setIfInBounds_toArray,List.set_cons_zero,List.set_cons_succ]
      refine wpAnyH_ready (rs:=[15]) (by kernel_rfl) (by simp) ?_
      refine AllReadyH.cons rfl (fun K hK=>?_) AllReadyH.nil
      go_simp
      go_at_call 191
      (with_reducible refine (KSy.out _ _ _ _ _ G7y).mono ?_)
      rintro q w8y ⟨rfl,G8y,c8y⟩
      try go_wp2_with fail
      refine hK.out _ _ ?_ (fun hHeld=>?_)
      ·exact c8y
      clear hK K
      try simp only [Act.put,List.setIfInBounds_toArray,List.set_cons_zero,List.set_cons_succ]
      refine wpAnyH_ready (rs:=[17]) (by kernel_rfl) (by simp) ?_
      refine AllReadyH.cons rfl (fun K hK=>?_) AllReadyH.nil
      go_simp
      go_at_call 191
      (with_reducible refine (KSy.out _ _ _ _ _ G8y).mono ?_)
      rintro q w9y ⟨rfl,G9y,c9y⟩
      try go_wp2_with fail
      refine hK.out _ _ ?_ (fun hHeld=>?_)
      ·exact c9y
      clear hK K
      try simp only [Act.put,List.setIfInBounds_toArray,List.set_cons_zero,List.set_cons_succ]
      refine wpAnyH_take (v:=?vb3_18) (i:=18) rfl (by kernel_rfl) (by kernel_rfl) (by kernel_rfl) (fun _ _ _ h=>h) (Or.inl ⟨by kernel_rfl,?hyb3_18⟩) (by assumption) ?restb3_18
      case hyb3_18=>(intro w hSw;(try dsimp only at hSw);go_simp;first|done|(with_reducible rfl))
      try simp only [Act.put,List.setIfInBounds_toArray,List.set_cons_zero,List.set_cons_succ]
      have e0:w9y.cell? ⟨w3.heap.size,0,none⟩=some (.int .u64 0):=G9y.cell 0
      have e1:w9y.cell? ⟨w3.heap.size,1,none⟩=some (.int .u64 0):=G9y.cell 1
      have e2:w9y.cell? ⟨w3.heap.size,2,none⟩=some (.int .i64 0):=G9y.cell 2
      have e3:w9y.cell? ⟨w3.heap.size,3,none⟩=some (.int .u64 0):=G9y.cell 3
      have e4:w9y.cell? ⟨w3.heap.size,4,none⟩=some (.int .u64 0):=G9y.cell 4
      have e5:w9y.cell? ⟨w3.heap.size,5,none⟩=some (.int .u64 0):=G9y.cell 5
      have e6:w9y.cell? ⟨w3.heap.size,6,none⟩=some (.int .u64 0):=G9y.cell 6
      have e7:w9y.cell? ⟨w3.heap.size,7,none⟩=some (.int .i64 0):=G9y.cell 7
      have e8:w9y.cell? ⟨w3.heap.size,8,none⟩=some (.int .i64 0):=G9y.cell 8
      have e9:w9y.cell? ⟨w3.heap.size,9,none⟩=some (.string ⟨#[]⟩):=G9y.cell 9
      have e10:w9y.cell? ⟨w3.heap.size,10,none⟩=some (.string ⟨#[]⟩):=G9y.cell 10
      have fz:=G9y.fz
      refine wpAnyH_ready (rs:=[20]) (by kernel_rfl) (by simp) ?_
      refine AllReadyH.cons rfl (fun K hK=>?_) AllReadyH.nil
      go_simp
      refine hK.out _ _ ?_ (fun hHeld=>?_)
      ·exact (G9y.sets (prd s ⟨#[]⟩)).q.fcell
      clear hK K
      try simp only [Act.put,List.setIfInBounds_toArray,List.set_cons_zero,List.set_cons_succ]
      refine wpAnyH_done (by kernel_rfl) ?_ _
      refine NoPanic.normal ?_
      go_wp2_with fail
      go_meet
      exact ⟨_,rfl,G9y.sets (prd s ⟨#[]⟩)⟩
    ·go_simp
     refine hK.out _ _ ?_ (fun hHeld=>?_)
     ·exact Gq.fcella G2 _
     clear hK K
     try simp only [Act.put,List.setIfInBounds_toArray,List.set_cons_zero,List.set_cons_succ]
     have G2y:=Gq.toY ezz G2
     refine wpAnyH_ready (rs:=[5]) (by kernel_rfl) (by simp) ?_
     refine AllReadyH.cons rfl (fun K hK=>?_) AllReadyH.nil
     go_simp
     go_at_call 157
     (with_reducible refine (KFy.out _ _ _ _ _ _ G2y).mono ?_)
     rintro q w3y ⟨rfl,G3y,c3y⟩
     try go_wp2_with fail
     refine hK.out _ _ ?_ (fun hHeld=>?_)
     ·exact c3y
     clear hK K
     try simp only [Act.put,List.setIfInBounds_toArray,List.set_cons_zero,List.set_cons_succ]
     refine wpAnyH_ready (rs:=[7]) (by kernel_rfl) (by simp) ?_
     refine AllReadyH.cons rfl (fun K hK=>?_) AllReadyH.nil
     go_simp
     go_at_call 157
     (with_reducible refine (KFy.out _ _ _ _ _ _ G3y).mono ?_)
     rintro q w4y ⟨rfl,G4y,c4y⟩
     try go_wp2_with fail
     refine hK.out _ _ ?_ (fun hHeld=>?_)
     ·exact c4y
     clear hK K
     try simp only [Act.put,List.setIfInBounds_toArray,List.set_cons_zero,List.set_cons_succ]
     refine wpAnyH_ready (rs:=[9]) (by kernel_rfl) (by simp) ?_
     refine AllReadyH.cons rfl (fun K hK=>?_) AllReadyH.nil
     go_simp
     go_at_call 157
     (with_reducible refine (KFy.out _ _ _ _ _ _ G4y).mono ?_)
     rintro q w5y ⟨rfl,G5y,c5y⟩
     try go_wp2_with fail
     refine hK.out _ _ ?_ (fun hHeld=>?_)
     ·exact c5y
     clear hK K
     try simp only [Act.put,List.setIfInBounds_toArray,List.set_cons_zero,List.set_cons_succ]
     refine wpAnyH_ready (rs:=[11]) (by kernel_rfl) (by simp) ?_
     refine AllReadyH.cons rfl (fun K hK=>?_) AllReadyH.nil
     go_simp
     go_at_call 157
     (with_reducible refine (KFy.out _ _ _ _ _ _ G5y).mono ?_)
     rintro q w6y ⟨rfl,G6y,c6y⟩
     try go_wp2_with fail
     refine hK.out _ _ ?_ (fun hHeld=>?_)
     ·exact c6y
     clear hK K
     try simp only [Act.put,List.setIfInBounds_toArray,List.set_cons_zero,List.set_cons_succ]
     refine wpAnyH_ready (rs:=[13]) (by kernel_rfl) (by simp) ?_
     refine AllReadyH.cons rfl (fun K hK=>?_) AllReadyH.nil
     go_simp
     go_at_call 157
     (with_reducible refine (KFy.out _ _ _ _ _ _ G6y).mono ?_)
     rintro q w7y ⟨rfl,G7y,c7y⟩
     try go_wp2_with fail
     refine hK.out _ _ ?_ (fun hHeld=>?_)
     ·exact c7y
     clear hK K
     try simp only [Act.put,List.setIfInBounds_toArray,List.set_cons_zero,List.set_cons_succ]
     refine wpAnyH_ready (rs:=[15]) (by kernel_rfl) (by simp) ?_
     refine AllReadyH.cons rfl (fun K hK=>?_) AllReadyH.nil
     go_simp
     go_at_call 191
     (with_reducible refine (KSy.out _ _ _ _ _ G7y).mono ?_)
     rintro q w8y ⟨rfl,G8y,c8y⟩
     try go_wp2_with fail
     refine hK.out _ _ ?_ (fun hHeld=>?_)
     ·exact c8y
     clear hK K
     try simp only [Act.put,List.setIfInBounds_toArray,List.set_cons_zero,List.set_cons_succ]
     refine wpAnyH_ready (rs:=[17]) (by kernel_rfl) (by simp) ?_
     refine AllReadyH.cons rfl (fun K hK=>?_) AllReadyH.nil
     go_simp
     go_at_call 191
     (with_reducible refine (KSy.out _ _ _ _ _ G8y).mono ?_)
     rintro q w9y ⟨rfl,G9y,c9y⟩
     try go_wp2_with fail
     refine hK.out _ _ ?_ (fun hHeld=>?_)
     ·exact c9y
     clear hK K
     try simp only [Act.put,List.setIfInBounds_toArray,List.set_cons_zero,List.set_cons_succ]
     refine wpAnyH_take (v:=?vb2_18) (i:=18) rfl (by kernel_rfl) (by kernel_rfl) (by kernel_rfl) (fun _ _ _ h=>h) (Or.inl ⟨by kernel_rfl,?hyb2_18⟩) (by assumption) ?restb2_18
     case hyb2_18=>(intro w hSw;(try dsimp only at hSw);go_simp;first|done|(with_reducible rfl))
     try simp only [Act.put,List.setIfInBounds_toArray,List.set_cons_zero,List.set_cons_succ]
     have e0:w9y.cell? ⟨w2.heap.size,0,none⟩=some (.int .u64 0):=G9y.cell 0
     have e1:w9y.cell? ⟨w2.heap.size,1,none⟩=some (.int .u64 0):=G9y.cell 1
     have e2:w9y.cell? ⟨w2.heap.size,2,none⟩=some (.int .i64 0):=G9y.cell 2
     have e3:w9y.cell? ⟨w2.heap.size,3,none⟩=some (.int .u64 0):=G9y.cell 3
     have e4:w9y.cell? ⟨w2.heap.size,4,none⟩=some (.int .u64 0):=G9y.cell 4
     have e5:w9y.cell? ⟨w2.heap.size,5,none⟩=some (.int .u64 0):=G9y.cell 5
     have e6:w9y.cell? ⟨w2.heap.size,6,none⟩=some (.int .u64 0):=G9y.cell 6
     have e7:w9y.cell? ⟨w2.heap.size,7,none⟩=some (.int .i64 0):=G9y.cell 7
     have e8:w9y.cell? ⟨w2.heap.size,8,none⟩=some (.int .i64 0):=G9y.cell 8
     have e9:w9y.cell? ⟨w2.heap.size,9,none⟩=some (.string ⟨#[]⟩):=G9y.cell 9
     have e10:w9y.cell? ⟨w2.heap.size,10,none⟩=some (.string ⟨#[]⟩):=G9y.cell 10
     have fz:=G9y.fz
     refine wpAnyH_ready (rs:=[20]) (by kernel_rfl) (by simp) ?_
     refine AllReadyH.cons rfl (fun K hK=>?_) AllReadyH.nil
     go_simp
     refine hK.out _ _ ?_ (fun hHeld=>?_)
     ·exact (G9y.sets (prd s ⟨#[]⟩)).q.fcell
     clear hK K
     try simp only [Act.put,List.setIfInBounds_toArray,List.set_cons_zero,List.set_cons_succ]
     refine wpAnyH_done (by kernel_rfl) ?_ _
     refine NoPanic.normal ?_
     go_wp2_with fail
     go_meet
     exact ⟨_,rfl,G9y.sets (prd s ⟨#[]⟩)⟩
   ·go_simp
    refine hK.out _ _ ?_ (fun hHeld=>?_)
    ·exact Gq.fcella G1 _
    clear hK K
    try simp only [Act.put,List.setIfInBounds_toArray,List.set_cons_zero,List.set_cons_succ]
    have G1y:=Gq.toY ezz G1
    refine wpAnyH_ready (rs:=[3]) (by kernel_rfl) (by simp) ?_
    refine AllReadyH.cons rfl (fun K hK=>?_) AllReadyH.nil
    go_simp
    go_at_call 157
    (with_reducible refine (KFy.out _ _ _ _ _ _ G1y).mono ?_)
    rintro q w2y ⟨rfl,G2y,c2y⟩
    try go_wp2_with fail
    refine hK.out _ _ ?_ (fun hHeld=>?_)
    ·exact c2y
    clear hK K
    try simp only [Act.put,List.setIfInBounds_toArray,List.set_cons_zero,List.set_cons_succ]
    refine wpAnyH_ready (rs:=[5]) (by kernel_rfl) (by simp) ?_
    refine AllReadyH.cons rfl (fun K hK=>?_) AllReadyH.nil
    go_simp
    go_at_call 157
    (with_reducible refine (KFy.out _ _ _ _ _ _ G2y).mono ?_)
    rintro q w3y ⟨rfl,G3y,c3y⟩
    try go_wp2_with fail
    refine hK.out _ _ ?_ (fun hHeld=>?_)
    ·exact c3y
    clear hK K
    try simp only [Act.put,List.setIfInBounds_toArray,List.set_cons_zero,List.set_cons_succ]
    refine wpAnyH_ready (rs:=[7]) (by kernel_rfl) (by simp) ?_
    refine AllReadyH.cons rfl (fun K hK=>?_) AllReadyH.nil
    go_simp
    go_at_call 157
    (with_reducible refine (KFy.out _ _ _ _ _ _ G3y).mono ?_)
    rintro q w4y ⟨rfl,G4y,c4y⟩
    try go_wp2_with fail
    refine hK.out _ _ ?_ (fun hHeld=>?_)
    ·exact c4y
    clear hK K
    try simp only [Act.put,List.setIfInBounds_toArray,List.set_cons_zero,List.set_cons_succ]
    refine wpAnyH_ready (rs:=[9]) (by kernel_rfl) (by simp) ?_
    refine AllReadyH.cons rfl (fun K hK=>?_) AllReadyH.nil
    go_simp
    go_at_call 157
    (with_reducible refine (KFy.out _ _ _ _ _ _ G4y).mono ?_)
    rintro q w5y ⟨rfl,G5y,c5y⟩
    try go_wp2_with fail
    refine hK.out _ _ ?_ (fun hHeld=>?_)
    ·exact c5y
    clear hK K
    try simp only [Act.put,List.setIfInBounds_toArray,List.set_cons_zero,List.set_cons_succ]
    refine wpAnyH_ready (rs:=[11]) (by kernel_rfl) (by simp) ?_
    refine AllReadyH.cons rfl (fun K hK=>?_) AllReadyH.nil
    go_simp
    go_at_call 157
    (with_reducible refine (KFy.out _ _ _ _ _ _ G5y).mono ?_)
    rintro q w6y ⟨rfl,G6y,c6y⟩
    try go_wp2_with fail
    refine hK.out _ _ ?_ (fun hHeld=>?_)
    ·exact c6y
    clear hK K
    try simp only [Act.put,List.setIfInBounds_toArray,List.set_cons_zero,List.set_cons_succ]
    refine wpAnyH_ready (rs:=[13]) (by kernel_rfl) (by simp) ?_
    refine AllReadyH.cons rfl (fun K hK=>?_) AllReadyH.nil
    go_simp
    go_at_call 157
    (with_reducible refine (KFy.out _ _ _ _ _ _ G6y).mono ?_)
    rintro q w7y ⟨rfl,G7y,c7y⟩
    try go_wp2_with fail
    refine hK.out _ _ ?_ (fun hHeld=>?_)
    ·exact c7y
    clear hK K
    try simp only [Act.put,List.setIfInBounds_toArray,List.set_cons_zero,List.set_cons_succ]
    refine wpAnyH_ready (rs:=[15]) (by kernel_rfl) (by simp) ?_
    refine AllReadyH.cons rfl (fun K hK=>?_) AllReadyH.nil
    go_simp
    go_at_call 191
    (with_reducible refine (KSy.out _ _ _ _ _ G7y).mono ?_)
    rintro q w8y ⟨rfl,G8y,c8y⟩
    try go_wp2_with fail
    refine hK.out _ _ ?_ (fun hHeld=>?_)
    ·exact c8y
    clear hK K
    try simp only [Act.put,List.setIfInBounds_toArray,List.set_cons_zero,List.set_cons_succ]
    refine wpAnyH_ready (rs:=[17]) (by kernel_rfl) (by simp) ?_
    refine AllReadyH.cons rfl (fun K hK=>?_) AllReadyH.nil
    go_simp
    go_at_call 191
    (with_reducible refine (KSy.out _ _ _ _ _ G8y).mono ?_)
    rintro q w9y ⟨rfl,G9y,c9y⟩
    try go_wp2_with fail
    refine hK.out _ _ ?_ (fun hHeld=>?_)
    ·exact c9y
    clear hK K
    try simp only [Act.put,List.setIfInBounds_toArray,List.set_cons_zero,List.set_cons_succ]
    refine wpAnyH_take (v:=?vb1_18) (i:=18) rfl (by kernel_rfl) (by kernel_rfl) (by kernel_rfl) (fun _ _ _ h=>h) (Or.inl ⟨by kernel_rfl,?hyb1_18⟩) (by assumption) ?restb1_18
    case hyb1_18=>(intro w hSw;(try dsimp only at hSw);go_simp;first|done|(with_reducible rfl))
    try simp only [Act.put,List.setIfInBounds_toArray,List.set_cons_zero,List.set_cons_succ]
    have e0:w9y.cell? ⟨w1.heap.size,0,none⟩=some (.int .u64 0):=G9y.cell 0
    have e1:w9y.cell? ⟨w1.heap.size,1,none⟩=some (.int .u64 0):=G9y.cell 1
    have e2:w9y.cell? ⟨w1.heap.size,2,none⟩=some (.int .i64 0):=G9y.cell 2
    have e3:w9y.cell? ⟨w1.heap.size,3,none⟩=some (.int .u64 0):=G9y.cell 3
    have e4:w9y.cell? ⟨w1.heap.size,4,none⟩=some (.int .u64 0):=G9y.cell 4
    have e5:w9y.cell? ⟨w1.heap.size,5,none⟩=some (.int .u64 0):=G9y.cell 5
    have e6:w9y.cell? ⟨w1.heap.size,6,none⟩=some (.int .u64 0):=G9y.cell 6
    have e7:w9y.cell? ⟨w1.heap.size,7,none⟩=some (.int .i64 0):=G9y.cell 7
    have e8:w9y.cell? ⟨w1.heap.size,8,none⟩=some (.int .i64 0):=G9y.cell 8
    have e9:w9y.cell? ⟨w1.heap.size,9,none⟩=some (.string ⟨#[]⟩):=G9y.cell 9
    have e10:w9y.cell? ⟨w1.heap.size,10,none⟩=some (.string ⟨#[]⟩):=G9y.cell 10
    have fz:=G9y.fz
    refine wpAnyH_ready (rs:=[20]) (by kernel_rfl) (by simp) ?_
    refine AllReadyH.cons rfl (fun K hK=>?_) AllReadyH.nil
    go_simp
    refine hK.out _ _ ?_ (fun hHeld=>?_)
    ·exact (G9y.sets (prd s ⟨#[]⟩)).q.fcell
    clear hK K
    try simp only [Act.put,List.setIfInBounds_toArray,List.set_cons_zero,List.set_cons_succ]
    refine wpAnyH_done (by kernel_rfl) ?_ _
    refine NoPanic.normal ?_
    go_wp2_with fail
    go_meet
    exact ⟨_,rfl,G9y.sets (prd s ⟨#[]⟩)⟩
  ·go_simp
   refine hK.out _ _ ?_ (fun hHeld=>?_)
   ·exact Gq.fcella G0 _
   clear hK K
   try simp only [Act.put,List.setIfInBounds_toArray,List.set_cons_zero,List.set_cons_succ]
   have G0y:=(Gq.toY ezz Gi).drew
   refine wpAnyH_ready (rs:=[1]) (by kernel_rfl) (by simp) ?_
   refine AllReadyH.cons rfl (fun K hK=>?_) AllReadyH.nil
   go_simp
   go_at_call 191
   (with_reducible refine (KSy.out _ _ _ _ _ G0y).mono ?_)
   rintro q w1y ⟨rfl,G1y,c1y⟩
   try go_wp2_with fail
   refine hK.out _ _ ?_ (fun hHeld=>?_)
   ·exact c1y
   clear hK K
   try simp only [Act.put,List.setIfInBounds_toArray,List.set_cons_zero,List.set_cons_succ]
   refine wpAnyH_ready (rs:=[3]) (by kernel_rfl) (by simp) ?_
   refine AllReadyH.cons rfl (fun K hK=>?_) AllReadyH.nil
   go_simp
   go_at_call 157
   (with_reducible refine (KFy.out _ _ _ _ _ _ G1y).mono ?_)
   rintro q w2y ⟨rfl,G2y,c2y⟩
   try go_wp2_with fail
   refine hK.out _ _ ?_ (fun hHeld=>?_)
   ·exact c2y
   clear hK K
   try simp only [Act.put,List.setIfInBounds_toArray,List.set_cons_zero,List.set_cons_succ]
   refine wpAnyH_ready (rs:=[5]) (by kernel_rfl) (by simp) ?_
   refine AllReadyH.cons rfl (fun K hK=>?_) AllReadyH.nil
   go_simp
   go_at_call 157
   (with_reducible refine (KFy.out _ _ _ _ _ _ G2y).mono ?_)
   rintro q w3y ⟨rfl,G3y,c3y⟩
   try go_wp2_with fail
   refine hK.out _ _ ?_ (fun hHeld=>?_)
   ·exact c3y
   clear hK K
   try simp only [Act.put,List.setIfInBounds_toArray,List.set_cons_zero,List.set_cons_succ]
   refine wpAnyH_ready (rs:=[7]) (by kernel_rfl) (by simp) ?_
   refine AllReadyH.cons rfl (fun K hK=>?_) AllReadyH.nil
   go_simp
   go_at_call 157
   (with_reducible refine (KFy.out _ _ _ _ _ _ G3y).mono ?_)
   rintro q w4y ⟨rfl,G4y,c4y⟩
   try go_wp2_with fail
   refine hK.out _ _ ?_ (fun hHeld=>?_)
   ·exact c4y
   clear hK K
   try simp only [Act.put,List.setIfInBounds_toArray,List.set_cons_zero,List.set_cons_succ]
   refine wpAnyH_ready (rs:=[9]) (by kernel_rfl) (by simp) ?_
   refine AllReadyH.cons rfl (fun K hK=>?_) AllReadyH.nil
   go_simp
   go_at_call 157
   (with_reducible refine (KFy.out _ _ _ _ _ _ G4y).mono ?_)
   rintro q w5y ⟨rfl,G5y,c5y⟩
   try go_wp2_with fail
   refine hK.out _ _ ?_ (fun hHeld=>?_)
   ·exact c5y
   clear hK K
   try simp only [Act.put,List.setIfInBounds_toArray,List.set_cons_zero,List.set_cons_succ]
   refine wpAnyH_ready (rs:=[11]) (by kernel_rfl) (by simp) ?_
   refine AllReadyH.cons rfl (fun K hK=>?_) AllReadyH.nil
   go_simp
   go_at_call 157
   (with_reducible refine (KFy.out _ _ _ _ _ _ G5y).mono ?_)
   rintro q w6y ⟨rfl,G6y,c6y⟩
   try go_wp2_with fail
   refine hK.out _ _ ?_ (fun hHeld=>?_)
   ·exact c6y
   clear hK K
   try simp only [Act.put,List.setIfInBounds_toArray,List.set_cons_zero,List.set_cons_succ]
   refine wpAnyH_ready (rs:=[13]) (by kernel_rfl) (by simp) ?_
   refine AllReadyH.cons rfl (fun K hK=>?_) AllReadyH.nil
   go_simp
   go_at_call 157
   (with_reducible refine (KFy.out _ _ _ _ _ _ G6y).mono ?_)
   rintro q w7y ⟨rfl,G7y,c7y⟩
   try go_wp2_with fail
   refine hK.out _ _ ?_ (fun hHeld=>?_)
   ·exact c7y
   clear hK K
   try simp only [Act.put,List.setIfInBounds_toArray,List.set_cons_zero,List.set_cons_succ]
   refine wpAnyH_ready (rs:=[15]) (by kernel_rfl) (by simp) ?_
   refine AllReadyH.cons rfl (fun K hK=>?_) AllReadyH.nil
   go_simp
   go_at_call 191
   (with_reducible refine (KSy.out _ _ _ _ _ G7y).mono ?_)
   rintro q w8y ⟨rfl,G8y,c8y⟩
   try go_wp2_with fail
   refine hK.out _ _ ?_ (fun hHeld=>?_)
   ·exact c8y
   clear hK K
   try simp only [Act.put,List.setIfInBounds_toArray,List.set_cons_zero,List.set_cons_succ]
   refine wpAnyH_ready (rs:=[17]) (by kernel_rfl) (by simp) ?_
   refine AllReadyH.cons rfl (fun K hK=>?_) AllReadyH.nil
   go_simp
   go_at_call 191
   (with_reducible refine (KSy.out _ _ _ _ _ G8y).mono ?_)
   rintro q w9y ⟨rfl,G9y,c9y⟩
   try go_wp2_with fail
   refine hK.out _ _ ?_ (fun hHeld=>?_)
   ·exact c9y
   clear hK K
   try simp only [Act.put,List.setIfInBounds_toArray,List.set_cons_zero,List.set_cons_succ]
   refine wpAnyH_take (v:=?vb0_18) (i:=18) rfl (by kernel_rfl) (by kernel_rfl) (by kernel_rfl) (fun _ _ _ h=>h) (Or.inl ⟨by kernel_rfl,?hyb0_18⟩) (by assumption) ?restb0_18
   case hyb0_18=>(intro w hSw;(try dsimp only at hSw);go_simp;first|done|(with_reducible rfl))
   try simp only [Act.put,List.setIfInBounds_toArray,List.set_cons_zero,List.set_cons_succ]
   have e0:w9y.cell? ⟨W0.heap.size,0,none⟩=some (.int .u64 0):=G9y.cell 0
   have e1:w9y.cell? ⟨W0.heap.size,1,none⟩=some (.int .u64 0):=G9y.cell 1
   have e2:w9y.cell? ⟨W0.heap.size,2,none⟩=some (.int .i64 0):=G9y.cell 2
   have e3:w9y.cell? ⟨W0.heap.size,3,none⟩=some (.int .u64 0):=G9y.cell 3
   have e4:w9y.cell? ⟨W0.heap.size,4,none⟩=some (.int .u64 0):=G9y.cell 4
   have e5:w9y.cell? ⟨W0.heap.size,5,none⟩=some (.int .u64 0):=G9y.cell 5
   have e6:w9y.cell? ⟨W0.heap.size,6,none⟩=some (.int .u64 0):=G9y.cell 6
   have e7:w9y.cell? ⟨W0.heap.size,7,none⟩=some (.int .i64 0):=G9y.cell 7
   have e8:w9y.cell? ⟨W0.heap.size,8,none⟩=some (.int .i64 0):=G9y.cell 8
   have e9:w9y.cell? ⟨W0.heap.size,9,none⟩=some (.string ⟨#[]⟩):=G9y.cell 9
   have e10:w9y.cell? ⟨W0.heap.size,10,none⟩=some (.string ⟨#[]⟩):=G9y.cell 10
   have fz:=G9y.fz
   refine wpAnyH_ready (rs:=[20]) (by kernel_rfl) (by simp) ?_
   refine AllReadyH.cons rfl (fun K hK=>?_) AllReadyH.nil
   go_simp
   refine hK.out _ _ ?_ (fun hHeld=>?_)
   ·exact (G9y.sets (prd s ⟨#[]⟩)).q.fcell
   clear hK K
   try simp only [Act.put,List.setIfInBounds_toArray,List.set_cons_zero,List.set_cons_succ]
   refine wpAnyH_done (by kernel_rfl) ?_ _
   refine NoPanic.normal ?_
   go_wp2_with fail
   go_meet
   exact ⟨_,rfl,G9y.sets (prd s ⟨#[]⟩)⟩
 case rest =>
  obtain ⟨p,rfl,G⟩:=hcut
  have hn256:nd s<256:=fixV_lt (t9 s) 1 (by omega)
  have hok:=prs_ok s
  have KM:=zh (fun (W:World)=>may_any (prs s) W hok)
  have HX:=zh (bytV_le (t11 s) (66-(nd s:Int)) 66 (by omega))
  have hw66:IntKind.i64.wrap (66-(nd s:Int))=66-(nd s:Int):=IntWalk.i64_in _ (by omega)
  have K1:Hid (Calls Tryz.prog 191 #[.pointer (some ⟨w.heap.size+1,0,none⟩)] wc fun q w'=>q=.returned (.int .i64 (nd s))∧Gy w g p (prd s ⟨#[]⟩) (t10 s) (fl9 s bad||!hasF (t9 s) 1) w'):=(KSy.out _ _ _ _ _ G).mono fun q w' ⟨h1,h2,_⟩=>⟨h1,h2⟩
  have K2:Hid (∀ W,Gy w g p (prd s ⟨#[]⟩) (t10 s) (fl9 s bad||!hasF (t9 s) 1) W→Calls Tryz.prog 160 #[.pointer (some ⟨g,0,none⟩),.int .i64 (nd s)] W fun q w'=>q=.returned (.string (dat s))∧Gy w g p (prd s ⟨#[]⟩) (t11 s) (fl9 s bad||!hasF (t9 s) 1||!hasB (t10 s) (nd s)) w'):=fun W h=>(KBy.out _ _ _ _ _ _ h).mono fun q w' ⟨h1,h2,_⟩=>⟨h1,h2⟩
  have K3:Hid (∀ W,Gy w g p (prs s) (t11 s) (fl9 s bad||!hasF (t9 s) 1||!hasB (t10 s) (nd s)) W→Calls Tryz.prog 160 #[.pointer (some ⟨g,0,none⟩),.int .i64 (66-(nd s:Int))] W fun q w'=>q=.returned (.string (beh s))∧Gy w g p (prs s) (t12 s) (fl12 s bad) w'):=fun W h=>(KBy.out _ _ _ _ _ _ h).mono fun q w' ⟨h1,h2,_⟩=>⟨h1,h2⟩
  have HF:=zh (fun h=>get_fail (s:=s) (bad:=bad) h)
  have HN:=zh (fun h1 h2 h3=>get_fine (s:=s) (bad:=bad) h1 h2 h3)
  obtain ⟨E,hE⟩:∃ E,E=prs s:=⟨_,rfl⟩
  have hEs:Hid (ec E=(ec (prd s ⟨#[]⟩)).setIfInBounds 9 (.string (dat s))):=by show _=_;rw [hE];unfold prs prd;simp
  rw [←hE] at K3 HF HN KM
  obtain ⟨n,hn⟩:∃ n,n=nd s:=⟨_,rfl⟩
  rw [←hn] at K1 K2 K3 hw66
  obtain ⟨D,hD⟩:∃ D,D=dat s:=⟨_,rfl⟩
  rw [←hD] at K2 hEs
  obtain ⟨X,hX⟩:∃ X,X=beh s:=⟨_,rfl⟩
  have HXs:Hid (X.size≤66):=by rw [hX];exact HX.out
  rw [←hX] at K3 HF HN
  obtain ⟨P,hP⟩:∃ P,P=prd s ⟨#[]⟩:=⟨_,rfl⟩
  rw [←hP] at K1 K2 hEs G
  obtain ⟨f10,hf10⟩:∃ f,f=(fl9 s bad||!hasF (t9 s) 1):=⟨_,rfl⟩
  rw [←hf10] at K1 K2 K3
  obtain ⟨f11,hf11⟩:∃ f,f=(f10||!hasB (t10 s) n):=⟨_,rfl⟩
  rw [←hf11] at K2 K3
  obtain ⟨f12,hf12⟩:∃ f,f=fl12 s bad:=⟨_,rfl⟩
  rw [←hf12] at K3 HF HN
  obtain ⟨mb,hmb⟩:∃ mb,mb=mayB E:=⟨_,rfl⟩
  rw [←hmb] at KM HF HN
  obtain ⟨eq,heq⟩:∃ eq,eq=(X.toList==(zer X.size).toList):=⟨_,rfl⟩
  rw [←heq] at HF HN
  have heq':(X.toList==(zer X.size).toList)=eq:=heq.symm
  have KZ:Hid (∀ W,Calls Tryz.prog 130 #[.int .i64 X.size] W fun q w'=>q=.returned (.string (zer X.size))∧Below W.heap.size W w'):=fun W=>zeros_any X.size W (by have:=HXs.out;omega)
  clear hn256 hok HX hE hn hD hX hP hf10 hf11 hf12 hmb heq KS KF KSy KFy KBy HW0 Gd c0 hmf G0
  go_upto_region 7 with (first
   | (go_at_call 191;(with_reducible refine K1.out.mono ?_);rintro q w1 ⟨rfl,G1⟩)
   | (go_at_call 160;(with_reducible refine (K2.out _ G1).mono ?_);rintro q w2 ⟨rfl,G2⟩;have cp9:w2.cell? ⟨p,9,none⟩=some (.string P.data):=G2.cell 9;have fp9:=G2.fz 9;have G3:Gy w g p E (t11 s) f11 (w2.setCell ⟨p,9,none⟩ (.string D)):=G2.set 9 _ hEs.out.symm)
   | (go_at_call 160;(with_reducible refine (K3.out _ G3).mono ?_);rintro q w3 ⟨rfl,G4⟩))
  have KO:Hid (Calls Tryz.prog 161 #[.pointer (some ⟨g,0,none⟩)] w3 fun q w'=>q=.returned (.bool (!f12))∧w3=w'):=ok_any g (t12 s) f12 w3 G4.q.hr
  have KFa:Hid (∀ W,Rd 225 g (t12 s) f12 W→Calls Tryz.prog 184 #[.pointer (some ⟨g,0,none⟩)] W fun q w'=>q=.returned (.tuple #[])∧Rd 225 g ⟨#[]⟩ true w'∧W.grownBy w' (some g)):=fun W h=>fail_any g (t12 s) f12 W h
  have hlt2:w.heap.size≠g:=by omega
  clear G G1 G2 G3 cp9 fp9 K1 K2 K3 hEs hw66
  have p0:w3.cell? ⟨p,0,none⟩=some (.int .u64 E.term):=G4.cell 0;
  have p1:w3.cell? ⟨p,1,none⟩=some (.int .u64 E.index):=G4.cell 1;
  have p2:w3.cell? ⟨p,2,none⟩=some (.int .i64 E.kind):=G4.cell 2;
  have p3:w3.cell? ⟨p,3,none⟩=some (.int .u64 E.client):=G4.cell 3;
  have p4:w3.cell? ⟨p,4,none⟩=some (.int .u64 E.seq):=G4.cell 4;
  have p5:w3.cell? ⟨p,5,none⟩=some (.int .u64 E.block):=G4.cell 5;
  have p6:w3.cell? ⟨p,6,none⟩=some (.int .u64 E.many):=G4.cell 6;
  have p7:w3.cell? ⟨p,7,none⟩=some (.int .i64 E.node):=G4.cell 7;
  have p8:w3.cell? ⟨p,8,none⟩=some (.int .i64 E.level):=G4.cell 8;
  have p9:w3.cell? ⟨p,9,none⟩=some (.string E.data):=G4.cell 9;
  have p10:w3.cell? ⟨p,10,none⟩=some (.string E.old):=G4.cell 10
  cases f12 with
  | true =>
    have HE:=zh (HF.out (.inl rfl))
    clear HF HN
    go_wp2_with (first
     | (go_at_call 161;(with_reducible refine KO.out.mono ?_);rintro q w4 ⟨rfl,rfl⟩)
     | (go_at_call 184;(with_reducible refine (KFa.out _ G4.q.hr).mono ?_);rintro q w9 ⟨rfl,R9,g9⟩;have HR9:=zh R9;have HG9:=zh (G4.q.fr.trans g9);have HRX:Hid (w9.heap[w.heap.size]?=some (.cells (ec ezz) 28 (0,0))):=(g9.block _ (zgx G4.q.res) (by simp;omega)).trans G4.q.res;have z0:w9.cell? ⟨w.heap.size,0,none⟩=some (.int .u64 0):=zcr w9 _ 0 _ 28 (0,0) HRX.out;have z1:w9.cell? ⟨w.heap.size,1,none⟩=some (.int .u64 0):=zcr w9 _ 1 _ 28 (0,0) HRX.out;have z2:w9.cell? ⟨w.heap.size,2,none⟩=some (.int .i64 0):=zcr w9 _ 2 _ 28 (0,0) HRX.out;have z3:w9.cell? ⟨w.heap.size,3,none⟩=some (.int .u64 0):=zcr w9 _ 3 _ 28 (0,0) HRX.out;have z4:w9.cell? ⟨w.heap.size,4,none⟩=some (.int .u64 0):=zcr w9 _ 4 _ 28 (0,0) HRX.out;have z5:w9.cell? ⟨w.heap.size,5,none⟩=some (.int .u64 0):=zcr w9 _ 5 _ 28 (0,0) HRX.out;have z6:w9.cell? ⟨w.heap.size,6,none⟩=some (.int .u64 0):=zcr w9 _ 6 _ 28 (0,0) HRX.out;have z7:w9.cell? ⟨w.heap.size,7,none⟩=some (.int .i64 0):=zcr w9 _ 7 _ 28 (0,0) HRX.out;have z8:w9.cell? ⟨w.heap.size,8,none⟩=some (.int .i64 0):=zcr w9 _ 8 _ 28 (0,0) HRX.out;have z9:w9.cell? ⟨w.heap.size,9,none⟩=some (.string ⟨#[]⟩):=zcr w9 _ 9 _ 28 (0,0) HRX.out;have z10:w9.cell? ⟨w.heap.size,10,none⟩=some (.string ⟨#[]⟩):=zcr w9 _ 10 _ 28 (0,0) HRX.out;have fz:∀ i,w9.frozen? ⟨w.heap.size,i,none⟩=false:=fun i=>Md.of HRX.out;clear R9 g9))
    rw [HE.out.1,HE.out.2.1,HE.out.2.2]
    obtain ⟨WF,hWF⟩:∃ WF,WF=(((((((((((w9.setCell ⟨w.heap.size,0,none⟩ (.int .u64 0)).setCell ⟨w.heap.size,1,none⟩ (.int .u64 0)).setCell ⟨w.heap.size,2,none⟩ (.int .i64 0)).setCell ⟨w.heap.size,3,none⟩ (.int .u64 0)).setCell ⟨w.heap.size,4,none⟩ (.int .u64 0)).setCell ⟨w.heap.size,5,none⟩ (.int .u64 0)).setCell ⟨w.heap.size,6,none⟩ (.int .u64 0)).setCell ⟨w.heap.size,7,none⟩ (.int .i64 0)).setCell ⟨w.heap.size,8,none⟩ (.int .i64 0)).setCell ⟨w.heap.size,9,none⟩ (.string ⟨#[]⟩)).setCell ⟨w.heap.size,10,none⟩ (.string ⟨#[]⟩)):=⟨_,rfl⟩
    rw [←hWF]
    have hblk:WF.heap[w.heap.size]?=some (.cells (ec ezz) 28 (0,0)):=by rw [hWF];exact store_all ezz HRX.out
    have f0:WF.cell? ⟨w.heap.size,0,none⟩=some (.int .u64 0):=zcr WF _ 0 _ 28 (0,0) hblk
    have f1:WF.cell? ⟨w.heap.size,1,none⟩=some (.int .u64 0):=zcr WF _ 1 _ 28 (0,0) hblk
    have f2:WF.cell? ⟨w.heap.size,2,none⟩=some (.int .i64 0):=zcr WF _ 2 _ 28 (0,0) hblk
    have f3:WF.cell? ⟨w.heap.size,3,none⟩=some (.int .u64 0):=zcr WF _ 3 _ 28 (0,0) hblk
    have f4:WF.cell? ⟨w.heap.size,4,none⟩=some (.int .u64 0):=zcr WF _ 4 _ 28 (0,0) hblk
    have f5:WF.cell? ⟨w.heap.size,5,none⟩=some (.int .u64 0):=zcr WF _ 5 _ 28 (0,0) hblk
    have f6:WF.cell? ⟨w.heap.size,6,none⟩=some (.int .u64 0):=zcr WF _ 6 _ 28 (0,0) hblk
    have f7:WF.cell? ⟨w.heap.size,7,none⟩=some (.int .i64 0):=zcr WF _ 7 _ 28 (0,0) hblk
    have f8:WF.cell? ⟨w.heap.size,8,none⟩=some (.int .i64 0):=zcr WF _ 8 _ 28 (0,0) hblk
    have f9:WF.cell? ⟨w.heap.size,9,none⟩=some (.string ⟨#[]⟩):=zcr WF _ 9 _ 28 (0,0) hblk
    have f10:WF.cell? ⟨w.heap.size,10,none⟩=some (.string ⟨#[]⟩):=zcr WF _ 10 _ 28 (0,0) hblk
    exact bodyPost_ret (v:=ev ezz) (by simp [results,Tryz.results164,go_sem,f0,f1,f2,f3,f4,f5,f6,f7,f8,f9,f10]) rfl ⟨rfl,by rw [hWF];exact rd_all ezz HR9.out hlt2,by rw [hWF];exact gb_all ezz HG9.out (Nat.le_refl _)⟩
  | false =>
    cases mb with
    | false =>
      have HE:=zh (HF.out (.inr (.inl rfl)))
      clear HF HN
      go_wp2_with (first
       | (go_at_call 161;(with_reducible refine KO.out.mono ?_);rintro q w4 ⟨rfl,rfl⟩)
       | (go_at_call 104;(with_reducible refine (KM.out _).mono ?_);rintro q w5 ⟨rfl,b5⟩;have G5:=G4.below b5;have p0:w5.cell? ⟨p,0,none⟩=some (.int .u64 E.term):=G5.cell 0;have p1:w5.cell? ⟨p,1,none⟩=some (.int .u64 E.index):=G5.cell 1;have p2:w5.cell? ⟨p,2,none⟩=some (.int .i64 E.kind):=G5.cell 2;have p3:w5.cell? ⟨p,3,none⟩=some (.int .u64 E.client):=G5.cell 3;have p4:w5.cell? ⟨p,4,none⟩=some (.int .u64 E.seq):=G5.cell 4;have p5:w5.cell? ⟨p,5,none⟩=some (.int .u64 E.block):=G5.cell 5;have p6:w5.cell? ⟨p,6,none⟩=some (.int .u64 E.many):=G5.cell 6;have p7:w5.cell? ⟨p,7,none⟩=some (.int .i64 E.node):=G5.cell 7;have p8:w5.cell? ⟨p,8,none⟩=some (.int .i64 E.level):=G5.cell 8;have p9:w5.cell? ⟨p,9,none⟩=some (.string E.data):=G5.cell 9;have p10:w5.cell? ⟨p,10,none⟩=some (.string E.old):=G5.cell 10;clear b5)
       | (go_at_call 184;(with_reducible refine (KFa.out _ G5.q.hr).mono ?_);rintro q w9 ⟨rfl,R9,g9⟩;have HR9:=zh R9;have HG9:=zh (G5.q.fr.trans g9);have HRX:Hid (w9.heap[w.heap.size]?=some (.cells (ec ezz) 28 (0,0))):=(g9.block _ (zgx G5.q.res) (by simp;omega)).trans G5.q.res;have z0:w9.cell? ⟨w.heap.size,0,none⟩=some (.int .u64 0):=zcr w9 _ 0 _ 28 (0,0) HRX.out;have z1:w9.cell? ⟨w.heap.size,1,none⟩=some (.int .u64 0):=zcr w9 _ 1 _ 28 (0,0) HRX.out;have z2:w9.cell? ⟨w.heap.size,2,none⟩=some (.int .i64 0):=zcr w9 _ 2 _ 28 (0,0) HRX.out;have z3:w9.cell? ⟨w.heap.size,3,none⟩=some (.int .u64 0):=zcr w9 _ 3 _ 28 (0,0) HRX.out;have z4:w9.cell? ⟨w.heap.size,4,none⟩=some (.int .u64 0):=zcr w9 _ 4 _ 28 (0,0) HRX.out;have z5:w9.cell? ⟨w.heap.size,5,none⟩=some (.int .u64 0):=zcr w9 _ 5 _ 28 (0,0) HRX.out;have z6:w9.cell? ⟨w.heap.size,6,none⟩=some (.int .u64 0):=zcr w9 _ 6 _ 28 (0,0) HRX.out;have z7:w9.cell? ⟨w.heap.size,7,none⟩=some (.int .i64 0):=zcr w9 _ 7 _ 28 (0,0) HRX.out;have z8:w9.cell? ⟨w.heap.size,8,none⟩=some (.int .i64 0):=zcr w9 _ 8 _ 28 (0,0) HRX.out;have z9:w9.cell? ⟨w.heap.size,9,none⟩=some (.string ⟨#[]⟩):=zcr w9 _ 9 _ 28 (0,0) HRX.out;have z10:w9.cell? ⟨w.heap.size,10,none⟩=some (.string ⟨#[]⟩):=zcr w9 _ 10 _ 28 (0,0) HRX.out;have fz:∀ i,w9.frozen? ⟨w.heap.size,i,none⟩=false:=fun i=>Md.of HRX.out;clear R9 g9))
      rw [HE.out.1,HE.out.2.1,HE.out.2.2]
      obtain ⟨WF,hWF⟩:∃ WF,WF=(((((((((((w9.setCell ⟨w.heap.size,0,none⟩ (.int .u64 0)).setCell ⟨w.heap.size,1,none⟩ (.int .u64 0)).setCell ⟨w.heap.size,2,none⟩ (.int .i64 0)).setCell ⟨w.heap.size,3,none⟩ (.int .u64 0)).setCell ⟨w.heap.size,4,none⟩ (.int .u64 0)).setCell ⟨w.heap.size,5,none⟩ (.int .u64 0)).setCell ⟨w.heap.size,6,none⟩ (.int .u64 0)).setCell ⟨w.heap.size,7,none⟩ (.int .i64 0)).setCell ⟨w.heap.size,8,none⟩ (.int .i64 0)).setCell ⟨w.heap.size,9,none⟩ (.string ⟨#[]⟩)).setCell ⟨w.heap.size,10,none⟩ (.string ⟨#[]⟩)):=⟨_,rfl⟩
      rw [←hWF]
      have hblk:WF.heap[w.heap.size]?=some (.cells (ec ezz) 28 (0,0)):=by rw [hWF];exact store_all ezz HRX.out
      have f0:WF.cell? ⟨w.heap.size,0,none⟩=some (.int .u64 0):=zcr WF _ 0 _ 28 (0,0) hblk
      have f1:WF.cell? ⟨w.heap.size,1,none⟩=some (.int .u64 0):=zcr WF _ 1 _ 28 (0,0) hblk
      have f2:WF.cell? ⟨w.heap.size,2,none⟩=some (.int .i64 0):=zcr WF _ 2 _ 28 (0,0) hblk
      have f3:WF.cell? ⟨w.heap.size,3,none⟩=some (.int .u64 0):=zcr WF _ 3 _ 28 (0,0) hblk
      have f4:WF.cell? ⟨w.heap.size,4,none⟩=some (.int .u64 0):=zcr WF _ 4 _ 28 (0,0) hblk
      have f5:WF.cell? ⟨w.heap.size,5,none⟩=some (.int .u64 0):=zcr WF _ 5 _ 28 (0,0) hblk
      have f6:WF.cell? ⟨w.heap.size,6,none⟩=some (.int .u64 0):=zcr WF _ 6 _ 28 (0,0) hblk
      have f7:WF.cell? ⟨w.heap.size,7,none⟩=some (.int .i64 0):=zcr WF _ 7 _ 28 (0,0) hblk
      have f8:WF.cell? ⟨w.heap.size,8,none⟩=some (.int .i64 0):=zcr WF _ 8 _ 28 (0,0) hblk
      have f9:WF.cell? ⟨w.heap.size,9,none⟩=some (.string ⟨#[]⟩):=zcr WF _ 9 _ 28 (0,0) hblk
      have f10:WF.cell? ⟨w.heap.size,10,none⟩=some (.string ⟨#[]⟩):=zcr WF _ 10 _ 28 (0,0) hblk
      exact bodyPost_ret (v:=ev ezz) (by simp [results,Tryz.results164,go_sem,f0,f1,f2,f3,f4,f5,f6,f7,f8,f9,f10]) rfl ⟨rfl,by rw [hWF];exact rd_all ezz HR9.out hlt2,by rw [hWF];exact gb_all ezz HG9.out (Nat.le_refl _)⟩
    | true =>
      cases eq with
      | false =>
        have HE:=zh (HF.out (.inr (.inr rfl)))
        clear HF HN
        go_wp2_with (first
         | (go_at_call 161;(with_reducible refine KO.out.mono ?_);rintro q w4 ⟨rfl,rfl⟩)
         | (go_at_call 104;(with_reducible refine (KM.out _).mono ?_);rintro q w5 ⟨rfl,b5⟩;have G5:=G4.below b5;have p0:w5.cell? ⟨p,0,none⟩=some (.int .u64 E.term):=G5.cell 0;have p1:w5.cell? ⟨p,1,none⟩=some (.int .u64 E.index):=G5.cell 1;have p2:w5.cell? ⟨p,2,none⟩=some (.int .i64 E.kind):=G5.cell 2;have p3:w5.cell? ⟨p,3,none⟩=some (.int .u64 E.client):=G5.cell 3;have p4:w5.cell? ⟨p,4,none⟩=some (.int .u64 E.seq):=G5.cell 4;have p5:w5.cell? ⟨p,5,none⟩=some (.int .u64 E.block):=G5.cell 5;have p6:w5.cell? ⟨p,6,none⟩=some (.int .u64 E.many):=G5.cell 6;have p7:w5.cell? ⟨p,7,none⟩=some (.int .i64 E.node):=G5.cell 7;have p8:w5.cell? ⟨p,8,none⟩=some (.int .i64 E.level):=G5.cell 8;have p9:w5.cell? ⟨p,9,none⟩=some (.string E.data):=G5.cell 9;have p10:w5.cell? ⟨p,10,none⟩=some (.string E.old):=G5.cell 10;clear b5)
         | (go_at_call 130;(with_reducible refine (KZ.out _).mono ?_);rintro q w6 ⟨rfl,b6⟩;have G6:=G5.below b6;have p0:w6.cell? ⟨p,0,none⟩=some (.int .u64 E.term):=G6.cell 0;have p1:w6.cell? ⟨p,1,none⟩=some (.int .u64 E.index):=G6.cell 1;have p2:w6.cell? ⟨p,2,none⟩=some (.int .i64 E.kind):=G6.cell 2;have p3:w6.cell? ⟨p,3,none⟩=some (.int .u64 E.client):=G6.cell 3;have p4:w6.cell? ⟨p,4,none⟩=some (.int .u64 E.seq):=G6.cell 4;have p5:w6.cell? ⟨p,5,none⟩=some (.int .u64 E.block):=G6.cell 5;have p6:w6.cell? ⟨p,6,none⟩=some (.int .u64 E.many):=G6.cell 6;have p7:w6.cell? ⟨p,7,none⟩=some (.int .i64 E.node):=G6.cell 7;have p8:w6.cell? ⟨p,8,none⟩=some (.int .i64 E.level):=G6.cell 8;have p9:w6.cell? ⟨p,9,none⟩=some (.string E.data):=G6.cell 9;have p10:w6.cell? ⟨p,10,none⟩=some (.string E.old):=G6.cell 10;clear b6)
         | (go_at_call 184;(with_reducible refine (KFa.out _ G6.q.hr).mono ?_);rintro q w9 ⟨rfl,R9,g9⟩;have HR9:=zh R9;have HG9:=zh (G6.q.fr.trans g9);have HRX:Hid (w9.heap[w.heap.size]?=some (.cells (ec ezz) 28 (0,0))):=(g9.block _ (zgx G6.q.res) (by simp;omega)).trans G6.q.res;have z0:w9.cell? ⟨w.heap.size,0,none⟩=some (.int .u64 0):=zcr w9 _ 0 _ 28 (0,0) HRX.out;have z1:w9.cell? ⟨w.heap.size,1,none⟩=some (.int .u64 0):=zcr w9 _ 1 _ 28 (0,0) HRX.out;have z2:w9.cell? ⟨w.heap.size,2,none⟩=some (.int .i64 0):=zcr w9 _ 2 _ 28 (0,0) HRX.out;have z3:w9.cell? ⟨w.heap.size,3,none⟩=some (.int .u64 0):=zcr w9 _ 3 _ 28 (0,0) HRX.out;have z4:w9.cell? ⟨w.heap.size,4,none⟩=some (.int .u64 0):=zcr w9 _ 4 _ 28 (0,0) HRX.out;have z5:w9.cell? ⟨w.heap.size,5,none⟩=some (.int .u64 0):=zcr w9 _ 5 _ 28 (0,0) HRX.out;have z6:w9.cell? ⟨w.heap.size,6,none⟩=some (.int .u64 0):=zcr w9 _ 6 _ 28 (0,0) HRX.out;have z7:w9.cell? ⟨w.heap.size,7,none⟩=some (.int .i64 0):=zcr w9 _ 7 _ 28 (0,0) HRX.out;have z8:w9.cell? ⟨w.heap.size,8,none⟩=some (.int .i64 0):=zcr w9 _ 8 _ 28 (0,0) HRX.out;have z9:w9.cell? ⟨w.heap.size,9,none⟩=some (.string ⟨#[]⟩):=zcr w9 _ 9 _ 28 (0,0) HRX.out;have z10:w9.cell? ⟨w.heap.size,10,none⟩=some (.string ⟨#[]⟩):=zcr w9 _ 10 _ 28 (0,0) HRX.out;have fz:∀ i,w9.frozen? ⟨w.heap.size,i,none⟩=false:=fun i=>Md.of HRX.out;clear R9 g9))
        rw [HE.out.1,HE.out.2.1,HE.out.2.2]
        obtain ⟨WF,hWF⟩:∃ WF,WF=(((((((((((w9.setCell ⟨w.heap.size,0,none⟩ (.int .u64 0)).setCell ⟨w.heap.size,1,none⟩ (.int .u64 0)).setCell ⟨w.heap.size,2,none⟩ (.int .i64 0)).setCell ⟨w.heap.size,3,none⟩ (.int .u64 0)).setCell ⟨w.heap.size,4,none⟩ (.int .u64 0)).setCell ⟨w.heap.size,5,none⟩ (.int .u64 0)).setCell ⟨w.heap.size,6,none⟩ (.int .u64 0)).setCell ⟨w.heap.size,7,none⟩ (.int .i64 0)).setCell ⟨w.heap.size,8,none⟩ (.int .i64 0)).setCell ⟨w.heap.size,9,none⟩ (.string ⟨#[]⟩)).setCell ⟨w.heap.size,10,none⟩ (.string ⟨#[]⟩)):=⟨_,rfl⟩
        rw [←hWF]
        have hblk:WF.heap[w.heap.size]?=some (.cells (ec ezz) 28 (0,0)):=by rw [hWF];exact store_all ezz HRX.out
        have f0:WF.cell? ⟨w.heap.size,0,none⟩=some (.int .u64 0):=zcr WF _ 0 _ 28 (0,0) hblk
        have f1:WF.cell? ⟨w.heap.size,1,none⟩=some (.int .u64 0):=zcr WF _ 1 _ 28 (0,0) hblk
        have f2:WF.cell? ⟨w.heap.size,2,none⟩=some (.int .i64 0):=zcr WF _ 2 _ 28 (0,0) hblk
        have f3:WF.cell? ⟨w.heap.size,3,none⟩=some (.int .u64 0):=zcr WF _ 3 _ 28 (0,0) hblk
        have f4:WF.cell? ⟨w.heap.size,4,none⟩=some (.int .u64 0):=zcr WF _ 4 _ 28 (0,0) hblk
        have f5:WF.cell? ⟨w.heap.size,5,none⟩=some (.int .u64 0):=zcr WF _ 5 _ 28 (0,0) hblk
        have f6:WF.cell? ⟨w.heap.size,6,none⟩=some (.int .u64 0):=zcr WF _ 6 _ 28 (0,0) hblk
        have f7:WF.cell? ⟨w.heap.size,7,none⟩=some (.int .i64 0):=zcr WF _ 7 _ 28 (0,0) hblk
        have f8:WF.cell? ⟨w.heap.size,8,none⟩=some (.int .i64 0):=zcr WF _ 8 _ 28 (0,0) hblk
        have f9:WF.cell? ⟨w.heap.size,9,none⟩=some (.string ⟨#[]⟩):=zcr WF _ 9 _ 28 (0,0) hblk
        have f10:WF.cell? ⟨w.heap.size,10,none⟩=some (.string ⟨#[]⟩):=zcr WF _ 10 _ 28 (0,0) hblk
        exact bodyPost_ret (v:=ev ezz) (by simp [results,Tryz.results164,go_sem,f0,f1,f2,f3,f4,f5,f6,f7,f8,f9,f10]) rfl ⟨rfl,by rw [hWF];exact rd_all ezz HR9.out hlt2,by rw [hWF];exact gb_all ezz HG9.out (Nat.le_refl _)⟩
      | true =>
        have HE:=zh (HN.out rfl rfl rfl)
        clear HF HN
        go_wp2_with (first
         | (go_at_call 161;(with_reducible refine KO.out.mono ?_);rintro q w4 ⟨rfl,rfl⟩)
         | (go_at_call 104;(with_reducible refine (KM.out _).mono ?_);rintro q w5 ⟨rfl,b5⟩;have G5:=G4.below b5;have p0:w5.cell? ⟨p,0,none⟩=some (.int .u64 E.term):=G5.cell 0;have p1:w5.cell? ⟨p,1,none⟩=some (.int .u64 E.index):=G5.cell 1;have p2:w5.cell? ⟨p,2,none⟩=some (.int .i64 E.kind):=G5.cell 2;have p3:w5.cell? ⟨p,3,none⟩=some (.int .u64 E.client):=G5.cell 3;have p4:w5.cell? ⟨p,4,none⟩=some (.int .u64 E.seq):=G5.cell 4;have p5:w5.cell? ⟨p,5,none⟩=some (.int .u64 E.block):=G5.cell 5;have p6:w5.cell? ⟨p,6,none⟩=some (.int .u64 E.many):=G5.cell 6;have p7:w5.cell? ⟨p,7,none⟩=some (.int .i64 E.node):=G5.cell 7;have p8:w5.cell? ⟨p,8,none⟩=some (.int .i64 E.level):=G5.cell 8;have p9:w5.cell? ⟨p,9,none⟩=some (.string E.data):=G5.cell 9;have p10:w5.cell? ⟨p,10,none⟩=some (.string E.old):=G5.cell 10;clear b5)
         | (go_at_call 130;(with_reducible refine (KZ.out _).mono ?_);rintro q w6 ⟨rfl,b6⟩;have G6:=G5.below b6;have p0:w6.cell? ⟨p,0,none⟩=some (.int .u64 E.term):=G6.cell 0;have p1:w6.cell? ⟨p,1,none⟩=some (.int .u64 E.index):=G6.cell 1;have p2:w6.cell? ⟨p,2,none⟩=some (.int .i64 E.kind):=G6.cell 2;have p3:w6.cell? ⟨p,3,none⟩=some (.int .u64 E.client):=G6.cell 3;have p4:w6.cell? ⟨p,4,none⟩=some (.int .u64 E.seq):=G6.cell 4;have p5:w6.cell? ⟨p,5,none⟩=some (.int .u64 E.block):=G6.cell 5;have p6:w6.cell? ⟨p,6,none⟩=some (.int .u64 E.many):=G6.cell 6;have p7:w6.cell? ⟨p,7,none⟩=some (.int .i64 E.node):=G6.cell 7;have p8:w6.cell? ⟨p,8,none⟩=some (.int .i64 E.level):=G6.cell 8;have p9:w6.cell? ⟨p,9,none⟩=some (.string E.data):=G6.cell 9;have p10:w6.cell? ⟨p,10,none⟩=some (.string E.old):=G6.cell 10;have z0:w6.cell? ⟨w.heap.size,0,none⟩=some (.int .u64 0):=zcr w6 _ 0 _ 28 (0,0) G6.q.res;have z1:w6.cell? ⟨w.heap.size,1,none⟩=some (.int .u64 0):=zcr w6 _ 1 _ 28 (0,0) G6.q.res;have z2:w6.cell? ⟨w.heap.size,2,none⟩=some (.int .i64 0):=zcr w6 _ 2 _ 28 (0,0) G6.q.res;have z3:w6.cell? ⟨w.heap.size,3,none⟩=some (.int .u64 0):=zcr w6 _ 3 _ 28 (0,0) G6.q.res;have z4:w6.cell? ⟨w.heap.size,4,none⟩=some (.int .u64 0):=zcr w6 _ 4 _ 28 (0,0) G6.q.res;have z5:w6.cell? ⟨w.heap.size,5,none⟩=some (.int .u64 0):=zcr w6 _ 5 _ 28 (0,0) G6.q.res;have z6:w6.cell? ⟨w.heap.size,6,none⟩=some (.int .u64 0):=zcr w6 _ 6 _ 28 (0,0) G6.q.res;have z7:w6.cell? ⟨w.heap.size,7,none⟩=some (.int .i64 0):=zcr w6 _ 7 _ 28 (0,0) G6.q.res;have z8:w6.cell? ⟨w.heap.size,8,none⟩=some (.int .i64 0):=zcr w6 _ 8 _ 28 (0,0) G6.q.res;have z9:w6.cell? ⟨w.heap.size,9,none⟩=some (.string ⟨#[]⟩):=zcr w6 _ 9 _ 28 (0,0) G6.q.res;have z10:w6.cell? ⟨w.heap.size,10,none⟩=some (.string ⟨#[]⟩):=zcr w6 _ 10 _ 28 (0,0) G6.q.res;have fz:∀ i,w6.frozen? ⟨w.heap.size,i,none⟩=false:=fun i=>Md.of G6.q.res;clear b6))
        rw [HE.out.1,HE.out.2.1,HE.out.2.2]
        obtain ⟨WF,hWF⟩:∃ WF,WF=(((((((((((w6.setCell ⟨w.heap.size,0,none⟩ (.int .u64 E.term)).setCell ⟨w.heap.size,1,none⟩ (.int .u64 E.index)).setCell ⟨w.heap.size,2,none⟩ (.int .i64 E.kind)).setCell ⟨w.heap.size,3,none⟩ (.int .u64 E.client)).setCell ⟨w.heap.size,4,none⟩ (.int .u64 E.seq)).setCell ⟨w.heap.size,5,none⟩ (.int .u64 E.block)).setCell ⟨w.heap.size,6,none⟩ (.int .u64 E.many)).setCell ⟨w.heap.size,7,none⟩ (.int .i64 E.node)).setCell ⟨w.heap.size,8,none⟩ (.int .i64 E.level)).setCell ⟨w.heap.size,9,none⟩ (.string E.data)).setCell ⟨w.heap.size,10,none⟩ (.string E.old)):=⟨_,rfl⟩
        rw [←hWF]
        have hblk:WF.heap[w.heap.size]?=some (.cells (ec E) 28 (0,0)):=by rw [hWF];exact store_all E G6.q.res
        have f0:WF.cell? ⟨w.heap.size,0,none⟩=some (.int .u64 E.term):=zcr WF _ 0 _ 28 (0,0) hblk
        have f1:WF.cell? ⟨w.heap.size,1,none⟩=some (.int .u64 E.index):=zcr WF _ 1 _ 28 (0,0) hblk
        have f2:WF.cell? ⟨w.heap.size,2,none⟩=some (.int .i64 E.kind):=zcr WF _ 2 _ 28 (0,0) hblk
        have f3:WF.cell? ⟨w.heap.size,3,none⟩=some (.int .u64 E.client):=zcr WF _ 3 _ 28 (0,0) hblk
        have f4:WF.cell? ⟨w.heap.size,4,none⟩=some (.int .u64 E.seq):=zcr WF _ 4 _ 28 (0,0) hblk
        have f5:WF.cell? ⟨w.heap.size,5,none⟩=some (.int .u64 E.block):=zcr WF _ 5 _ 28 (0,0) hblk
        have f6:WF.cell? ⟨w.heap.size,6,none⟩=some (.int .u64 E.many):=zcr WF _ 6 _ 28 (0,0) hblk
        have f7:WF.cell? ⟨w.heap.size,7,none⟩=some (.int .i64 E.node):=zcr WF _ 7 _ 28 (0,0) hblk
        have f8:WF.cell? ⟨w.heap.size,8,none⟩=some (.int .i64 E.level):=zcr WF _ 8 _ 28 (0,0) hblk
        have f9:WF.cell? ⟨w.heap.size,9,none⟩=some (.string E.data):=zcr WF _ 9 _ 28 (0,0) hblk
        have f10:WF.cell? ⟨w.heap.size,10,none⟩=some (.string E.old):=zcr WF _ 10 _ 28 (0,0) hblk
        exact bodyPost_ret (v:=ev E) (by simp [results,Tryz.results164,go_sem,f0,f1,f2,f3,f4,f5,f6,f7,f8,f9,f10]) rfl ⟨rfl,by rw [hWF];exact rd_all E G6.q.hr hlt2,by rw [hWF];exact gb_all E G6.q.fr (Nat.le_refl _)⟩
end Go.Proofs.YtnobeoppffoomaaGreat
