/-
  FrameCodes: part G22.
  Conditions: named in each theorem.
-/
import Derived.Test.YtpdbeijfchmlgaaGreatZ0
import Derived.Test.YtpdbeijfchmlgaaGreatG20
import Derived.Test.YtpdbeijfchmlgaaGreatG21
set_option linter.unusedVariables false
set_option linter.unusedSimpArgs false
set_option maxHeartbeats 16000000
set_option maxRecDepth 100000
namespace Go.Proofs.YtpdbeijfchmlgaaGreat
open Go.RowKit
open Vi
def mX9 (s:ByteArray):ByteArray:=if mY s≤1 then u9 s else ⟨#[]⟩
def rN (s:ByteArray):Nat:=fixV (mX9 s) 1
def r10 (s:ByteArray):ByteArray:=fixT (mX9 s) 1
def rG (s:ByteArray):ByteArray:=gTs (rN s) (r10 s)
def rZ (s:ByteArray):Nat:=fixV (rG s) 4
def rS (s:ByteArray):ByteArray:=bytV (fixT (rG s) 4) (rZ s)
def rT (s:ByteArray):ByteArray:=bytT (fixT (rG s) 4) (rZ s)
def gFs:Bool→Nat→ByteArray→Bool
 | b,0,_=>b
 | b,n+1,t=>gFs (b||!getO t) n (getT t)
def mF8 (s:ByteArray):Bool:=fm8 s||!hasF (u8 s) 1
def mF9 (s:ByteArray):Bool:=mF8 s||decide (1<mY s)
def mF10 (s:ByteArray):Bool:=mF9 s||!hasF (mX9 s) 1
def mFG (s:ByteArray):Bool:=gFs (mF10 s) (rN s) (r10 s)
def mFR (s:ByteArray):Bool:=(mFG s||!hasF (rG s) 4)||!hasB (fixT (rG s) 4) (rZ s)
def mP9 (s:ByteArray):Ms:={ mP8 s with ok:=mY s==1 }
def mKp (P:Ms) (y:ByteArray) (k:Nat) (A:Option Addr) (c:Nat):Ms:={ P with A:=A,n:=k,c:=c,es:=gEs k y }
def mRd (s:ByteArray) (A:Option Addr) (c:Nat):Ms:={ mKp (mP9 s) (r10 s) (rN s) A c with snap:=rS s }
def ReadM (g:Nat) (s:ByteArray) (w:World) (q:Ending) (w':World):Prop :=
 ∃ A c,q=.returned (mv (mRd s A c))∧(∀ a,A=some a→w.heap.size≤a.block)∧Ents w'.heap.size A (rN s) (gEs (rN s) (r10 s)) w'∧Rd 178 g (rT s) (mFR s) w'∧w.grownBy w' (some g)
theorem gEs_snoc:∀ (k:Nat) (y:ByteArray),gEs (k+1) y=gEs k y++[getE (gTs k y)]
 | 0,y=>rfl
 | k+1,y=>by
   show getE y :: gEs (k+1) (getT y)=getE y :: gEs k (getT y)++[getE (gTs k (getT y))]
   rw [gEs_snoc k (getT y)];rfl
theorem gTs_snoc:∀ (k:Nat) (y:ByteArray),gTs (k+1) y=getT (gTs k y)
 | 0,y=>rfl
 | k+1,y=>gTs_snoc k (getT y)
theorem gFs_snoc:∀ (b:Bool) (k:Nat) (y:ByteArray),gFs b (k+1) y=(gFs b k y||!getO (gTs k y))
 | b,0,y=>rfl
 | b,k+1,y=>gFs_snoc (b||!getO y) k (getT y)
theorem getO_nil:getO ⟨#[]⟩=false:=by
 cases h:getO ⟨#[]⟩ with
 | false=>rfl
 | true =>
   have:=(getO_size h).1
   exact absurd this (by show ¬ 110≤0;omega)
theorem getT_nil:getT ⟨#[]⟩=⟨#[]⟩:=by unfold getT;rw [getO_nil];rfl
theorem getT_no {t:ByteArray} (h:getO t=false):getT t=⟨#[]⟩:=by unfold getT;rw [h];rfl
theorem getT_le (t:ByteArray):(getT t).size≤t.size:=by
 unfold getT
 split
 ·rw [sk_size];omega
 ·exact Nat.zero_le _
theorem sane_get {t:ByteArray} {b:Bool} (h:Vi.Sane t b):Vi.Sane (getT t) (b||!getO t)∧getE' t b=getE t∧getT' t b=getT t:=by
 cases b with
 | true =>
   have e:t=⟨#[]⟩:=h rfl;subst e;refine ⟨fun _=>getT_nil,?_,?_⟩
   ·show ezz=getE _
    unfold getE;rw [getO_nil];rfl
   ·show (⟨#[]⟩:ByteArray)=getT _
    exact getT_nil.symm
 | false =>
   refine ⟨fun hb=>?_,rfl,rfl⟩;rw [Bool.false_or] at hb;exact getT_no (by simpa using hb)
theorem sane_gs:∀ (k:Nat) (b:Bool) (y:ByteArray),Vi.Sane y b→Vi.Sane (gTs k y) (gFs b k y)
 | 0,_,_,h=>h
 | k+1,_,_,h=>sane_gs k _ _ (sane_get h).1
theorem getE_ok (t:ByteArray):(getE t).Ok:=by
 unfold getE
 split
 ·exact prs_ok t
 ·exact ok_of2 0 0 0 0 0 0 0 0 0 ⟨#[]⟩ (by decide) (by decide) (by decide) (by decide) (by decide) (by decide) (by decide) (by decide) (by decide) (by decide)
theorem gTs_le:∀ (k:Nat) (y:ByteArray),(gTs k y).size≤y.size
 | 0,_=>Nat.le_refl _
 | k+1,y=>Nat.le_trans (gTs_le k (getT y)) (getT_le y)
structure Nr (w0:World) (g p:Nat) (E:Ms) (T:ByteArray) (b:Bool) (w:World):Prop where
 y:Ny w0 g p E T b w
 own:w.ownsRow (p+1) 24 11 (.slice E.A E.n E.c) E.n (flat E.es)
 hl:E.es.length=E.n
 lw:w0.heap.size≤p
section
variable {w0 w w1:World} {g p:Nat} {T T':ByteArray} {b b':Bool} {E E':Ms}
theorem Nr.gs (h:Nr w0 g p E T b w):p<w.heap.size:=(zgx h.y.al)
theorem Nr.drew (h:Nr w0 g p E T b w):Nr w0 g p E T b w.drew:=⟨h.y.drew,own_of_heap h.own fun _ _=>rfl,h.hl,h.lw⟩
theorem Nr.step (h:Nr w0 g p E T b w) (hx:Rd 178 g T' b' w1) (hf:w.grownBy w1 (some g)) (hT:T'.size≤T.size):Nr w0 g p E T' b' w1:=by
 have h1:=h.y.q.lg;have h2:=h.lw;exact ⟨h.y.step hx hf hT,own_of_heap h.own fun k hk=>hf.block k (h.own.lt k hk).2 (fun e=>by have:=(h.own.lt k hk).1;injection e;omega),h.hl,h.lw⟩
theorem Nr.below (h:Nr w0 g p E T b w) (hb:Below w.heap.size w w1):Nr w0 g p E T b w1 :=
 ⟨h.y.below hb,own_of_heap h.own fun k hk=>hb.block k (h.own.lt k hk).2,h.hl,h.lw⟩
theorem Nr.app {w2 w4:World} {e:En} {n g4 cap:Nat} (h:Nr w0 g p E T b w2) (hn:E.n=n) (hown:w4.ownsRow (p+1) 24 11 (.slice (some ⟨g4,0,none⟩) (n+1) cap) (n+1) (flat E.es++(ec e).toList)) (hgrow:w2.grownBy w4 (Value.slice E.A n E.c).ownBlock) :
 Nr w0 g p { E with A:=some ⟨g4,0,none⟩,n:=n+1,c:=cap,es:=E.es++[e] } T b (w4.setCell ⟨p,9,none⟩ (.slice (some ⟨g4,0,none⟩) (n+1) cap)):=by
 subst hn;have hg:=h.gs;have h1:=h.y.q.lg;have h2:=h.lw;have h3:=h.y.lp
 have hne:∀ k,k≤p→some k≠(Value.slice E.A E.n E.c).ownBlock:=fun k hk e=>by
  have:=(h.own.lt k e.symm).1
  omega
 have hbl:∀ k,k≤p→w4.heap[k]?=w2.heap[k]?:=fun k hk=>hgrow.block k (by omega) (hne k hk)
 have hY:Ny w0 g p E T b w4:=by
  refine ⟨⟨(hbl _ (by omega)).trans h.y.q.hr,(hbl _ (by omega)).trans h.y.q.fn,(hbl _ (by omega)).trans h.y.q.res,?_,h1,h.y.q.sz⟩,(hbl _ (Nat.le_refl _)).trans h.y.al,h3⟩;have f:=h.y.q.fr;exact ⟨hgrow.os.trans f.os,hgrow.tape.trans f.tape,hgrow.output.trans f.output,Nat.le_trans f.size hgrow.size,fun k hk hk2=>(hbl k (by omega)).trans (f.block k hk hk2)⟩
 refine ⟨hY.set 9 _ (by simp),?_,?_,h2⟩
 ·show World.ownsRow _ (p+1) 24 11 (.slice (some ⟨g4,0,none⟩) (E.n+1) cap) (E.n+1) (flat (E.es++[e]))
  rw [flat_snoc];exact ownsRow_setCell_below hown (by simp) _
 ·show (E.es++[e]).length=E.n+1
  rw [List.length_append,h.hl];rfl
theorem Nr.set (h:Nr w0 g p E T b w) (i:Nat) (v:Value) (he:(mc E).setIfInBounds i v=mc E') (hA:E'.A=E.A) (hc:E'.c=E.c) (hn:E'.n=E.n) (hes:E'.es=E.es):Nr w0 g p E' T b (w.setCell ⟨p,i,none⟩ v):=by
 refine ⟨h.y.set i v he,?_,by rw [hes,hn];exact h.hl,h.lw⟩;rw [hA,hc,hn,hes];exact ownsRow_setCell_below h.own (by simp) _
end
section
variable (w0:World) (g p:Nat) (E:Ms) (T:ByteArray) (b:Bool) (k:Int) (w:World)
theorem ny_fail (h:Ny w0 g p E T b w) :
 Calls Tryz.prog 87 #[.pointer (some ⟨g,0,none⟩)] w fun q w'=>q=.returned (.tuple #[])∧Ny w0 g p E ⟨#[]⟩ true w' :=
 (fail_any g T b w h.q.hr).mono fun q w' ⟨h1,h2,h3⟩=>⟨h1,h.step h2 h3 (Nat.zero_le _)⟩
theorem nr_get (h:Nr w0 g p E T b w) (hs:Vi.Sane T b) :
 Calls Tryz.prog 39 #[.pointer (some ⟨g,0,none⟩)] w fun q w'=>q=.returned (ev (getE T))∧Nr w0 g p E (getT T) (b||!getO T) w':=by
 obtain ⟨_,e1,e2⟩:=sane_get hs;refine (get_any g T b w h.y.q.hr h.y.q.sz).mono fun q w' ⟨h1,h2,h3⟩=>?_;rw [e1] at h1;rw [e2] at h2;exact ⟨h1,h.step h2 h3 (getT_le T)⟩
theorem nr_fix (h:Nr w0 g p E T b w) :
 Calls Tryz.prog 83 #[.pointer (some ⟨g,0,none⟩),.int .i64 k] w fun q w'=>q=.returned (.int .u64 (fixV T k))∧Nr w0 g p E (fixT T k) (b||!hasF T k) w' :=
 (fixedr_any g T b k w h.y.q.hr h.y.q.sz).mono fun q w' ⟨h1,h2,h3⟩=>⟨h1,h.step h2 h3 (fixT_le T k)⟩
theorem nr_byt (h:Nr w0 g p E T b w) :
 Calls Tryz.prog 84 #[.pointer (some ⟨g,0,none⟩),.int .i64 k] w fun q w'=>q=.returned (.string (bytV T k))∧Nr w0 g p E (bytT T k) (b||!hasB T k) w' :=
 (bytes_any g T b k w h.y.q.hr h.y.q.sz).mono fun q w' ⟨h1,h2,h3⟩=>⟨h1,h.step h2 h3 (bytT_le T k)⟩
end
theorem sane_fm8 (s:ByteArray):Vi.Sane (u8 s) (fm8 s):=by
 unfold fm8 u8 u7 u6 u5 u4 u3 u2 u1;exact Vi.sane_fix _ _ _ (Vi.sane_fix _ _ _ (Vi.sane_fix _ _ _ (Vi.sane_fix _ _ _ (Vi.sane_fix _ _ _ (Vi.sane_fix _ _ _ (Vi.sane_fix _ _ _ (Vi.sane_fix _ _ _ (fun h=>by cases h))))))))
theorem sane_m10 (s:ByteArray):Vi.Sane (r10 s) (mF10 s):=by
 have h8:Vi.Sane (u9 s) (mF8 s):=Vi.sane_fix _ _ _ (sane_fm8 s);unfold r10 mF10;refine Vi.sane_fix _ _ _ ?_;unfold mX9 mF9
 by_cases h:mY s≤1
 ·rw [if_pos h,decide_eq_false (by omega),Bool.or_false];exact h8
 ·rw [if_neg h];exact fun _=>rfl
theorem mc_set10 (E:Ms) (v:ByteArray):(mc E).setIfInBounds 10 (.string v)=mc { E with snap:=v }:=by simp
theorem nr_next {w0 w2 w4:World} {g p k c g4 cap:Nat} {P:Ms} {t0:ByteArray} {b0:Bool} {A:Option Addr} {E:En} {es:List En} (h:Nr w0 g p (mKp P t0 k A c) (getT (gTs k t0)) (gFs b0 k t0||!getO (gTs k t0)) w2) (hE:E=getE (gTs k t0)) (hes:es=gEs k t0) (hown:w4.ownsRow (p+1) 24 11 (.slice (some ⟨g4,0,none⟩) (k+1) cap) (k+1) (flat es++(ec E).toList)) (hgrow:w2.grownBy w4 (Value.slice A k c).ownBlock) :
 Nr w0 g p (mKp P t0 (k+1) (some ⟨g4,0,none⟩) cap) (gTs (k+1) t0) (gFs b0 (k+1) t0) (w4.setCell ⟨p,9,none⟩ (.slice (some ⟨g4,0,none⟩) (k+1) cap)):=by
 subst hE hes;have h1:=h.app (E:=mKp P t0 k A c) (e:=getE (gTs k t0)) (n:=k) rfl hown hgrow;unfold mKp;rw [gEs_snoc,gTs_snoc,gFs_snoc];exact h1
theorem nr_snap {w0 w:World} {g p:Nat} {E:Ms} {T:ByteArray} {b:Bool} (h:Nr w0 g p E T b w) (v:ByteArray):Nr w0 g p { E with snap:=v } T b (w.setCell ⟨p,10,none⟩ (.string v)) :=
 h.set 10 _ (mc_set10 _ _) rfl rfl rfl rfl
theorem mRd_parts (s:ByteArray) (A:Option Addr) (c:Nat):(mRd s A c).A=A∧(mRd s A c).n=rN s∧(mRd s A c).es=gEs (rN s) (r10 s):=by
 simp only [mRd,mKp,and_self]
theorem readMsg_any (g:Nat) (s:ByteArray) (w:World) (h:Rd 178 g s false w) (hm:s.size≤140737488351232) :
 Calls Tryz.prog 95 #[.pointer (some ⟨g,0,none⟩)] w (ReadM g s w):=by
 have hmf:=zmL;have hlt:=h.lt;obtain ⟨W0,hW0⟩:∃ W0,W0=(w.alloc (Obj.cells (mc mzz) 29)).alloc (Obj.cells #[.func (.func 83) #[.pointer (some ⟨g,0,none⟩)] #[]] 115):=⟨_,rfl⟩
 have G0:Nq w g s false W0:=by
  have k0:W0.heap[w.heap.size]?=some (.cells (mc mzz) 29 (0,0)):=by
   rw [hW0];exact (Lib.alloc_old _ _ _ (by simp)).trans (heap_alloc_new w _)
  have k1:W0.heap[w.heap.size+1]?=some (.cells #[.func (.func 83) #[.pointer (some ⟨g,0,none⟩)] #[]] 115 (0,0)):=by
   have h:=heap_alloc_new (w.alloc (Obj.cells (mc mzz) 29)) (Obj.cells #[.func (.func 83) #[.pointer (some ⟨g,0,none⟩)] #[]] 115);rw [show (w.alloc (Obj.cells (mc mzz) 29)).heap.size=w.heap.size+1 by simp] at h;rw [hW0];exact h
  have hb:Below w.heap.size w W0:=by rw [hW0];exact zba.alloc (by simp) _
  exact ⟨h.below hb hlt,k1,k0,grownBy_below hb _,hlt,by omega⟩
 have KS:=zh (nq_small w g);have KF:=zh (nq_fix w g);have KSy:=zh (ny_small w g);have KFy:=zh (ny_fix w g);have KBy:=zh (ny_byt w g);have HW0:=zh hW0;have Gd:=G0.drew;have c0:=G0.fcell;clear hW0 h;have HSM:=zh hm;clear hm
 go_enter Tryz.func95,Tryz.ntmps95
 go_upto_region 3 with fail
 rw [←HW0.out]
 go_cut [6] from 8 to 60 (fun s6 wx=>∃ p,s6=.pointer (some ⟨p,0,none⟩)∧Ny w g p (mP8 s) (u8 s) (fm8 s) wx)
 case first =>
  refine wp_region_noPanic ?_;refine wp_region_held_drew (S:=(fun w'=>w'.cell? ⟨w.heap.size+1,0,none⟩=some (.func (.func 83) #[.pointer (some ⟨g,0,none⟩)] #[]))) (by kernel_rfl) (by exact c0) (fun hHeld=>?_);refine ztk (v:=?v0) (i:=0) rfl ?hy0 ?rest0
  case hy0=>(intro w hSw;(try dsimp only at hSw);go_simp;first|done|(with_reducible rfl))
  try simp only [Act.put,zA,zB,zC]
  refine ztk (v:=?v2) (i:=2) rfl ?hy2 ?rest2
  case hy2=>(intro w hSw;(try dsimp only at hSw);go_simp;first|done|(with_reducible rfl))
  try simp only [Act.put,zA,zB,zC]
  refine ztk (v:=?v4) (i:=4) rfl ?hy4 ?rest4
  case hy4=>(intro w hSw;(try dsimp only at hSw);go_simp;first|done|(with_reducible rfl))
  try simp only [Act.put,zA,zB,zC]
  refine ztk (v:=?v6) (i:=6) rfl ?hy6 ?rest6
  case hy6=>(intro w hSw;(try dsimp only at hSw);go_simp;first|done|(with_reducible rfl))
  try simp only [Act.put,zA,zB,zC]
  refine ztk (v:=?v8) (i:=8) rfl ?hy8 ?rest8
  case hy8=>(intro w hSw;(try dsimp only at hSw);go_simp;first|done|(with_reducible rfl))
  try simp only [Act.put,zA,zB,zC]
  refine ztk (v:=?v10) (i:=10) rfl ?hy10 ?rest10
  case hy10=>(intro w hSw;(try dsimp only at hSw);go_simp;first|done|(with_reducible rfl))
  try simp only [Act.put,zA,zB,zC]
  refine ztk (v:=?v12) (i:=12) rfl ?hy12 ?rest12
  case hy12=>(intro w hSw;(try dsimp only at hSw);go_simp;first|done|(with_reducible rfl))
  try simp only [Act.put,zA,zB,zC]
  refine ztk (v:=?v14) (i:=14) rfl ?hy14 ?rest14
  case hy14=>(intro w hSw;(try dsimp only at hSw);go_simp;first|done|(with_reducible rfl))
  try simp only [Act.put,zA,zB,zC]
  have Gi:=G0;have G0:=Gd;refine wpAnyH_ready (rs:=[1,17]) (by kernel_rfl) (by simp) ?_;refine AllReadyH.cons rfl (fun K hK=>?_) (AllReadyH.cons rfl (fun K hK=>?_) AllReadyH.nil)
  ·go_simp;go_at_call 157;(with_reducible refine (KS.out _ _ _ G0).mono ?_);rintro q w1 ⟨rfl,G1,c1,_⟩
   try go_wp2_with fail
   refine hK.out _ _ c1 (fun hHeld=>?_);clear hK K
   try simp only [Act.put,zA,zB,zC]
   refine wpAnyH_ready (rs:=[3,17]) (by kernel_rfl) (by simp) ?_;refine AllReadyH.cons rfl (fun K hK=>?_) (AllReadyH.cons rfl (fun K hK=>?_) AllReadyH.nil)
   ·go_simp;go_at_call 157;(with_reducible refine (KS.out _ _ _ G1).mono ?_);rintro q w2 ⟨rfl,G2,c2,_⟩
    try go_wp2_with fail
    refine hK.out _ _ c2 (fun hHeld=>?_);clear hK K
    try simp only [Act.put,zA,zB,zC]
    refine wpAnyH_ready (rs:=[5,17]) (by kernel_rfl) (by simp) ?_;refine AllReadyH.cons rfl (fun K hK=>?_) (AllReadyH.cons rfl (fun K hK=>?_) AllReadyH.nil)
    ·go_simp;go_at_call 157;(with_reducible refine (KS.out _ _ _ G2).mono ?_);rintro q w3 ⟨rfl,G3,c3,_⟩
     try go_wp2_with fail
     refine hK.out _ _ c3 (fun hHeld=>?_);clear hK K
     try simp only [Act.put,zA,zB,zC]
     refine wpAnyH_ready (rs:=[7,17]) (by kernel_rfl) (by simp) ?_;refine AllReadyH.cons rfl (fun K hK=>?_) (AllReadyH.cons rfl (fun K hK=>?_) AllReadyH.nil)
     ·go_simp;go_at_call 83;(with_reducible refine (KF.out _ _ _ _ G3).mono ?_);rintro q w4 ⟨rfl,G4,c4,_⟩
      try go_wp2_with fail
      refine hK.out _ _ c4 (fun hHeld=>?_);clear hK K
      try simp only [Act.put,zA,zB,zC]
      refine wpAnyH_ready (rs:=[9,17]) (by kernel_rfl) (by simp) ?_;refine AllReadyH.cons rfl (fun K hK=>?_) (AllReadyH.cons rfl (fun K hK=>?_) AllReadyH.nil)
      ·go_simp;go_at_call 83;(with_reducible refine (KF.out _ _ _ _ G4).mono ?_);rintro q w5 ⟨rfl,G5,c5,_⟩
       try go_wp2_with fail
       refine hK.out _ _ c5 (fun hHeld=>?_);clear hK K
       try simp only [Act.put,zA,zB,zC]
       refine wpAnyH_ready (rs:=[11,17]) (by kernel_rfl) (by simp) ?_;refine AllReadyH.cons rfl (fun K hK=>?_) (AllReadyH.cons rfl (fun K hK=>?_) AllReadyH.nil)
       ·go_simp;go_at_call 83;(with_reducible refine (KF.out _ _ _ _ G5).mono ?_);rintro q w6 ⟨rfl,G6,c6,_⟩
        try go_wp2_with fail
        refine hK.out _ _ c6 (fun hHeld=>?_);clear hK K
        try simp only [Act.put,zA,zB,zC]
        refine wpAnyH_ready (rs:=[13,17]) (by kernel_rfl) (by simp) ?_;refine AllReadyH.cons rfl (fun K hK=>?_) (AllReadyH.cons rfl (fun K hK=>?_) AllReadyH.nil)
        ·go_simp;go_at_call 83;(with_reducible refine (KF.out _ _ _ _ G6).mono ?_);rintro q w7 ⟨rfl,G7,c7,_⟩
         try go_wp2_with fail
         refine hK.out _ _ c7 (fun hHeld=>?_);clear hK K
         try simp only [Act.put,zA,zB,zC]
         refine wpAnyH_ready (rs:=[15,17]) (by kernel_rfl) (by simp) ?_;refine AllReadyH.cons rfl (fun K hK=>?_) (AllReadyH.cons rfl (fun K hK=>?_) AllReadyH.nil)
         ·go_simp;go_at_call 83;(with_reducible refine (KF.out _ _ _ _ G7).mono ?_);rintro q w8 ⟨rfl,G8,c8,_⟩
          try go_wp2_with fail
          refine hK.out _ _ c8 (fun hHeld=>?_);clear hK K
          try simp only [Act.put,zA,zB,zC]
          refine ztk (v:=?vn_16) (i:=16) rfl ?hyn_16 ?restn_16
          case hyn_16=>(intro w hSw;(try dsimp only at hSw);go_simp;first|done|(with_reducible rfl))
          try simp only [Act.put,zA,zB,zC]
          refine zr1 (i:=17) rfl (fun K hK=>?_);go_simp;refine hK.out _ _ ?_ (fun hHeld=>?_)
          ·exact Nq.fcella G8 _
          clear hK K
          try simp only [Act.put,zA,zB,zC]
          have G8y:=Nq.toY (mP8 s) G8;refine zr1 (i:=18) rfl (fun K hK=>?_);go_simp;refine hK.out _ _ G8y.q.fcell (fun hHeld=>?_);clear hK K
          try simp only [Act.put,zA,zB,zC]
          refine wpAnyH_done (by kernel_rfl) ?_ _;refine NoPanic.normal ?_
          go_wp2_with fail
          go_meet
          exact ⟨_,rfl,G8y⟩
         ·go_simp;refine hK.out _ _ ?_ (fun hHeld=>?_)
          ·exact Nq.fcella G7 _
          clear hK K
          try simp only [Act.put,zA,zB,zC]
          have G7y:=Nq.toY mzz G7;refine zr1 (i:=15) rfl (fun K hK=>?_);go_simp;go_at_call 83;(with_reducible refine (KFy.out _ _ _ _ _ _ G7y).mono ?_);rintro q w8y ⟨rfl,G8y,c8y⟩
          try go_wp2_with fail
          refine hK.out _ _ c8y (fun hHeld=>?_);clear hK K
          try simp only [Act.put,zA,zB,zC]
          refine ztk (v:=?vb7_16) (i:=16) rfl ?hyb7_16 ?restb7_16
          case hyb7_16=>(intro w hSw;(try dsimp only at hSw);go_simp;first|done|(with_reducible rfl))
          try simp only [Act.put,zA,zB,zC]
          obtain ⟨e0,e1,e2,e3,e4,e5,e6,e7,e8,e9,e10⟩:=zmzlf (w:=w8y) (b:=w7.heap.size) G8y.cell;have fz:=G8y.fz;refine zr1 (i:=18) rfl (fun K hK=>?_);go_simp;refine hK.out _ _ ?_ (fun hHeld=>?_)
          ·exact (G8y.sets (mP8 s)).q.fcell
          clear hK K
          try simp only [Act.put,zA,zB,zC]
          refine wpAnyH_done (by kernel_rfl) ?_ _;refine NoPanic.normal ?_
          go_wp2_with fail
          go_meet
          exact ⟨_,rfl,G8y.sets (mP8 s)⟩
        ·go_simp;refine hK.out _ _ ?_ (fun hHeld=>?_)
         ·exact Nq.fcella G6 _
         clear hK K
         try simp only [Act.put,zA,zB,zC]
         have G6y:=Nq.toY mzz G6;refine zr1 (i:=13) rfl (fun K hK=>?_);go_simp;go_at_call 83;(with_reducible refine (KFy.out _ _ _ _ _ _ G6y).mono ?_);rintro q w7y ⟨rfl,G7y,c7y⟩
         try go_wp2_with fail
         refine hK.out _ _ c7y (fun hHeld=>?_);clear hK K
         try simp only [Act.put,zA,zB,zC]
         refine zr1 (i:=15) rfl (fun K hK=>?_);go_simp;go_at_call 83;(with_reducible refine (KFy.out _ _ _ _ _ _ G7y).mono ?_);rintro q w8y ⟨rfl,G8y,c8y⟩
         try go_wp2_with fail
         refine hK.out _ _ c8y (fun hHeld=>?_);clear hK K
         try simp only [Act.put,zA,zB,zC]
         refine ztk (v:=?vb6_16) (i:=16) rfl ?hyb6_16 ?restb6_16
         case hyb6_16=>(intro w hSw;(try dsimp only at hSw);go_simp;first|done|(with_reducible rfl))
         try simp only [Act.put,zA,zB,zC]
         obtain ⟨e0,e1,e2,e3,e4,e5,e6,e7,e8,e9,e10⟩:=zmzlf (w:=w8y) (b:=w6.heap.size) G8y.cell;have fz:=G8y.fz;refine zr1 (i:=18) rfl (fun K hK=>?_);go_simp;refine hK.out _ _ ?_ (fun hHeld=>?_)
         ·exact (G8y.sets (mP8 s)).q.fcell
         clear hK K
         try simp only [Act.put,zA,zB,zC]
         refine wpAnyH_done (by kernel_rfl) ?_ _;refine NoPanic.normal ?_
         go_wp2_with fail
         go_meet
         exact ⟨_,rfl,G8y.sets (mP8 s)⟩
       ·go_simp;refine hK.out _ _ ?_ (fun hHeld=>?_)
        ·exact Nq.fcella G5 _
        clear hK K
        try simp only [Act.put,zA,zB,zC]
        have G5y:=Nq.toY mzz G5;refine zr1 (i:=11) rfl (fun K hK=>?_);go_simp;go_at_call 83;(with_reducible refine (KFy.out _ _ _ _ _ _ G5y).mono ?_);rintro q w6y ⟨rfl,G6y,c6y⟩
        try go_wp2_with fail
        refine hK.out _ _ c6y (fun hHeld=>?_);clear hK K
        try simp only [Act.put,zA,zB,zC]
        refine zr1 (i:=13) rfl (fun K hK=>?_);go_simp;go_at_call 83;(with_reducible refine (KFy.out _ _ _ _ _ _ G6y).mono ?_);rintro q w7y ⟨rfl,G7y,c7y⟩
        try go_wp2_with fail
        refine hK.out _ _ c7y (fun hHeld=>?_);clear hK K
        try simp only [Act.put,zA,zB,zC]
        refine zr1 (i:=15) rfl (fun K hK=>?_);go_simp;go_at_call 83;(with_reducible refine (KFy.out _ _ _ _ _ _ G7y).mono ?_);rintro q w8y ⟨rfl,G8y,c8y⟩
        try go_wp2_with fail
        refine hK.out _ _ c8y (fun hHeld=>?_);clear hK K
        try simp only [Act.put,zA,zB,zC]
        refine ztk (v:=?vb5_16) (i:=16) rfl ?hyb5_16 ?restb5_16
        case hyb5_16=>(intro w hSw;(try dsimp only at hSw);go_simp;first|done|(with_reducible rfl))
        try simp only [Act.put,zA,zB,zC]
        obtain ⟨e0,e1,e2,e3,e4,e5,e6,e7,e8,e9,e10⟩:=zmzlf (w:=w8y) (b:=w5.heap.size) G8y.cell;have fz:=G8y.fz;refine zr1 (i:=18) rfl (fun K hK=>?_);go_simp;refine hK.out _ _ ?_ (fun hHeld=>?_)
        ·exact (G8y.sets (mP8 s)).q.fcell
        clear hK K
        try simp only [Act.put,zA,zB,zC]
        refine wpAnyH_done (by kernel_rfl) ?_ _;refine NoPanic.normal ?_
        go_wp2_with fail
        go_meet
        exact ⟨_,rfl,G8y.sets (mP8 s)⟩
      ·go_simp;refine hK.out _ _ ?_ (fun hHeld=>?_)
       ·exact Nq.fcella G4 _
       clear hK K
       try simp only [Act.put,zA,zB,zC]
       have G4y:=Nq.toY mzz G4;refine zr1 (i:=9) rfl (fun K hK=>?_);go_simp;go_at_call 83;(with_reducible refine (KFy.out _ _ _ _ _ _ G4y).mono ?_);rintro q w5y ⟨rfl,G5y,c5y⟩
       try go_wp2_with fail
       refine hK.out _ _ c5y (fun hHeld=>?_);clear hK K
       try simp only [Act.put,zA,zB,zC]
       refine zr1 (i:=11) rfl (fun K hK=>?_);go_simp;go_at_call 83;(with_reducible refine (KFy.out _ _ _ _ _ _ G5y).mono ?_);rintro q w6y ⟨rfl,G6y,c6y⟩
       try go_wp2_with fail
       refine hK.out _ _ c6y (fun hHeld=>?_);clear hK K
       try simp only [Act.put,zA,zB,zC]
       refine zr1 (i:=13) rfl (fun K hK=>?_);go_simp;go_at_call 83;(with_reducible refine (KFy.out _ _ _ _ _ _ G6y).mono ?_);rintro q w7y ⟨rfl,G7y,c7y⟩
       try go_wp2_with fail
       refine hK.out _ _ c7y (fun hHeld=>?_);clear hK K
       try simp only [Act.put,zA,zB,zC]
       refine zr1 (i:=15) rfl (fun K hK=>?_);go_simp;go_at_call 83;(with_reducible refine (KFy.out _ _ _ _ _ _ G7y).mono ?_);rintro q w8y ⟨rfl,G8y,c8y⟩
       try go_wp2_with fail
       refine hK.out _ _ c8y (fun hHeld=>?_);clear hK K
       try simp only [Act.put,zA,zB,zC]
       refine ztk (v:=?vb4_16) (i:=16) rfl ?hyb4_16 ?restb4_16
       case hyb4_16=>(intro w hSw;(try dsimp only at hSw);go_simp;first|done|(with_reducible rfl))
       try simp only [Act.put,zA,zB,zC]
       obtain ⟨e0,e1,e2,e3,e4,e5,e6,e7,e8,e9,e10⟩:=zmzlf (w:=w8y) (b:=w4.heap.size) G8y.cell;have fz:=G8y.fz;refine zr1 (i:=18) rfl (fun K hK=>?_);go_simp;refine hK.out _ _ ?_ (fun hHeld=>?_)
       ·exact (G8y.sets (mP8 s)).q.fcell
       clear hK K
       try simp only [Act.put,zA,zB,zC]
       refine wpAnyH_done (by kernel_rfl) ?_ _;refine NoPanic.normal ?_
       go_wp2_with fail
       go_meet
       exact ⟨_,rfl,G8y.sets (mP8 s)⟩
     ·go_simp;refine hK.out _ _ ?_ (fun hHeld=>?_)
      ·exact Nq.fcella G3 _
      clear hK K
      try simp only [Act.put,zA,zB,zC]
      have G3y:=Nq.toY mzz G3;refine zr1 (i:=7) rfl (fun K hK=>?_);go_simp;go_at_call 83;(with_reducible refine (KFy.out _ _ _ _ _ _ G3y).mono ?_);rintro q w4y ⟨rfl,G4y,c4y⟩
      try go_wp2_with fail
      refine hK.out _ _ c4y (fun hHeld=>?_);clear hK K
      try simp only [Act.put,zA,zB,zC]
      refine zr1 (i:=9) rfl (fun K hK=>?_);go_simp;go_at_call 83;(with_reducible refine (KFy.out _ _ _ _ _ _ G4y).mono ?_);rintro q w5y ⟨rfl,G5y,c5y⟩
      try go_wp2_with fail
      refine hK.out _ _ c5y (fun hHeld=>?_);clear hK K
      try simp only [Act.put,zA,zB,zC]
      refine zr1 (i:=11) rfl (fun K hK=>?_);go_simp;go_at_call 83;(with_reducible refine (KFy.out _ _ _ _ _ _ G5y).mono ?_);rintro q w6y ⟨rfl,G6y,c6y⟩
      try go_wp2_with fail
      refine hK.out _ _ c6y (fun hHeld=>?_);clear hK K
      try simp only [Act.put,zA,zB,zC]
      refine zr1 (i:=13) rfl (fun K hK=>?_);go_simp;go_at_call 83;(with_reducible refine (KFy.out _ _ _ _ _ _ G6y).mono ?_);rintro q w7y ⟨rfl,G7y,c7y⟩
      try go_wp2_with fail
      refine hK.out _ _ c7y (fun hHeld=>?_);clear hK K
      try simp only [Act.put,zA,zB,zC]
      refine zr1 (i:=15) rfl (fun K hK=>?_);go_simp;go_at_call 83;(with_reducible refine (KFy.out _ _ _ _ _ _ G7y).mono ?_);rintro q w8y ⟨rfl,G8y,c8y⟩
      try go_wp2_with fail
      refine hK.out _ _ c8y (fun hHeld=>?_);clear hK K
      try simp only [Act.put,zA,zB,zC]
      refine ztk (v:=?vb3_16) (i:=16) rfl ?hyb3_16 ?restb3_16
      case hyb3_16=>(intro w hSw;(try dsimp only at hSw);go_simp;first|done|(with_reducible rfl))
      try simp only [Act.put,zA,zB,zC]
      obtain ⟨e0,e1,e2,e3,e4,e5,e6,e7,e8,e9,e10⟩:=zmzlf (w:=w8y) (b:=w3.heap.size) G8y.cell;have fz:=G8y.fz;refine zr1 (i:=18) rfl (fun K hK=>?_);go_simp;refine hK.out _ _ ?_ (fun hHeld=>?_)
      ·exact (G8y.sets (mP8 s)).q.fcell
      clear hK K
      try simp only [Act.put,zA,zB,zC]
      refine wpAnyH_done (by kernel_rfl) ?_ _;refine NoPanic.normal ?_
      go_wp2_with fail
      go_meet
      exact ⟨_,rfl,G8y.sets (mP8 s)⟩
    ·go_simp;refine hK.out _ _ ?_ (fun hHeld=>?_)
     ·exact Nq.fcella G2 _
     clear hK K
     try simp only [Act.put,zA,zB,zC]
     have G2y:=Nq.toY mzz G2;refine zr1 (i:=5) rfl (fun K hK=>?_);go_simp;go_at_call 157;(with_reducible refine (KSy.out _ _ _ _ _ G2y).mono ?_);rintro q w3y ⟨rfl,G3y,c3y⟩
     try go_wp2_with fail
     refine hK.out _ _ c3y (fun hHeld=>?_);clear hK K
     try simp only [Act.put,zA,zB,zC]
     refine zr1 (i:=7) rfl (fun K hK=>?_);go_simp;go_at_call 83;(with_reducible refine (KFy.out _ _ _ _ _ _ G3y).mono ?_);rintro q w4y ⟨rfl,G4y,c4y⟩
     try go_wp2_with fail
     refine hK.out _ _ c4y (fun hHeld=>?_);clear hK K
     try simp only [Act.put,zA,zB,zC]
     refine zr1 (i:=9) rfl (fun K hK=>?_);go_simp;go_at_call 83;(with_reducible refine (KFy.out _ _ _ _ _ _ G4y).mono ?_);rintro q w5y ⟨rfl,G5y,c5y⟩
     try go_wp2_with fail
     refine hK.out _ _ c5y (fun hHeld=>?_);clear hK K
     try simp only [Act.put,zA,zB,zC]
     refine zr1 (i:=11) rfl (fun K hK=>?_);go_simp;go_at_call 83;(with_reducible refine (KFy.out _ _ _ _ _ _ G5y).mono ?_);rintro q w6y ⟨rfl,G6y,c6y⟩
     try go_wp2_with fail
     refine hK.out _ _ c6y (fun hHeld=>?_);clear hK K
     try simp only [Act.put,zA,zB,zC]
     refine zr1 (i:=13) rfl (fun K hK=>?_);go_simp;go_at_call 83;(with_reducible refine (KFy.out _ _ _ _ _ _ G6y).mono ?_);rintro q w7y ⟨rfl,G7y,c7y⟩
     try go_wp2_with fail
     refine hK.out _ _ c7y (fun hHeld=>?_);clear hK K
     try simp only [Act.put,zA,zB,zC]
     refine zr1 (i:=15) rfl (fun K hK=>?_);go_simp;go_at_call 83;(with_reducible refine (KFy.out _ _ _ _ _ _ G7y).mono ?_);rintro q w8y ⟨rfl,G8y,c8y⟩
     try go_wp2_with fail
     refine hK.out _ _ c8y (fun hHeld=>?_);clear hK K
     try simp only [Act.put,zA,zB,zC]
     refine ztk (v:=?vb2_16) (i:=16) rfl ?hyb2_16 ?restb2_16
     case hyb2_16=>(intro w hSw;(try dsimp only at hSw);go_simp;first|done|(with_reducible rfl))
     try simp only [Act.put,zA,zB,zC]
     obtain ⟨e0,e1,e2,e3,e4,e5,e6,e7,e8,e9,e10⟩:=zmzlf (w:=w8y) (b:=w2.heap.size) G8y.cell;have fz:=G8y.fz;refine zr1 (i:=18) rfl (fun K hK=>?_);go_simp;refine hK.out _ _ ?_ (fun hHeld=>?_)
     ·exact (G8y.sets (mP8 s)).q.fcell
     clear hK K
     try simp only [Act.put,zA,zB,zC]
     refine wpAnyH_done (by kernel_rfl) ?_ _;refine NoPanic.normal ?_
     go_wp2_with fail
     go_meet
     exact ⟨_,rfl,G8y.sets (mP8 s)⟩
   ·go_simp;refine hK.out _ _ ?_ (fun hHeld=>?_)
    ·exact Nq.fcella G1 _
    clear hK K
    try simp only [Act.put,zA,zB,zC]
    have G1y:=Nq.toY mzz G1;refine zr1 (i:=3) rfl (fun K hK=>?_);go_simp;go_at_call 157;(with_reducible refine (KSy.out _ _ _ _ _ G1y).mono ?_);rintro q w2y ⟨rfl,G2y,c2y⟩
    try go_wp2_with fail
    refine hK.out _ _ c2y (fun hHeld=>?_);clear hK K
    try simp only [Act.put,zA,zB,zC]
    refine zr1 (i:=5) rfl (fun K hK=>?_);go_simp;go_at_call 157;(with_reducible refine (KSy.out _ _ _ _ _ G2y).mono ?_);rintro q w3y ⟨rfl,G3y,c3y⟩
    try go_wp2_with fail
    refine hK.out _ _ c3y (fun hHeld=>?_);clear hK K
    try simp only [Act.put,zA,zB,zC]
    refine zr1 (i:=7) rfl (fun K hK=>?_);go_simp;go_at_call 83;(with_reducible refine (KFy.out _ _ _ _ _ _ G3y).mono ?_);rintro q w4y ⟨rfl,G4y,c4y⟩
    try go_wp2_with fail
    refine hK.out _ _ c4y (fun hHeld=>?_);clear hK K
    try simp only [Act.put,zA,zB,zC]
    refine zr1 (i:=9) rfl (fun K hK=>?_);go_simp;go_at_call 83;(with_reducible refine (KFy.out _ _ _ _ _ _ G4y).mono ?_);rintro q w5y ⟨rfl,G5y,c5y⟩
    try go_wp2_with fail
    refine hK.out _ _ c5y (fun hHeld=>?_);clear hK K
    try simp only [Act.put,zA,zB,zC]
    refine zr1 (i:=11) rfl (fun K hK=>?_);go_simp;go_at_call 83;(with_reducible refine (KFy.out _ _ _ _ _ _ G5y).mono ?_);rintro q w6y ⟨rfl,G6y,c6y⟩
    try go_wp2_with fail
    refine hK.out _ _ c6y (fun hHeld=>?_);clear hK K
    try simp only [Act.put,zA,zB,zC]
    refine zr1 (i:=13) rfl (fun K hK=>?_);go_simp;go_at_call 83;(with_reducible refine (KFy.out _ _ _ _ _ _ G6y).mono ?_);rintro q w7y ⟨rfl,G7y,c7y⟩
    try go_wp2_with fail
    refine hK.out _ _ c7y (fun hHeld=>?_);clear hK K
    try simp only [Act.put,zA,zB,zC]
    refine zr1 (i:=15) rfl (fun K hK=>?_);go_simp;go_at_call 83;(with_reducible refine (KFy.out _ _ _ _ _ _ G7y).mono ?_);rintro q w8y ⟨rfl,G8y,c8y⟩
    try go_wp2_with fail
    refine hK.out _ _ c8y (fun hHeld=>?_);clear hK K
    try simp only [Act.put,zA,zB,zC]
    refine ztk (v:=?vb1_16) (i:=16) rfl ?hyb1_16 ?restb1_16
    case hyb1_16=>(intro w hSw;(try dsimp only at hSw);go_simp;first|done|(with_reducible rfl))
    try simp only [Act.put,zA,zB,zC]
    obtain ⟨e0,e1,e2,e3,e4,e5,e6,e7,e8,e9,e10⟩:=zmzlf (w:=w8y) (b:=w1.heap.size) G8y.cell;have fz:=G8y.fz;refine zr1 (i:=18) rfl (fun K hK=>?_);go_simp;refine hK.out _ _ ?_ (fun hHeld=>?_)
    ·exact (G8y.sets (mP8 s)).q.fcell
    clear hK K
    try simp only [Act.put,zA,zB,zC]
    refine wpAnyH_done (by kernel_rfl) ?_ _;refine NoPanic.normal ?_
    go_wp2_with fail
    go_meet
    exact ⟨_,rfl,G8y.sets (mP8 s)⟩
  ·go_simp;refine hK.out _ _ ?_ (fun hHeld=>?_)
   ·exact Nq.fcella G0 _
   clear hK K
   try simp only [Act.put,zA,zB,zC]
   have G0y:=(Nq.toY mzz Gi).drew;refine zr1 (i:=1) rfl (fun K hK=>?_);go_simp;go_at_call 157;(with_reducible refine (KSy.out _ _ _ _ _ G0y).mono ?_);rintro q w1y ⟨rfl,G1y,c1y⟩
   try go_wp2_with fail
   refine hK.out _ _ c1y (fun hHeld=>?_);clear hK K
   try simp only [Act.put,zA,zB,zC]
   refine zr1 (i:=3) rfl (fun K hK=>?_);go_simp;go_at_call 157;(with_reducible refine (KSy.out _ _ _ _ _ G1y).mono ?_);rintro q w2y ⟨rfl,G2y,c2y⟩
   try go_wp2_with fail
   refine hK.out _ _ c2y (fun hHeld=>?_);clear hK K
   try simp only [Act.put,zA,zB,zC]
   refine zr1 (i:=5) rfl (fun K hK=>?_);go_simp;go_at_call 157;(with_reducible refine (KSy.out _ _ _ _ _ G2y).mono ?_);rintro q w3y ⟨rfl,G3y,c3y⟩
   try go_wp2_with fail
   refine hK.out _ _ c3y (fun hHeld=>?_);clear hK K
   try simp only [Act.put,zA,zB,zC]
   refine zr1 (i:=7) rfl (fun K hK=>?_);go_simp;go_at_call 83;(with_reducible refine (KFy.out _ _ _ _ _ _ G3y).mono ?_);rintro q w4y ⟨rfl,G4y,c4y⟩
   try go_wp2_with fail
   refine hK.out _ _ c4y (fun hHeld=>?_);clear hK K
   try simp only [Act.put,zA,zB,zC]
   refine zr1 (i:=9) rfl (fun K hK=>?_);go_simp;go_at_call 83;(with_reducible refine (KFy.out _ _ _ _ _ _ G4y).mono ?_);rintro q w5y ⟨rfl,G5y,c5y⟩
   try go_wp2_with fail
   refine hK.out _ _ c5y (fun hHeld=>?_);clear hK K
   try simp only [Act.put,zA,zB,zC]
   refine zr1 (i:=11) rfl (fun K hK=>?_);go_simp;go_at_call 83;(with_reducible refine (KFy.out _ _ _ _ _ _ G5y).mono ?_);rintro q w6y ⟨rfl,G6y,c6y⟩
   try go_wp2_with fail
   refine hK.out _ _ c6y (fun hHeld=>?_);clear hK K
   try simp only [Act.put,zA,zB,zC]
   refine zr1 (i:=13) rfl (fun K hK=>?_);go_simp;go_at_call 83;(with_reducible refine (KFy.out _ _ _ _ _ _ G6y).mono ?_);rintro q w7y ⟨rfl,G7y,c7y⟩
   try go_wp2_with fail
   refine hK.out _ _ c7y (fun hHeld=>?_);clear hK K
   try simp only [Act.put,zA,zB,zC]
   refine zr1 (i:=15) rfl (fun K hK=>?_);go_simp;go_at_call 83;(with_reducible refine (KFy.out _ _ _ _ _ _ G7y).mono ?_);rintro q w8y ⟨rfl,G8y,c8y⟩
   try go_wp2_with fail
   refine hK.out _ _ c8y (fun hHeld=>?_);clear hK K
   try simp only [Act.put,zA,zB,zC]
   refine ztk (v:=?vb0_16) (i:=16) rfl ?hyb0_16 ?restb0_16
   case hyb0_16=>(intro w hSw;(try dsimp only at hSw);go_simp;first|done|(with_reducible rfl))
   try simp only [Act.put,zA,zB,zC]
   obtain ⟨e0,e1,e2,e3,e4,e5,e6,e7,e8,e9,e10⟩:=zmzlf (w:=w8y) (b:=W0.heap.size) G8y.cell;have fz:=G8y.fz;refine zr1 (i:=18) rfl (fun K hK=>?_);go_simp;refine hK.out _ _ ?_ (fun hHeld=>?_)
   ·exact (G8y.sets (mP8 s)).q.fcell
   clear hK K
   try simp only [Act.put,zA,zB,zC]
   refine wpAnyH_done (by kernel_rfl) ?_ _;refine NoPanic.normal ?_
   go_wp2_with fail
   go_meet
   exact ⟨_,rfl,G8y.sets (mP8 s)⟩
 case rest =>
  obtain ⟨p,rfl,G⟩:=hcut;clear hmf G0 HW0 KS KF Gd c0;have hlg:=G.q.lg;obtain ⟨y,hy⟩:∃ y,y=mY s:=⟨_,rfl⟩;obtain ⟨yb,hyb⟩:∃ yb,yb=(mY s==1):=⟨_,rfl⟩;obtain ⟨nb,hnb⟩:∃ nb,nb=decide (1<mY s):=⟨_,rfl⟩
  have hq1:((y:Int)==1)=yb:=by
   rw [hyb,←hy,Bool.eq_iff_iff];simp only [beq_iff_eq];omega
  have hq2:((y:Int) != bitI yb)=nb:=by
   rw [hnb,hyb,←hy,Bool.eq_iff_iff];simp only [bne_iff_ne,ne_eq,decide_eq_true_eq]
   by_cases h1:y=1
   ·subst h1;simp [bitI]
   ·have e:(y==1)=false:=by simpa using h1
    rw [e]
    show ¬ (y:Int)=0↔_
    omega
  have K1:Hid (Calls Tryz.prog 157 #[.pointer (some ⟨w.heap.size+1,0,none⟩)] wc fun q w'=>q=.returned (.int .i64 y)∧Ny w g p (mP8 s) (Go.Proofs.YtpdbeijfchmlgaaGreat.u9 s) (mF8 s) w'):=by
   have eT:Go.Proofs.YtpdbeijfchmlgaaGreat.u9 s=fixT (Go.Proofs.YtpdbeijfchmlgaaGreat.u8 s) 1:=by unfold Go.Proofs.YtpdbeijfchmlgaaGreat.u9;rfl
   have eF:mF8 s=(fm8 s||!hasF (Go.Proofs.YtpdbeijfchmlgaaGreat.u8 s) 1):=by unfold mF8;rfl
   have eV:fixV (Go.Proofs.YtpdbeijfchmlgaaGreat.u8 s) 1=y:=by rw [hy];unfold mY;rfl
   rw [eT,eF];refine (KSy.out _ _ _ _ _ G).mono fun q w' ⟨h1,h2,_⟩=>⟨?_,h2⟩;rw [eV] at h1;exact h1
  have HP9:Hid (∀ W,Ny w g p (mP8 s) (Go.Proofs.YtpdbeijfchmlgaaGreat.u9 s) (mF8 s) W→Ny w g p (mP9 s) (Go.Proofs.YtpdbeijfchmlgaaGreat.u9 s) (mF8 s) (W.setCell ⟨p,8,none⟩ (.bool yb))):=fun W h=>h.set 8 _ (by rw [hyb];simp [mP9,mP8]);have HY:=zh hy;have HNB:=zh hnb;clear hy hyb hnb G
  go_upto_if 39 with (first
   | (go_at_call 157;(with_reducible refine K1.out.mono ?_);rintro q w1 ⟨rfl,G1⟩;have u8c:w1.cell? ⟨p,8,none⟩=some (.bool false):=G1.cell 8;have fz8:=G1.fz 8;have G2:=HP9.out _ G1)
   | (go_at_call 131;(with_reducible refine (bit63_any _ _).mono ?_);rintro q w2 ⟨rfl,rfl⟩))
  go_cut [7] from 39 to 41 (fun s7 wx=>s7=.int .i64 y∧Ny w g p (mP9 s) (mX9 s) (mF9 s) wx)
  case first =>
   cases nb with
   | true =>
     have KX:=zh (ny_fail w g p (mP9 s) (Go.Proofs.YtpdbeijfchmlgaaGreat.u9 s) (mF8 s) _ G2)
     have HE:Hid (∀ W,Ny w g p (mP9 s) ⟨#[]⟩ true W→Ny w g p (mP9 s) (mX9 s) (mF9 s) W):=by
      have h1:1<mY s:=of_decide_eq_true HNB.out.symm;intro W h;unfold mX9 mF9;rw [if_neg (by omega),decide_eq_true h1,Bool.or_true];exact h
     clear u8c fz8
     go_wp2_with (go_at_call 87;(with_reducible refine KX.out.mono ?_);rintro q w3 ⟨rfl,G3⟩)
     go_meet
     exact ⟨rfl,HE.out _ G3⟩
   | false =>
     have h1:¬ 1<mY s:=of_decide_eq_false HNB.out.symm
     have HE:Hid (Ny w g p (mP9 s) (mX9 s) (mF9 s) (w1.setCell ⟨p,8,none⟩ (.bool yb))):=by
      show Ny _ _ _ _ _ _ _
      unfold mX9 mF9;rw [if_pos (by omega),decide_eq_false h1,Bool.or_false];exact G2
     clear u8c fz8 h1
     go_wp2_with fail
     go_meet
     exact ⟨rfl,HE.out⟩
  case rest =>
   obtain ⟨rfl,G4⟩:=hcut;clear G1 G2 u8c fz8 hq1 hq2 HY HNB K1 HP9;obtain ⟨N,hN⟩:∃ N,N=rN s:=⟨_,rfl⟩;have hN2:N<256:=by rw [hN];exact fixV_lt (mX9 s) 1 (by omega)
   obtain ⟨P,hP⟩:∃ P,P=mP9 s:=⟨_,rfl⟩;obtain ⟨t0,ht0⟩:∃ t0,t0=r10 s:=⟨_,rfl⟩;obtain ⟨b0,hb0⟩:∃ b0,b0=mF10 s:=⟨_,rfl⟩;have hsane:Vi.Sane t0 b0:=by rw [ht0,hb0];exact sane_m10 s
   have K2:Hid (Calls Tryz.prog 157 #[.pointer (some ⟨w.heap.size+1,0,none⟩)] wc fun q w'=>q=.returned (.int .i64 N)∧Nr w g p (mKp P t0 0 none 0) t0 b0 w'):=by
    have eT:t0=fixT (mX9 s) 1:=by rw [ht0];unfold r10;rfl
    have eF:b0=(mF9 s||!hasF (mX9 s) 1):=by rw [hb0];unfold mF10;rfl
    have eV:fixV (mX9 s) 1=N:=by rw [hN];unfold rN;rfl
    have eP:mP9 s=mKp P t0 0 none 0:=by rw [hP];rfl
    refine (KSy.out _ _ _ _ _ G4).mono fun q w' ⟨h1,h2,_⟩=>⟨?_,?_⟩
    ·rw [eV] at h1;exact h1
    ·rw [←eT,←eF,eP] at h2;exact ⟨h2,World.ownsRow_nil _ _ _ _,rfl,by have:=h2.lp;omega⟩
   have HFIN:Hid (∀ A c W,Nr w g p (mKp P t0 N A c) (gTs N t0) (gFs b0 N t0) W→Nr w g p (mKp (mP9 s) (r10 s) (rN s) A c) (rG s) (mFG s) W):=by
    intro A c W h;rw [hP,ht0,hb0,hN] at h;unfold rG mFG;exact h
   have HSA:=zh hsane;clear hP ht0 hb0 hN hsane KSy G4;obtain ⟨i24,hi24,hz24,hs24,hb24⟩:=info_parts (show (Tryz.prog.info? 24).map (fun i=>(i.zero,i.size,i.bytes))=some (some (ev ezz),11,104) by kernel_rfl)
   go_wp2_with (go_at_call 157;(with_reducible refine K2.out.mono ?_);rintro q w5 ⟨rfl,R0⟩)
   go_loopw [44] (fun i wr=>∃ (k:Nat) (A:Option Addr) (c:Nat),k≤N∧i=.int .i64 k∧Nr w g p (mKp P t0 k A c) (gTs k t0) (gFs b0 k t0) wr) (fun i _=>N-(intOf i).toNat)
   case atStart=>exact ⟨0,none,0,Nat.zero_le _,rfl,R0⟩
   case round =>
    obtain ⟨k,A,c,hk,rfl,hr⟩:=hrel;clear R0
    by_cases hlt:k<N
    ·have t1:decide ((k:Int)<(N:Int))=true:=decide_eq_true (by omega);have hsk:=sane_gs k b0 t0 HSA.out;have KG:Hid (∀ W,Nr w g p (mKp P t0 k A c) (gTs k t0) (gFs b0 k t0) W→Calls Tryz.prog 39 #[.pointer (some ⟨g,0,none⟩)] W fun q w'=>q=.returned (ev (getE (gTs k t0)))∧Nr w g p (mKp P t0 k A c) (getT (gTs k t0)) (gFs b0 k t0||!getO (gTs k t0)) w'):=fun W h=>nr_get w g p _ _ _ W h hsk;obtain ⟨E,hE⟩:∃ E,E=getE (gTs k t0):=⟨_,rfl⟩;rw [←hE] at KG;have HE:=zh hE;obtain ⟨es,hes⟩:∃ es,es=gEs k t0:=⟨_,rfl⟩;have hME:Hid ((mKp P t0 k A c).es=es):=hes.symm;have HES:=zh hes;have xx9:wr.drew.cell? ⟨p,9,none⟩=some (.slice A k c):=hr.drew.y.cell 9;have HRD:=zh hr.drew;have hpl:p<wr.drew.heap.size:=hr.drew.gs;clear hE hsk hr hes
     go_upto_region 10 with fail
     go_region_law (first
      | (refine step_append_lies _ (by rfl) _ _ 27 (by rfl) (p+1) 24 i24 (ev ezz) 11 104 Tryz.underlying27 hi24 hz24 hs24 hb24 (by rfl) (by omega) (.slice A k c) k (flat es) (by rfl) (by exact HOW.out) ⟨w2.heap.size,0,none⟩ 1 1 (ec E).toList (by rfl) rfl (by exact HNEWS.out) (fun u hu=>by simp at hu;rcases hu with rfl|rfl|rfl|rfl|rfl|rfl|rfl|rfl|rfl|rfl|rfl<;>rfl) (by omega) (by unfold maxLen;omega) (by omega) (by exact HBS.out) (w2.heap.size+1) (by simp) ?_;intro g4 cap w4 hown4 hgrow hat hlt4;have z9:w4.cell? ⟨p,9,none⟩=some (.slice A k c):=World.grownBy.cell hgrow (by exact U9.out) (HNE.out);have g0:w4.frozen? ⟨p,9,none⟩=false:=(World.frozen?_of_block (hgrow.block _ (HGL.out) (HNE.out))).trans F9.out)
      | (go_simp;go_at_call 39;(with_reducible refine (KG.out _ HRD.out).mono ?_);rintro q w2 ⟨rfl,HC⟩;have HN2:Hid (Nr w g p (mKp P t0 k A c) (getT (gTs k t0)) (gFs b0 k t0||!getO (gTs k t0)) (w2.alloc (Obj.cells (ec E) 24))):=HC.below zba;have v9:w2.cell? ⟨p,9,none⟩=some (.slice A k c):=HC.y.cell 9;have U9:Hid ((w2.alloc (Obj.cells (ec E) 24)).cell? ⟨p,9,none⟩=some (.slice A k c)):=HN2.out.y.cell 9;have t9:=U9.out;have HOW:Hid ((w2.alloc (Obj.cells (ec E) 24)).ownsRow (p+1) 24 11 (.slice A k c) k (flat es)):=hME.out▸HN2.out.own;have HNEWS:Hid (∀ (i:Nat) u,(ec E).toList[i]?=some u→(w2.alloc (Obj.cells (ec E) 24)).cell? ((⟨w2.heap.size,0,none⟩:Addr).add i)=some u):=fun i u hu=>cell_new_list w2 (ec E).toList 24 i u hu;have HBS:Hid (p+1≤(w2.alloc (Obj.cells (ec E) 24)).heap.size):=HN2.out.gs;have HGL:Hid (p<(w2.alloc (Obj.cells (ec E) 24)).heap.size):=HN2.out.gs;have HNE:Hid (some p≠(Value.slice A k c).ownBlock):=(fun e=>absurd (HOW.out.lt _ e.symm).1 (by omega));have F9:Hid ((w2.alloc (Obj.cells (ec E) 24)).frozen? ⟨p,9,none⟩=false):=Md.of HN2.out.y.al;have HCC:=zh HC;clear HC))
     all_goals
      have HN3:=zh (nr_next HN2.out HE.out HES.out hown4 hgrow);clear HN2 hown4 hgrow hat hlt4 g0 z9 xx9 v9 t9 U9 HOW HNEWS HBS HGL HNE F9 HRD KG HCC hME hpl HE HES;go_wp2
      go_roundw
      case rel=>first|exact ⟨k+1,some ⟨g4,0,none⟩,cap,hlt,by go_num,HN3.out⟩|((repeat apply Exists.intro);exact ⟨⟨k+1,some ⟨g4,0,none⟩,cap,hlt,by go_num,HN3.out⟩,rfl⟩)
      case measure=>simp [intOf];omega
    ·have t1:decide ((k:Int)<(N:Int))=false:=decide_eq_false (by omega);have hkN:k=N:=by omega
     subst hkN;have R1:=HFIN.out _ _ _ hr;have R1d:Nr w g p (mKp (mP9 s) (r10 s) (rN s) A c) (rG s) (mFG s) wr:=R1;obtain ⟨Z,hZ⟩:∃ Z,Z=rZ s:=⟨_,rfl⟩
     have hZ2:Z<4294967296:=by
      have h:=fixV_lt (rG s) 4 (by omega);rw [show (256:Nat) ^ 4=4294967296 from by decide] at h;rw [hZ];exact h
     have hwz:IntKind.i64.wrap (Z:Int)=(Z:Int):=IntWalk.i64_in _ (by omega)
     have K3:Hid (Calls Tryz.prog 83 #[.pointer (some ⟨g,0,none⟩),.int .i64 4] wr fun q w'=>q=.returned (.int .u64 Z)∧Nr w g p (mKp (mP9 s) (r10 s) (rN s) A c) (fixT (rG s) 4) (mFG s||!hasF (rG s) 4) w'):=by
      have eV:fixV (rG s) 4=Z:=by rw [hZ];unfold rZ;rfl
      refine (nr_fix w g p _ _ _ 4 wr R1).mono fun q w' ⟨h1,h2⟩=>⟨?_,h2⟩;rw [eV] at h1;exact h1
     have K4:Hid (∀ W,Nr w g p (mKp (mP9 s) (r10 s) (rN s) A c) (fixT (rG s) 4) (mFG s||!hasF (rG s) 4) W→Calls Tryz.prog 84 #[.pointer (some ⟨g,0,none⟩),.int .i64 Z] W fun q w'=>q=.returned (.string (rS s))∧Nr w g p (mKp (mP9 s) (r10 s) (rN s) A c) (rT s) (mFR s) w'):=by
      intro W h;have eS:bytV (fixT (rG s) 4) (Z:Int)=rS s:=by rw [hZ];unfold rS;rfl
      have eT:bytT (fixT (rG s) 4) (Z:Int)=rT s:=by rw [hZ];unfold rT;rfl
      have eF:((mFG s||!hasF (rG s) 4)||!hasB (fixT (rG s) 4) (Z:Int))=mFR s:=by rw [hZ];unfold mFR;rfl
      refine (nr_byt w g p _ _ _ (Z:Int) W h).mono fun q w' ⟨h1,h2⟩=>?_;rw [eS] at h1;rw [eT,eF] at h2;exact ⟨h1,h2⟩
     have HSET:Hid (∀ W,Nr w g p (mKp (mP9 s) (r10 s) (rN s) A c) (rT s) (mFR s) W→Nr w g p (mRd s A c) (rT s) (mFR s) (W.setCell ⟨p,10,none⟩ (.string (rS s)))):=by
      intro W h;have h2:=nr_snap h (rS s);unfold mRd;exact h2
     have c5:wr.cell? ⟨w.heap.size+1,0,none⟩=some (.func (.func 83) #[.pointer (some ⟨g,0,none⟩)] #[]):=R1.y.q.fcell;clear hZ hZ2 hr R1 HFIN HSA
     go_upto_region 13 with (first
      | (go_at_call 83;(with_reducible refine K3.out.mono ?_);rintro q w6 ⟨rfl,R2⟩)
      | (go_at_call 84;(with_reducible refine (K4.out _ R2).mono ?_);rintro q w7 ⟨rfl,R3⟩;have u10c:w7.cell? ⟨p,10,none⟩=some (.string (mKp (mP9 s) (r10 s) (rN s) A c).snap):=R3.y.cell 10;have fz10:=R3.y.fz 10))
     have R4:=HSET.out _ R3;obtain ⟨W6,hW6⟩:∃ W6,W6=w7.setCell ⟨p,10,none⟩ (.string (rS s)):=⟨_,rfl⟩;rw [←hW6] at R4 ⊢;clear hW6 R2 R3 u10c fz10 K3 K4 HSET R1d c5 KFy KBy;obtain ⟨M,hM⟩:∃ M,M=mRd s A c:=⟨_,rfl⟩;have HMA:Hid (M.A=A∧M.n=rN s∧M.es=gEs (rN s) (r10 s)):=hM▸mRd_parts s A c;rw [←hM] at R4;have HM:=zh hM;clear hM;have p0:W6.cell? ⟨p,0,none⟩=some (.int .i64 M.kind):=R4.y.cell 0;have z0:W6.cell? ⟨w.heap.size,0,none⟩=some (.int .i64 0):=zcr W6 _ 0 _ 29 (0,0) R4.y.q.res;have p1:W6.cell? ⟨p,1,none⟩=some (.int .i64 M.frm):=R4.y.cell 1;have z1:W6.cell? ⟨w.heap.size,1,none⟩=some (.int .i64 0):=zcr W6 _ 1 _ 29 (0,0) R4.y.q.res;have p2:W6.cell? ⟨p,2,none⟩=some (.int .i64 M.dst):=R4.y.cell 2;have z2:W6.cell? ⟨w.heap.size,2,none⟩=some (.int .i64 0):=zcr W6 _ 2 _ 29 (0,0) R4.y.q.res;have p3:W6.cell? ⟨p,3,none⟩=some (.int .u64 M.term):=R4.y.cell 3;have z3:W6.cell? ⟨w.heap.size,3,none⟩=some (.int .u64 0):=zcr W6 _ 3 _ 29 (0,0) R4.y.q.res;have p4:W6.cell? ⟨p,4,none⟩=some (.int .u64 M.index):=R4.y.cell 4;have z4:W6.cell? ⟨w.heap.size,4,none⟩=some (.int .u64 0):=zcr W6 _ 4 _ 29 (0,0) R4.y.q.res;have p5:W6.cell? ⟨p,5,none⟩=some (.int .u64 M.prev):=R4.y.cell 5;have z5:W6.cell? ⟨w.heap.size,5,none⟩=some (.int .u64 0):=zcr W6 _ 5 _ 29 (0,0) R4.y.q.res;have p6:W6.cell? ⟨p,6,none⟩=some (.int .u64 M.commit):=R4.y.cell 6;have z6:W6.cell? ⟨w.heap.size,6,none⟩=some (.int .u64 0):=zcr W6 _ 6 _ 29 (0,0) R4.y.q.res;have p7:W6.cell? ⟨p,7,none⟩=some (.int .u64 M.mark):=R4.y.cell 7;have z7:W6.cell? ⟨w.heap.size,7,none⟩=some (.int .u64 0):=zcr W6 _ 7 _ 29 (0,0) R4.y.q.res;have p8:W6.cell? ⟨p,8,none⟩=some (.bool M.ok):=R4.y.cell 8;have z8:W6.cell? ⟨w.heap.size,8,none⟩=some (.bool false):=zcr W6 _ 8 _ 29 (0,0) R4.y.q.res;have p9:W6.cell? ⟨p,9,none⟩=some (.slice M.A M.n M.c):=R4.y.cell 9;have z9:W6.cell? ⟨w.heap.size,9,none⟩=some (.slice none 0 0):=zcr W6 _ 9 _ 29 (0,0) R4.y.q.res;have p10:W6.cell? ⟨p,10,none⟩=some (.string M.snap):=R4.y.cell 10;have z10:W6.cell? ⟨w.heap.size,10,none⟩=some (.string ⟨#[]⟩):=zcr W6 _ 10 _ 29 (0,0) R4.y.q.res;have fz:∀ i,W6.frozen? ⟨w.heap.size,i,none⟩=false:=fun i=>Md.of R4.y.q.res;go_wp2;obtain ⟨WF,hWF⟩:∃ WF,WF=wrm W6 w.heap.size M:=⟨_,rfl⟩;unfold wrm at hWF;rw [←hWF];have hblk:WF.heap[w.heap.size]?=some (.cells (mc M) 29 (0,0)):=by rw [hWF];exact store_allm M R4.y.q.res
     obtain ⟨f0,f1,f2,f3,f4,f5,f6,f7,f8,f9,f10⟩:=zmcl (w:=WF) (b:=w.heap.size) (e:=M) hblk;have hlp:=R4.y.lp;have hlg2:=R4.y.q.lg;refine bodyPost_ret (v:=mv M) (by simp [results,Tryz.results95,go_sem,f0,f1,f2,f3,f4,f5,f6,f7,f8,f9,f10]) rfl ⟨A,c,by rw [HM.out],?_,?_,by rw [hWF];exact rd_allm M R4.y.q.hr (by omega),by rw [hWF];exact gb_allm M R4.y.q.fr (Nat.le_refl _)⟩
     ·intro a ha;have h:=(R4.own.lt a.block (by rw [HMA.out.1,ha];rfl)).1;omega
     obtain ⟨m1,m2,m3⟩:=HMA.out;have ho:=own_allm (g:=w.heap.size) M R4.own (by omega);have hE:=ents_of_own ho R4.hl;rw [m1,m2,m3] at hE;rw [hWF];exact hE
end Go.Proofs.YtpdbeijfchmlgaaGreat
