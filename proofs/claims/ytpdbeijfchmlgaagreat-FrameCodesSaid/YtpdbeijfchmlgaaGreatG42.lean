/-
  FrameCodes: part G42.
  Conditions: named in each theorem.
-/
import Derived.Test.YtpdbeijfchmlgaaGreatZ0
import Derived.Test.YtpdbeijfchmlgaaGreatG19
import Derived.Test.YtpdbeijfchmlgaaGreatG39
set_option linter.unusedVariables false
set_option linter.unusedSimpArgs false
set_option maxHeartbeats 16000000
set_option maxRecDepth 100000
namespace Go.Proofs.YtpdbeijfchmlgaaGreat
open Go.RowKit
open Vi
structure Xq (w0:World) (g:Nat) (T:ByteArray) (b:Bool) (w:World):Prop where
 hr:Rd 72 g T b w
 fr:w0.grownBy w (some g)
 lg:g<w0.heap.size
 sz:T.size≤281474976710656
 sn:Vi.Sane T b
structure Xr (w0:World) (g p:Nat) (E:Ms) (T:ByteArray) (b:Bool) (w:World):Prop where
 q:Xq w0 g T b w
 al:w.heap[p]?=some (.cells (mc E) 29 (0,0))
 own:w.ownsRow (p+1) 24 11 (.slice E.A E.n E.c) E.n (flat E.es)
 hl:E.es.length=E.n
 lw:w0.heap.size≤p
section
variable {w0 w w1:World} {g p:Nat} {T T':ByteArray} {b b':Bool} {E E':Ms}
theorem Xq.step (h:Xq w0 g T b w) (hx:Rd 72 g T' b' w1) (hf:w.grownBy w1 (some g)) (hT:T'.size≤T.size) (hs:Vi.Sane T' b'):Xq w0 g T' b' w1 :=
 ⟨hx,h.fr.trans hf,h.lg,Nat.le_trans hT h.sz,hs⟩
theorem Xq.below (h:Xq w0 g T b w) (hb:Below w.heap.size w w1):Xq w0 g T b w1 :=
 ⟨h.hr.below hb h.hr.lt,gb_below h.fr hb,h.lg,h.sz,h.sn⟩
theorem Xr.gs (h:Xr w0 g p E T b w):p<w.heap.size:=(zgx h.al)
theorem Xr.cell (h:Xr w0 g p E T b w) (i:Nat):w.cell? ⟨p,i,none⟩=(mc E)[i]?:=zcr w _ i _ 29 (0,0) h.al
theorem Xr.fz (h:Xr w0 g p E T b w) (i:Nat):w.frozen? ⟨p,i,none⟩=false:=Md.of h.al
theorem Xr.step (h:Xr w0 g p E T b w) (hx:Rd 72 g T' b' w1) (hf:w.grownBy w1 (some g)) (hT:T'.size≤T.size) (hs:Vi.Sane T' b'):Xr w0 g p E T' b' w1:=by
 have h1:=h.q.lg;have h2:=h.lw;exact ⟨h.q.step hx hf hT hs,(hf.block _ h.gs (by simp;omega)).trans h.al,own_of_heap h.own fun k hk=>hf.block k (h.own.lt k hk).2 (fun e=>by have:=(h.own.lt k hk).1;injection e;omega),h.hl,h.lw⟩
theorem Xr.below (h:Xr w0 g p E T b w) (hb:Below w.heap.size w w1):Xr w0 g p E T b w1 :=
 ⟨h.q.below hb,(hb.block _ h.gs).trans h.al,own_of_heap h.own fun k hk=>hb.block k (h.own.lt k hk).2,h.hl,h.lw⟩
theorem Xr.drew (h:Xr w0 g p E T b w):Xr w0 g p E T b w.drew:=⟨⟨h.q.hr,gb_below h.q.fr (Below.refl _ _).drew,h.q.lg,h.q.sz,h.q.sn⟩,h.al,own_of_heap h.own fun _ _=>rfl,h.hl,h.lw⟩
theorem Xr.setY (h:Xr w0 g p E T b w) (i:Nat) (v:Value) (he:(mc E).setIfInBounds i v=mc E'):Xq w0 g T b (w.setCell ⟨p,i,none⟩ v)∧(w.setCell ⟨p,i,none⟩ v).heap[p]?=some (.cells (mc E') 29 (0,0)):=by
 have h1:=h.q.lg;have h2:=h.lw;refine ⟨⟨rd_set h.q.hr (by simp;omega),gb_set h.q.fr (by simp;omega),h.q.lg,h.q.sz,h.q.sn⟩,?_⟩;rw [←he];exact set_blk h.al i v
theorem xr_snap (h:Xr w0 g p E T b w) (v:ByteArray):Xr w0 g p { E with snap:=v } T b (w.setCell ⟨p,10,none⟩ (.string v)):=by
 obtain ⟨h1,h2⟩:=h.setY (E':={ E with snap:=v }) 10 (.string v) (mc_set10 _ _);exact ⟨h1,h2,ownsRow_setCell_below h.own (by simp) _,h.hl,h.lw⟩
theorem Xr.app {w2 w4:World} {e:En} {n g4 cap:Nat} (h:Xr w0 g p E T b w2) (hn:E.n=n) (hown:w4.ownsRow (p+1) 24 11 (.slice (some ⟨g4,0,none⟩) (n+1) cap) (n+1) (flat E.es++(ec e).toList)) (hgrow:w2.grownBy w4 (Value.slice E.A n E.c).ownBlock) :
 Xr w0 g p { E with A:=some ⟨g4,0,none⟩,n:=n+1,c:=cap,es:=E.es++[e] } T b (w4.setCell ⟨p,9,none⟩ (.slice (some ⟨g4,0,none⟩) (n+1) cap)):=by
 subst hn;have hg:=h.gs;have h1:=h.q.lg;have h2:=h.lw
 have hne:∀ k,k≤p→some k≠(Value.slice E.A E.n E.c).ownBlock:=fun k hk e=>by
  have:=(h.own.lt k e.symm).1
  omega
 have hbl:∀ k,k≤p→w4.heap[k]?=w2.heap[k]?:=fun k hk=>hgrow.block k (by omega) (hne k hk);have f:=h.q.fr;refine ⟨⟨rd_set ((hbl _ (by omega)).trans h.q.hr) (by simp;omega),gb_set ⟨hgrow.os.trans f.os,hgrow.tape.trans f.tape,hgrow.output.trans f.output,Nat.le_trans f.size hgrow.size,fun k hk hk2=>(hbl k (by omega)).trans (f.block k hk hk2)⟩ (by simp;omega),h1,h.q.sz,h.q.sn⟩,?_,?_,?_,h2⟩
 ·have h5:=set_blk ((hbl _ (Nat.le_refl _)).trans h.al) 9 (.slice (some ⟨g4,0,none⟩) (E.n+1) cap);rw [show (mc E).setIfInBounds 9 (.slice (some ⟨g4,0,none⟩) (E.n+1) cap)=mc { E with A:=some ⟨g4,0,none⟩,n:=E.n+1,c:=cap,es:=E.es++[e] } by simp] at h5;exact h5
 ·show World.ownsRow _ (p+1) 24 11 (.slice (some ⟨g4,0,none⟩) (E.n+1) cap) (E.n+1) (flat (E.es++[e]))
  rw [flat_snoc];exact ownsRow_setCell_below hown (by simp) _
 ·show (E.es++[e]).length=E.n+1
  rw [List.length_append,h.hl];rfl
end
theorem xr_next {w0 w2 w4:World} {g p k c g4 cap:Nat} {P:Ms} {t0:ByteArray} {b0:Bool} {A:Option Addr} {E:En} {es:List En} (h:Xr w0 g p (mKp P t0 k A c) (getT (gTs k t0)) (gFs b0 k t0||!getO (gTs k t0)) w2) (hE:E=getE (gTs k t0)) (hes:es=gEs k t0) (hown:w4.ownsRow (p+1) 24 11 (.slice (some ⟨g4,0,none⟩) (k+1) cap) (k+1) (flat es++(ec E).toList)) (hgrow:w2.grownBy w4 (Value.slice A k c).ownBlock) :
 Xr w0 g p (mKp P t0 (k+1) (some ⟨g4,0,none⟩) cap) (gTs (k+1) t0) (gFs b0 (k+1) t0) (w4.setCell ⟨p,9,none⟩ (.slice (some ⟨g4,0,none⟩) (k+1) cap)):=by
 subst hE hes;have h1:=h.app (E:=mKp P t0 k A c) (e:=getE (gTs k t0)) (n:=k) rfl hown hgrow;unfold mKp;rw [gEs_snoc,gTs_snoc,gFs_snoc];exact h1
section
variable (w0:World) (g p:Nat) (E:Ms) (T:ByteArray) (b:Bool) (k:Int) (w:World)
theorem xq_fix (h:Xq w0 g T b w) :
 Calls Tryz.prog 94 #[.pointer (some ⟨g,0,none⟩),.int .i64 k] w fun q w'=>q=.returned (.int .u64 (fixV T k))∧Xq w0 g (fixT T k) (b||!hasF T k) w' :=
 (rfixedr_any g T b k w h.hr h.sn h.sz).mono fun q w' ⟨h1,h2,h3⟩=>⟨h1,h.step h2 h3 (fixT_le T k) (Vi.sane_fix _ _ _ h.sn)⟩
theorem xr_fix (h:Xr w0 g p E T b w) :
 Calls Tryz.prog 94 #[.pointer (some ⟨g,0,none⟩),.int .i64 k] w fun q w'=>q=.returned (.int .u64 (fixV T k))∧Xr w0 g p E (fixT T k) (b||!hasF T k) w' :=
 (rfixedr_any g T b k w h.q.hr h.q.sn h.q.sz).mono fun q w' ⟨h1,h2,h3⟩=>⟨h1,h.step h2 h3 (fixT_le T k) (Vi.sane_fix _ _ _ h.q.sn)⟩
theorem xr_byt (h:Xr w0 g p E T b w) :
 Calls Tryz.prog 93 #[.pointer (some ⟨g,0,none⟩),.int .i64 k] w fun q w'=>q=.returned (.string (bytV T k))∧Xr w0 g p E (bytT T k) (b||!hasB T k) w' :=
 (rbytes_any g T b k w h.q.hr h.q.sn h.q.sz).mono fun q w' ⟨h1,h2,h3⟩=>⟨h1,h.step h2 h3 (bytT_le T k) (Vi.sane_byt _ _ _ h.q.sn)⟩
theorem xr_get (h:Xr w0 g p E T b w) :
 Calls Tryz.prog 44 #[.pointer (some ⟨g,0,none⟩)] w fun q w'=>q=.returned (ev (getE T))∧Xr w0 g p E (getT T) (b||!getO T) w' :=
 (rget_any g T b w h.q.hr h.q.sn h.q.sz).mono fun q w' ⟨h1,h2,h3⟩=>⟨h1,h.step h2 h3 (getT_le T) (sane_get h.q.sn).1⟩
end
theorem rgetM_any (s:ByteArray) (w:World) (hm:s.size≤140737488351232):Calls Tryz.prog 48 #[.string s] w (GMsg s w):=by
 obtain ⟨W0,hW0⟩:∃ W0,W0=w.alloc (Obj.cells (mc mzz) 29):=⟨_,rfl⟩;have k0:W0.heap[w.heap.size]?=some (.cells (mc mzz) 29 (0,0)):=by rw [hW0];exact heap_alloc_new w _
 have b0:Below w.heap.size w W0:=by rw [hW0];exact zba
 have s0:W0.heap.size=w.heap.size+1:=by rw [hW0];simp
 have KN:=zh (rnew2 s W0);have HM:=zh hm;have HW0:=zh hW0;have HK0:=zh k0;have HB0:=zh b0;have HS0:=zh s0;clear hW0 k0 b0 s0 hm;obtain ⟨i24,hi24,hz24,hs24,hb24⟩:=info_parts (show (Tryz.prog.info? 24).map (fun i=>(i.zero,i.size,i.bytes))=some (some (ev ezz),11,104) by kernel_rfl)
 go_enter Tryz.func48,Tryz.ntmps48
 go_wp2_with fail
 rw [←HW0.out];refine KN.out.mono ?_;rintro q w1 ⟨rfl,R1,b1,s1⟩;obtain ⟨g,hg⟩:∃ g,g=W0.heap.size:=⟨_,rfl⟩;rw [←hg] at R1 s1 ⊢;have HK1:Hid (w1.heap[w.heap.size]?=some (.cells (mc mzz) 29 (0,0))):=(b1.block _ (by have:=HS0.out;omega)).trans HK0.out;have HB1:Hid (Below w.heap.size w w1):=HB0.out.trans (b1.mono HB0.out.size);have X0:Xq w1 g s false w1:=⟨R1,World.grownBy.refl w1 _,by omega,by have:=HM.out;omega,fun h=>by cases h⟩;have HGW:Hid (g=w.heap.size+1∧w1.heap.size=w.heap.size+2):=by have:=HS0.out;exact ⟨by omega,by omega⟩
 clear R1 b1 s1 hg;obtain ⟨v0,hv0⟩:∃ v,v=fixV (s) 1:=⟨_,rfl⟩;obtain ⟨t1,ht1⟩:∃ t,t=u1 s:=⟨_,rfl⟩;obtain ⟨f1,hf1⟩:∃ f,f=(false||!hasF (s) 1):=⟨_,rfl⟩
 have K0:Hid (∀ W,Xq w1 g s false W→Calls Tryz.prog 94 #[.pointer (some ⟨g,0,none⟩),.int .i64 1] W fun q w'=>q=.returned (.int .u64 v0)∧Xq w1 g t1 f1 w'):=by
  intro W h
  skip
  refine (xq_fix w1 g _ _ 1 W h).mono fun q w' ⟨h1,h2⟩=>?_;rw [←hv0] at h1;rw [←hf1] at h2;exact ⟨h1,by rw [ht1];exact h2⟩
 have hw0:IntKind.i64.wrap (v0:Int)=(v0:Int):=by
  have h:=fv1 (s);exact IntWalk.i64_in _ (by omega)
 obtain ⟨v1,hv1⟩:∃ v,v=fixV (u1 s) 1:=⟨_,rfl⟩;obtain ⟨t2,ht2⟩:∃ t,t=u2 s:=⟨_,rfl⟩;obtain ⟨f2,hf2⟩:∃ f,f=(f1||!hasF (u1 s) 1):=⟨_,rfl⟩
 have K1:Hid (∀ W,Xq w1 g t1 f1 W→Calls Tryz.prog 94 #[.pointer (some ⟨g,0,none⟩),.int .i64 1] W fun q w'=>q=.returned (.int .u64 v1)∧Xq w1 g t2 f2 w'):=by
  intro W h;rw [ht1] at h;refine (xq_fix w1 g _ _ 1 W h).mono fun q w' ⟨h1,h2⟩=>?_;rw [←hv1] at h1;rw [←hf2] at h2;exact ⟨h1,by rw [ht2];exact h2⟩
 have hw1:IntKind.i64.wrap (v1:Int)=(v1:Int):=by
  have h:=fv1 (u1 s);exact IntWalk.i64_in _ (by omega)
 obtain ⟨v2,hv2⟩:∃ v,v=fixV (u2 s) 1:=⟨_,rfl⟩;obtain ⟨t3,ht3⟩:∃ t,t=u3 s:=⟨_,rfl⟩;obtain ⟨f3,hf3⟩:∃ f,f=(f2||!hasF (u2 s) 1):=⟨_,rfl⟩
 have K2:Hid (∀ W,Xq w1 g t2 f2 W→Calls Tryz.prog 94 #[.pointer (some ⟨g,0,none⟩),.int .i64 1] W fun q w'=>q=.returned (.int .u64 v2)∧Xq w1 g t3 f3 w'):=by
  intro W h;rw [ht2] at h;refine (xq_fix w1 g _ _ 1 W h).mono fun q w' ⟨h1,h2⟩=>?_;rw [←hv2] at h1;rw [←hf3] at h2;exact ⟨h1,by rw [ht3];exact h2⟩
 have hw2:IntKind.i64.wrap (v2:Int)=(v2:Int):=by
  have h:=fv1 (u2 s);exact IntWalk.i64_in _ (by omega)
 obtain ⟨v3,hv3⟩:∃ v,v=fixV (u3 s) 8:=⟨_,rfl⟩;obtain ⟨t4,ht4⟩:∃ t,t=u4 s:=⟨_,rfl⟩;obtain ⟨f4,hf4⟩:∃ f,f=(f3||!hasF (u3 s) 8):=⟨_,rfl⟩
 have K3:Hid (∀ W,Xq w1 g t3 f3 W→Calls Tryz.prog 94 #[.pointer (some ⟨g,0,none⟩),.int .i64 8] W fun q w'=>q=.returned (.int .u64 v3)∧Xq w1 g t4 f4 w'):=by
  intro W h;rw [ht3] at h;refine (xq_fix w1 g _ _ 8 W h).mono fun q w' ⟨h1,h2⟩=>?_;rw [←hv3] at h1;rw [←hf4] at h2;exact ⟨h1,by rw [ht4];exact h2⟩
 obtain ⟨v4,hv4⟩:∃ v,v=fixV (u4 s) 8:=⟨_,rfl⟩;obtain ⟨t5,ht5⟩:∃ t,t=u5 s:=⟨_,rfl⟩;obtain ⟨f5,hf5⟩:∃ f,f=(f4||!hasF (u4 s) 8):=⟨_,rfl⟩
 have K4:Hid (∀ W,Xq w1 g t4 f4 W→Calls Tryz.prog 94 #[.pointer (some ⟨g,0,none⟩),.int .i64 8] W fun q w'=>q=.returned (.int .u64 v4)∧Xq w1 g t5 f5 w'):=by
  intro W h;rw [ht4] at h;refine (xq_fix w1 g _ _ 8 W h).mono fun q w' ⟨h1,h2⟩=>?_;rw [←hv4] at h1;rw [←hf5] at h2;exact ⟨h1,by rw [ht5];exact h2⟩
 obtain ⟨v5,hv5⟩:∃ v,v=fixV (u5 s) 8:=⟨_,rfl⟩;obtain ⟨t6,ht6⟩:∃ t,t=u6 s:=⟨_,rfl⟩;obtain ⟨f6,hf6⟩:∃ f,f=(f5||!hasF (u5 s) 8):=⟨_,rfl⟩
 have K5:Hid (∀ W,Xq w1 g t5 f5 W→Calls Tryz.prog 94 #[.pointer (some ⟨g,0,none⟩),.int .i64 8] W fun q w'=>q=.returned (.int .u64 v5)∧Xq w1 g t6 f6 w'):=by
  intro W h;rw [ht5] at h;refine (xq_fix w1 g _ _ 8 W h).mono fun q w' ⟨h1,h2⟩=>?_;rw [←hv5] at h1;rw [←hf6] at h2;exact ⟨h1,by rw [ht6];exact h2⟩
 obtain ⟨v6,hv6⟩:∃ v,v=fixV (u6 s) 8:=⟨_,rfl⟩;obtain ⟨t7,ht7⟩:∃ t,t=u7 s:=⟨_,rfl⟩;obtain ⟨f7,hf7⟩:∃ f,f=(f6||!hasF (u6 s) 8):=⟨_,rfl⟩
 have K6:Hid (∀ W,Xq w1 g t6 f6 W→Calls Tryz.prog 94 #[.pointer (some ⟨g,0,none⟩),.int .i64 8] W fun q w'=>q=.returned (.int .u64 v6)∧Xq w1 g t7 f7 w'):=by
  intro W h;rw [ht6] at h;refine (xq_fix w1 g _ _ 8 W h).mono fun q w' ⟨h1,h2⟩=>?_;rw [←hv6] at h1;rw [←hf7] at h2;exact ⟨h1,by rw [ht7];exact h2⟩
 obtain ⟨v7,hv7⟩:∃ v,v=fixV (u7 s) 8:=⟨_,rfl⟩;obtain ⟨t8,ht8⟩:∃ t,t=u8 s:=⟨_,rfl⟩;obtain ⟨f8,hf8⟩:∃ f,f=(f7||!hasF (u7 s) 8):=⟨_,rfl⟩
 have K7:Hid (∀ W,Xq w1 g t7 f7 W→Calls Tryz.prog 94 #[.pointer (some ⟨g,0,none⟩),.int .i64 8] W fun q w'=>q=.returned (.int .u64 v7)∧Xq w1 g t8 f8 w'):=by
  intro W h;rw [ht7] at h;refine (xq_fix w1 g _ _ 8 W h).mono fun q w' ⟨h1,h2⟩=>?_;rw [←hv7] at h1;rw [←hf8] at h2;exact ⟨h1,by rw [ht8];exact h2⟩
 obtain ⟨v8,hv8⟩:∃ v,v=fixV (u8 s) 1:=⟨_,rfl⟩;obtain ⟨t9,ht9⟩:∃ t,t=u9 s:=⟨_,rfl⟩;obtain ⟨f9,hf9⟩:∃ f,f=(f8||!hasF (u8 s) 1):=⟨_,rfl⟩
 have K8:Hid (∀ W,Xq w1 g t8 f8 W→Calls Tryz.prog 94 #[.pointer (some ⟨g,0,none⟩),.int .i64 1] W fun q w'=>q=.returned (.int .u64 v8)∧Xq w1 g t9 f9 w'):=by
  intro W h;rw [ht8] at h;refine (xq_fix w1 g _ _ 1 W h).mono fun q w' ⟨h1,h2⟩=>?_;rw [←hv8] at h1;rw [←hf9] at h2;exact ⟨h1,by rw [ht9];exact h2⟩
 obtain ⟨yb,hyb⟩:∃ yb,yb=(mY s==1):=⟨_,rfl⟩
 have hq1:((v8:Int)==1)=yb:=by
  have e:mY s=v8:=by rw [hv8];rfl
  rw [hyb,e,Bool.eq_iff_iff];simp only [beq_iff_eq];omega
 have HMP:Hid (mP9 s=⟨v0,v1,v2,v3,v4,v5,v6,v7,yb,none,0,0,[],⟨#[]⟩⟩):=by
  show _=_
  rw [hv0,hv1,hv2,hv3,hv4,hv5,hv6,hv7,hyb];rfl
 have HF9:Hid (f9=mF8 s):=by
  show _=_
  rw [hf9,hf8,hf7,hf6,hf5,hf4,hf3,hf2,hf1];rfl
 have HT9:=zh ht9;clear hv0 hv1 hv2 hv3 hv4 hv5 hv6 hv7 hv8 ht1 hf1 ht2 hf2 ht3 hf3 ht4 hf4 ht5 hf5 ht6 hf6 ht7 hf7 ht8 hf8 ht9 hf9 hyb
 go_wp2_with (first
  | (go_at_call 94;(with_reducible refine (K0.out _ X0).mono ?_);rintro q x1 ⟨rfl,X1⟩)
  | (go_at_call 94;(with_reducible refine (K1.out _ X1).mono ?_);rintro q x2 ⟨rfl,X2⟩)
  | (go_at_call 94;(with_reducible refine (K2.out _ X2).mono ?_);rintro q x3 ⟨rfl,X3⟩)
  | (go_at_call 94;(with_reducible refine (K3.out _ X3).mono ?_);rintro q x4 ⟨rfl,X4⟩)
  | (go_at_call 94;(with_reducible refine (K4.out _ X4).mono ?_);rintro q x5 ⟨rfl,X5⟩)
  | (go_at_call 94;(with_reducible refine (K5.out _ X5).mono ?_);rintro q x6 ⟨rfl,X6⟩)
  | (go_at_call 94;(with_reducible refine (K6.out _ X6).mono ?_);rintro q x7 ⟨rfl,X7⟩)
  | (go_at_call 94;(with_reducible refine (K7.out _ X7).mono ?_);rintro q x8 ⟨rfl,X8⟩)
  | (go_at_call 94;(with_reducible refine (K8.out _ X8).mono ?_);rintro q x9 ⟨rfl,X9⟩))
 have XR0:Xr w1 g x9.heap.size ⟨v0,v1,v2,v3,v4,v5,v6,v7,yb,none,0,0,[],⟨#[]⟩⟩ t9 f9 (x9.alloc (Obj.cells (mc ⟨v0,v1,v2,v3,v4,v5,v6,v7,yb,none,0,0,[],⟨#[]⟩⟩) 29)) :=
  ⟨X9.below zba,heap_alloc_new x9 _,World.ownsRow_nil _ _ _ _,rfl,X9.fr.size⟩
 obtain ⟨P,hP⟩:∃ P:Ms,P=⟨v0,v1,v2,v3,v4,v5,v6,v7,yb,none,0,0,[],⟨#[]⟩⟩:=⟨_,rfl⟩;obtain ⟨p,hp⟩:∃ p,p=x9.heap.size:=⟨_,rfl⟩;have HPS:Hid (P=mP9 s):=hP.trans HMP.out.symm;obtain ⟨N,hN⟩:∃ N,N=mN s:=⟨_,rfl⟩;obtain ⟨t10,ht10⟩:∃ t,t=u10 s:=⟨_,rfl⟩;obtain ⟨f10,hf10⟩:∃ f,f=qF10 s:=⟨_,rfl⟩;have hN2:N<256:=by rw [hN];exact mN_lt s
 have K9:Hid (∀ W,Xr w1 g p P t9 f9 W→Calls Tryz.prog 94 #[.pointer (some ⟨g,0,none⟩),.int .i64 1] W fun q w'=>q=.returned (.int .u64 N)∧Xr w1 g p (mKp P t10 0 none 0) t10 f10 w'):=by
  intro W h;rw [HT9.out,HF9.out] at h;have eN:fixV (u9 s) 1=N:=by rw [hN];unfold mN;rfl
  have eT:fixT (u9 s) 1=t10:=by rw [ht10];unfold u10;rfl
  have eF:(mF8 s||!hasF (u9 s) 1)=f10:=by rw [hf10];unfold qF10;rfl
  refine (xr_fix w1 g p P _ _ 1 W h).mono fun q w' ⟨h1,h2⟩=>?_;rw [eN] at h1;rw [eT,eF] at h2;refine ⟨h1,?_⟩;have eP:mKp P t10 0 none 0=P:=by rw [hP];rfl
  rw [eP];exact h2
 have HN:=zh hN;have HT10:=zh ht10;have HF10:=zh hf10;have hwN:IntKind.i64.wrap (N:Int)=(N:Int):=IntWalk.i64_in _ (by omega);rw [←hP,←hp] at XR0;have XX:=K9.out _ XR0;rw [hP] at XX;clear hN ht10 hf10 XR0 K0 X0 K1 X1 K2 X2 K3 X3 K4 X4 K5 X5 K6 X6 K7 X7 K8 X8 X9 HT9 HF9 K9;refine XX.mono ?_;clear XX;rintro q w2 ⟨rfl,R0⟩;rw [←hP] at R0;rw [←hp]
 have HB2:Hid (∀ W,w1.grownBy W (some g)→Below w.heap.size w W∧W.heap[w.heap.size]?=some (.cells (mc mzz) 29 (0,0))):=by
  intro W hW;have h1:=HGW.out.1;exact ⟨HB1.out.grown hW HB1.out.size (fun k hk=>by injection hk with hk;omega),(hW.block _ (zgx HK1.out) (by simp;omega)).trans HK1.out⟩
 have HPP:Hid (w.heap.size+1<p):=by have h1:=HGW.out.2;have h2:=R0.lw;show _<_;omega
 clear hP hp HMP hq1 hw0 hw1 hw2
 go_wp2_with fail
 go_loopw [7] (fun i wr=>∃ (k:Nat) (A:Option Addr) (c:Nat),k≤N∧i=.int .i64 k∧Xr w1 g p (mKp P t10 k A c) (gTs k t10) (gFs f10 k t10) wr) (fun i _=>N-(intOf i).toNat)
 case atStart=>exact ⟨0,none,0,Nat.zero_le _,rfl,R0⟩
 case round =>
  obtain ⟨k,A,c,hk,rfl,hr⟩:=hrel;clear R0
  have HFACT:Hid ((k=N∨gFs f10 k t10=true)→qM s k A c={ mKp P t10 k A c with snap:=bytV (fixT (gTs k t10) 4) (fixV (gTs k t10) 4) }∧(qM s k A c).Wide∧(!((gFs f10 k t10||!hasF (gTs k t10) 4)||!hasB (fixT (gTs k t10) 4) (fixV (gTs k t10) 4))&&(mmayB (qM s k A c)&&decide (nums (putM (qM s k A c))=nums s)))=gok s∧(gok s=true→qM s k A c=mPrs s A c)):=by
   intro h;rw [HF10.out,HT10.out,HN.out] at h;have hk2:k≤mN s:=by rw [←HN.out];exact hk
   have h2:=rgm_iff s k A c HM.out hk2 h;refine ⟨?_,qM_wide s k A c hk2 HM.out,?_,h2.2⟩
   ·rw [HPS.out,HT10.out];unfold qM qS qZ qT;rfl
   ·rw [HT10.out,HF10.out];exact h2.1
  obtain ⟨bq,hbq⟩:∃ bq,bq=gFs f10 k t10:=⟨_,rfl⟩;rw [←hbq] at HFACT;have HR:=zh hr;have cg1:wr.cell? ⟨g,1,none⟩=some (.bool bq):=by rw [hbq];exact zcr wr g 1 _ 72 (0,0) hr.q.hr
  have HBQ:=zh hbq;clear hbq hr
  by_cases hlt:k<N
  ·have t1:decide ((k:Int)<(N:Int))=true:=decide_eq_true (by omega)
   cases bq with
   | false =>
     have KG:Hid (∀ W,Xr w1 g p (mKp P t10 k A c) (gTs k t10) (gFs f10 k t10) W→Calls Tryz.prog 44 #[.pointer (some ⟨g,0,none⟩)] W fun q w'=>q=.returned (ev (getE (gTs k t10)))∧Xr w1 g p (mKp P t10 k A c) (getT (gTs k t10)) (gFs f10 k t10||!getO (gTs k t10)) w'):=fun W h=>xr_get w1 g p _ _ _ W h;obtain ⟨E,hE⟩:∃ E,E=getE (gTs k t10):=⟨_,rfl⟩;rw [←hE] at KG;have HE:=zh hE;obtain ⟨es,hes⟩:∃ es,es=gEs k t10:=⟨_,rfl⟩;have hME:Hid ((mKp P t10 k A c).es=es):=hes.symm;have HES:=zh hes;have xx9:wr.drew.cell? ⟨p,9,none⟩=some (.slice A k c):=HR.out.drew.cell 9;have HRD:=zh HR.out.drew;have hpl:p<wr.drew.heap.size:=HR.out.drew.gs;clear hE hes HFACT HR HBQ
     go_upto_region 7 with fail
     go_region_law (first
      | (refine step_append_lies _ (by rfl) _ _ 27 (by rfl) (p+1) 24 i24 (ev ezz) 11 104 Tryz.underlying27 hi24 hz24 hs24 hb24 (by rfl) (by omega) (.slice A k c) k (flat es) (by rfl) (by exact HOW.out) ⟨w3.heap.size,0,none⟩ 1 1 (ec E).toList (by rfl) rfl (by exact HNEWS.out) (fun u hu=>by simp at hu;rcases hu with rfl|rfl|rfl|rfl|rfl|rfl|rfl|rfl|rfl|rfl|rfl<;>rfl) (by omega) (by unfold maxLen;omega) (by omega) (by exact HBS.out) (w3.heap.size+1) (by simp) ?_;intro g4 cap w4 hown4 hgrow hat hlt4;have z9:w4.cell? ⟨p,9,none⟩=some (.slice A k c):=World.grownBy.cell hgrow (by exact U9.out) (HNE.out);have g0:w4.frozen? ⟨p,9,none⟩=false:=(World.frozen?_of_block (hgrow.block _ (HGL.out) (HNE.out))).trans F9.out)
      | (go_simp;go_at_call 44;(with_reducible refine (KG.out _ HRD.out).mono ?_);rintro q w3 ⟨rfl,HC⟩;have HN2:Hid (Xr w1 g p (mKp P t10 k A c) (getT (gTs k t10)) (gFs f10 k t10||!getO (gTs k t10)) (w3.alloc (Obj.cells (ec E) 24))):=HC.below zba;have v9:w3.cell? ⟨p,9,none⟩=some (.slice A k c):=HC.cell 9;have U9:Hid ((w3.alloc (Obj.cells (ec E) 24)).cell? ⟨p,9,none⟩=some (.slice A k c)):=HN2.out.cell 9;have t9:=U9.out;have HOW:Hid ((w3.alloc (Obj.cells (ec E) 24)).ownsRow (p+1) 24 11 (.slice A k c) k (flat es)):=hME.out▸HN2.out.own;have HNEWS:Hid (∀ (i:Nat) u,(ec E).toList[i]?=some u→(w3.alloc (Obj.cells (ec E) 24)).cell? ((⟨w3.heap.size,0,none⟩:Addr).add i)=some u):=fun i u hu=>cell_new_list w3 (ec E).toList 24 i u hu;have HBS:Hid (p+1≤(w3.alloc (Obj.cells (ec E) 24)).heap.size):=HN2.out.gs;have HGL:Hid (p<(w3.alloc (Obj.cells (ec E) 24)).heap.size):=HN2.out.gs;have HNE:Hid (some p≠(Value.slice A k c).ownBlock):=(fun e=>absurd (HOW.out.lt _ e.symm).1 (by omega));have F9:Hid ((w3.alloc (Obj.cells (ec E) 24)).frozen? ⟨p,9,none⟩=false):=Md.of HN2.out.al;clear HC))
     all_goals
      have HN3:=zh (xr_next HN2.out HE.out HES.out hown4 hgrow);clear HN2 hown4 hgrow hat hlt4 g0 z9 xx9 v9 t9 U9 HOW HNEWS HBS HGL HNE F9 HRD KG hME hpl HE HES cg1;go_wp2
      go_roundw
      case rel=>first|exact ⟨k+1,some ⟨g4,0,none⟩,cap,hlt,by go_num,HN3.out⟩|((repeat apply Exists.intro);exact ⟨⟨k+1,some ⟨g4,0,none⟩,cap,hlt,by go_num,HN3.out⟩,rfl⟩)
      case measure=>simp [intOf];omega
   | true =>
     have HX:=zh (HFACT.out (.inr rfl));obtain ⟨Z,hZ⟩:∃ Z,Z=fixV (gTs k t10) 4:=⟨_,rfl⟩
     have hZ2:Z<4294967296:=by
      have h:=fixV_lt (gTs k t10) 4 (by omega);rw [show (256:Nat) ^ 4=4294967296 from by decide] at h;rw [hZ];exact h
     have hwz:IntKind.i64.wrap (Z:Int)=(Z:Int):=IntWalk.i64_in _ (by omega);obtain ⟨T4,hT4⟩:∃ T4,T4=fixT (gTs k t10) 4:=⟨_,rfl⟩;obtain ⟨f4,hf4⟩:∃ f4,f4=(true||!hasF (gTs k t10) 4):=⟨_,rfl⟩;obtain ⟨sn,hsn⟩:∃ sn,sn=bytV T4 (Z:Int):=⟨_,rfl⟩;obtain ⟨T5,hT5⟩:∃ T5,T5=bytT T4 (Z:Int):=⟨_,rfl⟩;obtain ⟨b5,hb5⟩:∃ b5,b5=(f4||!hasB T4 (Z:Int)):=⟨_,rfl⟩;obtain ⟨D,hD⟩:∃ D,D=mKp P t10 k A c:=⟨_,rfl⟩;obtain ⟨hx1,hx2,hx3,hx4⟩:=HX.out;rw [←hZ,←hT4,←hsn,←hD] at hx1;rw [←hZ,←hT4,←hf4,←hb5] at hx3;obtain ⟨M,hM⟩:∃ M,M=qM s k A c:=⟨_,rfl⟩;rw [←hM] at hx1 hx2 hx3 hx4;have HMD:Hid (M={ D with snap:=sn }):=hx1;have HWD:=zh hx2;have HPR:=zh hx4;obtain ⟨mb,hmb⟩:∃ mb,mb=mmayB M:=⟨_,rfl⟩;obtain ⟨PM,hPM⟩:∃ PM,PM=putM M:=⟨_,rfl⟩;rw [←hmb,←hPM,←beq_nums] at hx3;obtain ⟨te,hte⟩:∃ te,te=(PM.toList==s.toList):=⟨_,rfl⟩;rw [←hte] at hx3;have hte2:(PM.toList==s.toList)=te:=hte.symm;have HGK:=zh hx3;have hXw:Xr w1 g p D (gTs k t10) true wr:=by have h:=HR.out;rw [←HBQ.out,←hD] at h;exact h
     have K1:Hid (Calls Tryz.prog 94 #[.pointer (some ⟨g,0,none⟩),.int .i64 4] wr fun q w'=>q=.returned (.int .u64 Z)∧Xr w1 g p D T4 f4 w'):=by
      refine (xr_fix w1 g p _ _ _ 4 wr hXw).mono fun q w' ⟨h1,h2⟩=>?_;rw [←hZ] at h1;rw [←hT4,←hf4] at h2;exact ⟨h1,h2⟩
     have K2:Hid (∀ W,Xr w1 g p D T4 f4 W→Calls Tryz.prog 93 #[.pointer (some ⟨g,0,none⟩),.int .i64 Z] W fun q w'=>q=.returned (.string sn)∧Xr w1 g p D T5 b5 w'):=by
      intro W h;refine (xr_byt w1 g p _ _ _ (Z:Int) W h).mono fun q w' ⟨h1,h2⟩=>?_;rw [←hsn] at h1;rw [←hT5,←hb5] at h2;exact ⟨h1,h2⟩
     have K3:Hid (∀ W,Xr w1 g p M T5 b5 W→Calls Tryz.prog 35 #[mv M] W fun q w'=>q=.returned (.tuple #[.string PM,.bool mb])∧Below W.heap.size W w'):=by
      intro W h;refine (rputM_any M W (ents_of_own h.own h.hl) HWD.out).mono fun q w' ⟨h1,h2⟩=>?_;rw [←hPM,←hmb] at h1;exact ⟨h1,h2⟩
     clear HX HFACT hx1 hx2 hx3 hx4 hZ hT4 hf4 hsn hT5 hb5 hM hmb hPM hte hD hXw HR HBQ
     go_wp2_with fail
     refine K1.out.mono ?_;rintro q w3 ⟨rfl,R3⟩
     go_wp2_with fail
     refine (K2.out _ R3).mono ?_;rintro q w4 ⟨rfl,R4⟩;have cs10:w4.cell? ⟨p,10,none⟩=some (.string D.snap):=R4.cell 10;have fs10:=R4.fz 10;obtain ⟨W5,hW5⟩:∃ W5,W5=w4.setCell ⟨p,10,none⟩ (.string sn):=⟨_,rfl⟩;have R5:Xr w1 g p M T5 b5 W5:=by rw [HMD.out,hW5];exact xr_snap R4 sn
     have HW5:=zh hW5;have HR5:=zh R5;obtain ⟨m0,m1,m2,m3,m4,m5,m6,m7,m8,m9,m10⟩:=zmclf (w:=W5) (b:=p) (e:=M) R5.cell;clear hW5 R3 R4 R5 K1 K2 cg1
     go_upto_region 9 with fail
     rw [←HW5.out];clear cs10 fs10 HW5
     go_wp2_with fail
     refine (K3.out _ HR5.out).mono ?_;rintro q w6 ⟨rfl,hb6⟩;have HX6:=zh (HR5.out.below hb6);have cg2:w6.cell? ⟨g,1,none⟩=some (.bool b5):=zcr w6 g 1 _ 72 (0,0) HX6.out.q.hr;clear hb6 HR5 K3 m0 m1 m2 m3 m4 m5 m6 m7 m8 m9 m10
     cases b5 with
     | true =>
       have HOK:Hid (gok s=false):=HGK.out.symm;clear HGK;have hgr:=HB2.out w6 HX6.out.q.fr;obtain ⟨z0,z1,z2,z3,z4,z5,z6,z7,z8,z9,z10⟩:=zmzl (w:=w6) (b:=w.heap.size) hgr.2;have fz:∀ i,w6.frozen? ⟨w.heap.size,i,none⟩=false:=fun i=>Md.of hgr.2;obtain ⟨WF,hWF⟩:∃ WF,WF=wrm w6 w.heap.size mzz:=⟨_,rfl⟩;have hblk:WF.heap[w.heap.size]?=some (.cells (mc mzz) 29 (0,0)):=by rw [hWF];exact store_allm mzz hgr.2
       have HBF:Hid (Below w.heap.size w WF):=by rw [hWF];exact below_allm mzz hgr.1 (Nat.le_refl _)
       have HBK:=zh hblk;have HWF:=zh hWF;clear hgr hblk hWF;go_wp2;have hWF:=HWF.out;unfold wrm at hWF;rw [←hWF];obtain ⟨f0,f1,f2,f3,f4,f5,f6,f7,f8,f9,f10⟩:=zmzl (w:=WF) (b:=w.heap.size) HBK.out;exact bodyPost_ret (v:=.tuple #[mv mzz,.bool false]) (by simp [results,Tryz.results48,go_sem,f0,f1,f2,f3,f4,f5,f6,f7,f8,f9,f10]) rfl (gmsg_no HOK.out HBF.out)
     | false =>
       cases mb with
       | false =>
         have HOK:Hid (gok s=false):=HGK.out.symm;clear HGK;have hgr:=HB2.out w6 HX6.out.q.fr;obtain ⟨z0,z1,z2,z3,z4,z5,z6,z7,z8,z9,z10⟩:=zmzl (w:=w6) (b:=w.heap.size) hgr.2;have fz:∀ i,w6.frozen? ⟨w.heap.size,i,none⟩=false:=fun i=>Md.of hgr.2;obtain ⟨WF,hWF⟩:∃ WF,WF=wrm w6 w.heap.size mzz:=⟨_,rfl⟩;have hblk:WF.heap[w.heap.size]?=some (.cells (mc mzz) 29 (0,0)):=by rw [hWF];exact store_allm mzz hgr.2
         have HBF:Hid (Below w.heap.size w WF):=by rw [hWF];exact below_allm mzz hgr.1 (Nat.le_refl _)
         have HBK:=zh hblk;have HWF:=zh hWF;clear hgr hblk hWF;go_wp2;have hWF:=HWF.out;unfold wrm at hWF;rw [←hWF];obtain ⟨f0,f1,f2,f3,f4,f5,f6,f7,f8,f9,f10⟩:=zmzl (w:=WF) (b:=w.heap.size) HBK.out;exact bodyPost_ret (v:=.tuple #[mv mzz,.bool false]) (by simp [results,Tryz.results48,go_sem,f0,f1,f2,f3,f4,f5,f6,f7,f8,f9,f10]) rfl (gmsg_no HOK.out HBF.out)
       | true =>
         cases te with
         | false =>
           have HOK:Hid (gok s=false):=HGK.out.symm;clear HGK;have hgr:=HB2.out w6 HX6.out.q.fr;obtain ⟨z0,z1,z2,z3,z4,z5,z6,z7,z8,z9,z10⟩:=zmzl (w:=w6) (b:=w.heap.size) hgr.2;have fz:∀ i,w6.frozen? ⟨w.heap.size,i,none⟩=false:=fun i=>Md.of hgr.2;obtain ⟨WF,hWF⟩:∃ WF,WF=wrm w6 w.heap.size mzz:=⟨_,rfl⟩;have hblk:WF.heap[w.heap.size]?=some (.cells (mc mzz) 29 (0,0)):=by rw [hWF];exact store_allm mzz hgr.2
           have HBF:Hid (Below w.heap.size w WF):=by rw [hWF];exact below_allm mzz hgr.1 (Nat.le_refl _)
           have HBK:=zh hblk;have HWF:=zh hWF;clear hgr hblk hWF;go_wp2;have hWF:=HWF.out;unfold wrm at hWF;rw [←hWF];obtain ⟨f0,f1,f2,f3,f4,f5,f6,f7,f8,f9,f10⟩:=zmzl (w:=WF) (b:=w.heap.size) HBK.out;exact bodyPost_ret (v:=.tuple #[mv mzz,.bool false]) (by simp [results,Tryz.results48,go_sem,f0,f1,f2,f3,f4,f5,f6,f7,f8,f9,f10]) rfl (gmsg_no HOK.out HBF.out)
         | true =>
           have HOK:Hid (gok s=true):=HGK.out.symm;clear HGK;have hgr:=HB2.out w6 HX6.out.q.fr;obtain ⟨z0,z1,z2,z3,z4,z5,z6,z7,z8,z9,z10⟩:=zmzl (w:=w6) (b:=w.heap.size) hgr.2;obtain ⟨m0,m1,m2,m3,m4,m5,m6,m7,m8,m9,m10⟩:=zmclf (w:=w6) (b:=p) (e:=M) HX6.out.cell;have fz:∀ i,w6.frozen? ⟨w.heap.size,i,none⟩=false:=fun i=>Md.of hgr.2;obtain ⟨WF,hWF⟩:∃ WF,WF=wrm w6 w.heap.size M:=⟨_,rfl⟩;have hblk:WF.heap[w.heap.size]?=some (.cells (mc M) 29 (0,0)):=by rw [hWF];exact store_allm M hgr.2
           have HBF:Hid (Below w.heap.size w WF):=by rw [hWF];exact below_allm M hgr.1 (Nat.le_refl _)
           have HEF:Hid (Ents WF.heap.size M.A M.n M.es WF):=by
            have h1:=ents_of_own HX6.out.own HX6.out.hl;have h2:=ents_wrm2 (g:=w.heap.size) M h1 (fun a ha=>by have h3:=(HX6.out.own.lt a.block (by rw [ha];rfl)).1;have h4:=HPP.out;omega);have hz:=size_wrm w6 w.heap.size M;rw [←hz,←hWF] at h2;exact h2
           have HBK:=zh hblk;have HWF:=zh hWF;clear hgr hblk hWF;go_wp2;have hWF:=HWF.out;unfold wrm at hWF;rw [←hWF];obtain ⟨f0,f1,f2,f3,f4,f5,f6,f7,f8,f9,f10⟩:=zmcl (w:=WF) (b:=w.heap.size) (e:=M) HBK.out;exact bodyPost_ret (v:=.tuple #[mv M,.bool true]) (by simp [results,Tryz.results48,go_sem,f0,f1,f2,f3,f4,f5,f6,f7,f8,f9,f10]) rfl ⟨M,by rw [HOK.out],HEF.out,HWD.out,HBF.out,fun h=>⟨A,c,HPR.out h⟩,fun h=>by rw [HOK.out] at h;cases h⟩
  ·have t1:decide ((k:Int)<(N:Int))=false:=decide_eq_false (by omega);have HX:=zh (HFACT.out (.inl (by omega)));obtain ⟨Z,hZ⟩:∃ Z,Z=fixV (gTs k t10) 4:=⟨_,rfl⟩
   have hZ2:Z<4294967296:=by
    have h:=fixV_lt (gTs k t10) 4 (by omega);rw [show (256:Nat) ^ 4=4294967296 from by decide] at h;rw [hZ];exact h
   have hwz:IntKind.i64.wrap (Z:Int)=(Z:Int):=IntWalk.i64_in _ (by omega);obtain ⟨T4,hT4⟩:∃ T4,T4=fixT (gTs k t10) 4:=⟨_,rfl⟩;obtain ⟨f4,hf4⟩:∃ f4,f4=(bq||!hasF (gTs k t10) 4):=⟨_,rfl⟩;obtain ⟨sn,hsn⟩:∃ sn,sn=bytV T4 (Z:Int):=⟨_,rfl⟩;obtain ⟨T5,hT5⟩:∃ T5,T5=bytT T4 (Z:Int):=⟨_,rfl⟩;obtain ⟨b5,hb5⟩:∃ b5,b5=(f4||!hasB T4 (Z:Int)):=⟨_,rfl⟩;obtain ⟨D,hD⟩:∃ D,D=mKp P t10 k A c:=⟨_,rfl⟩;obtain ⟨hx1,hx2,hx3,hx4⟩:=HX.out;rw [←hZ,←hT4,←hsn,←hD] at hx1;rw [←hZ,←hT4,←hf4,←hb5] at hx3;obtain ⟨M,hM⟩:∃ M,M=qM s k A c:=⟨_,rfl⟩;rw [←hM] at hx1 hx2 hx3 hx4;have HMD:Hid (M={ D with snap:=sn }):=hx1;have HWD:=zh hx2;have HPR:=zh hx4;obtain ⟨mb,hmb⟩:∃ mb,mb=mmayB M:=⟨_,rfl⟩;obtain ⟨PM,hPM⟩:∃ PM,PM=putM M:=⟨_,rfl⟩;rw [←hmb,←hPM,←beq_nums] at hx3;obtain ⟨te,hte⟩:∃ te,te=(PM.toList==s.toList):=⟨_,rfl⟩;rw [←hte] at hx3;have hte2:(PM.toList==s.toList)=te:=hte.symm;have HGK:=zh hx3;have hXw:Xr w1 g p D (gTs k t10) bq wr:=by have h:=HR.out;rw [←HBQ.out,←hD] at h;exact h
   have K1:Hid (Calls Tryz.prog 94 #[.pointer (some ⟨g,0,none⟩),.int .i64 4] wr fun q w'=>q=.returned (.int .u64 Z)∧Xr w1 g p D T4 f4 w'):=by
    refine (xr_fix w1 g p _ _ _ 4 wr hXw).mono fun q w' ⟨h1,h2⟩=>?_;rw [←hZ] at h1;rw [←hT4,←hf4] at h2;exact ⟨h1,h2⟩
   have K2:Hid (∀ W,Xr w1 g p D T4 f4 W→Calls Tryz.prog 93 #[.pointer (some ⟨g,0,none⟩),.int .i64 Z] W fun q w'=>q=.returned (.string sn)∧Xr w1 g p D T5 b5 w'):=by
    intro W h;refine (xr_byt w1 g p _ _ _ (Z:Int) W h).mono fun q w' ⟨h1,h2⟩=>?_;rw [←hsn] at h1;rw [←hT5,←hb5] at h2;exact ⟨h1,h2⟩
   have K3:Hid (∀ W,Xr w1 g p M T5 b5 W→Calls Tryz.prog 35 #[mv M] W fun q w'=>q=.returned (.tuple #[.string PM,.bool mb])∧Below W.heap.size W w'):=by
    intro W h;refine (rputM_any M W (ents_of_own h.own h.hl) HWD.out).mono fun q w' ⟨h1,h2⟩=>?_;rw [←hPM,←hmb] at h1;exact ⟨h1,h2⟩
   clear HX HFACT hx1 hx2 hx3 hx4 hZ hT4 hf4 hsn hT5 hb5 hM hmb hPM hte hD hXw HR HBQ
   go_wp2_with fail
   refine K1.out.mono ?_;rintro q w3 ⟨rfl,R3⟩
   go_wp2_with fail
   refine (K2.out _ R3).mono ?_;rintro q w4 ⟨rfl,R4⟩;have cs10:w4.cell? ⟨p,10,none⟩=some (.string D.snap):=R4.cell 10;have fs10:=R4.fz 10;obtain ⟨W5,hW5⟩:∃ W5,W5=w4.setCell ⟨p,10,none⟩ (.string sn):=⟨_,rfl⟩;have R5:Xr w1 g p M T5 b5 W5:=by rw [HMD.out,hW5];exact xr_snap R4 sn
   have HW5:=zh hW5;have HR5:=zh R5;obtain ⟨m0,m1,m2,m3,m4,m5,m6,m7,m8,m9,m10⟩:=zmclf (w:=W5) (b:=p) (e:=M) R5.cell;clear hW5 R3 R4 R5 K1 K2 cg1
   go_upto_region 9 with fail
   rw [←HW5.out];clear cs10 fs10 HW5
   go_wp2_with fail
   refine (K3.out _ HR5.out).mono ?_;rintro q w6 ⟨rfl,hb6⟩;have HX6:=zh (HR5.out.below hb6);have cg2:w6.cell? ⟨g,1,none⟩=some (.bool b5):=zcr w6 g 1 _ 72 (0,0) HX6.out.q.hr;clear hb6 HR5 K3 m0 m1 m2 m3 m4 m5 m6 m7 m8 m9 m10
   cases b5 with
   | true =>
     have HOK:Hid (gok s=false):=HGK.out.symm;clear HGK;have hgr:=HB2.out w6 HX6.out.q.fr;obtain ⟨z0,z1,z2,z3,z4,z5,z6,z7,z8,z9,z10⟩:=zmzl (w:=w6) (b:=w.heap.size) hgr.2;have fz:∀ i,w6.frozen? ⟨w.heap.size,i,none⟩=false:=fun i=>Md.of hgr.2;obtain ⟨WF,hWF⟩:∃ WF,WF=wrm w6 w.heap.size mzz:=⟨_,rfl⟩;have hblk:WF.heap[w.heap.size]?=some (.cells (mc mzz) 29 (0,0)):=by rw [hWF];exact store_allm mzz hgr.2
     have HBF:Hid (Below w.heap.size w WF):=by rw [hWF];exact below_allm mzz hgr.1 (Nat.le_refl _)
     have HBK:=zh hblk;have HWF:=zh hWF;clear hgr hblk hWF;go_wp2;have hWF:=HWF.out;unfold wrm at hWF;rw [←hWF];obtain ⟨f0,f1,f2,f3,f4,f5,f6,f7,f8,f9,f10⟩:=zmzl (w:=WF) (b:=w.heap.size) HBK.out;exact bodyPost_ret (v:=.tuple #[mv mzz,.bool false]) (by simp [results,Tryz.results48,go_sem,f0,f1,f2,f3,f4,f5,f6,f7,f8,f9,f10]) rfl (gmsg_no HOK.out HBF.out)
   | false =>
     cases mb with
     | false =>
       have HOK:Hid (gok s=false):=HGK.out.symm;clear HGK;have hgr:=HB2.out w6 HX6.out.q.fr;obtain ⟨z0,z1,z2,z3,z4,z5,z6,z7,z8,z9,z10⟩:=zmzl (w:=w6) (b:=w.heap.size) hgr.2;have fz:∀ i,w6.frozen? ⟨w.heap.size,i,none⟩=false:=fun i=>Md.of hgr.2;obtain ⟨WF,hWF⟩:∃ WF,WF=wrm w6 w.heap.size mzz:=⟨_,rfl⟩;have hblk:WF.heap[w.heap.size]?=some (.cells (mc mzz) 29 (0,0)):=by rw [hWF];exact store_allm mzz hgr.2
       have HBF:Hid (Below w.heap.size w WF):=by rw [hWF];exact below_allm mzz hgr.1 (Nat.le_refl _)
       have HBK:=zh hblk;have HWF:=zh hWF;clear hgr hblk hWF;go_wp2;have hWF:=HWF.out;unfold wrm at hWF;rw [←hWF];obtain ⟨f0,f1,f2,f3,f4,f5,f6,f7,f8,f9,f10⟩:=zmzl (w:=WF) (b:=w.heap.size) HBK.out;exact bodyPost_ret (v:=.tuple #[mv mzz,.bool false]) (by simp [results,Tryz.results48,go_sem,f0,f1,f2,f3,f4,f5,f6,f7,f8,f9,f10]) rfl (gmsg_no HOK.out HBF.out)
     | true =>
       cases te with
       | false =>
         have HOK:Hid (gok s=false):=HGK.out.symm;clear HGK;have hgr:=HB2.out w6 HX6.out.q.fr;obtain ⟨z0,z1,z2,z3,z4,z5,z6,z7,z8,z9,z10⟩:=zmzl (w:=w6) (b:=w.heap.size) hgr.2;have fz:∀ i,w6.frozen? ⟨w.heap.size,i,none⟩=false:=fun i=>Md.of hgr.2;obtain ⟨WF,hWF⟩:∃ WF,WF=wrm w6 w.heap.size mzz:=⟨_,rfl⟩;have hblk:WF.heap[w.heap.size]?=some (.cells (mc mzz) 29 (0,0)):=by rw [hWF];exact store_allm mzz hgr.2
         have HBF:Hid (Below w.heap.size w WF):=by rw [hWF];exact below_allm mzz hgr.1 (Nat.le_refl _)
         have HBK:=zh hblk;have HWF:=zh hWF;clear hgr hblk hWF;go_wp2;have hWF:=HWF.out;unfold wrm at hWF;rw [←hWF];obtain ⟨f0,f1,f2,f3,f4,f5,f6,f7,f8,f9,f10⟩:=zmzl (w:=WF) (b:=w.heap.size) HBK.out;exact bodyPost_ret (v:=.tuple #[mv mzz,.bool false]) (by simp [results,Tryz.results48,go_sem,f0,f1,f2,f3,f4,f5,f6,f7,f8,f9,f10]) rfl (gmsg_no HOK.out HBF.out)
       | true =>
         have HOK:Hid (gok s=true):=HGK.out.symm;clear HGK;have hgr:=HB2.out w6 HX6.out.q.fr;obtain ⟨z0,z1,z2,z3,z4,z5,z6,z7,z8,z9,z10⟩:=zmzl (w:=w6) (b:=w.heap.size) hgr.2;obtain ⟨m0,m1,m2,m3,m4,m5,m6,m7,m8,m9,m10⟩:=zmclf (w:=w6) (b:=p) (e:=M) HX6.out.cell;have fz:∀ i,w6.frozen? ⟨w.heap.size,i,none⟩=false:=fun i=>Md.of hgr.2;obtain ⟨WF,hWF⟩:∃ WF,WF=wrm w6 w.heap.size M:=⟨_,rfl⟩;have hblk:WF.heap[w.heap.size]?=some (.cells (mc M) 29 (0,0)):=by rw [hWF];exact store_allm M hgr.2
         have HBF:Hid (Below w.heap.size w WF):=by rw [hWF];exact below_allm M hgr.1 (Nat.le_refl _)
         have HEF:Hid (Ents WF.heap.size M.A M.n M.es WF):=by
          have h1:=ents_of_own HX6.out.own HX6.out.hl;have h2:=ents_wrm2 (g:=w.heap.size) M h1 (fun a ha=>by have h3:=(HX6.out.own.lt a.block (by rw [ha];rfl)).1;have h4:=HPP.out;omega);have hz:=size_wrm w6 w.heap.size M;rw [←hz,←hWF] at h2;exact h2
         have HBK:=zh hblk;have HWF:=zh hWF;clear hgr hblk hWF;go_wp2;have hWF:=HWF.out;unfold wrm at hWF;rw [←hWF];obtain ⟨f0,f1,f2,f3,f4,f5,f6,f7,f8,f9,f10⟩:=zmcl (w:=WF) (b:=w.heap.size) (e:=M) HBK.out;exact bodyPost_ret (v:=.tuple #[mv M,.bool true]) (by simp [results,Tryz.results48,go_sem,f0,f1,f2,f3,f4,f5,f6,f7,f8,f9,f10]) rfl ⟨M,by rw [HOK.out],HEF.out,HWD.out,HBF.out,fun h=>⟨A,c,HPR.out h⟩,fun h=>by rw [HOK.out] at h;cases h⟩
end Go.Proofs.YtpdbeijfchmlgaaGreat
