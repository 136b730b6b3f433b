/-
  FrameCodes: part G43.
  Conditions: named in each theorem.
-/
import Derived.Deep.CutRange
import Derived.Test.YtpdbeijfchmlgaaGreatZ0
import Derived.Test.YtpdbeijfchmlgaaGreatG21
import Derived.Test.YtpdbeijfchmlgaaGreatG33
import Derived.Test.YtpdbeijfchmlgaaGreatG35
set_option linter.unusedVariables false
set_option linter.unusedSimpArgs false
set_option maxHeartbeats 16000000
set_option maxRecDepth 100000
namespace Go.Proofs.YtpdbeijfchmlgaaGreat.D
open Go.RowKit
open Vi
structure Xq (w0:World) (g:Nat) (T:ByteArray) (b:Bool) (w:World):Prop where
 hr:Rd 72 g T b w
 fr:w0.grownBy w (some g)
 lg:g<w0.heap.size
 sz:T.size≤140737488351232
 sn:Vi.Sane T b
structure Xr (w0:World) (g p:Nat) (E:Ms) (T:ByteArray) (b:Bool) (w:World):Prop where
 q:Xq w0 g T b w
 al:w.heap[p]?=some (.cells (mc E) 29 (0,0))
 own:w.ownsRow (p+1) 24 11 (.slice E.A E.n E.c) E.n (flat E.es)
 hl:E.es.length=E.n
 lw:w0.heap.size≤p
section
variable {w0 w w1:World} {g p:Nat} {T T':ByteArray} {b b':Bool} {E E':Ms}
theorem Xq.step (h:Xq w0 g T b w) (hx:Rd 72 g T' b' w1) (hf:w.grownBy w1 (some g)) (hT:T'.size≤T.size) (hs:Vi.Sane T' b'):Xq w0 g T' b' w1 :=
 ⟨hx,h.fr.trans hf,h.lg,Nat.le_trans hT h.sz,hs⟩
theorem Xq.below (h:Xq w0 g T b w) (hb:Below w.heap.size w w1):Xq w0 g T b w1 :=
 ⟨h.hr.below hb h.hr.lt,gb_below_b h.fr hb,h.lg,h.sz,h.sn⟩
theorem Xr.gs (h:Xr w0 g p E T b w):p<w.heap.size:=(zgx h.al)
theorem Xr.cell (h:Xr w0 g p E T b w) (i:Nat):w.cell? ⟨p,i,none⟩=(mc E)[i]?:=zcr w _ i _ 29 (0,0) h.al
theorem Xr.fz (h:Xr w0 g p E T b w) (i:Nat):w.frozen? ⟨p,i,none⟩=false:=Md.of h.al
theorem Xr.step (h:Xr w0 g p E T b w) (hx:Rd 72 g T' b' w1) (hf:w.grownBy w1 (some g)) (hT:T'.size≤T.size) (hs:Vi.Sane T' b'):Xr w0 g p E T' b' w1:=by
 have h1:=h.q.lg;have h2:=h.lw;exact ⟨h.q.step hx hf hT hs,(hf.block _ h.gs (by simp;omega)).trans h.al,own_of_heap h.own fun k hk=>hf.block k (h.own.lt k hk).2 (fun e=>by have:=(h.own.lt k hk).1;injection e;omega),h.hl,h.lw⟩
theorem Xr.below (h:Xr w0 g p E T b w) (hb:Below w.heap.size w w1):Xr w0 g p E T b w1 :=
 ⟨h.q.below hb,(hb.block _ h.gs).trans h.al,own_of_heap h.own fun k hk=>hb.block k (h.own.lt k hk).2,h.hl,h.lw⟩
theorem Xr.drew (h:Xr w0 g p E T b w):Xr w0 g p E T b w.drew:=⟨⟨h.q.hr,gb_below_b h.q.fr (Below.refl _ _).drew,h.q.lg,h.q.sz,h.q.sn⟩,h.al,own_of_heap h.own fun _ _=>rfl,h.hl,h.lw⟩
theorem Xr.setY (h:Xr w0 g p E T b w) (i:Nat) (v:Value) (he:(mc E).setIfInBounds i v=mc E'):Xq w0 g T b (w.setCell ⟨p,i,none⟩ v)∧(w.setCell ⟨p,i,none⟩ v).heap[p]?=some (.cells (mc E') 29 (0,0)):=by
 have h1:=h.q.lg;have h2:=h.lw;refine ⟨⟨rd_set_b h.q.hr (by simp;omega),gb_set_b h.q.fr (by simp;omega),h.q.lg,h.q.sz,h.q.sn⟩,?_⟩;rw [←he];exact set_blk h.al i v
theorem Xr.app {w2 w4:World} {e:En} {n g4 cap:Nat} (h:Xr w0 g p E T b w2) (hn:E.n=n) (hown:w4.ownsRow (p+1) 24 11 (.slice (some ⟨g4,0,none⟩) (n+1) cap) (n+1) (flat E.es++(ec e).toList)) (hgrow:w2.grownBy w4 (Value.slice E.A n E.c).ownBlock) :
 Xr w0 g p { E with A:=some ⟨g4,0,none⟩,n:=n+1,c:=cap,es:=E.es++[e] } T b (w4.setCell ⟨p,9,none⟩ (.slice (some ⟨g4,0,none⟩) (n+1) cap)):=by
 subst hn;have hg:=h.gs;have h1:=h.q.lg;have h2:=h.lw
 have hne:∀ k,k≤p→some k≠(Value.slice E.A E.n E.c).ownBlock:=fun k hk e=>by
  have:=(h.own.lt k e.symm).1
  omega
 have hbl:∀ k,k≤p→w4.heap[k]?=w2.heap[k]?:=fun k hk=>hgrow.block k (by omega) (hne k hk);have f:=h.q.fr;refine ⟨⟨rd_set_b ((hbl _ (by omega)).trans h.q.hr) (by simp;omega),gb_set_b ⟨hgrow.os.trans f.os,hgrow.tape.trans f.tape,hgrow.output.trans f.output,Nat.le_trans f.size hgrow.size,fun k hk hk2=>(hbl k (by omega)).trans (f.block k hk hk2)⟩ (by simp;omega),h1,h.q.sz,h.q.sn⟩,?_,?_,?_,h2⟩
 ·have h5:=set_blk ((hbl _ (Nat.le_refl _)).trans h.al) 9 (.slice (some ⟨g4,0,none⟩) (E.n+1) cap);rw [show (mc E).setIfInBounds 9 (.slice (some ⟨g4,0,none⟩) (E.n+1) cap)=mc { E with A:=some ⟨g4,0,none⟩,n:=E.n+1,c:=cap,es:=E.es++[e] } by simp] at h5;exact h5
 ·show World.ownsRow _ (p+1) 24 11 (.slice (some ⟨g4,0,none⟩) (E.n+1) cap) (E.n+1) (flat (E.es++[e]))
  rw [flat_snoc];exact ownsRow_setCell_below hown (by simp) _
 ·show (E.es++[e]).length=E.n+1
  rw [List.length_append,h.hl];rfl
end
section
variable (w0:World) (g p:Nat) (E:Ms) (T:ByteArray) (b:Bool) (w:World)
theorem xr_var (h:Xr w0 g p E T b w) :
 Calls Tryz.prog 90 #[.pointer (some ⟨g,0,none⟩)] w fun q w'=>q=.returned (.int .u64 (varV T))∧Xr w0 g p E (varT T) (b||!varO T) w' :=
 (rvar_any g T b w h.q.hr (by have:=h.q.sz;omega)).mono fun q w' ⟨h1,h2,h3⟩=>⟨h1,h.step h2 h3 (varT_size T) (Vi.sane_var _ _ h.q.sn)⟩
theorem xr_fail (h:Xr w0 g p E T b w) :
 Calls Tryz.prog 92 #[.pointer (some ⟨g,0,none⟩)] w fun q w'=>q=.returned (.tuple #[])∧Xr w0 g p E ⟨#[]⟩ true w' :=
 (rfail_any g T b w h.q.hr).mono fun q w' ⟨h1,h2,h3⟩=>⟨h1,h.step h2 h3 (Nat.zero_le _) (fun _=>rfl)⟩
theorem xr_tex (h:Xr w0 g p E T b w) :
 Calls Tryz.prog 156 #[.pointer (some ⟨g,0,none⟩)] w fun q w'=>q=.returned (.string (texV T))∧Xr w0 g p E (texT T) (b||!texO T) w' :=
 (rtextr_any g T b w h.q.hr h.q.sn (by have:=h.q.sz;omega)).mono fun q w' ⟨h1,h2,h3⟩=>⟨h1,h.step h2 h3 (texT_le T) (Vi.sane_tex _ _ h.q.sn)⟩
theorem sane_gT {T:ByteArray}:Vi.Sane (gT T false) (!gO T false):=by
 intro h
 have h2:gO T false=false:=by
  cases hg:gO T false with
  | false=>rfl
  | true=>rw [hg] at h;cases h
 exact gT_no h2
theorem xr_getE (h:Xr w0 g p E T false w) :
 Calls Tryz.prog 43 #[.pointer (some ⟨g,0,none⟩)] w fun q w'=>q=.returned (ev (gE T false))∧Xr w0 g p E (gT T false) (!gO T false) w':=by
 have hz:=h.q.sz;exact (rgetE_any g T false w h.q.hr (by omega) h.q.sn (eR_ok T false (by omega))).mono fun q w' ⟨h1,h2,h3⟩=>⟨h1,h.step h2 h3 (gT_le T false) sane_gT⟩
end
theorem Xr.setS {w0 w:World} {g p:Nat} {T:ByteArray} {b:Bool} {E E':Ms} (h:Xr w0 g p E T b w) (i:Nat) (v:Value) (he:(mc E).setIfInBounds i v=mc E') (hA:E'.A=E.A) (hc:E'.c=E.c) (hn:E'.n=E.n) (hes:E'.es=E.es):Xr w0 g p E' T b (w.setCell ⟨p,i,none⟩ v):=by
 obtain ⟨h1,h2⟩:=h.setY (E':=E') i v he;refine ⟨h1,h2,?_,by rw [hes,hn];exact h.hl,h.lw⟩;rw [hA,hc,hn,hes];exact ownsRow_setCell_below h.own (by simp) _
section
variable (w0:World) (g p:Nat) (E:Mp) (A:Option Addr) (c:Nat) (T:ByteArray) (w:World)
theorem rtakm1_any (h:Xr w0 g p (E.at_ A c) T false w) :
 Calls Tryz.prog 97 #[.pointer (some ⟨g,0,none⟩),.pointer (some ⟨p,0,none⟩),.int .u64 1] w fun e w'=>e=.returned (.tuple #[])∧Xr w0 g p ((mR 1 E T).1.at_ A c) (mR 1 E T).2.1 (!(mR 1 E T).2.2) w':=by
 have K:=zh (xr_var w0 g p _ T false w h);have HC:Hid (mR 1 E T=(setMr 1 E (varV T),varT T,varO T)):=by show _=_;unfold mR;rw [if_neg (by omega),if_pos (by omega)]
 rw [HC.out];have hvl:=varV_lt T;obtain ⟨n,hn⟩:∃ n,n=varV T:=⟨_,rfl⟩;rw [←hn] at K hvl ⊢;have HSET:Hid (∀ T' b' W,Xr w0 g p (E.at_ A c) T' b' W→Xr w0 g p ((setMr 1 E n).at_ A c) T' b' (W.setCell ⟨p,0,none⟩ (.int .i64 ((n % 1000:Nat):Int)))):=fun T' b' W hW=>hW.setS 0 _ (by simp [setMr,setM,Mp.at_]) rfl rfl rfl rfl;have e1:IntKind.i64.wrap ((n:Int) % 1000)=((n % 1000:Nat):Int):=by rw [IntWalk.i64_in _ (by omega)];omega
 have e2:(n:Int).tmod 1000=(n:Int) % 1000:=Int.tmod_eq_emod_of_nonneg (by omega);clear HC h hn
 go_enter Tryz.func97,Tryz.ntmps97
 go_wp2_with fail
 refine K.out.mono ?_;rintro e w2 ⟨rfl,h2⟩;have cq:w2.cell? ⟨p,0,none⟩=some (.int .i64 E.kind):=h2.cell 0;have fq:=h2.fz 0;have H2:=zh h2;clear h2;go_wp2
 first|go_end0|refine bodyPost_ret (results_none rfl _ _ _) rfl ?_
 exact ⟨rfl,HSET.out _ _ _ H2.out⟩
theorem rtakm2_any (h:Xr w0 g p (E.at_ A c) T false w) :
 Calls Tryz.prog 97 #[.pointer (some ⟨g,0,none⟩),.pointer (some ⟨p,0,none⟩),.int .u64 2] w fun e w'=>e=.returned (.tuple #[])∧Xr w0 g p ((mR 2 E T).1.at_ A c) (mR 2 E T).2.1 (!(mR 2 E T).2.2) w':=by
 have K:=zh (xr_var w0 g p _ T false w h);have HC:Hid (mR 2 E T=(setMr 2 E (varV T),varT T,varO T)):=by show _=_;unfold mR;rw [if_neg (by omega),if_pos (by omega)]
 rw [HC.out];have hvl:=varV_lt T;obtain ⟨n,hn⟩:∃ n,n=varV T:=⟨_,rfl⟩;rw [←hn] at K hvl ⊢;have HSET:Hid (∀ T' b' W,Xr w0 g p (E.at_ A c) T' b' W→Xr w0 g p ((setMr 2 E n).at_ A c) T' b' (W.setCell ⟨p,1,none⟩ (.int .i64 ((n % 1000:Nat):Int)))):=fun T' b' W hW=>hW.setS 1 _ (by simp [setMr,setM,Mp.at_]) rfl rfl rfl rfl;have e1:IntKind.i64.wrap ((n:Int) % 1000)=((n % 1000:Nat):Int):=by rw [IntWalk.i64_in _ (by omega)];omega
 have e2:(n:Int).tmod 1000=(n:Int) % 1000:=Int.tmod_eq_emod_of_nonneg (by omega);clear HC h hn
 go_enter Tryz.func97,Tryz.ntmps97
 go_wp2_with fail
 refine K.out.mono ?_;rintro e w2 ⟨rfl,h2⟩;have cq:w2.cell? ⟨p,1,none⟩=some (.int .i64 E.frm):=h2.cell 1;have fq:=h2.fz 1;have H2:=zh h2;clear h2;go_wp2
 first|go_end0|refine bodyPost_ret (results_none rfl _ _ _) rfl ?_
 exact ⟨rfl,HSET.out _ _ _ H2.out⟩
theorem rtakm3_any (h:Xr w0 g p (E.at_ A c) T false w) :
 Calls Tryz.prog 97 #[.pointer (some ⟨g,0,none⟩),.pointer (some ⟨p,0,none⟩),.int .u64 3] w fun e w'=>e=.returned (.tuple #[])∧Xr w0 g p ((mR 3 E T).1.at_ A c) (mR 3 E T).2.1 (!(mR 3 E T).2.2) w':=by
 have K:=zh (xr_var w0 g p _ T false w h);have HC:Hid (mR 3 E T=(setMr 3 E (varV T),varT T,varO T)):=by show _=_;unfold mR;rw [if_neg (by omega),if_pos (by omega)]
 rw [HC.out];have hvl:=varV_lt T;obtain ⟨n,hn⟩:∃ n,n=varV T:=⟨_,rfl⟩;rw [←hn] at K hvl ⊢;have HSET:Hid (∀ T' b' W,Xr w0 g p (E.at_ A c) T' b' W→Xr w0 g p ((setMr 3 E n).at_ A c) T' b' (W.setCell ⟨p,2,none⟩ (.int .i64 ((n % 1000:Nat):Int)))):=fun T' b' W hW=>hW.setS 2 _ (by simp [setMr,setM,Mp.at_]) rfl rfl rfl rfl;have e1:IntKind.i64.wrap ((n:Int) % 1000)=((n % 1000:Nat):Int):=by rw [IntWalk.i64_in _ (by omega)];omega
 have e2:(n:Int).tmod 1000=(n:Int) % 1000:=Int.tmod_eq_emod_of_nonneg (by omega);clear HC h hn
 go_enter Tryz.func97,Tryz.ntmps97
 go_wp2_with fail
 refine K.out.mono ?_;rintro e w2 ⟨rfl,h2⟩;have cq:w2.cell? ⟨p,2,none⟩=some (.int .i64 E.dst):=h2.cell 2;have fq:=h2.fz 2;have H2:=zh h2;clear h2;go_wp2
 first|go_end0|refine bodyPost_ret (results_none rfl _ _ _) rfl ?_
 exact ⟨rfl,HSET.out _ _ _ H2.out⟩
theorem rtakm4_any (h:Xr w0 g p (E.at_ A c) T false w) :
 Calls Tryz.prog 97 #[.pointer (some ⟨g,0,none⟩),.pointer (some ⟨p,0,none⟩),.int .u64 4] w fun e w'=>e=.returned (.tuple #[])∧Xr w0 g p ((mR 4 E T).1.at_ A c) (mR 4 E T).2.1 (!(mR 4 E T).2.2) w':=by
 have K:=zh (xr_var w0 g p _ T false w h);have HC:Hid (mR 4 E T=(setMr 4 E (varV T),varT T,varO T)):=by show _=_;unfold mR;rw [if_neg (by omega),if_pos (by omega)]
 rw [HC.out];have hvl:=varV_lt T;obtain ⟨n,hn⟩:∃ n,n=varV T:=⟨_,rfl⟩;rw [←hn] at K hvl ⊢;have HSET:Hid (∀ T' b' W,Xr w0 g p (E.at_ A c) T' b' W→Xr w0 g p ((setMr 4 E n).at_ A c) T' b' (W.setCell ⟨p,3,none⟩ (.int .u64 ((n:Nat):Int)))):=fun T' b' W hW=>hW.setS 3 _ (by simp [setMr,setM,Mp.at_]) rfl rfl rfl rfl;clear HC h hn
 go_enter Tryz.func97,Tryz.ntmps97
 go_wp2_with fail
 refine K.out.mono ?_;rintro e w2 ⟨rfl,h2⟩;have cq:w2.cell? ⟨p,3,none⟩=some (.int .u64 E.term):=h2.cell 3;have fq:=h2.fz 3;have H2:=zh h2;clear h2;go_wp2
 first|go_end0|refine bodyPost_ret (results_none rfl _ _ _) rfl ?_
 exact ⟨rfl,HSET.out _ _ _ H2.out⟩
theorem rtakm5_any (h:Xr w0 g p (E.at_ A c) T false w) :
 Calls Tryz.prog 97 #[.pointer (some ⟨g,0,none⟩),.pointer (some ⟨p,0,none⟩),.int .u64 5] w fun e w'=>e=.returned (.tuple #[])∧Xr w0 g p ((mR 5 E T).1.at_ A c) (mR 5 E T).2.1 (!(mR 5 E T).2.2) w':=by
 have K:=zh (xr_var w0 g p _ T false w h);have HC:Hid (mR 5 E T=(setMr 5 E (varV T),varT T,varO T)):=by show _=_;unfold mR;rw [if_neg (by omega),if_pos (by omega)]
 rw [HC.out];have hvl:=varV_lt T;obtain ⟨n,hn⟩:∃ n,n=varV T:=⟨_,rfl⟩;rw [←hn] at K hvl ⊢;have HSET:Hid (∀ T' b' W,Xr w0 g p (E.at_ A c) T' b' W→Xr w0 g p ((setMr 5 E n).at_ A c) T' b' (W.setCell ⟨p,4,none⟩ (.int .u64 ((n:Nat):Int)))):=fun T' b' W hW=>hW.setS 4 _ (by simp [setMr,setM,Mp.at_]) rfl rfl rfl rfl;clear HC h hn
 go_enter Tryz.func97,Tryz.ntmps97
 go_wp2_with fail
 refine K.out.mono ?_;rintro e w2 ⟨rfl,h2⟩;have cq:w2.cell? ⟨p,4,none⟩=some (.int .u64 E.index):=h2.cell 4;have fq:=h2.fz 4;have H2:=zh h2;clear h2;go_wp2
 first|go_end0|refine bodyPost_ret (results_none rfl _ _ _) rfl ?_
 exact ⟨rfl,HSET.out _ _ _ H2.out⟩
theorem rtakm6_any (h:Xr w0 g p (E.at_ A c) T false w) :
 Calls Tryz.prog 97 #[.pointer (some ⟨g,0,none⟩),.pointer (some ⟨p,0,none⟩),.int .u64 6] w fun e w'=>e=.returned (.tuple #[])∧Xr w0 g p ((mR 6 E T).1.at_ A c) (mR 6 E T).2.1 (!(mR 6 E T).2.2) w':=by
 have K:=zh (xr_var w0 g p _ T false w h);have HC:Hid (mR 6 E T=(setMr 6 E (varV T),varT T,varO T)):=by show _=_;unfold mR;rw [if_neg (by omega),if_pos (by omega)]
 rw [HC.out];have hvl:=varV_lt T;obtain ⟨n,hn⟩:∃ n,n=varV T:=⟨_,rfl⟩;rw [←hn] at K hvl ⊢;have HSET:Hid (∀ T' b' W,Xr w0 g p (E.at_ A c) T' b' W→Xr w0 g p ((setMr 6 E n).at_ A c) T' b' (W.setCell ⟨p,5,none⟩ (.int .u64 ((n:Nat):Int)))):=fun T' b' W hW=>hW.setS 5 _ (by simp [setMr,setM,Mp.at_]) rfl rfl rfl rfl;clear HC h hn
 go_enter Tryz.func97,Tryz.ntmps97
 go_wp2_with fail
 refine K.out.mono ?_;rintro e w2 ⟨rfl,h2⟩;have cq:w2.cell? ⟨p,5,none⟩=some (.int .u64 E.prev):=h2.cell 5;have fq:=h2.fz 5;have H2:=zh h2;clear h2;go_wp2
 first|go_end0|refine bodyPost_ret (results_none rfl _ _ _) rfl ?_
 exact ⟨rfl,HSET.out _ _ _ H2.out⟩
theorem rtakm7_any (h:Xr w0 g p (E.at_ A c) T false w) :
 Calls Tryz.prog 97 #[.pointer (some ⟨g,0,none⟩),.pointer (some ⟨p,0,none⟩),.int .u64 7] w fun e w'=>e=.returned (.tuple #[])∧Xr w0 g p ((mR 7 E T).1.at_ A c) (mR 7 E T).2.1 (!(mR 7 E T).2.2) w':=by
 have K:=zh (xr_var w0 g p _ T false w h);have HC:Hid (mR 7 E T=(setMr 7 E (varV T),varT T,varO T)):=by show _=_;unfold mR;rw [if_neg (by omega),if_pos (by omega)]
 rw [HC.out];have hvl:=varV_lt T;obtain ⟨n,hn⟩:∃ n,n=varV T:=⟨_,rfl⟩;rw [←hn] at K hvl ⊢;have HSET:Hid (∀ T' b' W,Xr w0 g p (E.at_ A c) T' b' W→Xr w0 g p ((setMr 7 E n).at_ A c) T' b' (W.setCell ⟨p,6,none⟩ (.int .u64 ((n:Nat):Int)))):=fun T' b' W hW=>hW.setS 6 _ (by simp [setMr,setM,Mp.at_]) rfl rfl rfl rfl;clear HC h hn
 go_enter Tryz.func97,Tryz.ntmps97
 go_wp2_with fail
 refine K.out.mono ?_;rintro e w2 ⟨rfl,h2⟩;have cq:w2.cell? ⟨p,6,none⟩=some (.int .u64 E.commit):=h2.cell 6;have fq:=h2.fz 6;have H2:=zh h2;clear h2;go_wp2
 first|go_end0|refine bodyPost_ret (results_none rfl _ _ _) rfl ?_
 exact ⟨rfl,HSET.out _ _ _ H2.out⟩
theorem rtakm8_any (h:Xr w0 g p (E.at_ A c) T false w) :
 Calls Tryz.prog 97 #[.pointer (some ⟨g,0,none⟩),.pointer (some ⟨p,0,none⟩),.int .u64 8] w fun e w'=>e=.returned (.tuple #[])∧Xr w0 g p ((mR 8 E T).1.at_ A c) (mR 8 E T).2.1 (!(mR 8 E T).2.2) w':=by
 have K:=zh (xr_var w0 g p _ T false w h);have HC:Hid (mR 8 E T=(setMr 8 E (varV T),varT T,varO T)):=by show _=_;unfold mR;rw [if_neg (by omega),if_pos (by omega)]
 rw [HC.out];have hvl:=varV_lt T;obtain ⟨n,hn⟩:∃ n,n=varV T:=⟨_,rfl⟩;rw [←hn] at K hvl ⊢;have HSET:Hid (∀ T' b' W,Xr w0 g p (E.at_ A c) T' b' W→Xr w0 g p ((setMr 8 E n).at_ A c) T' b' (W.setCell ⟨p,7,none⟩ (.int .u64 ((n:Nat):Int)))):=fun T' b' W hW=>hW.setS 7 _ (by simp [setMr,setM,Mp.at_]) rfl rfl rfl rfl;clear HC h hn
 go_enter Tryz.func97,Tryz.ntmps97
 go_wp2_with fail
 refine K.out.mono ?_;rintro e w2 ⟨rfl,h2⟩;have cq:w2.cell? ⟨p,7,none⟩=some (.int .u64 E.mark):=h2.cell 7;have fq:=h2.fz 7;have H2:=zh h2;clear h2;go_wp2
 first|go_end0|refine bodyPost_ret (results_none rfl _ _ _) rfl ?_
 exact ⟨rfl,HSET.out _ _ _ H2.out⟩
theorem rtakm9_any (h:Xr w0 g p (E.at_ A c) T false w) :
 Calls Tryz.prog 97 #[.pointer (some ⟨g,0,none⟩),.pointer (some ⟨p,0,none⟩),.int .u64 9] w fun e w'=>e=.returned (.tuple #[])∧Xr w0 g p ((mR 9 E T).1.at_ A c) (mR 9 E T).2.1 (!(mR 9 E T).2.2) w':=by
 have K:=zh (xr_var w0 g p _ T false w h);have HC:Hid (mR 9 E T=({ E with ok:=decide (varV T=1) },varT T,varO T)):=by show _=_;unfold mR;rw [if_neg (by omega),if_neg (by omega),if_pos rfl]
 rw [HC.out];obtain ⟨n,hn⟩:∃ n,n=varV T:=⟨_,rfl⟩;rw [←hn] at K ⊢;obtain ⟨y,hy⟩:∃ y,y=decide (n=1):=⟨_,rfl⟩;rw [←hy]
 have hq:((n:Int)==1)=y:=by
  rw [hy,Bool.eq_iff_iff];simp only [beq_iff_eq,decide_eq_true_eq];omega
 have hq2:decide (n=1)=y:=hy.symm;have HSET:Hid (∀ T' b' W,Xr w0 g p (E.at_ A c) T' b' W→Xr w0 g p (({ E with ok:=y }:Mp).at_ A c) T' b' (W.setCell ⟨p,8,none⟩ (.bool y))):=fun T' b' W hW=>hW.setS 8 _ (by simp [Mp.at_]) rfl rfl rfl rfl;clear HC h hn hy
 go_enter Tryz.func97,Tryz.ntmps97
 go_wp2_with fail
 refine K.out.mono ?_;rintro e w2 ⟨rfl,h2⟩;have cq:w2.cell? ⟨p,8,none⟩=some (.bool E.ok):=h2.cell 8;have fq:=h2.fz 8;have H2:=zh h2;clear h2;go_wp2
 first|go_end0|refine bodyPost_ret (results_none rfl _ _ _) rfl ?_
 exact ⟨rfl,HSET.out _ _ _ H2.out⟩
theorem rtakm10_any (h:Xr w0 g p (E.at_ A c) T false w) :
 Calls Tryz.prog 97 #[.pointer (some ⟨g,0,none⟩),.pointer (some ⟨p,0,none⟩),.int .u64 10] w fun e w'=>e=.returned (.tuple #[])∧Xr w0 g p ((mR 10 E T).1.at_ A c) (mR 10 E T).2.1 (!(mR 10 E T).2.2) w':=by
 have K:=zh (xr_tex w0 g p _ T false w h);have HC:Hid (mR 10 E T=({ E with snap:=texV T },texT T,texO T)):=by show _=_;unfold mR;rw [if_pos rfl]
 rw [HC.out];obtain ⟨d,hd⟩:∃ d,d=texV T:=⟨_,rfl⟩;rw [←hd] at K ⊢;have HSET:Hid (∀ T' b' W,Xr w0 g p (E.at_ A c) T' b' W→Xr w0 g p (({ E with snap:=d }:Mp).at_ A c) T' b' (W.setCell ⟨p,10,none⟩ (.string d))):=fun T' b' W hW=>hW.setS 10 _ (by simp [Mp.at_]) rfl rfl rfl rfl;clear HC h hd
 go_enter Tryz.func97,Tryz.ntmps97
 go_wp2_with fail
 refine K.out.mono ?_;rintro e w2 ⟨rfl,h2⟩;have cq:w2.cell? ⟨p,10,none⟩=some (.string E.snap):=h2.cell 10;have fq:=h2.fz 10;have H2:=zh h2;clear h2;go_wp2;refine bodyPost_ret (results_none rfl _ _ _) rfl ?_;exact ⟨rfl,HSET.out _ _ _ H2.out⟩
theorem rtakmD_any (t:Nat) (ht:12≤t) (h:Xr w0 g p (E.at_ A c) T false w) :
 Calls Tryz.prog 97 #[.pointer (some ⟨g,0,none⟩),.pointer (some ⟨p,0,none⟩),.int .u64 t] w fun e w'=>e=.returned (.tuple #[])∧Xr w0 g p ((mR t E T).1.at_ A c) (mR t E T).2.1 (!(mR t E T).2.2) w':=by
 have K:=zh (xr_var w0 g p _ T false w h);have HC:Hid (mR t E T=(E,⟨#[]⟩,false)):=by show _=_;unfold mR;rw [if_neg (by omega),if_neg (by omega),if_neg (by omega),if_neg (by omega)]
 rw [HC.out];have k1:((t:Int)==1)=false:=by simp;omega
 have k2:((t:Int)==2)=false:=by simp;omega
 have k3:((t:Int)==3)=false:=by simp;omega
 have k4:((t:Int)==4)=false:=by simp;omega
 have k5:((t:Int)==5)=false:=by simp;omega
 have k6:((t:Int)==6)=false:=by simp;omega
 have k7:((t:Int)==7)=false:=by simp;omega
 have k8:((t:Int)==8)=false:=by simp;omega
 have k9:((t:Int)==9)=false:=by simp;omega
 have k10:((t:Int)==10)=false:=by simp;omega
 have k11:((t:Int)==11)=false:=by simp;omega
 clear HC h ht
 go_enter Tryz.func97,Tryz.ntmps97
 go_wp2_with fail
 refine K.out.mono ?_;rintro e w2 ⟨rfl,h2⟩
 go_wp2_with fail
 refine (xr_fail w0 g p _ _ _ w2 h2).mono ?_;rintro e w3 ⟨rfl,h3⟩;go_wp2;go_end0;exact ⟨rfl,h3⟩
end
def bdE (b:Bool) (k:Nat) (s:ByteArray):Bool:=b||!lO k s
theorem bdE_snoc (b:Bool) (k:Nat) (s:ByteArray) (h:bdE b k s=false):bdE b (k+1) s=!gO (lT k s) false:=by
 unfold bdE at h ⊢;rw [Bool.or_eq_false_iff] at h;obtain ⟨h1,h2⟩:=h;have h3:lO k s=true:=by simpa using h2
 rw [lO_snoc,h3,h1]
 simp
theorem hL_bad (n:Nat) (l:List En) (s:ByteArray):hL n l s true=(l,s,true):=by
 cases n with
 | zero=>rfl
 | succ n=>rfl
theorem hL_stop:∀ (K:Nat) (l:List En) (s:ByteArray) (b:Bool) (k:Nat),k≤K→(∀ j,j<k→bdE b j s=false)→(k=K∨bdE b k s=true)→hL K l s b=(l++lE k s,lT k s,bdE b k s)
 | K,l,s,b,0,_,_,h2=>by
   have e0:bdE b 0 s=b:=by unfold bdE;show (b||!true)=b;simp
   rw [e0]
   show _=(l++[],s,b)
   rw [List.append_nil]
   rcases h2 with h2|h2
   ·subst h2;rfl
   ·rw [e0] at h2;subst h2;exact hL_bad K l s
 | 0,l,s,b,k+1,hk,_,_=>absurd hk (by omega)
 | K+1,l,s,b,k+1,hk,h1,h2=>by
   have e0:bdE b 0 s=b:=by unfold bdE;show (b||!true)=b;simp
   have hb:b=false:=by rw [←e0];exact h1 0 (by omega)
   subst hb
   have hs:∀ j,bdE false (j+1) s=bdE (!gO s false) j (gT s false):=by
    intro j;unfold bdE
    show (false||!(gO s false&&lO j (gT s false)))=_
    cases gO s false<;>simp
   have ih:=hL_stop K (l++[gE s false]) (gT s false) (!gO s false) k (by omega) (fun j hj=>by rw [←hs];exact h1 (j+1) (by omega)) (by
    rcases h2 with h2|h2
    ·exact .inl (by omega)
    ·exact .inr (by rw [←hs];exact h2))
   show (if false=true then _ else hL K (l++[gE s false]) (gT s false) (!gO s false))=_
   rw [if_neg (by decide),ih,hs,List.append_assoc];rfl
def mKe (E:Mp) (s:ByteArray) (k:Nat):Mp:={ E with es:=E.es++lE k s }
theorem mKe_next (E:Mp) (s:ByteArray) (k:Nat) (A':Option Addr) (c':Nat) (A:Option Addr) (c:Nat):({ (mKe E s k).at_ A c with A:=A',n:=(E.es++lE k s).length+1,c:=c',es:=(E.es++lE k s)++[gE (lT k s) false] }:Ms)=(mKe E s (k+1)).at_ A' c':=by
 unfold mKe Mp.at_;rw [lE_snoc];simp only [List.append_assoc,List.length_append,List.length_cons,List.length_nil]
 congr 1
theorem rtakm11_any (w0:World) (g p:Nat) (E:Mp) (A:Option Addr) (c:Nat) (T:ByteArray) (w:World) (h:Xr w0 g p (E.at_ A c) T false w) (hlen:E.es.length≤10000) :
 Calls Tryz.prog 97 #[.pointer (some ⟨g,0,none⟩),.pointer (some ⟨p,0,none⟩),.int .u64 11] w fun e w'=>e=.returned (.tuple #[])∧∃ A' c',Xr w0 g p ((mR 11 E T).1.at_ A' c') (mR 11 E T).2.1 (!(mR 11 E T).2.2) w':=by
 obtain ⟨i24,hi24,hz24,hs24,hb24⟩:=info_parts (show (Tryz.prog.info? 24).map (fun i=>(i.zero,i.size,i.bytes))=some (some (ev ezz),11,104) by kernel_rfl);have K:=zh (xr_var w0 g p _ T false w h);have hvl:=varV_lt T;obtain ⟨n,hn⟩:∃ n,n=varV T:=⟨_,rfl⟩;obtain ⟨s1,hs1⟩:∃ s1,s1=varT T:=⟨_,rfl⟩;obtain ⟨b1,hb1⟩:∃ b1,b1=!varO T:=⟨_,rfl⟩;obtain ⟨KK,hKK⟩:∃ KK,KK=min n 65:=⟨_,rfl⟩
 have HEND:Hid (∀ k A' c' W,k≤KK→(∀ j,j<k→bdE b1 j s1=false)→(k=KK∨bdE b1 k s1=true)→Xr w0 g p ((mKe E s1 k).at_ A' c') (lT k s1) (bdE b1 k s1) W→Xr w0 g p ((mR 11 E T).1.at_ A' c') (mR 11 E T).2.1 (!(mR 11 E T).2.2) W):=by
  intro k A' c' W h1 h2 h3 hX;have e:=hL_stop KK E.es s1 b1 k h1 h2 h3
  have HC:mR 11 E T=({ E with es:=(hL KK E.es s1 b1).1 },(hL KK E.es s1 b1).2.1,!(hL KK E.es s1 b1).2.2):=by
   rw [hKK,hn,hs1,hb1];unfold mR;rw [if_neg (by omega),if_neg (by omega),if_neg (by omega),if_pos rfl]
  rw [HC,e,Bool.not_not];exact hX
 have X0:Hid (∀ W,Xr w0 g p (E.at_ A c) s1 b1 W→Xr w0 g p ((mKe E s1 0).at_ A c) (lT 0 s1) (bdE b1 0 s1) W):=by
  intro W hW;have e0:bdE b1 0 s1=b1:=by unfold bdE;show (b1||!true)=b1;simp
  have e1:mKe E s1 0=E:=by unfold mKe;show { E with es:=E.es++[] }=E;rw [List.append_nil]
  rw [e0,e1];exact hW
 rw [←hn,←hs1,Bool.false_or,←hb1] at K;rw [←hn] at hvl;have HKK:=zh hKK;have HLEN:=zh hlen;clear h hn hs1 hb1 hKK hlen
 go_enter Tryz.func97,Tryz.ntmps97
 go_wp2_with fail
 refine K.out.mono ?_;rintro e w2 ⟨rfl,h2⟩;have H2:=zh (X0.out w2 h2);clear h2 X0 K
 go_wp2_with fail
 go_loopw [7] (fun i wr=>∃ (k:Nat) (A':Option Addr) (c':Nat),k≤KK∧i=.int .u64 k∧(∀ j,j<k→bdE b1 j s1=false)∧Xr w0 g p ((mKe E s1 k).at_ A' c') (lT k s1) (bdE b1 k s1) wr) (fun i _=>KK-(intOf i).toNat)
 case atStart=>exact ⟨0,A,c,Nat.zero_le _,rfl,fun j hj=>absurd hj (by omega),H2.out⟩
 case round =>
  obtain ⟨k,A',c',hk,rfl,hbd,hr⟩:=hrel;clear H2;obtain ⟨bq,hbq⟩:∃ bq,bq=bdE b1 k s1:=⟨_,rfl⟩;have HR:=zh hr;have cg1:wr.cell? ⟨g,1,none⟩=some (.bool bq):=by rw [hbq];exact zcr wr g 1 _ 72 (0,0) hr.q.hr
  have HBQ:=zh hbq;have HBD:=zh hbd;have hk65:k≤n∧k≤65:=by have:=HKK.out;omega
  clear hbq hr hbd
  by_cases hlt:k<KK
  ·have hkn:k<n∧k<65:=by have:=HKK.out;omega
   have t1:decide ((k:Int)<(n:Int))=true:=decide_eq_true (by omega);have t2:decide ((k:Int)<65)=true:=decide_eq_true (by omega);have t1':decide (k<n)=true:=decide_eq_true (by omega);have t2':decide (k<65)=true:=decide_eq_true (by omega)
   cases bq with
   | true =>
     have HX:=zh (HEND.out k A' c' wr hk HBD.out (.inr HBQ.out.symm) HR.out);clear HEND HR HBQ HBD
     go_wp2_with fail
     first|go_end0|refine bodyPost_ret (results_none rfl _ _ _) rfl ?_
     exact ⟨rfl,A',c',HX.out⟩
   | false =>
     have KG:Hid (∀ W,Xr w0 g p ((mKe E s1 k).at_ A' c') (lT k s1) false W→Calls Tryz.prog 43 #[.pointer (some ⟨g,0,none⟩)] W fun q w'=>q=.returned (ev (gE (lT k s1) false))∧Xr w0 g p ((mKe E s1 k).at_ A' c') (lT (k+1) s1) (bdE b1 (k+1) s1) w'):=by
      intro W hW;refine (xr_getE w0 g p _ _ W hW).mono ?_;rintro q w' ⟨h1,h2⟩;rw [bdE_snoc b1 k s1 HBQ.out.symm,lT_snoc];exact ⟨h1,h2⟩
     have HXD:Hid (Xr w0 g p ((mKe E s1 k).at_ A' c') (lT k s1) false wr.drew):=by
      have h3:=HR.out.drew;rw [←HBQ.out] at h3;exact h3
     have HBD2:Hid (∀ j,j<k+1→bdE b1 j s1=false):=by
      intro j hj
      rcases Nat.lt_or_eq_of_le (Nat.le_of_lt_succ hj) with h3|h3
      ·exact HBD.out j h3
      ·rw [h3];exact HBQ.out.symm
     have HNX:Hid (∀ g4 cap W,Xr w0 g p ({ (mKe E s1 k).at_ A' c' with A:=some ⟨g4,0,none⟩,n:=(E.es++lE k s1).length+1,c:=cap,es:=(E.es++lE k s1)++[gE (lT k s1) false] }:Ms) (lT (k+1) s1) (bdE b1 (k+1) s1) W→Xr w0 g p ((mKe E s1 (k+1)).at_ (some ⟨g4,0,none⟩) cap) (lT (k+1) s1) (bdE b1 (k+1) s1) W):=by
      intro g4 cap W hW;rw [mKe_next] at hW;exact hW
     obtain ⟨M,hM⟩:∃ M,M=(mKe E s1 k).at_ A' c':=⟨_,rfl⟩;obtain ⟨e,he⟩:∃ e,e=gE (lT k s1) false:=⟨_,rfl⟩;obtain ⟨es,hes⟩:∃ es,es=E.es++lE k s1:=⟨_,rfl⟩;obtain ⟨nn,hnn⟩:∃ nn,nn=(E.es++lE k s1).length:=⟨_,rfl⟩;have hME:Hid (M.es=es∧M.n=nn∧M.A=A'∧M.c=c'):=by show _∧_;rw [hM,hes,hnn];exact ⟨rfl,rfl,rfl,rfl⟩
     have hnb:nn≤10065:=by rw [hnn,List.length_append,lE_length];have:=HLEN.out;omega
     rw [←hM,←he] at KG;rw [←hM] at HXD;rw [←hM,←he,←hes] at HNX;have HNN:Hid (nn=es.length):=by rw [hes];exact hnn
     rw [←HNN.out] at HNX;have hpl:p<wr.drew.heap.size:=HXD.out.gs
     have xx9:wr.drew.cell? ⟨p,9,none⟩=some (.slice A' nn c'):=by
      have h3:=HXD.out.cell 9;rw [show (mc M)[9]?=some (.slice M.A M.n M.c) from rfl,hME.out.2.1,hME.out.2.2.1,hME.out.2.2.2] at h3;exact h3
     clear hM he hes hnn HR HBQ HBD HEND
     go_upto_region 27 with fail
     go_region_law (first
      | (refine step_append_lies _ (by rfl) _ _ 27 (by rfl) (p+1) 24 i24 (ev ezz) 11 104 Tryz.underlying27 hi24 hz24 hs24 hb24 (by rfl) (by omega) (.slice A' nn c') nn (flat es) (by rfl) (by exact HOW.out) ⟨w3.heap.size,0,none⟩ 1 1 (ec e).toList (by rfl) rfl (by exact HNEWS.out) (fun u hu=>by simp at hu;rcases hu with rfl|rfl|rfl|rfl|rfl|rfl|rfl|rfl|rfl|rfl|rfl<;>rfl) (by omega) (by unfold maxLen;omega) (by omega) (by exact HBS.out) (w3.heap.size+1) (by simp) ?_;intro g4 cap w4 hown4 hgrow hat hlt4;have z9:w4.cell? ⟨p,9,none⟩=some (.slice A' nn c'):=World.grownBy.cell hgrow (by exact U9.out) (HNE.out);have g0:w4.frozen? ⟨p,9,none⟩=false:=(World.frozen?_of_block (hgrow.block _ (HGL.out) (HNE.out))).trans F9.out)
      | (go_simp;go_at_call 43;(with_reducible refine (KG.out _ HXD.out).mono ?_);rintro q w3 ⟨rfl,HC⟩;have HN2:Hid (Xr w0 g p M (lT (k+1) s1) (bdE b1 (k+1) s1) (w3.alloc (Obj.cells (ec e) 24))):=HC.below zba;have v9:w3.cell? ⟨p,9,none⟩=some (.slice A' nn c'):=(by have h3:=HC.cell 9;rw [show (mc M)[9]?=some (.slice M.A M.n M.c) from rfl,hME.out.2.1,hME.out.2.2.1,hME.out.2.2.2] at h3;exact h3);have U9:Hid ((w3.alloc (Obj.cells (ec e) 24)).cell? ⟨p,9,none⟩=some (.slice A' nn c')):=(by have h3:=HN2.out.cell 9;rw [show (mc M)[9]?=some (.slice M.A M.n M.c) from rfl,hME.out.2.1,hME.out.2.2.1,hME.out.2.2.2] at h3;exact h3);have t9:=U9.out;have HOW:Hid ((w3.alloc (Obj.cells (ec e) 24)).ownsRow (p+1) 24 11 (.slice A' nn c') nn (flat es)):=(by have h3:=HN2.out.own;rw [hME.out.1,hME.out.2.1,hME.out.2.2.1,hME.out.2.2.2] at h3;exact h3);have HNEWS:Hid (∀ (i:Nat) u,(ec e).toList[i]?=some u→(w3.alloc (Obj.cells (ec e) 24)).cell? ((⟨w3.heap.size,0,none⟩:Addr).add i)=some u):=fun i u hu=>cell_new_list w3 (ec e).toList 24 i u hu;have HBS:Hid (p+1≤(w3.alloc (Obj.cells (ec e) 24)).heap.size):=HN2.out.gs;have HGL:Hid (p<(w3.alloc (Obj.cells (ec e) 24)).heap.size):=HN2.out.gs;have HNE:Hid (some p≠(Value.slice A' nn c').ownBlock):=(fun e=>absurd (HOW.out.lt _ e.symm).1 (by omega));have F9:Hid ((w3.alloc (Obj.cells (ec e) 24)).frozen? ⟨p,9,none⟩=false):=Md.of HN2.out.al;clear HC))
     all_goals
      have hA:=HN2.out.app (e:=e) (n:=nn) hME.out.2.1 (by rw [hME.out.1];exact hown4) (by rw [hME.out.2.2.1,hME.out.2.2.2];exact hgrow);rw [hME.out.1] at hA;have HN3:=zh (HNX.out g4 cap _ hA);clear hA HN2 hown4 hgrow hat hlt4 g0 z9 xx9 v9 t9 U9 HOW HNEWS HBS HGL HNE F9 HXD KG hME hpl HNX HNN hnb cg1;go_wp2
      go_roundw
      case rel=>first|exact ⟨k+1,some ⟨g4,0,none⟩,cap,hlt,by go_num,HBD2.out,HN3.out⟩|((repeat apply Exists.intro);exact ⟨⟨k+1,some ⟨g4,0,none⟩,cap,hlt,by go_num,HBD2.out,HN3.out⟩,rfl⟩)
      case measure=>simp [intOf];omega
  ·have hkk:k=KK:=by omega
   have HX:=zh (HEND.out k A' c' wr hk HBD.out (.inl hkk) HR.out);clear HEND HR HBQ HBD
   by_cases hkn:k<n
   ·have t1:decide ((k:Int)<(n:Int))=true:=decide_eq_true (by omega);have t1':decide (k<n)=true:=decide_eq_true (by omega);have h65:¬ k<65:=by have:=HKK.out;omega
    have t2:decide ((k:Int)<65)=false:=decide_eq_false (by omega);have t2':decide (k<65)=false:=decide_eq_false h65
    cases bq
    all_goals
     go_wp2_with fail
     first|go_end0|refine bodyPost_ret (results_none rfl _ _ _) rfl ?_
     exact ⟨rfl,A',c',HX.out⟩
   ·have t1:decide ((k:Int)<(n:Int))=false:=decide_eq_false (by omega);have t1':decide (k<n)=false:=decide_eq_false hkn
    go_wp2_with fail
    first|go_end0|refine bodyPost_ret (results_none rfl _ _ _) rfl ?_
    exact ⟨rfl,A',c',HX.out⟩
end Go.Proofs.YtpdbeijfchmlgaaGreat.D
