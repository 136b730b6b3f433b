/- Parts of a proof. -/
import Derived.Test.YtidndekacnmihaaGreatC06
import Derived.Test.YtidndekacnmihaaGreatC07
set_option linter.all false
set_option maxHeartbeats 8000000
set_option maxRecDepth 100000
namespace Go.Proofs.YtidndekacnmihaaGreat
open Bool renaming false→Z,true→qe
open Ending renaming returned→R
open Go renaming World→I,Calls→Y
open Go.RowKit renaming Below→Q
open Go.RowKit.Below renaming refl→qk
open IntKind renaming u64→G,i64→H
open Lib renaming byteCells→qf,strCells→qg,OthersKept→qj
open List renaming replicate→qi
open Obj renaming cells→J
open Option renaming none→C,some→E
open Tryz renaming prog→O
open Value renaming int→F,pointer→L,string→N,slice→qc,tuple→qd,bool→qh,ownBlock→ql
open Tryz
variable {B:Nat} {x:ByteArray} {w w0 w1 wx:I}
open Go.RowKit
theorem zfq:(prog.info? 151).map (·.size)=E 2:=by kernel_rfl
theorem wlies:liesAt O prog.depth 338 (2 / prog.cellsOf 338) 0 151 1=qe:=by kernel_rfl
theorem ziN:prog.cellsOf 5=1:=by kernel_rfl
theorem zdv (b:Nat) (w:I) (h0:w.cell? ⟨b,0,C⟩=E (L (E ⟨b,0,C⟩))) :
 Y O 149 #[L (E ⟨b,0,C⟩)] w fun e w'=>e=R (qd #[])∧w'=w:=by
 obtain ⟨j,hj,_⟩:=Option.map_eq_some_iff.1 zfq;go_enter func149,ntmps149;go_wp2;rw [Lib.run_neq_ptr_same w _ underlying149 hj];go_wp2;go_end0;exact ⟨rfl,rfl⟩
theorem zcU (b:Nat) (w:I) (h0:w.cell? ⟨b,0,C⟩=E (L C)) (hsh:w.shape? b=E (338,2)) (hfz:w.frozen? ⟨b,0,C⟩=Z) :
 Y O 149 #[L (E ⟨b,0,C⟩)] w fun e w'=>e=R (qd #[])∧w'=w.setCell ⟨b,0,C⟩ (L (E ⟨b,0,C⟩)):=by
 obtain ⟨j,hj,hjs⟩:=Option.map_eq_some_iff.1 zfq;go_enter func149,ntmps149;go_wp2;rw [Lib.run_to_unsafe w ⟨b,0,C⟩ underlying149 underlying265 hj (by rw [hjs];decide) hsh (Nat.zero_lt_succ 1)];simp only [Result.andThen];rw [Oper.upon_value];go_wp2;rw [run_callFunc_extern func199 (by kernel_rfl) (by kernel_rfl) (by kernel_rfl) (e:=Extern.AbiNoEscape.same) (by kernel_rfl)];rw [Lib.run_noEscape];simp only [Result.andThen];rw [Oper.upon_value];go_wp2;rw [Lib.run_from_unsafe w ⟨b,0,C⟩ underlying265 underlying149 hj hsh wlies];simp only [Result.andThen];rw [Oper.upon_value];go_wp2;go_end0;exact ⟨rfl,rfl⟩
theorem wcheck (B b:Nat) (bs:List Value) (w:I) (h:Lib.IsBuilder 338 5 B b bs w) :
 Y O 149 #[L (E ⟨b,0,C⟩)] w fun e w'=>e=R (qd #[])∧Lib.BuilderAt 338 5 B b (L (E ⟨b,0,C⟩)) bs w'∧Q B w w'∧qj 5 (E b) w w':=by
 rcases h with h|h
 ·refine (zcU b w h.cell0 h.shape h.frozen0).mono ?_;rintro e w' ⟨rfl,rfl⟩;exact ⟨rfl,h.used _,(qk B w).setCell (p:=⟨b,0,C⟩) h.1 _,(Lib.OthersKept.refl _ _ w).setCell ⟨b,0,C⟩ rfl _⟩
 ·refine (zdv b w h.cell0).mono ?_;rintro e w' ⟨rfl,rfl⟩;exact ⟨rfl,h,qk B _,Lib.OthersKept.refl _ _ _⟩
def Wt (B b:Nat) (x:ByteArray) (w:I):Prop:=Lib.IsBuilder 338 5 B b (qg x) w
theorem zb1 (x s:ByteArray):qg x++qg s=qg (x++s):=by
 unfold qg
 simp
theorem wwrite (B b:Nat) (x s:ByteArray) (w:I) (h:Wt B b x w) (hlen:x.size+s.size≤140737488355328) (hBw:B≤w.heap.size) :
 Y O 182 #[L (E ⟨b,0,C⟩),N s] w fun e w'=>e=R (qd #[F H s.size,.nilIface])∧Wt B b (x++s) w'∧Q B w w'∧qj 5 (E b) w w':=by
 obtain ⟨i0,hi,hz0,hz1,hz2⟩:=info_parts info5;have hck:=zh (wcheck B b _ w h);clear h;have hlx:=zuL x;go_enter func182,ntmps182
 go_wp2_with (go_at_call 149;refine hck.out.mono ?_)
 rintro e w1 ⟨rfl,h1,hb1,ho1⟩;obtain ⟨hB,v,hbk,hown,hne⟩:=h1;have c0:w1.cell? ⟨b,0,C⟩=E (L (E ⟨b,0,C⟩)):=by rw [zuo hbk];rfl
 have c1:w1.cell? ⟨b,1,C⟩=E v:=by rw [zuo hbk];rfl
 go_wp2_with (at_builtin;refine Lib.wpList_append_own_string _ rfl _ _ 78 9 rfl B 5 i0 underlying78 underlying9 hi hz0 hz1 hz2 _ _ _ rfl hown s rfl ?c3 ?c4 ?c5 ?_)
 case c3=>unfold maxLen;omega
 case c4=>omega
 case c5=>have:=hb1.size;omega
 intro v' w2 hown' hgrow _;have hlt:b<w1.heap.size:=(zgx hbk)
 have hb2:w2.heap[b]?=E (J #[L (E ⟨b,0,C⟩),v] 338 (0,0)):=by
  rw [hgrow.block b hlt (fun e=>hne e.symm)];exact hbk
 have d0:w2.cell? ⟨b,0,C⟩=E (L (E ⟨b,0,C⟩)):=by rw [zuo hb2];rfl
 have d1:w2.cell? ⟨b,1,C⟩=E v:=by rw [zuo hb2];rfl
 have f1:w2.frozen? ⟨b,1,C⟩=Z:=zt6 hb2 1
 obtain ⟨ao,n',cap,rfl⟩:∃ ao n' cap,v'=.slice ao n' cap:=by
  rcases hown'.2 with ⟨hv,_⟩|⟨g,cap,cur,hv,_⟩
  ·exact ⟨_,_,_,hv⟩
  ·exact ⟨_,_,_,hv⟩
 go_wp2;go_ret2;refine ⟨rfl,?_,?_,?_⟩
 ·refine .inr ?_;rw [←zb1];exact Lib.BuilderAt.put (T:=338) (e:=5) hB hb2 (bs':=qg x++qg s) (by simpa [zuL] using hown') (by decide)
 ·exact (hb1.grown hgrow (by have:=hb1.size;omega) (fun k hk=>(hown.lt k hk).1)).setCell (p:=⟨b,1,C⟩) hB _
 ·refine (ho1.trans ?_:qj 5 (E b) w w2).setCell ⟨b,1,C⟩ rfl _;refine (Lib.OthersKept.refl 5 (E b) w1).grown hgrow fun g hg=>?_;rcases hown.2 with ⟨hv,_⟩|⟨g',cap',cur,hv,_,hg',_⟩
  ·rw [hv] at hg;simp [ql] at hg
  ·rw [hv] at hg;simp only [ql,Option.some.injEq] at hg;subst hg;exact ⟨cur,_,hg'⟩
theorem zb7 (x:ByteArray):qg x=qf x.data.toList:=by
 unfold qg qf
 simp
theorem wstring (B b:Nat) (x:ByteArray) (w:I) (h:Wt B b x w) (hx:0<x.size) :
 Y O 94 #[L (E ⟨b,0,C⟩)] w fun e w'=>e=R (N x)∧Q B w w':=by
 obtain ⟨p,hB,v,hbk,hown,hne⟩:∃ p,Lib.BuilderAt 338 5 B b p (qf x.data.toList) w:=by
  unfold Wt at h;rw [zb7] at h;rcases h with h|h
  ·exact ⟨_,h⟩
  ·exact ⟨_,h⟩
 obtain ⟨l,hl⟩:∃ l,l=x.data.toList:=⟨_,rfl⟩;have hxe:x=⟨l.toArray⟩:=by rw [hl]
 have hl0:l.length≠0:=by rw [hl];simp;intro e;rw [e] at hx;exact absurd hx (by decide)
 have hne0:l≠[]:=fun e=>hl0 (by rw [e];rfl);rw [←hl] at hown;rw [hxe];clear hxe hl hx h;rw [zuf] at hown
 obtain ⟨g,cap,cur,rfl,hbg,hg,hnc,hcm,hcs,htake⟩:∃ g cap cur,v=qc (E ⟨g,0,C⟩) l.length cap∧B≤g∧w.heap[g]?=E (J cur 5 (0,0))∧l.length≤cap∧cap≤maxLen∧cur.size=cap*1∧cur.toList.take (l.length*1)=qf l:=by
  rcases hown.2 with ⟨_,hz⟩|⟨g,cap,cur,hv,r⟩
  ·exact absurd hz hl0
  ·exact ⟨g,cap,cur,hv,r⟩
 have c1:w.drew.cell? ⟨b,1,C⟩=E (qc (E ⟨g,0,C⟩) l.length cap):=by
  have:w.drew.heap[b]?=E (J #[p,qc (E ⟨g,0,C⟩) l.length cap] 338 (0,0)):=hbk
  rw [zuo this];rfl
 have hSD:(Builtin.unsafeSliceData_ #[78] 215 #[qc (E ⟨g,0,C⟩) l.length cap]).run O w.drew=.ok (L (E ⟨g,0,C⟩)) w.drew :=
  Lib.run_unsafeSliceData_row _ _ _ _ _ _ (by omega)
 have hUS:(Builtin.unsafeString_ #[215,3] 9 #[L (E ⟨g,0,C⟩),F H l.length]).run O w.drew=.ok (N ⟨l.toArray⟩) (w.drew.freeze ⟨g,0,C⟩ l.length):=by
  refine Lib.run_unsafeString_row w.drew 215 3 9 5 underlying215 ziN g cur.size (by have hg':w.drew.heap[g]?=E (J cur 5 (0,0)):=hg;simp [World.shape?,hg']) l hne0 (by omega) (by unfold maxLen at hcm;omega) ?_;intro j x hx
  have:=hown.cells (g:=g) rfl j (F .u8 x.toNat) (by simp [qf,hx])
  exact this
 have mixed:prog.follows Departure.mixedOrders=qe:=by kernel_rfl
 go_enter func94,ntmps94;go_wp2
 go_region_o
 all_goals (go_wp2;go_ret;exact ⟨rfl,Lib.below_freeze (Below.drew (qk B w)) (p:=⟨g,0,C⟩) hbg _⟩)
def zer (n:Nat):ByteArray:=⟨(qi n (0:UInt8)).toArray⟩
theorem zer_size (n:Nat):(zer n).size=n:=by
 show (qi n (0:UInt8)).toArray.size=n
 simp
theorem zer_rep (n:Nat):(⟨(Lib.repeatL (⟨#[0]⟩:ByteArray).data.toList n).toArray⟩:ByteArray)=zer n:=by
 unfold zer
 congr 2
 induction n with
 | zero=>rfl
 | succ n ih =>
   rw [List.replicate_succ,←ih];rfl
theorem zeros_any (n:Nat) (w:I) (hn:n≤140737488355328) :
 Y O 299 #[F H n] w fun e w'=>e=R (N (zer n))∧Q w.heap.size w w':=by
 have hR:=strings_Repeat ⟨#[0]⟩ n w (by omega) (by show 1*n≤_;omega);rw [zer_rep] at hR;go_enter func299,ntmps299
 go_wp2_with (go_at_call 160;(with_reducible refine hR.mono ?_);rintro e w1 ⟨rfl,hb⟩)
 go_ret;exact ⟨rfl,hb⟩
structure Ws (w0:I) (B b:Nat) (x:ByteArray) (w:I):Prop where
 t:Wt B b x w
 be:Q B w0 w
 ok:qj 5 (E b) w0 w
 sz:B≤w.heap.size
 sw:w0.heap.size≤w.heap.size
theorem Wt.below {b:Nat} (h:Wt B b x w) (hb:Q w.heap.size w w1):Wt B b x w1:=by
 have key:∀ p,Lib.BuilderAt 338 5 B b p (qg x) w→Lib.BuilderAt 338 5 B b p (qg x) w1:=by
  rintro p ⟨hB,v,hbk,hown,hne⟩;refine ⟨hB,v,(hb.block b (zgx hbk)).trans hbk,?_,hne⟩
  exact hown.kept (row:=C) ⟨hb.os,hb.tape,hb.output,hb.size,fun k hk _=>hb.block k hk⟩ (by
   cases hv:v.ownBlock with
   | none=>exact .inl rfl
   | some k=>exact .inr (by simp))
 rcases h with h|h
 ·exact .inl (key _ h)
 ·exact .inr (key _ h)
theorem OthersKept.of_below {b:Option Nat} (hb:Q w.heap.size w w1):qj 5 b w w1:=fun i o hi h1 h2=>(hb.block i (zgx hi)).trans hi
theorem Ws.below {b:Nat} (h:Ws w0 B b x w) (hb:Q w.heap.size w w1):Ws w0 B b x w1 :=
 ⟨h.t.below hb,h.be.trans (hb.mono h.sz),h.ok.trans (OthersKept.of_below hb),ztL h.sz hb.size,ztL h.sw hb.size⟩
theorem Ws.drew {b:Nat} (h:Ws w0 B b x w):Ws w0 B b x w.drew:=⟨h.t,h.be.drew,h.ok,h.sz,h.sw⟩
theorem Ws.start {b:Nat} (h:Wt B b x w) (hB:B≤w.heap.size):Ws w B b x w:=⟨h,qk _ _,Lib.OthersKept.refl _ _ _,hB,ztI _⟩
theorem zaZ (B b n:Nat) (k:Nat) (x:ByteArray) (w:I) (h:Wt B b x w) (hlen:x.size≤140737488000000) (hB:B≤w.heap.size) (hk:k≤8) :
 Y O 297 #[L (E ⟨b,0,C⟩),F G n,F H k] w fun e w'=>e=R (qd #[])∧Ws w B b (x++Vi.fxB n k) w':=by
 have hfs:(Vi.fxB n k).size≤8:=by rw [Vi.zac n k hk];exact hk
 obtain ⟨s,hs⟩:∃ s,s=Vi.fxB n k:=⟨_,rfl⟩;have K1:Hid (∀ W,Ws w B b x W→Y O 212 #[F G n,F H k] W fun e w'=>e=R (N s)∧Ws w B b x w'):=fun W hW=>(zbm n k W).mono fun e w' ⟨h1,h2⟩=>⟨by rw [h1,hs],hW.below h2⟩;have K2:Hid (∀ W,Ws w B b x W→Y O 182 #[L (E ⟨b,0,C⟩),N s] W fun e w'=>e=R (qd #[F H s.size,.nilIface])∧Ws w B b (x++s) w'):=fun W hW=>(wwrite B b x s W hW.t (by rw [hs];omega) hW.sz).mono fun e w' ⟨h1,h2,h3,h4⟩=>⟨h1,h2,hW.be.trans h3,hW.ok.trans h4,ztL hW.sz h3.size,ztL hW.sw h3.size⟩;have S0:Ws w B b x w:=Ws.start h hB;have S1:=S0.drew;rw [←hs];clear h hlen hB hk hfs hs;go_enter func297,ntmps297
 go_region_held3 (fun _=>True) (trivial) (first
  | (go_at_call 212;(with_reducible refine (K1.out _ (by assumption)).mono ?_);rintro r w6 ⟨rfl,s5⟩)
  | (go_at_call 182;(with_reducible refine (K2.out _ (by assumption)).mono ?_);rintro r w7 ⟨rfl,s6⟩))
 all_goals
  go_wp2;go_end0;exact ⟨rfl,s6⟩
theorem zd1 {e:En} (ok:e.Ok) (h:¬ zrm e):zas e=Z:=by
 rw [Bool.eq_false_iff];exact fun h1=>h ((zcW e ok).1 h1)
theorem zdb (s:ByteArray):s.toList=[]↔(s.size:Int)=0:=by
 rw [ByteArray.toList_eq];show s.data.toList=[]↔(s.data.size:Int)=0;rw [←zug,←List.length_eq_zero_iff];omega
theorem ziV {e:En} (ok:e.Ok) {b:Bool} (f:fb e.kind=qe) (t:1≤e.term) (i:1≤e.index) (d:(e.data.size:Int)≤64) (o:(e.old.size:Int)≤64) (bl:e.block<4294967296) (m:e.many<4294967296)
 (F4:(zbo (fl e.kind) 99=qe→1≤e.client)∧(zbo (fl e.kind) 99=Z→e.client=0∧e.seq=0))
 (F6:(zbo (fl e.kind) 98=Z→e.block=0)∧(zbo (fl e.kind) 109=Z→e.many=0)∧(zbo (fl e.kind) 100=Z→(e.data.size:Int)=0)∧(zbo (fl e.kind) 111=Z→(e.old.size:Int)=0))
 (F8:(zbo (fl e.kind) 110=qe→1≤e.node∧e.node≤7)∧(zbo (fl e.kind) 110=Z→e.node=0))
 (hl:b=qe↔((zbo (fl e.kind) 108=qe→1≤e.level∧e.level≤2)∧(zbo (fl e.kind) 108=Z→e.level=0))):b=zas e:=by
 rw [Bool.eq_iff_iff,zcW e ok,hl];constructor
 ·rintro ⟨l1,l0⟩;exact ⟨f,t,i,F4.1,fun h=>(F4.2 h).1,fun h=>(F4.2 h).2,by omega,F6.1,by omega,F6.2.1,F8.1,F8.2,l1,l0,d,F6.2.2.1,o,F6.2.2.2⟩
 ·intro A;exact ⟨A.l1,A.l0⟩
structure Qx (B:Nat) (e:En) (w:I) (P:Prop) (b:Bool) (wx:I):Prop where
 no:b=qe→¬ zrm e
 yes:b=Z→P
 bx:Bx B e 69 wx
 be:Q B w wx
theorem zrq (h:Q B w wx):Q B w wx.drew:=⟨h.os,h.tape,h.output,h.size,h.block⟩
theorem zpb (n:Nat) (h:Q B w wx):Q B w (wx.drewN n):=⟨h.os,h.tape,h.output,h.size,h.block⟩
theorem zpc {e:En} (n:Nat) (h:Bx B e 69 wx):Bx B e 69 (wx.drewN n):=⟨h.bx⟩
theorem zrr {e:En} (h:Bx B e 69 wx):Bx B e 69 wx.drew:=⟨h.bx⟩
theorem zaY (e:En) (w:I) (ok:e.Ok) :
 Y O 258 #[ev e] w fun r w'=>r=R (qh (zas e))∧Q w.heap.size w w':=by
 have hs:(fl e.kind).size≤140737488355328:=by have:=zmn e.kind;omega
 have hd1:=ok.d1;have ho1:=ok.o1
 have HF:Hid (∀ W:I,Bx w.heap.size e 69 W→Q w.heap.size w W→Y O 138 #[F H e.kind] W fun r w'=>r=R (qd #[N (fl e.kind),qh (fb e.kind)])∧Bx w.heap.size e 69 w'∧Q w.heap.size w w') :=
  fun W g1 g2=>(ze1 e.kind W).mono fun r w' ⟨h1,h2⟩=>⟨h1,g1.below h2,g2.trans (h2.mono g2.size)⟩
 have HH:Hid (∀ (c:Int) (W:I),Y O 287 #[N (fl e.kind),F .u8 c] W fun r w'=>r=R (qh (zbo (fl e.kind) c))∧w'=W) :=
  fun c W=>(zqE _ c W hs).mono fun r w' ⟨h1,h2⟩=>⟨h1,h2.symm⟩
 have hb0:Q w.heap.size w (w.alloc (J (ec e) 69)):=zba;have hbx:Bx w.heap.size e 69 (w.alloc (J (ec e) 69)):=⟨ztJ w _⟩;have d2:=hbx.cell 2;simp only [ec,zuw,zuA,zuz] at d2;have HB:=zh hb0;have HX:=zh hbx;have OK:=zh ok;have k1:=ok.c0;have k2:=ok.s0;have k3:=ok.b0;have k4:=ok.m0;clear hb0 hbx ok;go_enter func258,ntmps258
 go_wp2_with (first
  | (go_at_call 138;(with_reducible refine (HF.out _ HX.out HB.out).mono ?_);rintro r w1 ⟨rfl,hx1,hb1⟩;have c0:=hx1.cell 0;have c1:=hx1.cell 1;have c3:=hx1.cell 3;have c4:=hx1.cell 4;have c5:=hx1.cell 5;have c6:=hx1.cell 6;have c7:=hx1.cell 7;have c8:=hx1.cell 8;have c9:=hx1.cell 9;have c10:=hx1.cell 10;simp only [ec,zuw,zuA,zuz] at c0 c1 c3 c4 c5 c6 c7 c8 c9 c10))
 all_goals try (go_ret;exact ⟨za9 (zd1 OK.out (fun A=>by have A1:=A.f;have A2:=A.t;have A3:=A.i;have A4:=A.b1;have A5:=A.m1;have A6:=A.d1;have A7:=A.o1;first|omega|simp_all)).symm,by assumption⟩)
 go_cut [60] from 45 to 60 (fun s wx=>∃ b:Bool,s=qh b∧Qx w.heap.size e w ((zbo (fl e.kind) 99=qe→1≤e.client)∧(zbo (fl e.kind) 99=Z→e.client=0∧e.seq=0)) b wx)
 case first =>
  rcases hC:zbo (fl e.kind) 99 with _|_<;>rcases hp:decide (0<e.client) with _|_<;>rcases hq:decide (0<e.seq) with _|_
  all_goals
   go_quiet ((go_at_call 287;exact Calls.quiet_of_same (HH.out _ _)))
   go_wp2;go_meet;have hp':=hp;have hq':=hq;simp only [decide_eq_false_iff_not,decide_eq_true_eq] at hp' hq';refine ⟨_,rfl,⟨?_,?_,by first|assumption|exact zrr (by assumption)|exact zpc _ (by assumption),by first|assumption|exact zrq (by assumption)|exact zpb _ (by assumption)⟩⟩
   ·intro hb A;have A1:=A.c1;have A2:=A.c0;have A3:=A.s0;simp [hC] at A1 A2 A3 hb<;>omega
   ·intro hb;constructor<;>intro h<;>simp_all<;>omega
 case rest =>
  obtain ⟨b,rfl,hq4⟩:=hcut;have hx2:=hq4.bx;have hb2:=hq4.be;have N4:=zh hq4.no;have Y4:=zh hq4.yes;clear hq4;have e5:=hx2.cell 5;have e6:=hx2.cell 6;have e7:=hx2.cell 7;have e8:=hx2.cell 8;have e9:=hx2.cell 9;have e10:=hx2.cell 10;simp only [ec,zuw,zuA,zuz] at e5 e6 e7 e8 e9 e10
  cases b with
  | true =>
    have NA:=zh (zd1 OK.out (N4.out rfl));clear N4 Y4;go_wp2;go_ret;exact ⟨za9 NA.out.symm,hb2⟩
  | false =>
    have F4:=zh (Y4.out rfl);clear N4 Y4
    go_upto_region 6 with fail
    go_cut [98] from 61 to 98 (fun s wx=>∃ b:Bool,s=qh b∧Qx w.heap.size e w ((zbo (fl e.kind) 98=Z→e.block=0)∧(zbo (fl e.kind) 109=Z→e.many=0)∧(zbo (fl e.kind) 100=Z→(e.data.size:Int)=0)∧(zbo (fl e.kind) 111=Z→(e.old.size:Int)=0)) b wx)
    case first =>
     go_wp2_with (go_at_call 287;(with_reducible refine (HH.out _ _).mono ?_);rintro r w' ⟨rfl,rfl⟩)
     all_goals
      go_meet;refine ⟨_,rfl,⟨?_,?_,hx2,hb2⟩⟩
      ·intro hb A;have A1:=A.b0;have A2:=A.m0;have A3:=A.d0;have A4:=A.o0;have T1:=zdb e.data;have T2:=zdb e.old
       simp_all<;>omega
      ·intro hb;have T1:=zdb e.data;have T2:=zdb e.old;refine ⟨fun h=>?_,fun h=>?_,fun h=>?_,fun h=>?_⟩<;>simp_all<;>omega
    case rest =>
     obtain ⟨b,rfl,hq6⟩:=hcut;have hx3:=hq6.bx;have hb3:=hq6.be;have N6:=zh hq6.no;have Y6:=zh hq6.yes;clear hq6;have f7:=hx3.cell 7;have f8:=hx3.cell 8;simp only [ec,zuw,zuA,zuz] at f7 f8
     cases b with
     | true =>
       have NA:=zh (zd1 OK.out (N6.out rfl));clear N6 Y6;go_wp2;go_ret;exact ⟨za9 NA.out.symm,hb3⟩
     | false =>
       have F6:=zh (Y6.out rfl);clear N6 Y6
       go_upto_region 8 with fail
       go_cut [120] from 99 to 120 (fun s wx=>∃ b:Bool,s=qh b∧Qx w.heap.size e w ((zbo (fl e.kind) 110=qe→1≤e.node∧e.node≤7)∧(zbo (fl e.kind) 110=Z→e.node=0)) b wx)
       case first =>
        go_wp2_with (go_at_call 287;(with_reducible refine (HH.out _ _).mono ?_);rintro r w' ⟨rfl,rfl⟩)
        all_goals
         go_meet;refine ⟨_,rfl,⟨?_,?_,hx3,hb3⟩⟩
         ·intro hb A;have A1:=A.n1;have A2:=A.n0
          simp_all<;>omega
         ·intro hb;refine ⟨fun h=>?_,fun h=>?_⟩<;>simp_all<;>omega
       case rest =>
        obtain ⟨b,rfl,hq8⟩:=hcut;have hx4:=hq8.bx;have hb4:=hq8.be;have N8:=zh hq8.no;have Y8:=zh hq8.yes;clear hq8;have g8:=hx4.cell 8;simp only [ec,zuw,zuA,zuz] at g8
        cases b with
        | true =>
          have NA:=zh (zd1 OK.out (N8.out rfl));clear N8 Y8;go_wp2;go_ret;exact ⟨za9 NA.out.symm,hb4⟩
        | false =>
          have F8:=zh (Y8.out rfl);clear N8 Y8
          go_wp2_with (go_at_call 287;(with_reducible refine (HH.out _ _).mono ?_);rintro r w' ⟨rfl,rfl⟩)
          all_goals
           go_ret;refine ⟨za9 ?_,hb4⟩;refine ziV OK.out (by assumption) (by omega) (by omega) (by omega) (by omega) (by omega) (by omega) F4.out F6.out F8.out ?_;clear HF HH d2 HB HX OK F4 F6 F8
           first|(simp_all;done)|(simp_all;omega)|(constructor<;>simp_all<;>omega)
section
def fN (v:Int) (k:Int):ByteArray:=Vi.fxB v.toNat k
def pb (e:En):ByteArray :=
 fN e.kind 1++fN e.term 8++fN e.index 8++fN e.client 8++fN e.seq 8++fN e.block 4++fN e.many 4++fN e.node 1++fN e.level 1++fN e.data.size 1++(e.data++zer (66-e.data.size))
def zdl (e:En):Bool:=zas e&&(lvl e.kind==1)
def ze5 (e:En):ByteArray:=if zdl e then pb e else ⟨#[]⟩
theorem zdq (v k:Int) (h0:0≤k) (h:k≤8):(fN v k).size=k.toNat:=by
 obtain ⟨n,rfl⟩:=ztW h0;exact Vi.zac _ n (by omega)
structure Few (e:En):Prop where
 k0:0≤e.kind
 k1:e.kind≤11
 n0:0≤e.node
 n1:e.node≤7
 l0:0≤e.level
 l1:e.level≤2
 d:e.data.size≤64
 o:e.old.size≤64
 b:e.block≤4294967295
 m:e.many≤4294967295
theorem zjg {e:En} (ok:e.Ok) (h:zas e=qe):Few e:=by
 have A:=(zcW e ok).1 h;have f:0≤e.kind∧e.kind≤11:=of_decide_eq_true A.f;have hd:=A.d1;have ho:=A.o1;refine ⟨f.1,f.2,?_,?_,?_,?_,by omega,by omega,A.b1,A.m1⟩
 ·exact both (fun h=>by have:=A.n1 h;omega) (fun h=>by have:=A.n0 h;omega)
 ·exact both (fun h=>by have:=A.n1 h;omega) (fun h=>by have:=A.n0 h;omega)
 ·exact both (fun h=>by have:=A.l1 h;omega) (fun h=>by have:=A.l0 h;omega)
 ·exact both (fun h=>by have:=A.l1 h;omega) (fun h=>by have:=A.l0 h;omega)
theorem ziy {e:En} (h:Few e):(pb e).size=110:=by
 have:=h.d
 unfold pb;simp only [ztS,zer_size,zdq _ 1 (by omega) (by omega),zdq _ 8 (by omega) (by omega),zdq _ 4 (by omega) (by omega)];omega
theorem zf7 {b i:Nat} {cs:Array Value} {T:TypeId} {fz:Nat×Nat} (h:qj 5 (E b) w w1) (hi:w.heap[i]?=E (J cs T fz)) (hb:i≠b) (hT:T≠5):w1.heap[i]?=E (J cs T fz) :=
 h i _ hi (by simpa using hb) (fun c z he=>by simp at he;exact hT he.2.1)
structure We (w0:I) (B b:Nat) (e:En) (x:ByteArray) (r:Nat) (w:I):Prop where
 s:Ws w0 B b x w
 lb:b<w0.heap.size
 box:w.heap[w0.heap.size]?=E (J (ec e) 69 (0,0))
 fn:w.heap[w0.heap.size+1]?=E (J #[.func (.func 297) #[L (E ⟨b,0,C⟩)] #[]] 231 (0,0))
 sz:x.size+r≤140737488000000
section
variable {w0:I} {B b:Nat} {e:En} {x:ByteArray} {r:Nat} {w w1:I}
theorem We.cell (h:We w0 B b e x r w) (i:Nat):w.cell? ⟨w0.heap.size,i,C⟩=(ec e)[i]?:=zcr w _ i _ 69 (0,0) h.box
theorem We.fcell (h:We w0 B b e x r w):w.cell? ⟨w0.heap.size+1,0,C⟩=E (.func (.func 297) #[L (E ⟨b,0,C⟩)] #[]):=zcr w _ 0 _ 231 (0,0) h.fn
theorem We.drew (h:We w0 B b e x r w):We w0 B b e x r w.drew:=⟨h.s.drew,h.lb,h.box,h.fn,h.sz⟩
theorem We.below (h:We w0 B b e x r w) (hb:Q w.heap.size w w1):We w0 B b e x r w1 :=
 ⟨h.s.below hb,h.lb,(hb.block _ (zgx h.box)).trans h.box,(hb.block _ (zgx h.fn)).trans h.fn,h.sz⟩
theorem We.on {y:ByteArray} {r':Nat} (h:We w0 B b e x r w) (k:Ws w B b (x++y) w1) (hr:y.size+r'≤r):We w0 B b e (x++y) r' w1:=by
 have h1:=h.lb;have h2:=h.sz;exact ⟨⟨k.t,h.s.be.trans k.be,h.s.ok.trans k.ok,k.sz,ztL h.s.sw k.sw⟩,h.lb,zf7 k.ok h.box (by omega) (by decide),zf7 k.ok h.fn (by omega) (by decide),by rw [ztS];omega⟩
theorem We.all (h:We w0 B b e x r w):We w0 B b e x r w∧w.cell? ⟨w0.heap.size,0,C⟩=E (F G e.term)∧w.cell? ⟨w0.heap.size,1,C⟩=E (F G e.index)∧w.cell? ⟨w0.heap.size,2,C⟩=E (F H e.kind)∧w.cell? ⟨w0.heap.size,3,C⟩=E (F G e.client)∧w.cell? ⟨w0.heap.size,4,C⟩=E (F G e.seq)∧w.cell? ⟨w0.heap.size,5,C⟩=E (F G e.block)∧w.cell? ⟨w0.heap.size,6,C⟩=E (F G e.many)∧w.cell? ⟨w0.heap.size,7,C⟩=E (F H e.node)∧w.cell? ⟨w0.heap.size,8,C⟩=E (F H e.level)∧w.cell? ⟨w0.heap.size,9,C⟩=E (N e.data)∧w.cell? ⟨w0.heap.size+1,0,C⟩=E (.func (.func 297) #[L (E ⟨b,0,C⟩)] #[]):=⟨h,h.cell 0,h.cell 1,h.cell 2,h.cell 3,h.cell 4,h.cell 5,h.cell 6,h.cell 7,h.cell 8,h.cell 9,h.fcell⟩
end
theorem zhk (w0:I) (B b:Nat) (e:En) (x:ByteArray) (r:Nat) (v k:Int) (w:I) (h:We w0 B b e x r w) (hr:8≤r) (hv:0≤v) (hk:0≤k∧k≤8) :
 Y O 297 #[L (E ⟨b,0,C⟩),F G v,F H k] w fun q w'=>q=R (qd #[])∧We w0 B b e (x++fN v k) (r-8) w'∧w'.cell? ⟨w0.heap.size,0,C⟩=E (F G e.term)∧w'.cell? ⟨w0.heap.size,1,C⟩=E (F G e.index)∧w'.cell? ⟨w0.heap.size,2,C⟩=E (F H e.kind)∧w'.cell? ⟨w0.heap.size,3,C⟩=E (F G e.client)∧w'.cell? ⟨w0.heap.size,4,C⟩=E (F G e.seq)∧w'.cell? ⟨w0.heap.size,5,C⟩=E (F G e.block)∧w'.cell? ⟨w0.heap.size,6,C⟩=E (F G e.many)∧w'.cell? ⟨w0.heap.size,7,C⟩=E (F H e.node)∧w'.cell? ⟨w0.heap.size,8,C⟩=E (F H e.level)∧w'.cell? ⟨w0.heap.size,9,C⟩=E (N e.data)∧w'.cell? ⟨w0.heap.size+1,0,C⟩=E (.func (.func 297) #[L (E ⟨b,0,C⟩)] #[]):=by
 obtain ⟨n,rfl⟩:=ztW hv;obtain ⟨j,rfl⟩:=ztW hk.1;have hs:(fN n j).size=j:=by rw [zdq _ _ (by omega) (by omega)];omega
 have h1:=h.sz;exact (zaZ B b n j x w h.s.t (by omega) h.s.sz (by omega)).mono fun q w' ⟨h2,h3⟩=>⟨h2,(h.on (y:=fN n j) h3 (by omega)).all⟩
theorem zn0 (w0:I) (B b:Nat) (e:En) (x:ByteArray) (r:Nat) (v:Int) (w:I) (h:We w0 B b e x r w) (hr:8≤r) (hv:0≤v∧v≤255) :
 Y O 298 #[F H v,L (E ⟨w0.heap.size+1,0,C⟩)] w fun q w'=>q=R (qd #[])∧We w0 B b e (x++fN v 1) (r-8) w'∧w'.cell? ⟨w0.heap.size,0,C⟩=E (F G e.term)∧w'.cell? ⟨w0.heap.size,1,C⟩=E (F G e.index)∧w'.cell? ⟨w0.heap.size,2,C⟩=E (F H e.kind)∧w'.cell? ⟨w0.heap.size,3,C⟩=E (F G e.client)∧w'.cell? ⟨w0.heap.size,4,C⟩=E (F G e.seq)∧w'.cell? ⟨w0.heap.size,5,C⟩=E (F G e.block)∧w'.cell? ⟨w0.heap.size,6,C⟩=E (F G e.many)∧w'.cell? ⟨w0.heap.size,7,C⟩=E (F H e.node)∧w'.cell? ⟨w0.heap.size,8,C⟩=E (F H e.level)∧w'.cell? ⟨w0.heap.size,9,C⟩=E (N e.data)∧w'.cell? ⟨w0.heap.size+1,0,C⟩=E (.func (.func 297) #[L (E ⟨b,0,C⟩)] #[]):=by
 have c:=h.fcell;have hw:G.wrap v=v:=IntWalk.u64_in _ (by omega);have K:=zh (zhk w0 B b e x r v 1 w h hr hv.1 (by omega));clear h;go_enter func298,ntmps298
 go_wp2_with (go_at_call 297;(with_reducible refine K.out.mono ?_);rintro q w1 ⟨rfl,h1⟩)
 go_end0;exact ⟨rfl,h1⟩
theorem zn1 (w0:I) (B b:Nat) (e:En) (x s:ByteArray) (r:Nat) (w:I) (h:We w0 B b e x r w) (hr:s.size≤r) :
 Y O 182 #[L (E ⟨b,0,C⟩),N s] w fun q w'=>q=R (qd #[F H s.size,.nilIface])∧We w0 B b e (x++s) (r-s.size) w'∧w'.cell? ⟨w0.heap.size,0,C⟩=E (F G e.term)∧w'.cell? ⟨w0.heap.size,1,C⟩=E (F G e.index)∧w'.cell? ⟨w0.heap.size,2,C⟩=E (F H e.kind)∧w'.cell? ⟨w0.heap.size,3,C⟩=E (F G e.client)∧w'.cell? ⟨w0.heap.size,4,C⟩=E (F G e.seq)∧w'.cell? ⟨w0.heap.size,5,C⟩=E (F G e.block)∧w'.cell? ⟨w0.heap.size,6,C⟩=E (F G e.many)∧w'.cell? ⟨w0.heap.size,7,C⟩=E (F H e.node)∧w'.cell? ⟨w0.heap.size,8,C⟩=E (F H e.level)∧w'.cell? ⟨w0.heap.size,9,C⟩=E (N e.data)∧w'.cell? ⟨w0.heap.size+1,0,C⟩=E (.func (.func 297) #[L (E ⟨b,0,C⟩)] #[]):=by
 have h1:=h.sz;exact (wwrite B b x s w h.s.t (by omega) h.s.sz).mono fun q w' ⟨h2,h3,h4,h5⟩=>⟨h2,(h.on (w1:=w') (y:=s) ⟨h3,h4,h5,ztL h.s.sz h4.size,h4.size⟩ (by omega)).all⟩
theorem zlq (B b:Nat) (e:En) (x:ByteArray) (w:I) (h:Wt B b x w) (hx:x.size≤140737487000000) (hB:B≤w.heap.size) (ok:e.Ok) (fw:Few e) :
 Y O 281 #[L (E ⟨b,0,C⟩),ev e] w fun q w'=>q=R (qd #[])∧Ws w B b (x++pb e) w':=by
 have hmf:=zmL;obtain ⟨W0,hW0⟩:∃ W0,W0=(w.alloc (J (ec e) 69)).alloc (J #[.func (.func 297) #[L (E ⟨b,0,C⟩)] #[]] 231):=⟨_,rfl⟩;have hb0:Q w.heap.size w W0:=by rw [hW0];exact zba.alloc (by simp) _
 have hlt:b<w.heap.size:=by rcases h with h|h<;>exact h.lt
 have S0:We w B b e x 1000 W0:=by
  have k0:W0.heap[w.heap.size]?=E (J (ec e) 69 (0,0)):=by
   rw [hW0];exact (ztQ _ _ _ (by simp)).trans (ztJ w _)
  have k1:W0.heap[w.heap.size+1]?=E (J #[.func (.func 297) #[L (E ⟨b,0,C⟩)] #[]] 231 (0,0)):=by
   have h:=ztJ (w.alloc (J (ec e) 69)) (J #[.func (.func 297) #[L (E ⟨b,0,C⟩)] #[]] 231);rw [show (w.alloc (J (ec e) 69)).heap.size=w.heap.size+1 by simp] at h;rw [hW0];exact h
  exact ⟨(Ws.start h hB).below hb0,hlt,k0,k1,by omega⟩
 have S1:=S0.all;have K53:=zh (zhk w B b e);have K54:=zh (zn0 w B b e);have K55:=zh (zn1 w B b e);have g1:=ok.t0;have g2:=ok.i0;have g3:=ok.c0;have g4:=ok.s0;have g5:=ok.b0;have g6:=ok.m0;have q1:0≤e.kind∧e.kind≤255:=⟨fw.k0,by have:=fw.k1;omega⟩;have q2:0≤e.node∧e.node≤255:=⟨fw.n0,by have:=fw.n1;omega⟩;have q3:0≤e.level∧e.level≤255:=⟨fw.l0,by have:=fw.l1;omega⟩;have q4:0≤(e.data.size:Int)∧(e.data.size:Int)≤255:=by have:=fw.d;omega
 have q5:e.data.size≤64:=fw.d;obtain ⟨S,c0,c1,c2,c3,c4,c5,c6,c7,c8,c9,cf⟩:=S1;have HW0:=zh hW0;clear hW0 hb0 hlt S0 h hx hB ok fw;go_enter func281,ntmps281
 go_upto_region 3 with fail
 rw [←HW0.out];clear HW0
 have K38:Hid (∀ (x:ByteArray) (r:Nat) (W:I),We w B b e x r W→Y O 299 #[F H (H.wrap (66-(e.data.size:Int)))] W fun q w'=>q=R (N (zer (66-e.data.size)))∧We w B b e x r w'∧w'.cell? ⟨w.heap.size,9,C⟩=E (N e.data)):=by
  intro x r W hW;have q6:H.wrap ((66:Int)-e.data.size)=((66-e.data.size:Nat):Int):=(IntWalk.i64_in _ (by omega)).trans (by omega);rw [q6];exact (zeros_any _ W (by omega)).mono fun q w' ⟨h1,h2⟩=>⟨h1,(hW.below h2),(hW.below h2).cell 9⟩
 go_upto_region 13 with (first
  | (go_at_call 298;(with_reducible refine (K54.out _ _ _ _ S (by omega) (by assumption)).mono ?_);clear S c0 c1 c2 c3 c4 c5 c6 c7 c8 c9 cf;rintro q w1 ⟨rfl,S,c0,c1,c2,c3,c4,c5,c6,c7,c8,c9,cf⟩)
  | (go_at_call 297;(with_reducible refine (K53.out _ _ _ _ _ S (by omega) (by assumption) (by omega)).mono ?_);clear S c0 c1 c2 c3 c4 c5 c6 c7 c8 c9 cf;rintro q w1 ⟨rfl,S,c0,c1,c2,c3,c4,c5,c6,c7,c8,c9,cf⟩))
 have Sd:=S.drew
 go_region_held3 (fun w'=>w'.cell? ⟨w.heap.size,9,C⟩=E (N e.data)) (first|exact c9|assumption) (first
  | (go_at_call 182;(with_reducible refine (K55.out _ _ _ _ Sd (by omega)).mono ?_);rintro q w13 ⟨rfl,T,d0,d1,d2,d3,d4,d5,d6,d7,d8,d9,df⟩))
 go_wp2_with fail
 have Td:=T.drew;clear S c0 c1 c2 c3 c4 c5 c6 c7 c8 c9 cf Sd
 go_region_held3 (fun w'=>w'.cell? ⟨w.heap.size,9,C⟩=E (N e.data)) (first|exact d9|assumption) (first
  | (go_at_call 299;(with_reducible refine (K38.out _ _ _ Td).mono ?_);rintro q w14 ⟨rfl,U,u9⟩)
  | (go_at_call 182;(with_reducible refine (K55.out _ _ _ _ U (by rw [zer_size];omega)).mono ?_);rintro q w15 ⟨rfl,V,v0,v1,v2,v3,v4,v5,v6,v7,v8,v9,vf⟩))
 go_wp2_with fail
 go_end0;refine ⟨rfl,?_⟩;have h:=V.s;unfold pb;simp only [Vi.zaK] at h ⊢;exact h
theorem zqw (e:En) (w:I) (ok:e.Ok) :
 Y O 280 #[ev e] w fun q w'=>q=R (qh (zdl e))∧Q w.heap.size w w':=by
 obtain ⟨W0,hW0⟩:∃ W0,W0=w.alloc (J (ec e) 69):=⟨_,rfl⟩;have hb0:Q w.heap.size w W0:=by rw [hW0];exact zba
 have k0:W0.heap[w.heap.size]?=E (J (ec e) 69 (0,0)):=by rw [hW0];exact ztJ w _
 have KR:=zh (fun (W:I)=>zbR e W ok);have KL:=zh (fun (W:I)=>zmT e W);have HW0:=zh hW0;have HB:=zh hb0;have HK:=zh k0;have hlt:w.heap.size<W0.heap.size:=(zgx k0);have HLT:=zh hlt;obtain ⟨rb,hrb⟩:∃ rb,rb=zas e:=⟨_,rfl⟩;obtain ⟨lv,hlv⟩:∃ lv,lv=lvl e.kind:=⟨_,rfl⟩;have HM:Hid (zdl e=(rb&&(lv==1))):=by show _=_;unfold zdl;rw [←hrb,←hlv]
 have HR:=zh hrb;have HL:=zh hlv;clear hW0 hb0 k0 ok hlt hrb hlv
 cases rb with
 | true =>
   go_enter func280,ntmps280
   go_wp2_with (first
    | (go_at_call 282;rw [←HW0.out];(with_reducible refine (KR.out _).mono ?_);rintro q w1 ⟨h1,hb1⟩;rw [←HR.out] at h1;subst h1;have k1:w1.heap[w.heap.size]?=E (J (ec e) 69 (0,0)):=(hb1.block _ HLT.out).trans HK.out;have c0:w1.cell? ⟨w.heap.size,0,C⟩=E (F G e.term):=zcr w1 _ 0 _ 69 (0,0) k1;have c1:w1.cell? ⟨w.heap.size,1,C⟩=E (F G e.index):=zcr w1 _ 1 _ 69 (0,0) k1;have c2:w1.cell? ⟨w.heap.size,2,C⟩=E (F H e.kind):=zcr w1 _ 2 _ 69 (0,0) k1;have c3:w1.cell? ⟨w.heap.size,3,C⟩=E (F G e.client):=zcr w1 _ 3 _ 69 (0,0) k1;have c4:w1.cell? ⟨w.heap.size,4,C⟩=E (F G e.seq):=zcr w1 _ 4 _ 69 (0,0) k1;have c5:w1.cell? ⟨w.heap.size,5,C⟩=E (F G e.block):=zcr w1 _ 5 _ 69 (0,0) k1;have c6:w1.cell? ⟨w.heap.size,6,C⟩=E (F G e.many):=zcr w1 _ 6 _ 69 (0,0) k1;have c7:w1.cell? ⟨w.heap.size,7,C⟩=E (F H e.node):=zcr w1 _ 7 _ 69 (0,0) k1;have c8:w1.cell? ⟨w.heap.size,8,C⟩=E (F H e.level):=zcr w1 _ 8 _ 69 (0,0) k1;have c9:w1.cell? ⟨w.heap.size,9,C⟩=E (N e.data):=zcr w1 _ 9 _ 69 (0,0) k1;have c10:w1.cell? ⟨w.heap.size,10,C⟩=E (N e.old):=zcr w1 _ 10 _ 69 (0,0) k1;have HB1:=zh (HB.out.trans (hb1.mono HB.out.size));clear k1 hb1)
    | (go_at_call 296;(with_reducible refine (KL.out _).mono ?_);rintro q w2 ⟨h2,hb2⟩;rw [←HL.out] at h2;subst h2;have HB2:=zh (HB1.out.trans (hb2.mono HB1.out.size));clear hb2))
   all_goals
    go_ret;exact ⟨by rw [HM.out];rfl,HB2.out⟩
 | false =>
   go_enter func280,ntmps280
   go_wp2_with (first
    | (go_at_call 282;rw [←HW0.out];(with_reducible refine (KR.out _).mono ?_);rintro q w1 ⟨h1,hb1⟩;rw [←HR.out] at h1;subst h1;have HB1:=zh (HB.out.trans (hb1.mono HB.out.size));clear hb1))
   go_ret;exact ⟨by rw [HM.out];rfl,HB1.out⟩
end
theorem zda {e:En} (h:zdl e=qe):zas e=qe:=by
 unfold zdl at h;simp only [ztZ] at h;exact h.1
theorem zc7 (w:I) (B:Nat) (hB:B≤w.heap.size):Wt B w.heap.size ⟨#[]⟩ (w.alloc (J #[L C,qc C 0 0] 338)):=by
 refine .inl ⟨hB,qc C 0 0,ztJ w _,zuF _ _ _ _,by simp [ql]⟩
theorem zdY {a b:ByteArray} {x y:Bool} (h:a=b) (k:x=y):R (qd #[N a,qh x])=R (qd #[N b,qh y]):=by rw [h,k]
theorem zoY (e:En) (w:I) (ok:e.Ok) :
 Y O 246 #[ev e] w fun q w'=>q=R (qd #[N (ze5 e),qh (zdl e)])∧Q w.heap.size w w':=by
 obtain ⟨W0,hW0⟩:∃ W0,W0=w.alloc (J (ec e) 69):=⟨_,rfl⟩;have hb0:Q w.heap.size w W0:=by rw [hW0];exact zba
 have k0:W0.heap[w.heap.size]?=E (J (ec e) 69 (0,0)):=by rw [hW0];exact ztJ w _
 have hlt:w.heap.size<W0.heap.size:=(zgx k0);have KM:=zh (fun (W:I)=>zqw e W ok);have HW0:=zh hW0;have HB:=zh hb0;have HK:=zh k0;have HLT:=zh hlt;have OK:=zh ok;clear hW0 hb0 k0 ok hlt
 cases hm:zdl e with
 | false =>
   rw [hm] at KM;have HP:Hid (ze5 e=⟨#[]⟩):=by show _=_;unfold ze5;rw [hm];rfl
   clear hm;go_enter func246,ntmps246
   go_wp2_with (first
    | (go_at_call 280;rw [←HW0.out];(with_reducible refine (KM.out _).mono ?_);rintro q w1 ⟨rfl,hb1⟩))
   go_ret2;exact ⟨zdY HP.out.symm rfl,HB.out.trans (hb1.mono HB.out.size)⟩
 | true =>
   have fw:=zjg OK.out (zda hm);have hes:(⟨#[]⟩:ByteArray).size≤140737487000000:=ztO _;rw [hm] at KM;have HP:Hid (ze5 e=pb e):=by show _=_;unfold ze5;rw [hm];rfl
   have HS:=zh (ziy fw);have FW:=zh fw;clear hm fw;go_enter func246,ntmps246
   go_wp2_with (first
    | (go_at_call 280;rw [←HW0.out];(with_reducible refine (KM.out _).mono ?_);rintro q w1 ⟨rfl,hb1⟩;have k1:w1.heap[w.heap.size]?=E (J (ec e) 69 (0,0)):=(hb1.block _ HLT.out).trans HK.out;have c0:(w1.alloc (J #[L C,qc C 0 0] 338)).cell? ⟨w.heap.size,0,C⟩=E (F G e.term):=zcr _ _ 0 _ 69 (0,0) ((ztQ w1 _ _ (zgx k1)).trans k1);have c1:(w1.alloc (J #[L C,qc C 0 0] 338)).cell? ⟨w.heap.size,1,C⟩=E (F G e.index):=zcr _ _ 1 _ 69 (0,0) ((ztQ w1 _ _ (zgx k1)).trans k1);have c2:(w1.alloc (J #[L C,qc C 0 0] 338)).cell? ⟨w.heap.size,2,C⟩=E (F H e.kind):=zcr _ _ 2 _ 69 (0,0) ((ztQ w1 _ _ (zgx k1)).trans k1);have c3:(w1.alloc (J #[L C,qc C 0 0] 338)).cell? ⟨w.heap.size,3,C⟩=E (F G e.client):=zcr _ _ 3 _ 69 (0,0) ((ztQ w1 _ _ (zgx k1)).trans k1);have c4:(w1.alloc (J #[L C,qc C 0 0] 338)).cell? ⟨w.heap.size,4,C⟩=E (F G e.seq):=zcr _ _ 4 _ 69 (0,0) ((ztQ w1 _ _ (zgx k1)).trans k1);have c5:(w1.alloc (J #[L C,qc C 0 0] 338)).cell? ⟨w.heap.size,5,C⟩=E (F G e.block):=zcr _ _ 5 _ 69 (0,0) ((ztQ w1 _ _ (zgx k1)).trans k1);have c6:(w1.alloc (J #[L C,qc C 0 0] 338)).cell? ⟨w.heap.size,6,C⟩=E (F G e.many):=zcr _ _ 6 _ 69 (0,0) ((ztQ w1 _ _ (zgx k1)).trans k1);have c7:(w1.alloc (J #[L C,qc C 0 0] 338)).cell? ⟨w.heap.size,7,C⟩=E (F H e.node):=zcr _ _ 7 _ 69 (0,0) ((ztQ w1 _ _ (zgx k1)).trans k1);have c8:(w1.alloc (J #[L C,qc C 0 0] 338)).cell? ⟨w.heap.size,8,C⟩=E (F H e.level):=zcr _ _ 8 _ 69 (0,0) ((ztQ w1 _ _ (zgx k1)).trans k1);have c9:(w1.alloc (J #[L C,qc C 0 0] 338)).cell? ⟨w.heap.size,9,C⟩=E (N e.data):=zcr _ _ 9 _ 69 (0,0) ((ztQ w1 _ _ (zgx k1)).trans k1);have c10:(w1.alloc (J #[L C,qc C 0 0] 338)).cell? ⟨w.heap.size,10,C⟩=E (N e.old):=zcr _ _ 10 _ 69 (0,0) ((ztQ w1 _ _ (zgx k1)).trans k1);have HB1:Hid (Q w.heap.size w w1):=zh (HB.out.trans (hb1.mono HB.out.size));have T1:=zh (zc7 w1 w.heap.size HB1.out.size);clear k1 hb1)
    | (go_at_call 281;(with_reducible refine (zlq w.heap.size w1.heap.size e ⟨#[]⟩ _ T1.out hes (ztL HB1.out.size (by simp)) OK.out FW.out).mono ?_);rintro q w2 ⟨rfl,S2⟩;have HS2:=zh S2;clear S2)
    | (go_at_call 94;(with_reducible refine (wstring w.heap.size w1.heap.size _ _ HS2.out.t (by rw [ztS,HS.out];omega)).mono ?_);rintro q w3 ⟨rfl,hb3⟩))
   go_ret2;refine ⟨zdY ?_ rfl,((HB1.out.alloc HB1.out.size _).trans HS2.out.be).trans hb3⟩;rw [HP.out];apply ByteArray.ext;simp
theorem zpa (v k:Int) (w:I) (hv:0≤v∧v≤18446744073709551615) :
 Y O 259 #[F G v,F H k] w fun q w'=>q=R (N (fN v k))∧Q w.heap.size w w':=by
 obtain ⟨n,rfl⟩:=ztW hv.1;have K:=zh (zaO n k w (by omega));go_enter func259,ntmps259
 go_wp2_with (go_at_call 172;(with_reducible refine K.out.mono ?_);rintro q w1 ⟨rfl,hb⟩)
 go_ret;exact ⟨rfl,hb⟩
structure Bq (w0:I) (e:En) (w:I):Prop where
 bx:Bx w0.heap.size e 69 w
 be:Q w0.heap.size w0 w
 sz:w0.heap.size≤w.heap.size
theorem Bq.on {e:En} (h:Bq w0 e w) (hb:Q w.heap.size w w1):Bq w0 e w1:=⟨h.bx.below hb,h.be.trans (hb.mono h.sz),ztL h.sz hb.size⟩
theorem Bq.drew {e:En} (h:Bq w0 e w):Bq w0 e w.drew:=⟨⟨h.bx.bx⟩,h.be.drew,h.sz⟩
theorem Bq.all {e:En} (h:Bq w0 e w):Bq w0 e w∧w.cell? ⟨w0.heap.size,0,C⟩=E (F G e.term)∧w.cell? ⟨w0.heap.size,1,C⟩=E (F G e.index)∧w.cell? ⟨w0.heap.size,2,C⟩=E (F H e.kind)∧w.cell? ⟨w0.heap.size,3,C⟩=E (F G e.client)∧w.cell? ⟨w0.heap.size,4,C⟩=E (F G e.seq)∧w.cell? ⟨w0.heap.size,5,C⟩=E (F G e.block)∧w.cell? ⟨w0.heap.size,6,C⟩=E (F G e.many)∧w.cell? ⟨w0.heap.size,7,C⟩=E (F H e.node)∧w.cell? ⟨w0.heap.size,8,C⟩=E (F H e.level)∧w.cell? ⟨w0.heap.size,9,C⟩=E (N e.data):=⟨h,h.bx.cell 0,h.bx.cell 1,h.bx.cell 2,h.bx.cell 3,h.bx.cell 4,h.bx.cell 5,h.bx.cell 6,h.bx.cell 7,h.bx.cell 8,h.bx.cell 9⟩
theorem zmk (m:Nat) (W:I) (hm:m≤66):(Instr.makeSlice 78 (F H m) (F H m)).run O W=.ok (qc (E ⟨W.heap.size,0,C⟩) m m) (W.alloc (J (qf (qi m 0)).toArray 5)):=by
 obtain ⟨i0,hi0,hz0,hz1,hz2⟩:=info_parts info5;have h1:=run_make (P:=O) W 78 5 i0 (F .u8 0) underlying78 hi0 hz0 H H m m (by omega) (by omega) (by rw [hz2];omega) (by omega)
 have e:madeCells (F .u8 0).cells ((m:Int).toNat*i0.size)=(qf (qi m 0)).toArray:=by
  rw [hz1];apply Array.ext';have h2:=toList_madeCells_one (F .u8 0) m;have h3:((m:Int).toNat*1)=m:=by omega
  rw [h3];show (madeCells #[F IntKind.u8 0] m).toList=_;rw [h2];simp [qf]
 rw [e] at h1;exact h1
theorem zcv (m g:Nat) (W:I) (h:W.heap[g]?=E (J (qf (qi m 0)).toArray 5 (0,0))):(convert 78 9 (qc (E ⟨g,0,C⟩) m m)).run O W=.ok (N (zer m)) W:=by
 have h:=run_convert_bytes_back (P:=O) W 78 9 5 ⟨g,0,C⟩ m (qi m 0) underlying78 underlying5 underlying9 (fun j hj=>by
  rw [Lib.add_plain,zcr W g _ _ 5 (0,0) h,zub,zuw];unfold qf;rw [zuM,zt2 hj]
  rfl)
 simp only [zuu] at h;exact h
theorem zh5 (e:En) (w:I) (ok:e.Ok) :
 Y O 217 #[ev e] w fun q w'=>q=R (qd #[N (ze5 e),qh (zdl e)])∧Q w.heap.size w w':=by
 obtain ⟨W0,hW0⟩:∃ W0,W0=w.alloc (J (ec e) 69):=⟨_,rfl⟩
 have S0:Bq w e W0:=by
  rw [hW0];exact ⟨⟨ztJ w _⟩,zba,by simp⟩
 have KR:=zh (fun (W:I) (h:Bq w e W)=>(zaY e W ok).mono fun q w' ⟨h1,h2⟩=>And.intro h1 (h.on h2).all);have KL:=zh (fun (W:I) (h:Bq w e W)=>(zgn e W).mono fun q w' ⟨h1,h2⟩=>And.intro h1 (h.on h2).all);have KN:=zh (fun (v k:Int) (W:I) (hv:0≤v∧v≤18446744073709551615) (h:Bq w e W)=>(zpa v k W hv).mono fun q w' ⟨h1,h2⟩=>And.intro h1 (h.on h2).all);have HW0:=zh hW0;have S1:=S0.all;rw [hW0] at S1;obtain ⟨S,c0,c1,c2,c3,c4,c5,c6,c7,c8,c9⟩:=S1;rw [←hW0] at S;clear hW0 S0
 cases hr:zas e with
 | false =>
   rw [hr] at KR;have HM:Hid (zdl e=Z):=by show _=_;unfold zdl;rw [hr];rfl
   have HP:Hid (ze5 e=⟨#[]⟩):=by show _=_;unfold ze5;rw [HM.out];rfl
   clear hr;go_enter func217,ntmps217
   go_wp2_with (first
    | (go_at_call 258;rw [←HW0.out];(with_reducible refine (KR.out _ S).mono ?_);rintro q w1 ⟨rfl,T,d0,d1,d2,d3,d4,d5,d6,d7,d8,d9⟩))
   go_ret2;exact ⟨zdY HP.out.symm HM.out.symm,T.be⟩
 | true =>
   have fw:=zjg ok hr;have hk1:G.wrap e.kind=e.kind:=IntWalk.u64_in _ (by have:=fw.k0;have:=fw.k1;omega);have hk2:G.wrap e.node=e.node:=IntWalk.u64_in _ (by have:=fw.n0;have:=fw.n1;omega);have hk3:G.wrap e.level=e.level:=IntWalk.u64_in _ (by have:=fw.l0;have:=fw.l1;omega);have hk4:G.wrap (e.data.size:Int)=(e.data.size:Int):=IntWalk.u64_in _ (by have:=fw.d;omega);have q1:0≤e.kind∧e.kind≤18446744073709551615:=by have:=fw.k0;have:=fw.k1;omega
   have q2:0≤e.node∧e.node≤18446744073709551615:=by have:=fw.n0;have:=fw.n1;omega
   have q3:0≤e.level∧e.level≤18446744073709551615:=by have:=fw.l0;have:=fw.l1;omega
   have q4:0≤(e.data.size:Int)∧(e.data.size:Int)≤18446744073709551615:=by have:=fw.d;omega
   have q5:0≤e.term∧e.term≤18446744073709551615:=⟨ok.t0,ok.t1⟩;have q6:0≤e.index∧e.index≤18446744073709551615:=⟨ok.i0,ok.i1⟩;have q7:0≤e.client∧e.client≤18446744073709551615:=⟨ok.c0,ok.c1⟩;have q8:0≤e.seq∧e.seq≤18446744073709551615:=⟨ok.s0,ok.s1⟩;have q9:0≤e.block∧e.block≤18446744073709551615:=⟨ok.b0,ok.b1⟩;have qa:0≤e.many∧e.many≤18446744073709551615:=⟨ok.m0,ok.m1⟩;obtain ⟨m,hm⟩:∃ m,m=66-e.data.size:=⟨_,rfl⟩;have hmi:H.wrap ((66:Int)-e.data.size)=(m:Int):=(IntWalk.i64_in _ (by have:=fw.d;omega)).trans (by have:=fw.d;omega);have hm66:m≤66:=by omega
   have hd64:e.data.size≤64:=fw.d;have HMM:=zh hm;rw [hr] at KR;clear hm
   by_cases hl:lvl e.kind=2
   ·rw [hl] at KL;have HM:Hid (zdl e=Z):=by show _=_;unfold zdl;rw [hr,hl];rfl
    have HP:Hid (ze5 e=⟨#[]⟩):=by show _=_;unfold ze5;rw [HM.out];rfl
    clear hr fw hl;go_enter func217,ntmps217
    go_wp2_with (first
     | (go_at_call 258;rw [←HW0.out];(with_reducible refine (KR.out _ S).mono ?_);rintro q w1 ⟨rfl,T,d0,d1,d2,d3,d4,d5,d6,d7,d8,d9⟩;have z10:=T.bx.cell 10)
     | (go_at_call 74;(with_reducible refine (KL.out _ T).mono ?_);rintro q w2 ⟨rfl,U,f0,f1,f2,f3,f4,f5,f6,f7,f8,f9⟩))
    go_ret2;exact ⟨zdY HP.out.symm HM.out.symm,U.be⟩
   ·have hl1:lvl e.kind=1:=by
     unfold lvl at hl ⊢
     by_cases h11:e.kind=11
     ·rw [if_pos h11] at hl;exact absurd rfl hl
     ·rw [if_neg h11]
    rw [hl1] at KL;have HM:Hid (zdl e=qe):=by show _=_;unfold zdl;rw [hr,hl1];rfl
    have HP:Hid (ze5 e=pb e):=by show _=_;unfold ze5;rw [HM.out];rfl
    clear hr fw hl hl1;go_enter func217,ntmps217
    go_upto_region 4 with (first
     | (go_at_call 258;rw [←HW0.out];(with_reducible refine (KR.out _ S).mono ?_);rintro q w1 ⟨rfl,T,d0,d1,d2,d3,d4,d5,d6,d7,d8,d9⟩;have z10:=T.bx.cell 10)
     | (go_at_call 74;(with_reducible refine (KL.out _ T).mono ?_);rintro q w2 ⟨rfl,U,f0,f1,f2,f3,f4,f5,f6,f7,f8,f9⟩))
    have mk:=zmk m w2.drew hm66;have cv:=zcv m w2.heap.size (w2.alloc (J (qf (qi m 0)).toArray 5)).drew (ztJ w2 _);have V0:=zh ((U.on ((qk _ w2).alloc (ztI _) _)).drew:Bq w e (w2.alloc (J (qf (qi m 0)).toArray 5)).drew);have va9:(w2.alloc (J (qf (qi m 0)).toArray 5)).drew.cell? ⟨w.heap.size,9,C⟩=E (N e.data):=V0.out.bx.cell 9;have hzl:¬ 9223372036854775807<e.data.size+(zer m).size:=by rw [zer_size];omega
    obtain ⟨M,hM⟩:∃ M,M=(qf (qi m 0)).toArray:=⟨_,rfl⟩;rw [←hM] at mk cv V0 va9;clear S T c0 d0 c1 d1 c2 d2 c3 d3 c4 d4 c5 d5 c6 d6 c7 d7 c8 d8 c9 d9 z10 hM
    go_region
    go_wp2_with fail
    have V1:=V0.out.drew;clear U f0 f1 f2 f3 f4 f5 f6 f7 f8 f9 mk cv;obtain ⟨W3,hW3⟩:∃ W3,W3=(w2.alloc (J M 5)).drew:=⟨_,rfl⟩;rw [←hW3] at V0 V1 ⊢;have V2:=V0.out.all;obtain ⟨V,g0,g1,g2,g3,g4,g5,g6,g7,g8,g9⟩:=V2;obtain ⟨D,hD⟩:∃ D,D=e.data++zer m:=⟨_,rfl⟩;have hDs:D.size=66:=by rw [hD,ztS,zer_size,HMM.out];omega
    rw [←hD];have HD:=zh hD;have n1:∀ v,(fN v 1).size=1:=fun v=>zdq v 1 (by omega) (by omega);have n8:∀ v,(fN v 8).size=8:=fun v=>zdq v 8 (by omega) (by omega);have n4:∀ v,(fN v 4).size=4:=fun v=>zdq v 4 (by omega) (by omega);clear hW3 hD va9 hzl
    go_region_held3 (fun w'=>w'.cell? ⟨w.heap.size,0,C⟩=E (F G e.term)∧w'.cell? ⟨w.heap.size,1,C⟩=E (F G e.index)∧w'.cell? ⟨w.heap.size,2,C⟩=E (F H e.kind)∧w'.cell? ⟨w.heap.size,3,C⟩=E (F G e.client)∧w'.cell? ⟨w.heap.size,4,C⟩=E (F G e.seq)∧w'.cell? ⟨w.heap.size,5,C⟩=E (F G e.block)∧w'.cell? ⟨w.heap.size,6,C⟩=E (F G e.many)∧w'.cell? ⟨w.heap.size,7,C⟩=E (F H e.node)∧w'.cell? ⟨w.heap.size,8,C⟩=E (F H e.level)∧w'.cell? ⟨w.heap.size,9,C⟩=E (N e.data)) (first|exact ⟨g0,g1,g2,g3,g4,g5,g6,g7,g8,g9⟩|(refine ⟨?_,?_,?_,?_,?_,?_,?_,?_,?_,?_⟩<;>assumption)) (first
     | (go_at_call 259;(with_reducible refine (KN.out _ _ _ (by assumption) (by assumption)).mono ?_);rintro q w6 ⟨rfl,X,p0,p1,p2,p3,p4,p5,p6,p7,p8,p9⟩))
    go_wp2_with fail
    go_ret2;refine ⟨zdY ?_ HM.out.symm,X.be⟩;rw [HP.out];unfold pb;rw [←HMM.out,HD.out]
end Go.Proofs.YtidndekacnmihaaGreat
