/- Parts of a proof. -/
import Derived.Test.YtidndekacnmihaaGreatC26
set_option linter.all false
set_option maxHeartbeats 8000000
set_option maxRecDepth 100000
namespace Go.Proofs.YtidndekacnmihaaGreat
open Bool renaming false→f,true→G
open Ending renaming returned→K
open Go renaming World→C
open Go.RowKit renaming Below→E,intOf→S
open Go.RowKit.Below renaming refl→P
open IntKind renaming u64→F,i64→J
open Obj renaming cells→A
open Option renaming some→g,none→j
open Tryz renaming prog→I
open Value renaming int→l,string→H,pointer→N,tuple→O
open Tryz
variable {ops:Array Oper} {rest:List Oper} {op:Oper} {a:Act} {Q:Exit→Act→C→Prop} {W w:C} {R q:Nat} {u:ByteArray} {b:Bool}
namespace Ar
open Go.RowKit Vi Dk
theorem ziR (b:ByteArray) (k:Nat):b.extract (min (64*k) b.size) (min (64*k+64) b.size)=txt ((b.data.toList.drop (k*64)).take 64):=by
 have hl:b.data.toList.length=b.size:=zug;apply ByteArray.ext;apply Array.toList_inj.1;rw [zuB,zuJ,zal,zuO]
 by_cases h:64*k≤b.size
 ·rw [show min (64*k) b.size=k*64 by omega,List.take_eq_take_iff,zuh];omega
 ·rw [zut (by omega),zut (by omega)]
  simp
theorem zh3 (B gr:Nat) (L:List Nat) (d:St) (at_ m v:Int) (s:Sn) (w:C) (h:Rf w B gr L d) (hBw:B≤w.heap.size) (ok:s.Ok) (ha:at_≤9223372036854775807) :
 Calls I 49 #[ptr gr,l J at_,l J m,l J v,s.v] w fun e w'=>e=K (l J (arW d at_ m v s).2)∧zaB B gr L (arW d at_ m v s).1 w w':=by
 obtain ⟨W,hW⟩:∃ W,W=w.alloc (A s.c 104):=⟨_,rfl⟩;have hB:E w.heap.size w W:=by rw [hW];exact (P _ w).alloc (ztI _) _
 have hc:W.heap[w.heap.size]?=g (A s.c 104 (0,0)):=by rw [hW];exact ztJ w _
 obtain ⟨c0,c1,c2⟩:=zae hc;have KP:=zh (zmD v s W ok);have HB:=zh hB;have HW:=zh hW;have HR:=zh (h.below hB);have hbz:=zjK v s ok;have KO:=zh (fun (W:C) (h:Rf W B gr L d)=>zaY B gr L d at_ m W h ha);have HN:Hid (d.n≤4096):=h.1.n2;have HA:Hid (arW d at_ m v s=if snO v s&&onA d.n at_ m then (if ((((snS v s).size+63) / 64:Nat):Int)≤m then wrL at_.toNat (snS v s).data.toList m.toNat 0 d else (d,4)) else (d,1)):=rfl;have HM0:Hid (∀ W',E w.heap.size w W'→zaB B gr L d w W'):=fun W' hb=>⟨h.below hb,zaw.of_below hb⟩;obtain ⟨X,hX⟩:∃ X,X=arW d at_ m v s:=⟨_,rfl⟩;rw [←hX] at HA ⊢;obtain ⟨b,hb⟩:∃ b,b=snS v s:=⟨_,rfl⟩;rw [←hb] at KP HA hbz;obtain ⟨o,ho⟩:∃ o,o=snO v s:=⟨_,rfl⟩;rw [←ho] at KP HA;obtain ⟨on,hon⟩:∃ x,x=onA d.n at_ m:=⟨_,rfl⟩;have HON:Hid (on=G→0≤at_∧1≤m∧m≤(d.n:Int)-at_):=fun h=>zfu.1 (hon▸h);rw [←hon] at KO HA;have HBZ:=zh hbz;unfold Sn.c at HW;obtain ⟨ix,tm,D⟩:=s;dsimp only at *;clear hB hW hX hb ho hon h ok hbz hc;unfold ptr at *
 cases o with
 | false =>
   rw [zun] at HA;obtain rfl:X=(d,1):=HA.out;go_enter func49,ntmps49
   go_upto_region 1 with fail
   refine zaf (w:=W) HW.out.symm ?_
   go_wp2_with (first|(go_at_call 112;(with_reducible refine KP.out.mono ?_);rintro q w1 ⟨rfl,b1⟩)|(go_at_call 113;(with_reducible refine (KO.out _ (HR.out.below b1)).mono ?_);rintro q w2 ⟨rfl,rfl⟩))
   go_ret;exact ⟨rfl,HM0.out _ (HB.out.trans (b1.mono HB.out.size))⟩
 | true =>
   rw [zt8] at HA
   cases on with
   | false =>
     obtain rfl:X=(d,1):=HA.out;go_enter func49,ntmps49
     go_upto_region 1 with fail
     refine zaf (w:=W) HW.out.symm ?_
     go_wp2_with (first|(go_at_call 112;(with_reducible refine KP.out.mono ?_);rintro q w1 ⟨rfl,b1⟩)|(go_at_call 113;(with_reducible refine (KO.out _ (HR.out.below b1)).mono ?_);rintro q w2 ⟨rfl,rfl⟩))
     go_ret;exact ⟨rfl,HM0.out _ (HB.out.trans (b1.mono HB.out.size))⟩
   | true =>
     obtain ⟨h0,h1,h2⟩:=HON.out rfl;have hn:=HN.out;have hbz:=HBZ.out;obtain ⟨a,rfl⟩:=ztW h0;obtain ⟨M,rfl⟩:=ztW (show 0≤m by omega);have hl1:wrap64 (64*(M:Int))=64*(M:Int):=by unfold wrap64;omega
     by_cases hf:(((b.size+63) / 64:Nat):Int)≤(M:Int)
     ·have hX:X=wrL a b.data.toList M 0 d:=by rw [HA.out,if_pos rfl,if_pos hf,ztV,ztV]
      have hng:¬ 64*(M:Int)<b.size:=by omega
      have HX:=zh hX;have HAM:Hid (a≤4096∧M≤4096∧b.size≤16420):=⟨by omega,by omega,hbz⟩;clear HA HON h0 h1 h2 hn hX hf hbz;go_enter func49,ntmps49
      go_upto_region 1 with fail
      refine zaf (w:=W) HW.out.symm ?_
      go_upto_region 7 with (first|(go_at_call 112;(with_reducible refine KP.out.mono ?_);rintro q w1 ⟨rfl,b1⟩)|(go_at_call 113;(with_reducible refine (KO.out _ (HR.out.below b1)).mono ?_);rintro q w2 ⟨rfl,rfl⟩))
      have HB1:=zh (HB.out.trans (b1.mono HB.out.size));have HR1:=zh (HR.out.below b1);clear b1 c0 c1 c2 hng hl1 KP KO HW
      go_wp2_with fail
      go_loopw [14] (fun i wr=>∃ (k:Nat) (d':St),i=l J k∧k≤M∧Hid (zaB B gr L d' w wr∧wrL a b.data.toList (M-k) k d'=X)) (fun i _=>M-(S i).toNat)
      case atStart=>exact ⟨0,d,rfl,ztO _,HM0.out _ HB1.out,HX.out.symm⟩
      case round =>
       obtain ⟨k,d',rfl,hk,hP⟩:=hrel
       by_cases hlt:k<M
       ·have t1:decide ((k:Int)<(M:Int))=G:=ztN (by omega);obtain ⟨ham1,ham2,ham3⟩:=HAM.out
        have hst:wrL a b.data.toList (M-k) k d'=if (d'.write ((a+k:Nat):Int) ((b.data.toList.drop (k*64)).take 64)).2=0 then wrL a b.data.toList (M-(k+1)) (k+1) (d'.write ((a+k:Nat):Int) ((b.data.toList.drop (k*64)).take 64)).1 else d'.write ((a+k:Nat):Int) ((b.data.toList.drop (k*64)).take 64):=by
         rw [show M-k=(M-(k+1))+1 by omega];rfl
        rw [hP.out.2] at hst;have HST:=zh hst;have hx:=ziR b k;have KW:=zh (zcu B gr L d' ((a+k:Nat):Int) ((b.data.toList.drop (k*64)).take 64) wr hP.out.1.1);rw [←hx] at KW;rw [show ((a+k:Nat):Int)=(a:Int)+k by omega] at KW HST;obtain ⟨DD,hDD⟩:∃ D,D=d'.write ((a:Int)+k) ((b.data.toList.drop (k*64)).take 64):=⟨_,rfl⟩;rw [←hDD] at KW HST;obtain ⟨p,hp⟩:∃ p,p=min (64*k) b.size:=⟨_,rfl⟩;obtain ⟨r,hr⟩:∃ r,r=min (64*k+64) b.size:=⟨_,rfl⟩;rw [←hp,←hr] at KW;have hm1:min (64*(k:Int)) (b.size:Int)=(p:Int):=by omega
        have hm2:min (64*(k:Int)+64) (b.size:Int)=(r:Int):=by omega
        have hpr:(p:Int)≤(r:Int):=by omega
        have hrb:(r:Int)≤(b.size:Int):=by omega
        have hl2:wrap64 ((a:Int)+k)=(a:Int)+k:=by unfold wrap64;omega
        have hl3:wrap64 (64*(k:Int))=64*(k:Int):=by unfold wrap64;omega
        have hl4:wrap64 (64*(k:Int)+64)=64*(k:Int)+64:=by unfold wrap64;omega
        clear hst hx hDD hp hr ham1 ham2 ham3;unfold ptr at *
        go_upto_region 11 with (go_at_call 70;(with_reducible refine KW.out.mono ?_);rintro q w5 ⟨rfl,hM5⟩)
        have HM5:Hid (zaB B gr L DD.1 w w5):=⟨hM5.1,hP.out.1.2.trans hM5.2⟩;obtain ⟨z,hz⟩:∃ z,z=DD.2:=⟨_,rfl⟩;rw [←hz] at HST ⊢;clear hM5 hP KW hm1 hm2 hpr hrb hl2 hl3 hl4;have hMM:=HAM.out.2.1
        by_cases hz0:z=0
        ·have hst:=HST.out;rw [if_pos hz0] at hst;have HST2:=zh hst;subst hz0;clear hst HST hz;go_wp2
         go_roundw
         case rel=>exact ⟨k+1,DD.1,by go_num,by omega,HM5.out,HST2.out.symm⟩
         case measure=>simp [S];omega
        ·have hst:=HST.out;rw [if_neg hz0] at hst;have hX1:X.1=DD.1:=by rw [hst]
         have hX2:X.2=z:=by rw [hst,hz]
         have e1:(z==0)=f:=zs2 hz0;have e2:(z != 0)=G:=by unfold bne;rw [e1];rfl
         have HX1:=zh hX1;have HX2:=zh hX2;clear hst HST hX1 hX2 hz;go_wp2;go_ret;exact ⟨congrArg (fun x=>K (l J x)) HX2.out.symm,by rw [HX1.out];exact HM5.out⟩
       ·have hkm:k=M:=by omega
        subst hkm;have t1:decide ((k:Int)<(k:Int))=f:=ztM (by omega);obtain ⟨h1,h2⟩:=hP.out;rw [Nat.sub_self] at h2;have H1:=zh h1;have hX2:X=(d',0):=h2.symm;subst hX2;clear h1 h2 HX hP;go_wp2;go_ret;exact ⟨rfl,H1.out⟩
     ·obtain rfl:X=(d,4):=by rw [HA.out,if_pos rfl,if_neg hf]
      have hng:64*(M:Int)<b.size:=by omega
      clear HA HON h0 h1 h2 hn hf hbz;go_enter func49,ntmps49
      go_upto_region 1 with fail
      refine zaf (w:=W) HW.out.symm ?_
      go_wp2_with (first|(go_at_call 112;(with_reducible refine KP.out.mono ?_);rintro q w1 ⟨rfl,b1⟩)|(go_at_call 113;(with_reducible refine (KO.out _ (HR.out.below b1)).mono ?_);rintro q w2 ⟨rfl,rfl⟩))
      go_ret;exact ⟨rfl,HM0.out _ (HB.out.trans (b1.mono HB.out.size))⟩
theorem sn30:(prog.info? 104).map (·.size)=g 3:=by kernel_rfl
theorem zaq (hgd:op.guard=j) (x y:Operand) (ho:op.op=.store 104 x y)
 (w:C) (z:Nat) (s t:Sn) (hx:a.eval x=N (g ⟨z,0,j⟩)) (hy:a.eval y=.agg s.c) (hz:w.heap[z]?=g (A t.c 104 (0,0)))
 (h:wpList I ops Q rest (a.put op.dst undef) (w.setRow z s.c)):wpList I ops Q (op :: rest) a w :=
 wpList_store_row hgd 104 x y ho z _ hx hy 104 _ hz sn30 rfl (by simp [Value.oneCell']) h
theorem zca (hgd:op.guard=j) (x:Operand) (ho:op.op=.load 104 x)
 (w:C) (z:Nat) (s:Sn) (hx:a.eval x=N (g ⟨z,0,j⟩)) (hz:w.heap[z]?=g (A s.c 104 (0,0)))
 (h:wpList I ops Q rest (a.put op.dst (.agg s.c)) w):wpList I ops Q (op :: rest) a w :=
 wpList_load_row hgd 104 x ho z hx 104 _ (0,0) _ hz underlying104 rfl sn30 h
theorem ziQ (tmps:Array Value) (w:C) (p:Nat) (s:Sn) (hp:tmps.getD 2 undef=N (g ⟨p,0,j⟩)) (hg:w.heap[p]?=g (A s.c 104 (0,0))) :
 (results f129 tmps).run I w=.ok (O #[.agg s.c,tmps.getD 3 undef,tmps.getD 4 undef]) w:=by
 simp only [results,results129];have hp':tmps[2]?.getD undef=N (g ⟨p,0,j⟩):=by simpa using hp
 simp [Sem.run_bind,Result.andThen,hp',asAddr,run_loadVar_row w p 104 104 s.c (0,0) _ hg underlying104 rfl sn30]
structure Gs (w:C) (R q:Nat) (u:ByteArray) (bad:Bool) (s:Sn) (W:C):Prop where
 be:E w.heap.size w W
 r0:W.heap[w.heap.size]?=g (A sn0.c 104 (0,0))
 rd:Rd 261 R u bad W
 sq:W.heap[q]?=g (A s.c 104 (0,0))
 l1:w.heap.size<R
 l2:R<q
 sz:u.size≤281474976710656
 sa:Sane u bad
theorem Gs.grown {W':C} {v:ByteArray} {b':Bool} {s:Sn} (h:Gs w R q u b s W) (hr:Rd 261 R v b' W') (hg:W.grownBy W' (g R)) (hv:v.size≤281474976710656) (hs:Sane v b'):Gs w R q v b' s W':=by
 have l1:=h.l1;have l2:=h.l2;have lt:=(zgx h.sq);have bl:∀ k,k<W.heap.size→k≠R→W'.heap[k]?=W.heap[k]?:=fun k hk hn=>hg.block k hk (by simpa using hn);exact ⟨zaa h.be hg h.be.size (by omega),(bl _ (by omega) (by omega)).trans h.r0,hr,(bl _ (by omega) (by omega)).trans h.sq,l1,l2,hv,hs⟩
theorem Gs.set {s t:Sn} (h:Gs w R q u b s W) (i:Nat) (v:Value) (ht:s.c.set! i v=t.c):Gs w R q u b t (W.setCell ⟨q,i,j⟩ v):=by
 have l1:=h.l1;have l2:=h.l2;refine ⟨h.be.setCell (p:=⟨q,i,j⟩) (by show w.heap.size≤q;omega) _,(heap_setCell_other W ⟨q,i,j⟩ _ v (by show w.heap.size≠q;omega)).trans h.r0,(heap_setCell_other W ⟨q,i,j⟩ _ v (by show R≠q;omega)).trans h.rd,?_,l1,l2,h.sz,h.sa⟩;rw [←ht];exact heap_setCell_same W q i _ 104 v h.sq
theorem Gs.fz {s:Sn} (h:Gs w R q u b s W) (i:Nat):W.frozen? ⟨q,i,j⟩=f:=zt6 h.sq i
theorem zrk (b:ByteArray) (w:C) (hb:b.size≤281474976710656) (h:nOk b=G) (hv:nV b=1) :
 Calls I 129 #[H b] w fun e w'=>e=K (O #[(gtS b).v,l J (gtV b),.bool (gtO b)])∧E w.heap.size w w':=by
 obtain ⟨W,hW⟩:∃ W,W=w.alloc (A sn0.c 104):=⟨_,rfl⟩;have hB:E w.heap.size w W:=by rw [hW];exact (P _ w).alloc (ztI _) _
 have hc:W.heap[w.heap.size]?=g (A sn0.c 104 (0,0)):=by rw [hW];exact ztJ w _
 have KN:=zh (zfb b W hb);obtain ⟨n1,n2,n3⟩:=ze8 h;rw [h,n1,n2,n3,hv] at KN;have hbz:=ztL (zeT b) hb;obtain ⟨u0,hu0⟩:∃ u,u=nBd b:=⟨_,rfl⟩;rw [←hu0] at KN hbz;obtain ⟨NN,hNN⟩:∃ x:Int,x=(b.size:Int)-(nW b).size:=⟨_,rfl⟩;rw [←hNN] at KN
 have HO:Hid (gtO b=((za3 u0 8&&za3 (zan u0 8) 8)&&decide ((zan (zan u0 8) 8).size≤16384))):=by
  show _=_;unfold gtO bDa bOk bF bT;rw [h,hv,←hu0];rfl
 have HS:Hid (gtS b=if gtO b then ⟨za1 u0 8,za1 (zan u0 8) 8,zan (zan u0 8) 8⟩ else sn0):=by
  show _=_;unfold gtS bDa bI bT;rw [hv,←hu0];rfl
 have HV:Hid (gtV b=if gtO b then 1 else 0):=by
  show _=_;unfold gtV;rw [hv]
 obtain ⟨OO,hOO⟩:∃ x,x=gtO b:=⟨_,rfl⟩;obtain ⟨SS,hSS⟩:∃ x,x=gtS b:=⟨_,rfl⟩;obtain ⟨VV,hVV⟩:∃ x,x=gtV b:=⟨_,rfl⟩;rw [←hOO] at HO HS HV;rw [←hSS] at HS;rw [←hVV] at HV;rw [←hOO,←hSS,←hVV];have hz1:(zan u0 8).size≤281474976710656:=ztL (zak u0 8) hbz;have hz2:(zan (zan u0 8) 8).size≤281474976710656:=ztL (zak (zan u0 8) 8) hz1;have HZ0:=zh hbz;have KF:=fun (R:Nat) (bad:Bool) (W:C) (h:Rd 261 R u0 bad W) (hs:Sane u0 bad)=>zaI R u0 bad 8 W h hs hbz;have KG:=fun (R:Nat) (bad:Bool) (W:C) (h:Rd 261 R (zan u0 8) bad W) (hs:Sane (zan u0 8) bad)=>zaI R (zan u0 8) bad 8 W h hs hz1;have ks0:Sane u0 f:=fun h=>by cases h
 have ks1:Sane (zan u0 8) (f||!za3 u0 8):=sane_fix u0 f 8 ks0;have ks2:Sane (zan (zan u0 8) 8) (f||!za3 u0 8||!za3 (zan u0 8) 8):=sane_fix (zan u0 8) _ 8 ks1;obtain ⟨v0,hv0⟩:∃ x,x=za1 u0 8:=⟨_,rfl⟩;obtain ⟨f0,hf0⟩:∃ x,x=za3 u0 8:=⟨_,rfl⟩;obtain ⟨v1,hv1⟩:∃ x,x=za1 (zan u0 8) 8:=⟨_,rfl⟩;obtain ⟨f1,hf1⟩:∃ x,x=za3 (zan u0 8) 8:=⟨_,rfl⟩;obtain ⟨u2,hu2⟩:∃ x,x=zan (zan u0 8) 8:=⟨_,rfl⟩;rw [←hf0,←hf1,←hu2] at HO;rw [←hv0,←hv1,←hu2] at HS;rw [←hf0] at ks1;rw [←hf0,←hf1,←hu2] at ks2;simp only [←hv0,←hf0] at KF;simp only [←hv1,←hf1,←hu2] at KG;rw [←hu2] at hz2;obtain ⟨u1,hu1⟩:∃ x,x=zan u0 8:=⟨_,rfl⟩;simp only [←hu1] at KF KG;rw [←hu1] at hz1 ks1;have HZ1:=zh hz1;have HZ2:=zh hz2;have KS0:=zh ks0;have KS1:=zh ks1;have KS2:=zh ks2;have KF:=zh KF;have KG:=zh KG;have HB:=zh hB;have HC:=zh hc;have HW:=zh hW;unfold sn0 Sn.c at HW;dsimp only at HW;clear hB hc hW hbz hz1 hz2 hOO hSS hVV hv0 hv1 hf0 hf1 hu2 hu1 ks0 ks1 ks2 hb h n1 n2 n3 hu0 hv hNN;unfold rdp at *;go_enter func129,ntmps129
 go_upto_region 1 with fail
 refine zaf (w:=W) HW.out.symm ?_
 go_upto_region 2 with (go_at_call 192;(with_reducible refine KN.out.mono ?_);rintro q w1 ⟨rfl,b1⟩)
 have HC1:=zh ((b1.block _ (zgx HC.out)).trans HC.out);have HB1:=zh (HB.out.trans (b1.mono HB.out.size));clear b1 KN HB HC
 go_wp2_with fail
 refine (zcE _ _).mono ?_;rintro e w2 ⟨rfl,hw2⟩;obtain ⟨R,hR⟩:∃ R,R=w1.heap.size:=⟨_,rfl⟩;have r2:Rd 261 R u0 f w2:=by rw [hw2,hR];exact Rd.new _ _ _ _
 have b2:E w1.heap.size w1 w2:=by rw [hw2];exact zba
 have hl1:w.heap.size<R:=by rw [hR];exact (zgx HC1.out)
 have HC2:Hid (w2.heap[w.heap.size]?=g (A sn0.c 104 (0,0))):=(b2.block _ (by omega)).trans HC1.out;have HB2:=zh (HB1.out.trans (b2.mono HB1.out.size));have HR2:=zh r2;have HL1:=zh hl1;unfold rdp;rw [←hR];clear hw2 r2 b2 hl1 hR HB1 HC1;obtain ⟨q,hq⟩:∃ q,q=w2.heap.size:=⟨_,rfl⟩;obtain ⟨w3,hw3⟩:∃ w3,w3=w2.alloc (A #[l F 0,l F 0,H ⟨#[]⟩] 104):=⟨_,rfl⟩;have c3:w3.heap[q]?=g (A sn0.c 104 (0,0)):=by rw [hw3,hq];exact ztJ w2 _
 have b3:E w2.heap.size w2 w3:=by rw [hw3];exact zba
 have G3:Hid (Gs w R q u0 f sn0 w3) :=
  ⟨HB2.out.trans (b3.mono HB2.out.size),(b3.block _ (zgx HC2.out)).trans HC2.out,HR2.out.below b3 HR2.out.lt,c3,HL1.out,by rw [hq];exact HR2.out.lt,HZ0.out,KS0.out⟩
 have HQ:=zh hq;have HW3:=zh hw3;clear c3 b3 hq hw3 HR2 HC2 HB2
 go_upto_region 4 with fail
 rw [←HW3.out,←HQ.out];clear HW3 HQ
 go_wp2_with fail
 refine (KF.out _ _ _ G3.out.rd G3.out.sa).mono ?_;rintro e w4 ⟨rfl,r4,g4⟩;have G4:Hid (Gs w R q u1 (f||!f0) sn0 w4):=G3.out.grown r4 g4 HZ1.out KS1.out;clear r4 g4 G3;have x0:w4.cell? ⟨q,0,j⟩=g (l F 0):=(zae G4.out.sq).1;have y0:=G4.out.fz 0;obtain ⟨w5,hw5⟩:∃ w5,w5=w4.setCell ⟨q,0,j⟩ (l F v0):=⟨_,rfl⟩;have G5:Hid (Gs w R q u1 (f||!f0) ⟨v0,0,⟨#[]⟩⟩ w5):=by show Gs _ _ _ _ _ _ _;rw [hw5];exact G4.out.set 0 _ rfl
 have HW5:=zh hw5;clear hw5 G4
 go_wp2_with fail
 rw [←HW5.out];clear x0 y0 HW5;refine (KG.out _ _ _ G5.out.rd G5.out.sa).mono ?_;rintro e w6 ⟨rfl,r6,g6⟩;have G6:Hid (Gs w R q u2 (f||!f0||!f1) ⟨v0,0,⟨#[]⟩⟩ w6):=G5.out.grown r6 g6 HZ2.out KS2.out;clear r6 g6 G5;have x1:w6.cell? ⟨q,1,j⟩=g (l F ((0:Nat):Int)):=(zae G6.out.sq).2.1;have y1:=G6.out.fz 1;obtain ⟨w7,hw7⟩:∃ w7,w7=w6.setCell ⟨q,1,j⟩ (l F v1):=⟨_,rfl⟩;have G7:Hid (Gs w R q u2 (f||!f0||!f1) ⟨v0,v1,⟨#[]⟩⟩ w7):=by show Gs _ _ _ _ _ _ _;rw [hw7];exact G6.out.set 1 _ rfl
 have HW7:=zh hw7;clear hw7 G6
 go_upto_region 9 with fail
 rw [←HW7.out];clear x1 y1 HW7;have x2:w7.cell? ⟨q,2,j⟩=g (H ⟨#[]⟩):=(zae G7.out.sq).2.2;have y2:=G7.out.fz 2;have z0:=G7.out.rd.cell0;obtain ⟨w8,hw8⟩:∃ w8,w8=w7.setCell ⟨q,2,j⟩ (H u2):=⟨_,rfl⟩;have G8:Hid (Gs w R q u2 (f||!f0||!f1) ⟨v0,v1,u2⟩ w8):=by show Gs _ _ _ _ _ _ _;rw [hw8];exact G7.out.set 2 _ rfl
 have HW8:=zh hw8;clear hw8 G7
 go_upto_region 10 with fail
 rw [←HW8.out];clear x2 y2 z0 HW8 KF KG;have hbo:(f||!f0||!f1)=!(f0&&f1):=by cases f0<;>cases f1<;>rfl
 rw [hbo] at G8;obtain ⟨ff,hff⟩:∃ x,x=(f0&&f1):=⟨_,rfl⟩;rw [←hff] at G8 HO;clear hbo hff KS1 KS2 KS0;have z1:=G8.out.rd.cell1;have d2:w8.cell? ⟨q,2,j⟩=g (H u2):=(zae (s:=⟨v0,v1,u2⟩) G8.out.sq).2.2
 have hres:∀ (s:Sn) (W9:C),W9=w8.setRow w.heap.size s.c→E w.heap.size w W9∧W9.heap[w.heap.size]?=g (A s.c 104 (0,0)):=fun s W9 h9=>by
  rw [h9];exact ⟨G8.out.be.trans ⟨rfl,rfl,rfl,by simp,fun k hk=>setRow_other _ _ _ _ (by have:=G8.out.be.size;omega)⟩,setRow_heap _ _ _ _ 104 (0,0) G8.out.r0⟩
 have HZZ:=zh hres;have HC8:=zh G8.out.r0;have HS8:=zh G8.out.sq;clear hres;unfold rdp at *
 cases ff with
 | false =>
   have hO:OO=f:=HO.out;subst hO;obtain rfl:SS=sn0:=HS.out;obtain rfl:VV=0:=HV.out;obtain ⟨W9,hW9⟩:∃ W9,W9=w8.setRow w.heap.size sn0.c:=⟨_,rfl⟩;have H9:=zh (HZZ.out sn0 W9 hW9);have HW9:=zh hW9;clear hW9 HZZ HO HS HV
   go_wp2_with (refine zaq rfl _ _ rfl _ _ sn0 sn0 rfl rfl HC8.out ?_;refine zab HW9.out.symm ?_;go_frame)
   exact ztP (v:=_) (ziQ _ _ w.heap.size sn0 rfl H9.out.2) rfl ⟨rfl,H9.out.1⟩
 | true =>
   by_cases hd:u2.size≤16384
   ·have hO:OO=G:=by rw [HO.out,ztN hd];rfl
    have hdn:¬ (16384:Int)<u2.size:=by omega
    subst hO;obtain rfl:SS=⟨v0,v1,u2⟩:=HS.out;obtain rfl:VV=1:=HV.out;obtain ⟨W9,hW9⟩:∃ W9,W9=w8.setRow w.heap.size (Sn.c ⟨v0,v1,u2⟩):=⟨_,rfl⟩;have H9:=zh (HZZ.out ⟨v0,v1,u2⟩ W9 hW9);have HW9:=zh hW9;clear hW9 HZZ HO HS HV hd
    go_wp2_with (first
     | (refine zca rfl _ rfl _ _ ⟨v0,v1,u2⟩ rfl HS8.out ?_;go_frame)
     | (refine zaq rfl _ _ rfl _ _ ⟨v0,v1,u2⟩ sn0 rfl rfl HC8.out ?_;refine zab HW9.out.symm ?_;go_frame))
    exact ztP (v:=_) (ziQ _ _ w.heap.size ⟨v0,v1,u2⟩ rfl H9.out.2) rfl ⟨rfl,H9.out.1⟩
   ·have hO:OO=f:=by rw [HO.out,ztM hd];rfl
    have hdn:(16384:Int)<u2.size:=by omega
    clear hd;subst hO;obtain rfl:SS=sn0:=HS.out;obtain rfl:VV=0:=HV.out;obtain ⟨W9,hW9⟩:∃ W9,W9=w8.setRow w.heap.size sn0.c:=⟨_,rfl⟩;have H9:=zh (HZZ.out sn0 W9 hW9);have HW9:=zh hW9;clear hW9 HZZ HO HS HV
    go_wp2_with (refine zaq rfl _ _ rfl _ _ sn0 sn0 rfl rfl HC8.out ?_;refine zab HW9.out.symm ?_;go_frame)
    exact ztP (v:=_) (ziQ _ _ w.heap.size sn0 rfl H9.out.2) rfl ⟨rfl,H9.out.1⟩
theorem zsA (b:ByteArray) (w:C) (hb:b.size≤281474976710656) (hv:nOk b=G→nV b≠1) :
 Calls I 129 #[H b] w fun e w'=>e=K (O #[(gtS b).v,l J (gtV b),.bool (gtO b)])∧E w.heap.size w w':=by
 obtain ⟨W,hW⟩:∃ W,W=w.alloc (A sn0.c 104):=⟨_,rfl⟩;have hB:E w.heap.size w W:=by rw [hW];exact (P _ w).alloc (ztI _) _
 have hc:W.heap[w.heap.size]?=g (A sn0.c 104 (0,0)):=by rw [hW];exact ztJ w _
 have KN:=zh (zfb b W hb);have hv2:nOk b=G→nV b=2∧nxV b=2∧nxB b=nBd b:=fun h=>⟨(zrh h).resolve_left (hv h),(ze8 h).1.trans ((zrh h).resolve_left (hv h)),(ze8 h).2.1⟩;obtain ⟨u0,hu0⟩:∃ u,u=nxB b:=⟨_,rfl⟩
 have hbz:u0.size≤281474976710656:=by
  rw [hu0];unfold nxB
  split
  ·exact ztL (zeT b) hb
  ·exact ztO _
 obtain ⟨V,hVd⟩:∃ v,v=nxV b:=⟨_,rfl⟩;obtain ⟨NN,hNN⟩:∃ x,x=nxN b:=⟨_,rfl⟩;obtain ⟨o,ho⟩:∃ o,o=nOk b:=⟨_,rfl⟩;rw [←hu0,←hVd,←hNN,←ho] at KN
 have HO:Hid (gtO b=(o&&((zcd u0&&zcd (za2 u0))&&decide ((za2 (za2 u0)).size≤16384)))):=by
  show _=_
  cases hq:nOk b with
  | false=>rw [zsz hq,ho,hq];rfl
  | true =>
    obtain ⟨a1,a2,a3⟩:=hv2 hq;have h21:¬ (2:Int)=1:=by decide
    unfold gtO bDa bOk bF bT;rw [ho,hq,a1,hu0,a3];simp only [if_neg h21,zt8]
 have HS:Hid (gtS b=if gtO b then ⟨zb3 u0,zb3 (za2 u0),za2 (za2 u0)⟩ else sn0):=by
  show _=_
  cases hq:gtO b with
  | false=>exact (zmy hq).1
  | true =>
    have hk:nOk b=G:=by unfold gtO at hq;rw [ztZ] at hq;exact hq.1
    obtain ⟨a1,a2,a3⟩:=hv2 hk;have h21:¬ (2:Int)=1:=by decide
    rw [(zqi hq).1];unfold bDa bI bT;rw [a1,hu0,a3];simp only [if_neg h21];exact (if_pos trivial).symm
 have HV:Hid (gtV b=if gtO b then V else 0):=by
  show _=_
  cases hq:gtO b with
  | false=>exact (zmy hq).2
  | true =>
    have hk:nOk b=G:=by unfold gtO at hq;rw [ztZ] at hq;exact hq.1
    obtain ⟨a1,a2,a3⟩:=hv2 hk;rw [(zqi hq).2,hVd,a1,a2,if_pos rfl]
 have hV1:(V==1)=f:=zs2 (by
  rw [hVd]
  cases hk:nOk b with
  | false=>rw [(zqA hk).1];decide
  | true=>rw [(hv2 hk).2.1];decide)
 obtain ⟨OO,hOO⟩:∃ x,x=gtO b:=⟨_,rfl⟩;obtain ⟨SS,hSS⟩:∃ x,x=gtS b:=⟨_,rfl⟩;obtain ⟨VV,hVV⟩:∃ x,x=gtV b:=⟨_,rfl⟩;rw [←hOO] at HO HS HV;rw [←hSS] at HS;rw [←hVV] at HV;rw [←hOO,←hSS,←hVV];have hz1:(za2 u0).size≤281474976710656:=ztL (zbz u0) hbz;have hz2:(za2 (za2 u0)).size≤281474976710656:=ztL (zbz (za2 u0)) hz1;have HZ0:=zh hbz;have KF:=fun (R:Nat) (bad:Bool) (W:C) (h:Rd 261 R u0 bad W) (hs:Sane u0 bad)=>zeV R u0 bad W h hbz;have KG:=fun (R:Nat) (bad:Bool) (W:C) (h:Rd 261 R (za2 u0) bad W) (hs:Sane (za2 u0) bad)=>zeV R (za2 u0) bad W h hz1;have ks0:Sane u0 f:=fun h=>by cases h
 have ks1:Sane (za2 u0) (f||!zcd u0):=sane_var u0 f ks0;have ks2:Sane (za2 (za2 u0)) (f||!zcd u0||!zcd (za2 u0)):=sane_var (za2 u0) _ ks1;obtain ⟨v0,hv0⟩:∃ x,x=zb3 u0:=⟨_,rfl⟩;obtain ⟨f0,hf0⟩:∃ x,x=zcd u0:=⟨_,rfl⟩;obtain ⟨v1,hv1⟩:∃ x,x=zb3 (za2 u0):=⟨_,rfl⟩;obtain ⟨f1,hf1⟩:∃ x,x=zcd (za2 u0):=⟨_,rfl⟩;obtain ⟨u2,hu2⟩:∃ x,x=za2 (za2 u0):=⟨_,rfl⟩;rw [←hf0,←hf1,←hu2] at HO;rw [←hv0,←hv1,←hu2] at HS;rw [←hf0] at ks1;rw [←hf0,←hf1,←hu2] at ks2;simp only [←hv0,←hf0] at KF;simp only [←hv1,←hf1,←hu2] at KG;rw [←hu2] at hz2;obtain ⟨u1,hu1⟩:∃ x,x=za2 u0:=⟨_,rfl⟩;simp only [←hu1] at KF KG;rw [←hu1] at hz1 ks1;have HZ1:=zh hz1;have HZ2:=zh hz2;have KS0:=zh ks0;have KS1:=zh ks1;have KS2:=zh ks2;have KF:=zh KF;have KG:=zh KG;have HB:=zh hB;have HC:=zh hc;have HW:=zh hW;unfold sn0 Sn.c at HW;dsimp only at HW;clear hB hc hW hbz hz1 hz2 hOO hSS hVV hv0 hv1 hf0 hf1 hu2 hu1 ks0 ks1 ks2 hb hu0 hv hv2 hNN ho hVd;unfold rdp at *;go_enter func129,ntmps129
 go_upto_region 1 with fail
 refine zaf (w:=W) HW.out.symm ?_
 go_upto_region 2 with (go_at_call 192;(with_reducible refine KN.out.mono ?_);rintro q w1 ⟨rfl,b1⟩)
 have HC1:=zh ((b1.block _ (zgx HC.out)).trans HC.out);have HB1:=zh (HB.out.trans (b1.mono HB.out.size));clear b1 KN HB HC
 go_wp2_with fail
 refine (zcE _ _).mono ?_;rintro e w2 ⟨rfl,hw2⟩;obtain ⟨R,hR⟩:∃ R,R=w1.heap.size:=⟨_,rfl⟩;have r2:Rd 261 R u0 f w2:=by rw [hw2,hR];exact Rd.new _ _ _ _
 have b2:E w1.heap.size w1 w2:=by rw [hw2];exact zba
 have hl1:w.heap.size<R:=by rw [hR];exact (zgx HC1.out)
 have HC2:Hid (w2.heap[w.heap.size]?=g (A sn0.c 104 (0,0))):=(b2.block _ (by omega)).trans HC1.out;have HB2:=zh (HB1.out.trans (b2.mono HB1.out.size));have HR2:=zh r2;have HL1:=zh hl1;unfold rdp;rw [←hR];clear hw2 r2 b2 hl1 hR HB1 HC1;obtain ⟨q,hq⟩:∃ q,q=w2.heap.size:=⟨_,rfl⟩;obtain ⟨w3,hw3⟩:∃ w3,w3=w2.alloc (A #[l F 0,l F 0,H ⟨#[]⟩] 104):=⟨_,rfl⟩;have c3:w3.heap[q]?=g (A sn0.c 104 (0,0)):=by rw [hw3,hq];exact ztJ w2 _
 have b3:E w2.heap.size w2 w3:=by rw [hw3];exact zba
 have G3:Hid (Gs w R q u0 f sn0 w3) :=
  ⟨HB2.out.trans (b3.mono HB2.out.size),(b3.block _ (zgx HC2.out)).trans HC2.out,HR2.out.below b3 HR2.out.lt,c3,HL1.out,by rw [hq];exact HR2.out.lt,HZ0.out,KS0.out⟩
 have HQ:=zh hq;have HW3:=zh hw3;clear c3 b3 hq hw3 HR2 HC2 HB2
 go_upto_region 4 with fail
 rw [←HW3.out,←HQ.out];clear HW3 HQ
 go_wp2_with fail
 refine (KF.out _ _ _ G3.out.rd G3.out.sa).mono ?_;rintro e w4 ⟨rfl,r4,g4⟩;have G4:Hid (Gs w R q u1 (f||!f0) sn0 w4):=G3.out.grown r4 g4 HZ1.out KS1.out;clear r4 g4 G3;have x0:w4.cell? ⟨q,0,j⟩=g (l F 0):=(zae G4.out.sq).1;have y0:=G4.out.fz 0;obtain ⟨w5,hw5⟩:∃ w5,w5=w4.setCell ⟨q,0,j⟩ (l F v0):=⟨_,rfl⟩;have G5:Hid (Gs w R q u1 (f||!f0) ⟨v0,0,⟨#[]⟩⟩ w5):=by show Gs _ _ _ _ _ _ _;rw [hw5];exact G4.out.set 0 _ rfl
 have HW5:=zh hw5;clear hw5 G4
 go_wp2_with fail
 rw [←HW5.out];clear x0 y0 HW5;refine (KG.out _ _ _ G5.out.rd G5.out.sa).mono ?_;rintro e w6 ⟨rfl,r6,g6⟩;have G6:Hid (Gs w R q u2 (f||!f0||!f1) ⟨v0,0,⟨#[]⟩⟩ w6):=G5.out.grown r6 g6 HZ2.out KS2.out;clear r6 g6 G5;have x1:w6.cell? ⟨q,1,j⟩=g (l F ((0:Nat):Int)):=(zae G6.out.sq).2.1;have y1:=G6.out.fz 1;obtain ⟨w7,hw7⟩:∃ w7,w7=w6.setCell ⟨q,1,j⟩ (l F v1):=⟨_,rfl⟩;have G7:Hid (Gs w R q u2 (f||!f0||!f1) ⟨v0,v1,⟨#[]⟩⟩ w7):=by show Gs _ _ _ _ _ _ _;rw [hw7];exact G6.out.set 1 _ rfl
 have HW7:=zh hw7;clear hw7 G6
 go_upto_region 9 with fail
 rw [←HW7.out];clear x1 y1 HW7;have x2:w7.cell? ⟨q,2,j⟩=g (H ⟨#[]⟩):=(zae G7.out.sq).2.2;have y2:=G7.out.fz 2;have z0:=G7.out.rd.cell0;obtain ⟨w8,hw8⟩:∃ w8,w8=w7.setCell ⟨q,2,j⟩ (H u2):=⟨_,rfl⟩;have G8:Hid (Gs w R q u2 (f||!f0||!f1) ⟨v0,v1,u2⟩ w8):=by show Gs _ _ _ _ _ _ _;rw [hw8];exact G7.out.set 2 _ rfl
 have HW8:=zh hw8;clear hw8 G7
 go_upto_region 10 with fail
 rw [←HW8.out];clear x2 y2 z0 HW8 KF KG;have hbo:(f||!f0||!f1)=!(f0&&f1):=by cases f0<;>cases f1<;>rfl
 rw [hbo] at G8;obtain ⟨ff,hff⟩:∃ x,x=(f0&&f1):=⟨_,rfl⟩;rw [←hff] at G8 HO;clear hbo hff KS1 KS2 KS0;have z1:=G8.out.rd.cell1;have d2:w8.cell? ⟨q,2,j⟩=g (H u2):=(zae (s:=⟨v0,v1,u2⟩) G8.out.sq).2.2
 have hres:∀ (s:Sn) (W9:C),W9=w8.setRow w.heap.size s.c→E w.heap.size w W9∧W9.heap[w.heap.size]?=g (A s.c 104 (0,0)):=fun s W9 h9=>by
  rw [h9];exact ⟨G8.out.be.trans ⟨rfl,rfl,rfl,by simp,fun k hk=>setRow_other _ _ _ _ (by have:=G8.out.be.size;omega)⟩,setRow_heap _ _ _ _ 104 (0,0) G8.out.r0⟩
 have HZZ:=zh hres;have HC8:=zh G8.out.r0;have HS8:=zh G8.out.sq;clear hres;unfold rdp at *
 cases o with
 | false =>
   have hO:OO=f:=HO.out;subst hO;obtain rfl:SS=sn0:=HS.out;obtain rfl:VV=0:=HV.out;obtain ⟨W9,hW9⟩:∃ W9,W9=w8.setRow w.heap.size sn0.c:=⟨_,rfl⟩;have H9:=zh (HZZ.out sn0 W9 hW9);have HW9:=zh hW9;clear hW9 HZZ HO HS HV
   go_wp2_with (refine zaq rfl _ _ rfl _ _ sn0 sn0 rfl rfl HC8.out ?_;refine zab HW9.out.symm ?_;go_frame)
   exact ztP (v:=_) (ziQ _ _ w.heap.size sn0 rfl H9.out.2) rfl ⟨rfl,H9.out.1⟩
 | true =>
   rw [zt8] at HO
   cases ff with
   | false =>
     have hO:OO=f:=HO.out;subst hO;obtain rfl:SS=sn0:=HS.out;obtain rfl:VV=0:=HV.out;obtain ⟨W9,hW9⟩:∃ W9,W9=w8.setRow w.heap.size sn0.c:=⟨_,rfl⟩;have H9:=zh (HZZ.out sn0 W9 hW9);have HW9:=zh hW9;clear hW9 HZZ HO HS HV
     go_wp2_with (refine zaq rfl _ _ rfl _ _ sn0 sn0 rfl rfl HC8.out ?_;refine zab HW9.out.symm ?_;go_frame)
     exact ztP (v:=_) (ziQ _ _ w.heap.size sn0 rfl H9.out.2) rfl ⟨rfl,H9.out.1⟩
   | true =>
     by_cases hd:u2.size≤16384
     ·have hO:OO=G:=by rw [HO.out,ztN hd];rfl
      have hdn:¬ (16384:Int)<u2.size:=by omega
      subst hO;obtain rfl:SS=⟨v0,v1,u2⟩:=HS.out;obtain rfl:VV=V:=HV.out;obtain ⟨W9,hW9⟩:∃ W9,W9=w8.setRow w.heap.size (Sn.c ⟨v0,v1,u2⟩):=⟨_,rfl⟩;have H9:=zh (HZZ.out ⟨v0,v1,u2⟩ W9 hW9);have HW9:=zh hW9;clear hW9 HZZ HO HS HV hd
      go_wp2_with (first
       | (refine zca rfl _ rfl _ _ ⟨v0,v1,u2⟩ rfl HS8.out ?_;go_frame)
       | (refine zaq rfl _ _ rfl _ _ ⟨v0,v1,u2⟩ sn0 rfl rfl HC8.out ?_;refine zab HW9.out.symm ?_;go_frame))
      exact ztP (v:=_) (ziQ _ _ w.heap.size ⟨v0,v1,u2⟩ rfl H9.out.2) rfl ⟨rfl,H9.out.1⟩
     ·have hO:OO=f:=by rw [HO.out,ztM hd];rfl
      have hdn:(16384:Int)<u2.size:=by omega
      clear hd;subst hO;obtain rfl:SS=sn0:=HS.out;obtain rfl:VV=0:=HV.out;obtain ⟨W9,hW9⟩:∃ W9,W9=w8.setRow w.heap.size sn0.c:=⟨_,rfl⟩;have H9:=zh (HZZ.out sn0 W9 hW9);have HW9:=zh hW9;clear hW9 HZZ HO HS HV
      go_wp2_with (refine zaq rfl _ _ rfl _ _ sn0 sn0 rfl rfl HC8.out ?_;refine zab HW9.out.symm ?_;go_frame)
      exact ztP (v:=_) (ziQ _ _ w.heap.size sn0 rfl H9.out.2) rfl ⟨rfl,H9.out.1⟩
theorem zo1 (b:ByteArray) (w:C) (hb:b.size≤281474976710656) :
 Calls I 129 #[H b] w fun e w'=>e=K (O #[(gtS b).v,l J (gtV b),.bool (gtO b)])∧E w.heap.size w w':=by
 by_cases h:nOk b=G∧nV b=1
 ·exact zrk b w hb h.1 h.2
 ·exact zsA b w hb fun h1 h2=>h ⟨h1,h2⟩
end Ar
end Go.Proofs.YtidndekacnmihaaGreat
