/- Parts of a proof. -/
import Derived.Test.YtidndekacnmihaaGreatC04
import Derived.Test.YtidndekacnmihaaGreatC29
set_option linter.all false
set_option maxHeartbeats 8000000
set_option maxRecDepth 100000
namespace Go.Proofs.YtidndekacnmihaaGreat
open Bool renaming true→g,false→y
open Ending renaming returned→qd
open Go renaming World→H,Calls→Y
open Go.RowKit renaming Below→I,intOf→K
open Go.RowKit.Below renaming refl→J
open IntKind renaming i64→j
open Lib renaming byteCells→qf
open List renaming replicate→Q
open Obj renaming cells→F
open Option renaming some→C,none→G
open Tryz renaming prog→qc
open Value renaming int→E,slice→qe
open Tryz hiding t4
variable {M a m n:Nat} {v:Int}
open Go.RowKit
section
open Dk
def onI (n:Nat) (at_ m v:Int):Bool:=decide (0≤at_)&&(decide (1≤m)&&knB v&&decide (m≤(n:Int)-at_))
end
section
open Dk
theorem zcI (B gr:Nat) (L:List Nat) (d:St) (at_ m v:Int) (w:H) (h:Rf w B gr L d) (ha:at_≤9223372036854775807) :
 Y qc 114 #[ptr gr,RG at_ m v] w fun e w'=>e=qd (.bool (onI d.n at_ m v))∧I w.heap.size w w':=by
 have n2:=h.1.n2;obtain ⟨g1,k1,g2,k2,g3,k3,rfl,hA⟩:=RAt.of_rf h;have q0:=hA.c 0;change w.cell? ⟨gr,0,G⟩=C (qe (C ⟨g1,0,G⟩) d.n k1) at q0
 have hlt:gr<w.heap.size:=by
  rcases zum gr w.heap.size with h|h
  ·exact h
  ·simp [World.cell?,Array.getElem?_eq_none h] at q0
 obtain ⟨N,hN⟩:∃ N,N=d.n:=⟨_,rfl⟩;rw [←hN] at q0 n2 ⊢;obtain ⟨W,hW⟩:∃ W,W=w.alloc (F (rgc at_ m v) 107):=⟨_,rfl⟩;have hB:I w.heap.size w W:=by rw [hW];exact (J w.heap.size w).alloc (ztI _) _
 have HB:Hid (∀ k,I w.heap.size w (W.drewN k)):=fun k=>below_drewN hB k;have hc:W.heap[w.heap.size]?=C (F (rgc at_ m v) 107 (0,0)):=by rw [hW];exact ztJ w _
 have c0:W.cell? ⟨w.heap.size,0,G⟩=C (E j at_):=zcr _ _ 0 _ 107 (0,0) hc;have c1:W.cell? ⟨w.heap.size,1,G⟩=C (E j m):=zcr _ _ 1 _ 107 (0,0) hc;have c2:W.cell? ⟨w.heap.size,2,G⟩=C (E j v):=zcr _ _ 2 _ 107 (0,0) hc;have q0d:W.cell? ⟨gr,0,G⟩=C (qe (C ⟨g1,0,G⟩) N k1):=(Below.cell (B:=w.heap.size) hB (p:=⟨gr,0,G⟩) hlt).trans q0;have HW:=zh hW;clear hB hc hN h hA q0 hW;unfold ptr
 by_cases h1:1≤m
 rotate_left
 ·have t1:decide (1≤m)=y:=ztM h1;have e0:onI N at_ m v=y:=by unfold onI;rw [ztM h1,zun,zun,Bool.and_false]
  rw [e0];clear e0 h1;go_enter func114,ntmps114
  go_upto_region 1 with fail
  refine zaf (w:=W) HW.out.symm ?_
  go_quiet (fail)
  go_wp2;go_ret;exact ⟨rfl,HB.out _⟩
 have t1:decide (1≤m)=g:=ztN h1
 by_cases h0:0≤at_
 rotate_left
 ·have t0:decide (0≤at_)=y:=ztM h0;have e0:onI N at_ m v=y:=by unfold onI;rw [ztM h0,zun]
  rw [e0];clear e0 h0;go_enter func114,ntmps114
  go_upto_region 1 with fail
  refine zaf (w:=W) HW.out.symm ?_
  go_quiet (fail)
  go_wp2;go_ret;exact ⟨rfl,HB.out _⟩
 have t0:decide (0≤at_)=g:=ztN h0
 by_cases hv:v=1∨v=2
 rotate_left
 ·have v1:(v==1)=y:=zcw (fun e=>hv (.inl e));have v2:(v==2)=y:=zcw (fun e=>hv (.inr e));have e0:onI N at_ m v=y:=by unfold onI knB;rw [ztM hv,Bool.and_false,zun,Bool.and_false]
  rw [e0];clear e0 hv;go_enter func114,ntmps114
  go_upto_region 1 with fail
  refine zaf (w:=W) HW.out.symm ?_
  go_quiet (fail)
  go_wp2;go_ret;exact ⟨rfl,HB.out _⟩
 have e0:onI N at_ m v=decide (m≤(N:Int)-at_):=by unfold onI knB;rw [t0,t1,ztN hv,zt8,zt8,zt8]
 rw [e0];clear e0
 have hvv:(v=1)∨(v=2∧(v==1)=y∧(v==2)=g):=by
  rcases hv with h|h
  ·exact .inl h
  ·exact .inr ⟨h,by rw [h];rfl,by rw [h];rfl⟩
 clear hv
 by_cases hat:at_<(N:Int)
 ·have ta:decide (at_<(N:Int))=g:=ztN hat
  cases h3:decide (m≤(N:Int)-at_) with
  | true =>
    rcases hvv with rfl|⟨rfl,v1,v2⟩
    all_goals
     go_enter func114,ntmps114
     go_upto_region 1 with fail
     refine zaf (w:=W) HW.out.symm ?_
     go_quiet (fail)
     go_wp2;go_ret;exact ⟨rfl,HB.out _⟩
  | false =>
    rcases hvv with rfl|⟨rfl,v1,v2⟩
    all_goals
     go_enter func114,ntmps114
     go_upto_region 1 with fail
     refine zaf (w:=W) HW.out.symm ?_
     go_quiet (fail)
     go_wp2;go_ret;exact ⟨rfl,HB.out _⟩
 ·have ta:decide (at_<(N:Int))=y:=ztM hat;rw [ztM (show ¬ m≤(N:Int)-at_ by omega)];rcases hvv with rfl|⟨rfl,v1,v2⟩
  all_goals
   go_enter func114,ntmps114
   go_upto_region 1 with fail
   refine zaf (w:=W) HW.out.symm ?_
   go_quiet (fail)
   go_wp2;go_ret;exact ⟨rfl,HB.out _⟩
end
section
open Dk
theorem zi6 (B gr:Nat) (L:List Nat) (d:St) (a M:Nat) (v:Int) (w:H) (h:Rf w B gr L d) (h1:1≤M) (hn:a+M≤d.n) :
 Y qc 130 #[ptr gr,RG a M v] w fun e w'=>e=qd (.tuple #[.string (if d.dead then ⟨#[]⟩ else rdB d a M),E j (if d.dead then 7 else 0)])∧I w.heap.size w w':=by
 have n2:=h.1.n2;obtain ⟨W,hW⟩:∃ W,W=w.alloc (F (rgc a M v) 107):=⟨_,rfl⟩;have hB:I w.heap.size w W:=by rw [hW];exact (J w.heap.size w).alloc (ztI _) _
 have hc:W.heap[w.heap.size]?=C (F (rgc a M v) 107 (0,0)):=by rw [hW];exact ztJ w _
 have c0:W.cell? ⟨w.heap.size,0,G⟩=C (E j a):=zcr _ _ 0 _ 107 (0,0) hc;have c1:W.cell? ⟨w.heap.size,1,G⟩=C (E j M):=zcr _ _ 1 _ 107 (0,0) hc;have HW:=zh hW;have HB:=zh hB;have HR:=zh (h.below hB);have HOK:=zh h.1;have HN:=zh hn;have HBD:Hid (a≤4096∧M≤4096):=⟨by omega,by omega⟩;have HM1:=zh h1;obtain ⟨X,hX⟩:∃ X:ByteArray×Int,X=(if d.dead then ⟨#[]⟩ else rdB d a M,if d.dead then 7 else 0):=⟨_,rfl⟩;have HX:=zh hX;have e1:(if d.dead then ⟨#[]⟩ else rdB d a M)=X.1:=by rw [hX]
 have e2:(if d.dead then (7:Int) else 0)=X.2:=by rw [hX]
 rw [e1,e2];have HRD:Hid (rdB d a M=txt (zeq (fun i=>d.now (a+i)) M)):=rfl;clear hc hW hB h e1 e2 hX n2 hn h1;unfold ptr at *;go_enter func130,ntmps130
 go_upto_region 1 with fail
 refine zaf (w:=W) HW.out.symm ?_
 go_upto_region 3 with fail
 go_loopw [6,7] (fun s i wr=>∃ k:Nat,i=E j k∧k≤M∧s=.string (txt (zeq (fun i=>d.now (a+i)) k))∧Hid (d.dead=g→k=0)∧Hid (wr=W)) (fun _ i _=>M-(K i).toNat)
 case atStart=>exact ⟨0,rfl,ztO _,rfl,fun _=>rfl,rfl⟩
 case round =>
  obtain ⟨k,rfl,hk,rfl,hdk,hwr⟩:=hrel;obtain rfl:wr=W:=hwr.out
  by_cases hlt:k<M
  ·have t1:decide ((k:Int)<(M:Int))=g:=ztN (by omega);have KR:=zh (zcq B gr L d ((a+k:Nat):Int) wr HR.out);obtain ⟨ham1,ham2⟩:=HBD.out;rw [zbL HN.out hlt] at KR
   cases hdd:d.dead with
   | true =>
     rw [hdd,if_pos rfl] at KR;obtain rfl:X=(⟨#[]⟩,7):=by rw [HX.out,hdd];rfl
     obtain ⟨RS,hRS⟩:∃ x,x=txt (d.readS ((a+k:Nat):Int)):=⟨_,rfl⟩;rw [←hRS] at KR;rw [show ((a+k:Nat):Int)=(a:Int)+k by omega] at KR;obtain ⟨cs,hcs⟩:∃ x,x=txt (zeq (fun i=>d.now (a+i)) k):=⟨_,rfl⟩;rw [←hcs];clear hRS hcs hdk HX hdd HRD;unfold ptr at *
     go_wp2_with (go_at_call 128;(with_reducible refine KR.out.mono ?_);rintro q w5 ⟨rfl,rfl⟩)
     go_ret2;exact ⟨rfl,HB.out⟩
   | false =>
     rw [hdd,if_neg (by decide),zeG HN.out hlt hdd] at KR;have hcat:=ze3 d a k;have hsz1:(txt (zeq (fun i=>d.now (a+i)) k)).size=k*64:=by rw [zah,zbY _ (fun i=>HOK.out.now _)]
     have hsz2:(txt (d.now (a+k))).size=64:=by rw [zah,HOK.out.now]
     obtain ⟨cs,hcs⟩:∃ x,x=txt (zeq (fun i=>d.now (a+i)) k):=⟨_,rfl⟩;obtain ⟨sk,hsk⟩:∃ x,x=txt (d.now (a+k)):=⟨_,rfl⟩;rw [←hcs,←hsk] at hcat;rw [←hcs] at hsz1 ⊢;rw [←hsk] at hsz2 KR;rw [show ((a+k:Nat):Int)=(a:Int)+k by omega] at KR;have hadd:¬ 9223372036854775807<cs.size+sk.size:=by omega
     have HCAT:=zh hcat;clear hcat hcs hsk hsz1 hsz2 HX HRD hdk;unfold ptr at *
     go_wp2_with (go_at_call 128;(with_reducible refine KR.out.mono ?_);rintro q w5 ⟨rfl,rfl⟩)
     go_roundw
     case rel=>exact ⟨k+1,by go_num,by omega,by rw [HCAT.out],(fun h=>by first|cases h|(rw [hdd] at h;cases h)),(by first|exact zh rfl|exact zh trivial)⟩
     case measure=>simp [K];omega
  ·have hkm:k=M:=by omega
   subst hkm;have t1:decide ((k:Int)<(k:Int))=y:=ztM (by omega);rw [←HRD.out]
   cases hdd:d.dead with
   | true =>
     exfalso;have h0:=hdk.out hdd;have h1:=HM1.out;omega
   | false =>
     have hXX:X=(rdB d a k,0):=by rw [HX.out,hdd];rfl
     obtain ⟨S,hS⟩:∃ S,S=rdB d a k:=⟨_,rfl⟩;rw [←hS] at hXX ⊢;subst hXX;clear HX hdk hdd HRD hS;go_wp2;go_ret2;exact ⟨rfl,HB.out⟩
theorem zaC {w:H} {b:Nat} {a m:Int} (h:w.heap[b]?=C (F (rgc a m v) 107 (0,0))):w.cell? ⟨b,0,G⟩=C (E j a)∧w.cell? ⟨b,1,G⟩=C (E j m)∧w.cell? ⟨b,2,G⟩=C (E j v) :=
 ⟨zcr _ _ 0 _ 107 (0,0) h,zcr _ _ 1 _ 107 (0,0) h,zcr _ _ 2 _ 107 (0,0) h⟩
theorem zj5 {at_:Nat} (hn:n≤4096) (h:onB n at_ m v=g):1≤m∧at_+m≤n∧(v=1∨v=2):=by
 unfold onB at h;rw [ztZ,ztZ] at h;have h1:=of_decide_eq_true h.1.1;have h2:=of_decide_eq_true h.2;refine ⟨by omega,by omega,?_⟩;have h3:=h.1.2;exact of_decide_eq_true h3
theorem zj6 (h:onB n a m v=g) (hn:a+m≤n):onI n a m v=g:=by
 unfold onB at h;rw [ztZ,ztZ] at h;unfold onI;have h1:=of_decide_eq_true h.1.1;rw [h.1.2,ztN (show (0:Int)≤a by omega),ztN (show (1:Int)≤m by omega),ztN (show (m:Int)≤(n:Int)-a by omega)];rfl
theorem zkX (X:ByteArray→En) (V:ByteArray→Int) (O:ByteArray→Bool) (B gr:Nat) (L:List Nat) (d:St) (a M:Nat) (v:Int) (w:H) (h:Rf w B gr L d) (hon:onB d.n a M v=g) (hG:(∃ k,nOk (tlB (rdB d a M) k)=g)→zrH 194 X V O) (hV:∀ t,nOk t=g→O (frm t)=g→V (frm t)=nxV t) :
 Y qc 61 #[ptr gr,RG a M v] w fun e w'=>∃ A n c,e=qd (.tuple #[qe A n c,E j (zj2 X O d a M v),E j (rdZ d a M v)])∧Le w.heap.size A n c (zj1 X O d a M v) w'∧I w.heap.size w w':=by
 have n2:=h.1.n2;obtain ⟨h1,hn,hv⟩:=zj5 n2 hon;obtain ⟨W,hW⟩:∃ W,W=w.alloc (F (rgc a M v) 107):=⟨_,rfl⟩;have hB:I w.heap.size w W:=by rw [hW];exact (J w.heap.size w).alloc (ztI _) _
 have hc:W.heap[w.heap.size]?=C (F (rgc a M v) 107 (0,0)):=by rw [hW];exact ztJ w _
 obtain ⟨c0,c1,c2⟩:=zaC hc;have HW:=zh hW;have HB:=zh hB;have HC:=zh hc;have hR:=h.below hB;have HR:=zh hR;have K1:=zh (zcI B gr L d a M v W hR (by omega));rw [zj6 hon hn] at K1;have K2:=zh (fun (W:H) (hr:Rf W B gr L d)=>zi6 B gr L d a M v W hr h1 hn);have hbs:(rdB d a M).size≤1000000000000:=by unfold rdB;rw [zah,zbY _ (fun i=>h.1.now _)];omega
 have K3:=zh (fun (W:H)=>zkV X V O v (rdB d a M) W hbs hG hV (by omega));have HRU:Hid (zj2 X O d a M v=if d.dead then 0 else znp X O v (rdB d a M)):=by show _=_;unfold zj2;rw [hon];cases d.dead<;>rfl
 have HRE:Hid (zj1 X O d a M v=if d.dead then [] else zla X O v (rdB d a M)):=by show _=_;unfold zj1;rw [hon];cases d.dead<;>rfl
 have HRZ:Hid (rdZ d a M v=if d.dead then 7 else 0):=by show _=_;unfold rdZ;rw [hon,if_pos rfl]
 obtain ⟨RU,hRU⟩:∃ x,x=zj2 X O d a M v:=⟨_,rfl⟩;obtain ⟨RE,hRE⟩:∃ x,x=zj1 X O d a M v:=⟨_,rfl⟩;obtain ⟨RZ,hRZ⟩:∃ x,x=rdZ d a M v:=⟨_,rfl⟩;obtain ⟨S,hS⟩:∃ S,S=rdB d a M:=⟨_,rfl⟩;obtain ⟨pe,hpe⟩:∃ pe,pe=zla X O v S:=⟨_,rfl⟩;obtain ⟨pu,hpu⟩:∃ pu,pu=znp X O v S:=⟨_,rfl⟩;rw [←hRU,←hRE,←hRZ];rw [←hRU] at HRU;rw [←hRE] at HRE;rw [←hRZ] at HRZ;rw [←hS] at K2 K3 HRU HRE;rw [←hpe,←hpu] at K3;rw [←hpu] at HRU;rw [←hpe] at HRE;clear hRU hRE hRZ hS hpe hpu hon h1 hn n2 hB hc hW h hR hbs hv hG hV;unfold ptr at *
 cases hdd:d.dead with
 | true =>
   rw [hdd] at K2 HRU HRE HRZ;obtain rfl:RU=0:=HRU.out;obtain rfl:RE=[]:=HRE.out;obtain rfl:RZ=7:=HRZ.out;rw [if_pos rfl,if_pos rfl] at K2;clear HRU HRE HRZ hdd K3;go_enter func61,ntmps61
   go_upto_region 1 with fail
   refine zaf (w:=W) HW.out.symm ?_
   go_upto_region 4 with (go_at_call 114;(with_reducible refine K1.out.mono ?_);rintro q w1 ⟨rfl,b1⟩)
   have HB1:=zh (HB.out.trans (b1.mono HB.out.size));have HC1:=zh ((b1.block _ (zgx HC.out)).trans HC.out);have KK:=zh (K2.out w1 (HR.out.below b1));obtain ⟨e0,e1,e2⟩:=zaC HC1.out;clear b1 c0 c1 c2
   go_wp2_with (go_at_call 130;(with_reducible refine KK.out.mono ?_);rintro q w2 ⟨rfl,b2⟩)
   go_ret3
   exact ⟨G,0,0,rfl,Le.nil _ _,HB1.out.trans (b2.mono HB1.out.size)⟩
 | false =>
   rw [hdd] at K2 HRU HRE HRZ;obtain rfl:RU=pu:=HRU.out;obtain rfl:RE=pe:=HRE.out;obtain rfl:RZ=0:=HRZ.out;rw [if_neg (by decide),if_neg (by decide)] at K2;clear HRU HRE HRZ hdd;go_enter func61,ntmps61
   go_upto_region 1 with fail
   refine zaf (w:=W) HW.out.symm ?_
   go_upto_region 4 with (go_at_call 114;(with_reducible refine K1.out.mono ?_);rintro q w1 ⟨rfl,b1⟩)
   have HB1:=zh (HB.out.trans (b1.mono HB.out.size));have HC1:=zh ((b1.block _ (zgx HC.out)).trans HC.out);have KK:=zh (K2.out w1 (HR.out.below b1));obtain ⟨e0,e1,e2⟩:=zaC HC1.out;clear b1 c0 c1 c2
   go_upto_region 7 with (go_at_call 130;(with_reducible refine KK.out.mono ?_);rintro q w2 ⟨rfl,b2⟩)
   have HB2:=zh (HB1.out.trans (b2.mono HB1.out.size));have HC2:=zh ((b2.block _ (zgx HC1.out)).trans HC1.out);obtain ⟨f0,f1,f2⟩:=zaC HC2.out;clear b2 e0 e1 e2
   go_wp2_with (go_at_call 131;(with_reducible refine (K3.out _).mono ?_);rintro q w3 ⟨A,n,c,rfl,hle,b3⟩)
   go_ret3
   exact ⟨A,n,c,rfl,⟨zd4 HB2.out.size hle.own,hle.len⟩,HB2.out.trans (b3.mono HB2.out.size)⟩
theorem znE (B gr:Nat) (L:List Nat) (d:St) (a M:Nat) (v:Int) (w:H) (h:Rf w B gr L d) (hon:onB d.n a M v=g) (hd:d.dead=y) (hz:∀ k,nOk (tlB (rdB d a M) k)=y) :
 Y qc 61 #[ptr gr,RG a M v] w fun e w'=>∃ A n c,e=qd (.tuple #[qe A n c,E j 0,E j 0])∧Le w.heap.size A n c [] w'∧I w.heap.size w w':=by
 have:=zkX (fun _=>ezz) (fun _=>0) (fun _=>y) B gr L d a M v w h hon (fun ⟨k,hk⟩=>by rw [hz k] at hk;cases hk) (fun t _ h=>by cases h)
 have e1:zj1 (fun _=>ezz) (fun _=>y) d a M v=[]:=by unfold zj1;rw [hon,hd];exact zij v _
 have e2:zj2 (fun _=>ezz) (fun _=>y) d a M v=0:=by unfold zj2;rw [hon,hd];exact zik v _
 have e3:rdZ d a M v=0:=by unfold rdZ;rw [hon,hd];rfl
 rw [e1,e2,e3] at this;exact this
end
section
open Dk
theorem zpN {d:St} (f:Nat) {l:List UInt8} (hd:d.dead=g) (hl:0<l.length):wrS d f l=(d,7):=by
 have hw:∀ (i:Int) (s:List UInt8),d.write i s=(d,7):=fun i s=>by
  unfold St.write;rw [zcM hd,if_pos (by decide)]
 unfold wrS;obtain ⟨r,hr⟩:∃ r,(l.length+63) / 64=r+1:=⟨(l.length+63) / 64-1,by omega⟩;rw [hr,wrL,hw,if_neg (by simp)]
theorem zrM (d:St) (hok:d.Ok) (a M U:Nat) (v:Int) (es:List En) (hn:a+M≤d.n) (ho:rcO v (pO v) es=g) (hf:U+(rcS v (pS v) (pO v) es).size≤M*64) (hx:rcS v (pS v) (pO v) es≠⟨#[]⟩) :
 zbI d a M v U es=if d.dead then (d,0,7) else if (wrS d (a+U / 64) ((d.now (a+U / 64)).take (U % 64)++(rcS v (pS v) (pO v) es).data.toList)).2≠0 then ((wrS d (a+U / 64) ((d.now (a+U / 64)).take (U % 64)++(rcS v (pS v) (pO v) es).data.toList)).1,0,(wrS d (a+U / 64) ((d.now (a+U / 64)).take (U % 64)++(rcS v (pS v) (pO v) es).data.toList)).2)
  else ((wrS d (a+U / 64) ((d.now (a+U / 64)).take (U % 64)++(rcS v (pS v) (pO v) es).data.toList)).1,((U+(rcS v (pS v) (pO v) es).size:Nat):Int),0):=by
 have hle:((rcS v (pS v) (pO v) es).size:Int)≤((M*64:Nat):Int)-U:=by omega
 have hE:rgE v M U es=0:=by unfold rgE;rw [if_pos ho,if_pos hle]
 have hS:rgS v M U es=rcS v (pS v) (pO v) es:=by unfold rgS;rw [ho,ztN hle];rfl
 obtain ⟨x,hxx⟩:∃ x,x=rcS v (pS v) (pO v) es:=⟨_,rfl⟩;rw [←hxx] at hf hx hS ⊢
 have hx0:0<x.data.toList.length:=by
  rcases Nat.eq_zero_or_pos x.data.toList.length with h|h
  ·exact absurd (ByteArray.ext (Array.toList_inj.1 (zuX h))) hx
  ·exact h
 have hxs:x.data.toList.length=x.size:=zug;have hr:d.refuses ((a+U / 64:Nat):Int)=if d.dead then 7 else 0:=zbL hn (by omega)
 unfold zbI;rw [hE,hS,if_neg (by simp),if_neg hx]
 cases hd:d.dead with
 | true =>
   by_cases h0:U % 64=0
   ·have hz:ahZ d a U=0:=by unfold ahZ;rw [if_pos h0]
    have hl:ahL d a U=[]:=by unfold ahL;rw [if_pos h0]
    rw [hz,hl,if_neg (by simp),zuK,zpN _ hd hx0];rfl
   ·have hz:ahZ d a U=7:=by unfold ahZ;rw [if_neg h0,hr,hd];rfl
    rw [hz,if_pos (by decide)];rfl
 | false =>
   have hz:ahZ d a U=0:=by
    unfold ahZ
    split
    ·rfl
    ·rw [hr,hd];rfl
   have hl:ahL d a U=(d.now (a+U / 64)).take (U % 64):=by
    unfold ahL
    split
    ·rename_i h0;rw [h0,List.take_zero]
    ·rw [hr,hd];rfl
   have hlen:((d.now (a+U / 64)).take (U % 64)).length=U % 64:=by rw [zt5,hok.now];omega
   rw [hz,hl,hlen,if_neg (by simp),show a+(U-U % 64) / 64=a+U / 64 by omega];rfl
theorem ziR (b:ByteArray) (k:Nat):b.extract (64*k) (min (64*k+64) b.size)=txt ((b.data.toList.drop (k*64)).take 64):=by
 have hl:b.data.toList.length=b.size:=zug;apply ByteArray.ext;apply Array.toList_inj.1;rw [zuB,zuJ,zal,zuO,show 64*k=k*64 by omega,List.take_eq_take_iff,zuh];omega
theorem zpO (B gr:Nat) (L:List Nat) (d:St) (a M U:Nat) (v:Int) (A:Option Addr) (n c:Nat) (es:List En) (w:H) (h:Rf w B gr L d)
 (hE:zcx w.heap.size A n es w) (hn:n≤64) (ok:∀ e∈es,e.Ok) (hon:onB d.n a M v=g) (hU:U≤M*64) (hbg:¬ (v=1∧U % 64≠0)) (hO:rcO v (pO v) es=g) :
 Y qc 137 #[ptr gr,RG a M v,E j U,qe A n c] w fun e w'=>e=qd (.tuple #[E j (zbI d a M v U es).2.1,E j (zbI d a M v U es).2.2])∧zaB B gr L (zbI d a M v U es).1 w w':=by
 have n2:=h.1.n2;obtain ⟨hm1,hn1,hv⟩:=zj5 n2 hon;obtain ⟨W,hW⟩:∃ W,W=w.alloc (F (rgc a M v) 107):=⟨_,rfl⟩;have hB:I w.heap.size w W:=by rw [hW];exact (J _ w).alloc (ztI _) _
 have hc:W.heap[w.heap.size]?=C (F (rgc a M v) 107 (0,0)):=by rw [hW];exact ztJ w _
 have K1:=zh (zcI B gr L d a M v W (h.below hB) (by omega));rw [zj6 hon hn1] at K1;have HE:=zh ((hE.below hB).mr hB.size);have K2:=zh (fun (W:H) (hW:zcx W.heap.size A n es W)=>zc0 v (pS v) (pO v) A n c es W hW hn (fun e _=>ztL (zf2 v e) (by omega)) (zha v es ok));rw [hO] at K2
 have hsz:(rcS v (pS v) (pO v) es).size≤134217728:=by
  have h1:(rcS v (pS v) (pO v) es).size≤es.length*1048663:=by
   unfold rcS
   split
   ·exact zfE v (pS v) 1048600 es fun e _=>zf2 v e
   ·exact ztO _
  rw [hE.len] at h1;omega
 have HGO:Hid (U+(rcS v (pS v) (pO v) es).size≤M*64→rcS v (pS v) (pO v) es≠⟨#[]⟩→zbI d a M v U es=_):=fun h1 h2=>zrM d h.1 a M U v es hn1 hO h1 h2
 have HG1:Hid (¬ U+(rcS v (pS v) (pO v) es).size≤M*64→zbI d a M v U es=(d,0,4)):=fun h1=>by
  have e1:rgE v M U es=4:=by unfold rgE;rw [if_pos hO,if_neg (by omega)]
  unfold zbI;rw [e1,if_pos (by decide)]
 have HG2:Hid (U+(rcS v (pS v) (pO v) es).size≤M*64→rcS v (pS v) (pO v) es=⟨#[]⟩→zbI d a M v U es=(d,(U:Int),0)):=fun h1 h2=>by
  have e1:rgE v M U es=0:=by unfold rgE;rw [if_pos hO,if_pos (by omega)]
  have e2:rgS v M U es=⟨#[]⟩:=by
   unfold rgS;rw [h2]
   split<;>rfl
  unfold zbI;rw [e1,e2,if_neg (by simp),if_pos rfl]
 have HN:Hid (a+M≤d.n∧d.n≤4096):=⟨hn1,n2⟩;have HNW:=zh (h.1.now (a+U / 64));have HM0:Hid (∀ W',I w.heap.size w W'→zaB B gr L d w W'):=fun W' hb=>⟨h.below hb,zaw.of_below hb⟩;have HLT:=zh h.lt;have HB:=zh hB;have HW:=zh hW;have HC:=zh hc;have HR:=zh (h.below hB);obtain ⟨X,hX⟩:∃ X,X=zbI d a M v U es:=⟨_,rfl⟩;rw [←hX] at HGO HG1 HG2 ⊢;obtain ⟨x,hx⟩:∃ x,x=rcS v (pS v) (pO v) es:=⟨_,rfl⟩;rw [←hx] at K2 HGO HG1 HG2 hsz;obtain ⟨c0,c1,c2⟩:=zaC hc;have hw:wrap64 (64*(M:Int))=64*(M:Int):=by unfold wrap64;omega
 have t0:decide ((U:Int)<0)=y:=ztM (by omega);have t1:decide (64*(M:Int)<(U:Int))=y:=ztM (by omega)
 have hvv:(v=1∧((U:Int) % 64==0)=g)∨(v==1)=y:=by
  by_cases h:v=1
  ·left
   refine ⟨h,?_⟩
   have:U % 64=0:=Nat.eq_zero_of_not_pos fun h2=>hbg ⟨h,by omega⟩
   rw [show (U:Int) % 64=((U % 64:Nat):Int) by omega,this];rfl
  ·right;exact zcw h
 have HBD:Hid (a≤4096∧M≤4096∧U≤M*64):=⟨by omega,by omega,hU⟩;clear hB hc hW h hE ok hx hX hon hbg hO hv hn1 n2 hm1;unfold ptr at *;rcases hvv with ⟨rfl,t2⟩|t2
 all_goals
  go_enter func137,ntmps137
  go_upto_region 1 with fail
  refine zaf (w:=W) HW.out.symm ?_
  go_upto_region 2 with (go_at_call 114;(with_reducible refine K1.out.mono ?_);rintro q w1 ⟨rfl,b1⟩)
  have HB1:=zh (HB.out.trans (b1.mono HB.out.size));have HE1:=zh ((HE.out.below b1).mr b1.size);have HC1:=zh ((b1.block _ (zgx HC.out)).trans HC.out);obtain ⟨e0,e1,e2⟩:=zaC HC1.out;have HR1:=zh (HR.out.below b1);clear b1 c0 c1 c2
  go_upto_region 3 with (go_at_call 115;(with_reducible refine (K2.out _ HE1.out).mono ?_);rintro q w2 ⟨rfl,b2⟩)
  have HB2:=zh (HB1.out.trans (b2.mono HB1.out.size));have HC2:=zh ((b2.block _ (zgx HC1.out)).trans HC1.out);obtain ⟨f0,f1,f2⟩:=zaC HC2.out;have HR2:=zh (HR1.out.below b2);clear b2 e0 e1 e2 HB HB1 HC HC1 HR HR1 HE HE1 K1 K2 HW
  go_upto_region 5 with fail
  obtain ⟨hb1,hb2,hb3⟩:=HBD.out;have hl1:wrap64 ((U:Int)+(x.size:Int))=(U:Int)+(x.size:Int):=by unfold wrap64;omega
  by_cases hf:U+x.size≤M*64
  rotate_left
  ·obtain rfl:X=(d,0,4):=HG1.out hf;have t3:decide (64*(M:Int)<(U:Int)+(x.size:Int))=g:=ztN (by omega);clear hf hb1 hb2 hb3 HGO HG1 HG2;go_wp2;go_ret2;exact ⟨rfl,HM0.out _ HB2.out⟩
  have t3:decide (64*(M:Int)<(U:Int)+(x.size:Int))=y:=ztM (by omega)
  by_cases hx0:x=⟨#[]⟩
  ·obtain rfl:X=(d,(U:Int),0):=HG2.out hf hx0;have t4:x.toList.isEmpty=g:=by rw [zur,hx0];rfl
   clear hf hb1 hb2 hb3 HGO HG1 HG2 hx0;go_wp2;go_ret2;exact ⟨rfl,HM0.out _ HB2.out⟩
  have HX:=zh (HGO.out hf hx0)
  have t4:x.toList.isEmpty=y:=by
   rw [zur,List.isEmpty_eq_false_iff];intro e;exact hx0 (ByteArray.ext (Array.toList_inj.1 e))
  have hxz:0<x.size:=by
   rcases Nat.eq_zero_or_pos x.size with h|h
   ·exact absurd (ByteArray.ext (Array.toList_inj.1 (zuX (zug.trans h)))) hx0
   ·exact h
  have HUM:Hid (U / 64<M):=by show _<_;omega
  have KR:=zh (zcq B gr L d ((a+U / 64:Nat):Int) w2 HR2.out);rw [zbL HN.out.1 HUM.out] at KR;rw [show ((a+U / 64:Nat):Int)=(a:Int)+(U:Int) / 64 by omega] at KR;have HBX:Hid (x.size≤134217728∧U+x.size≤M*64):=⟨hsz,hf⟩;have hl3:wrap64 ((U:Int) / 64)=(U:Int) / 64:=by unfold wrap64;omega
  have hl2:wrap64 ((a:Int)+(U:Int) / 64)=(a:Int)+(U:Int) / 64:=by unfold wrap64;omega
  clear hf hb1 hb2 hb3 HGO HG1 HG2 hsz
  cases hdd:d.dead with
  | true =>
    rw [hdd,if_pos rfl] at KR;have hX:=HX.out;rw [hdd,if_pos rfl] at hX;subst hX;obtain ⟨RS,hRS⟩:∃ s,s=txt (d.readS ((a:Int)+(U:Int) / 64)):=⟨_,rfl⟩;rw [←hRS] at KR;clear hRS HX hdd;unfold ptr at *
    go_wp2_with (go_at_call 128;(with_reducible refine KR.out.mono ?_);rintro q w5 ⟨rfl,rfl⟩)
    go_ret2;exact ⟨rfl,HM0.out _ HB2.out⟩
  | false =>
    have hrs:=zeG HN.out.1 HUM.out hdd;rw [show ((a+U / 64:Nat):Int)=(a:Int)+(U:Int) / 64 by omega] at hrs;rw [hdd,if_neg (by decide),hrs] at KR;have hX:=HX.out;rw [hdd,if_neg (by decide)] at hX;have hS:=HNW.out;obtain ⟨nw,hnw⟩:∃ nw,nw=d.now (a+U / 64):=⟨_,rfl⟩;rw [←hnw] at KR hX hS;have hcut:=zeW nw (U % 64);have hzs:(txt nw).size=64:=by rw [zah];exact hS
    have hT:txt (nw.take (U % 64))++x=txt (nw.take (U % 64)++x.data.toList):=by
     apply ByteArray.ext;apply Array.toList_inj.1;rw [zup,zuC,zal,zal]
    obtain ⟨T,hTT⟩:∃ T,T=nw.take (U % 64)++x.data.toList:=⟨_,rfl⟩;rw [←hTT] at hT hX;have hTl:T.length=U % 64+x.size:=by rw [hTT,zt4,zt5,hS,zug];show _+x.size=_;omega
    have hpz:(txt (nw.take (U % 64))).size=U % 64:=by rw [zah,zt5,hS];omega
    obtain ⟨S,hSS⟩:∃ S,S=txt nw:=⟨_,rfl⟩;rw [←hSS] at KR hcut hzs;obtain ⟨P,hP⟩:∃ P,P=txt (nw.take (U % 64)):=⟨_,rfl⟩;rw [←hP] at hcut hpz hT;have q1:((U:Int) % 64).toNat=U % 64:=by omega
    have q2:(U:Int) % 64≤(S.size:Int):=by omega
    have q3:(0:Int)≤(U:Int) % 64:=by omega
    have hadd:¬ 9223372036854775807<P.size+x.size:=by have:=HBX.out;omega
    have HX2:=zh hX;have HTL:=zh hTl;clear hX hTl hTT hnw hS hSS hP HX hdd hrs HNW;unfold ptr at *
    go_upto_region 13 with (go_at_call 128;(with_reducible refine KR.out.mono ?_);rintro q w5 ⟨rfl,rfl⟩)
    obtain ⟨b,hb⟩:∃ b,b=P++x:=⟨_,rfl⟩;rw [←hb] at hT;have hbl:b.data.toList=T:=by rw [hT,zal]
    have hbz:b.size=U % 64+x.size:=by rw [hT,zah];exact HTL.out
    go_upto_region 14 with fail
    rw [←hb]
    have HX3:Hid (X=if (wrL (a+U / 64) b.data.toList ((b.size+63) / 64) 0 d).2≠0 then ((wrL (a+U / 64) b.data.toList ((b.size+63) / 64) 0 d).1,0,(wrL (a+U / 64) b.data.toList ((b.size+63) / 64) 0 d).2) else ((wrL (a+U / 64) b.data.toList ((b.size+63) / 64) 0 d).1,((U+x.size:Nat):Int),0)):=by
     have e:wrS d (a+U / 64) T=wrL (a+U / 64) b.data.toList ((b.size+63) / 64) 0 d:=by
      unfold wrS;rw [hbl,show T.length=b.size by rw [←hbl];exact zug]
     rw [←e];exact HX2.out
    obtain ⟨X0,hX0⟩:∃ X0,X0=wrL (a+U / 64) b.data.toList ((b.size+63) / 64) 0 d:=⟨_,rfl⟩;rw [←hX0] at HX3;obtain ⟨R,hR⟩:∃ R,R=(b.size+63) / 64:=⟨_,rfl⟩;rw [←hR] at hX0;have HX0:=zh hX0
    have HRB:Hid (R=(b.size+63) / 64∧b.size≤134217791∧U+x.size≤M*64∧x.size≤134217728):=by
     have:=HBX.out
     exact ⟨hR,by omega,this.2,this.1⟩
    clear hb hbl hbz hT hX0 hR HX2 HTL HBX KR hcut hzs hpz q1 q2 q3 hadd hl2 hl3 t3 t4 t0 t1 t2 hw f1 f2 f0;obtain ⟨Fi,hFi⟩:∃ Fi:Int,Fi=(U:Int) / 64:=⟨_,rfl⟩;rw [←hFi]
    have HFI:Hid (((a+U / 64:Nat):Int)=(a:Int)+Fi∧0≤Fi∧Fi≤4096):=by
     have:=HBD.out
     exact ⟨by omega,by omega,by omega⟩
    clear hFi
    go_wp2_with fail
    go_loopw [17] (fun i wr=>∃ (k:Nat) (d':St),i=E j k∧k≤R∧Hid (zaB B gr L d' w wr∧wrL (a+U / 64) b.data.toList (R-k) k d'=X0)∧Hid (wr.heap[w.heap.size]?=C (F (rgc a M _) 107 (0,0)))) (fun i _=>R-(K i).toNat)
    case atStart=>exact ⟨0,d,rfl,ztO _,⟨HM0.out _ HB2.out,HX0.out.symm⟩,HC2⟩
    case round =>
     obtain ⟨k,d',rfl,hk,hP,hcc⟩:=hrel;obtain ⟨f0,f1,f2⟩:=zaC hcc.out
     by_cases hlt:k<R
     ·have hr:=HRB.out;have hfi:=HFI.out;have t1:decide (64*(k:Int)<(b.size:Int))=g:=ztN (by omega);have ham1:=HBD.out.1
      have hst:wrL (a+U / 64) b.data.toList (R-k) k d'=if (d'.write ((a+U / 64+k:Nat):Int) ((b.data.toList.drop (k*64)).take 64)).2=0 then wrL (a+U / 64) b.data.toList (R-(k+1)) (k+1) (d'.write ((a+U / 64+k:Nat):Int) ((b.data.toList.drop (k*64)).take 64)).1 else d'.write ((a+U / 64+k:Nat):Int) ((b.data.toList.drop (k*64)).take 64):=by
       rw [show R-k=(R-(k+1))+1 by omega];rfl
      rw [hP.out.2] at hst;have HST:=zh hst;have hx:=ziR b k;have KW:=zh (zcu B gr L d' ((a+U / 64+k:Nat):Int) ((b.data.toList.drop (k*64)).take 64) wr.drew (hP.out.1.1.below (J _ wr).drew));rw [←hx] at KW;rw [show ((a+U / 64+k:Nat):Int)=(a:Int)+Fi+k by omega] at KW HST;obtain ⟨DD,hDD⟩:∃ D,D=d'.write ((a:Int)+Fi+k) ((b.data.toList.drop (k*64)).take 64):=⟨_,rfl⟩;rw [←hDD] at KW HST;obtain ⟨r,hr2⟩:∃ r,r=min (64*k+64) b.size:=⟨_,rfl⟩;rw [←hr2] at KW;have hm2:min (64*(k:Int)+64) (b.size:Int)=(r:Int):=by omega
      have hpr:64*(k:Int)≤(r:Int):=by omega
      have hp0:(0:Int)≤64*(k:Int):=by omega
      have hpn:(64*(k:Int)).toNat=64*k:=by omega
      have hrb:(r:Int)≤(b.size:Int):=by omega
      have hl1:j.wrap ((a:Int)+Fi)=(a:Int)+Fi:=IntWalk.i64_in _ (by omega);have hl2:j.wrap ((a:Int)+Fi+k)=(a:Int)+Fi+k:=IntWalk.i64_in _ (by omega);have hl3:j.wrap (64*(k:Int))=64*(k:Int):=IntWalk.i64_in _ (by omega);have hl4:j.wrap (64*(k:Int)+64)=64*(k:Int)+64:=IntWalk.i64_in _ (by omega);have g0:wr.drew.cell? ⟨w.heap.size,0,G⟩=C (E j a):=f0;have HLB:Hid (w.heap.size<wr.heap.size):=(zgx hcc.out);clear hst hx hDD hr2 ham1 hr hfi;unfold ptr at *
      go_upto_region 17 with fail
      go_region_law (go_simp;go_at_call 70;(with_reducible refine KW.out.mono ?_);rintro q w5 ⟨rfl,hM5⟩)
      all_goals
       have HM5:Hid (zaB B gr L DD.1 w w5):=⟨hM5.1,hP.out.1.2.trans ((zaw.of_below (J _ wr).drew).trans hM5.2)⟩;have HC5:Hid (w5.heap[w.heap.size]?=C (F (rgc a M _) 107 (0,0))):=(hM5.2.block _ HLB.out (fun hm=>Nat.lt_irrefl _ (HLT.out _ hm))).trans hcc.out;obtain ⟨z,hz⟩:∃ z,z=DD.2:=⟨_,rfl⟩;rw [←hz] at HST ⊢;clear hM5 hP KW hm2 hpr hp0 hpn hrb hl1 hl2 hl3 hl4 g0 f0 f1 f2 hcc
       by_cases hz0:z=0
       ·have hst:=HST.out;rw [if_pos hz0] at hst;have HST2:=zh hst;have hkk:(k:Int)≤4194304:=by have:=HRB.out;omega
        subst hz0;clear hst HST hz;go_wp2
        go_roundw
        case rel=>exact ⟨k+1,DD.1,by go_num,by omega,⟨HM5.out,HST2.out.symm⟩,HC5⟩
        case measure=>simp [K];omega
       ·have hst:=HST.out;rw [if_neg hz0] at hst;have hX:X=(DD.1,0,z):=by rw [HX3.out,hst,if_pos (by rw [←hz];exact hz0),hz]
        have e1:(z==0)=y:=zcw hz0;have e2:(z != 0)=g:=by unfold bne;rw [e1];rfl
        subst hX;clear hst HST hz HX3;go_wp2;go_ret2;exact ⟨rfl,HM5.out⟩
     ·have hr:=HRB.out;have hkm:k=R:=by omega
      have t1:decide (64*(k:Int)<(b.size:Int))=y:=ztM (by omega);have hl3:wrap64 (64*(k:Int))=64*(k:Int):=by unfold wrap64;omega
      obtain ⟨h1,h2⟩:=hP.out;rw [hkm,Nat.sub_self] at h2;have hX0:X0=(d',0):=h2.symm;have hX:X=(d',((U+x.size:Nat):Int),0):=by rw [HX3.out,hX0];rfl
      rw [show ((U+x.size:Nat):Int)=(U:Int)+(x.size:Int) by omega] at hX;have H1:=zh h1;subst hX;clear h1 h2 HX3 hP hX0 hr f0 f1 f2 hcc HX0 hkm hlt hk;go_wp2;go_ret2;exact ⟨rfl,H1.out⟩
end
section
open Dk
theorem znF (first:Nat) (l:List UInt8) (z:Nat):∀ (r k:Nat) (d:St),wrL first (l++Q z 0) r k d=wrL first l r k d
 | 0,k,d=>rfl
 | r+1,k,d=>by
   have e:d.write ((first+k:Nat):Int) (((l++Q z 0).drop (k*64)).take 64)=d.write ((first+k:Nat):Int) ((l.drop (k*64)).take 64) :=
    zhi d _ _ _ (by rw [zt5];omega) (by rw [zt5];omega) (ze2 _ _ _)
   rw [wrL,wrL,e,znF first l z r (k+1)]
theorem zrN {d:St} {es:List En} (hon:onB d.n a M v=g) (ho:rcO v (pO v) es=g) (hf:(rcS v (pS v) (pO v) es).size≤M*64) :
 zdB d a M v es=wrL a (rcS v (pS v) (pO v) es).data.toList M 0 d:=by
 have hle:((rcS v (pS v) (pO v) es).size:Int)≤((M*64:Nat):Int)-(0:Nat):=by omega
 have hE:rgE v M 0 es=0:=by unfold rgE;rw [if_pos ho,if_pos hle]
 have hS:rgS v M 0 es=rcS v (pS v) (pO v) es:=by unfold rgS;rw [ho,ztN hle];rfl
 unfold zdB;rw [if_pos hon,hE,hS,if_neg (by simp)];obtain ⟨x,hx⟩:∃ x,x=rcS v (pS v) (pO v) es:=⟨_,rfl⟩;rw [←hx] at hf ⊢
 have hl:(x.data.toList++Q (M*64-x.size) (0:UInt8)).length=M*64:=by
  rw [zt4,zuu,zug];show x.size+_=_;omega
 unfold wrS;rw [hl,show (M*64+63) / 64=M by omega,znF]
theorem zpP {d:St} {es:List En} (hon:onB d.n a M v=g) (ho:rcO v (pO v) es=g) (hf:¬ (rcS v (pS v) (pO v) es).size≤M*64):zdB d a M v es=(d,4):=by
 have hE:rgE v M 0 es=4:=by unfold rgE;rw [if_pos ho,if_neg (by omega)]
 unfold zdB;rw [if_pos hon,hE,if_pos (by decide)]
theorem zpQ (b:ByteArray) (k:Nat):b.extract (min (64*k) b.size) (min (64*k+64) b.size)=txt ((b.data.toList.drop (k*64)).take 64):=by
 have hl:b.data.toList.length=b.size:=zug;apply ByteArray.ext;apply Array.toList_inj.1;rw [zuB,zuJ,zal,zuO]
 by_cases h:64*k≤b.size
 ·rw [show min (64*k) b.size=k*64 by omega,List.take_eq_take_iff,zuh];omega
 ·rw [zut (by omega),zut (by omega)]
  simp
theorem zim (B gr:Nat) (L:List Nat) (d:St) (a M:Nat) (v:Int) (A:Option Addr) (n c:Nat) (es:List En) (w:H) (h:Rf w B gr L d)
 (hE:zcx w.heap.size A n es w) (hn:n≤64) (ok:∀ e∈es,e.Ok) (hon:onB d.n a M v=g) (hO:rcO v (pO v) es=g) :
 Y qc 51 #[ptr gr,RG a M v,qe A n c] w fun e w'=>e=qd (E j (zdB d a M v es).2)∧zaB B gr L (zdB d a M v es).1 w w':=by
 have n2:=h.1.n2;obtain ⟨hm1,hn1,hv⟩:=zj5 n2 hon;obtain ⟨W,hW⟩:∃ W,W=w.alloc (F (rgc a M v) 107):=⟨_,rfl⟩;have hB:I w.heap.size w W:=by rw [hW];exact (J _ w).alloc (ztI _) _
 have hc:W.heap[w.heap.size]?=C (F (rgc a M v) 107 (0,0)):=by rw [hW];exact ztJ w _
 have K1:=zh (zcI B gr L d a M v W (h.below hB) (by omega));rw [zj6 hon hn1] at K1;have HE:=zh ((hE.below hB).mr hB.size);have K2:=zh (fun (W:H) (hW:zcx W.heap.size A n es W)=>zc0 v (pS v) (pO v) A n c es W hW hn (fun e _=>ztL (zf2 v e) (by omega)) (zha v es ok));rw [hO] at K2
 have hsz:(rcS v (pS v) (pO v) es).size≤134217728:=by
  have h1:(rcS v (pS v) (pO v) es).size≤es.length*1048663:=by
   unfold rcS
   split
   ·exact zfE v (pS v) 1048600 es fun e _=>zf2 v e
   ·exact ztO _
  rw [hE.len] at h1;omega
 have HG0:Hid ((rcS v (pS v) (pO v) es).size≤M*64→zdB d a M v es=wrL a (rcS v (pS v) (pO v) es).data.toList M 0 d):=fun h1=>zrN hon hO h1;have HG1:Hid (¬ (rcS v (pS v) (pO v) es).size≤M*64→zdB d a M v es=(d,4)):=fun h1=>zpP hon hO h1;have HM0:Hid (∀ W',I w.heap.size w W'→zaB B gr L d w W'):=fun W' hb=>⟨h.below hb,zaw.of_below hb⟩;have HLT:=zh h.lt;have HB:=zh hB;have HW:=zh hW;have HC:=zh hc;have HR:=zh (h.below hB);obtain ⟨X,hX⟩:∃ X,X=zdB d a M v es:=⟨_,rfl⟩;rw [←hX] at HG0 HG1 ⊢;obtain ⟨b,hb⟩:∃ b,b=rcS v (pS v) (pO v) es:=⟨_,rfl⟩;rw [←hb] at K2 HG0 HG1 hsz;obtain ⟨c0,c1,c2⟩:=zaC hc;have hw:wrap64 (64*(M:Int))=64*(M:Int):=by unfold wrap64;omega
 have HBD:Hid (a≤4096∧M≤4096∧b.size≤134217728):=⟨by omega,by omega,hsz⟩;have hng:(¬ b.size≤M*64∧64*(M:Int)<(b.size:Int))∨(b.size≤M*64∧¬ 64*(M:Int)<(b.size:Int)):=by omega
 clear hB hc hW h hE ok hb hX hon hO hv hn1 n2 hm1 hsz;unfold ptr at *;go_enter func51,ntmps51
 go_upto_region 1 with fail
 refine zaf (w:=W) HW.out.symm ?_
 go_upto_region 2 with (go_at_call 114;(with_reducible refine K1.out.mono ?_);rintro q w1 ⟨rfl,b1⟩)
 have HB1:=zh (HB.out.trans (b1.mono HB.out.size));have HE1:=zh ((HE.out.below b1).mr b1.size);have HC1:=zh ((b1.block _ (zgx HC.out)).trans HC.out);obtain ⟨e0,e1,e2⟩:=zaC HC1.out;have HR1:=zh (HR.out.below b1);clear b1 c0 c1 c2
 go_upto_region 3 with (go_at_call 115;(with_reducible refine (K2.out _ HE1.out).mono ?_);rintro q w2 ⟨rfl,b2⟩)
 have HB2:=zh (HB1.out.trans (b2.mono HB1.out.size));have HC2:=zh ((b2.block _ (zgx HC1.out)).trans HC1.out);obtain ⟨f0,f1,f2⟩:=zaC HC2.out;clear b2 e0 e1 e2 HB HB1 HC HC1 HR HR1 HE HE1 K1 K2 HW;rcases hng with ⟨hf,hng⟩|⟨hf,hng⟩
 ·obtain rfl:X=(d,4):=HG1.out hf;clear hf HG0 HG1;go_wp2;go_ret;exact ⟨rfl,HM0.out _ HB2.out⟩
 have HX:=zh (HG0.out hf);clear HG0 HG1 hf
 go_upto_region 8 with fail
 clear hng hw f0 f1 f2
 go_loopw [10] (fun i wr=>∃ (k:Nat) (d':St),i=E j k∧k≤M∧Hid (zaB B gr L d' w wr∧wrL a b.data.toList (M-k) k d'=X)∧Hid (wr.heap[w.heap.size]?=C (F (rgc a M v) 107 (0,0)))) (fun i _=>M-(K i).toNat)
 case atStart=>exact ⟨0,d,rfl,ztO _,⟨HM0.out _ HB2.out,HX.out.symm⟩,HC2⟩
 case round =>
  obtain ⟨k,d',rfl,hk,hP,hcc⟩:=hrel;obtain ⟨f0,f1,f2⟩:=zaC hcc.out
  by_cases hlt:k<M
  ·have t1:decide ((k:Int)<(M:Int))=g:=ztN (by omega);obtain ⟨ham1,ham2,ham3⟩:=HBD.out
   have hst:wrL a b.data.toList (M-k) k d'=if (d'.write ((a+k:Nat):Int) ((b.data.toList.drop (k*64)).take 64)).2=0 then wrL a b.data.toList (M-(k+1)) (k+1) (d'.write ((a+k:Nat):Int) ((b.data.toList.drop (k*64)).take 64)).1 else d'.write ((a+k:Nat):Int) ((b.data.toList.drop (k*64)).take 64):=by
    rw [show M-k=(M-(k+1))+1 by omega];rfl
   rw [hP.out.2] at hst;have HST:=zh hst;have hx:=zpQ b k;have KW:=zh (zcu B gr L d' ((a+k:Nat):Int) ((b.data.toList.drop (k*64)).take 64) wr.drew (hP.out.1.1.below (J _ wr).drew));rw [←hx] at KW;rw [show ((a+k:Nat):Int)=(a:Int)+k by omega] at KW HST;obtain ⟨DD,hDD⟩:∃ D,D=d'.write ((a:Int)+k) ((b.data.toList.drop (k*64)).take 64):=⟨_,rfl⟩;rw [←hDD] at KW HST;obtain ⟨p,hp⟩:∃ p,p=min (64*k) b.size:=⟨_,rfl⟩;obtain ⟨r,hr⟩:∃ r,r=min (64*k+64) b.size:=⟨_,rfl⟩;rw [←hp,←hr] at KW;have hm1:min (64*(k:Int)) (b.size:Int)=(p:Int):=by omega
   have hm2:min (64*(k:Int)+64) (b.size:Int)=(r:Int):=by omega
   have hpr:(p:Int)≤(r:Int):=by omega
   have hrb:(r:Int)≤(b.size:Int):=by omega
   have hl2:j.wrap ((a:Int)+k)=(a:Int)+k:=IntWalk.i64_in _ (by omega);have hl3:j.wrap (64*(k:Int))=64*(k:Int):=IntWalk.i64_in _ (by omega);have hl4:j.wrap (64*(k:Int)+64)=64*(k:Int)+64:=IntWalk.i64_in _ (by omega);have g0:wr.drew.cell? ⟨w.heap.size,0,G⟩=C (E j a):=f0;have HLB:Hid (w.heap.size<wr.heap.size):=(zgx hcc.out);clear hst hx hDD hp hr ham1 ham2 ham3;unfold ptr at *
   go_upto_region 10 with fail
   go_region_law (go_simp;go_at_call 70;(with_reducible refine KW.out.mono ?_);rintro q w5 ⟨rfl,hM5⟩)
   all_goals
    have HM5:Hid (zaB B gr L DD.1 w w5):=⟨hM5.1,hP.out.1.2.trans ((zaw.of_below (J _ wr).drew).trans hM5.2)⟩;have HC5:Hid (w5.heap[w.heap.size]?=C (F (rgc a M v) 107 (0,0))):=(hM5.2.block _ HLB.out (fun hm=>Nat.lt_irrefl _ (HLT.out _ hm))).trans hcc.out;obtain ⟨z,hz⟩:∃ z,z=DD.2:=⟨_,rfl⟩;rw [←hz] at HST ⊢;clear hM5 hP KW hm1 hm2 hpr hrb hl2 hl3 hl4 g0 f0 f1 f2 hcc;have hMM:=HBD.out.2.1
    by_cases hz0:z=0
    ·have hst:=HST.out;rw [if_pos hz0] at hst;have HST2:=zh hst;subst hz0;clear hst HST hz;go_wp2
     go_roundw
     case rel=>exact ⟨k+1,DD.1,by go_num,by omega,⟨HM5.out,HST2.out.symm⟩,HC5⟩
     case measure=>simp [K];omega
    ·have hst:=HST.out;rw [if_neg hz0] at hst;have hX:X=(DD.1,z):=by rw [hst,hz]
     have e1:(z==0)=y:=zcw hz0;have e2:(z != 0)=g:=by unfold bne;rw [e1];rfl
     subst hX;clear hst HST hz HX;go_wp2;go_ret;exact ⟨rfl,HM5.out⟩
  ·have hkm:k=M:=by omega
   have t1:decide ((k:Int)<(M:Int))=y:=ztM (by omega);obtain ⟨h1,h2⟩:=hP.out;rw [hkm,Nat.sub_self] at h2;have hX:X=(d',0):=h2.symm;have H1:=zh h1;subst hX;clear h1 h2 HX hP hkm hk;go_wp2;go_ret;exact ⟨rfl,H1.out⟩
end
section
open Dk
theorem zrO (a c:List UInt8):((txt a).toList==(txt c).toList)=decide (a=c):=by
 rw [zur,zur,zal,zal]
 by_cases h:a=c
 ·rw [h];simp
 ·rw [ztM h];exact beq_eq_false_iff_ne.2 h
theorem zkY (l:List UInt8) (w:H) (hl:l.length≤64) :
 Y qc 132 #[.string (txt l)] w fun e w'=>e=qd (.bool (decide (l=Q l.length 0)))∧I w.heap.size w w':=by
 have hmk:=zjZ w l.length (by omega);have hcv:=zj0 (w.alloc (F (qf (zeros l.length)).toArray 5)) w.heap.size l.length (ztJ w _);have B2:=(J w.heap.size w).alloc (ztI _) (F (qf (zeros l.length)).toArray 5);have hcmp:=zrO l (Q l.length 0);have hz:zz l.length=txt (Q l.length 0):=rfl;rw [←hz] at hcmp;have hs:=zah l;obtain ⟨b,hb⟩:∃ b,b=decide (l=Q l.length 0):=⟨_,rfl⟩;rw [←hb] at hcmp ⊢;obtain ⟨m,hm⟩:∃ m,m=l.length:=⟨_,rfl⟩;rw [←hm] at hmk hcv B2 hcmp hs;obtain ⟨M,hM⟩:∃ M,M=(qf (zeros m)).toArray:=⟨_,rfl⟩;rw [←hM] at hmk hcv B2;obtain ⟨S,hS⟩:∃ S,S=txt l:=⟨_,rfl⟩;rw [←hS] at hcmp hs ⊢;obtain ⟨Z,hZ⟩:∃ Z,Z=zz m:=⟨_,rfl⟩;rw [←hZ] at hcmp hcv;have HB2:=zh B2;clear hM hS hZ hb hm hz B2
 cases b
 all_goals
  go_enter func132,ntmps132;go_wp2;go_ret;exact ⟨rfl,HB2.out⟩
theorem znG (B gr:Nat) (L:List Nat) (d:St) (a M U:Nat) (v:Int) (w:H) (h:Rf w B gr L d) (hon:onB d.n a M v=g) (hU:U≤M*64) :
 Y qc 63 #[ptr gr,RG a M v,E j U] w fun e w'=>e=qd (E j (wipG d a M U).2)∧zaB B gr L (wipG d a M U).1 w w':=by
 have n2:=h.1.n2;obtain ⟨hm1,hn1,hv⟩:=zj5 n2 hon;obtain ⟨W,hW⟩:∃ W,W=w.alloc (F (rgc a M v) 107):=⟨_,rfl⟩;have hB:I w.heap.size w W:=by rw [hW];exact (J _ w).alloc (ztI _) _
 have hc:W.heap[w.heap.size]?=C (F (rgc a M v) 107 (0,0)):=by rw [hW];exact ztJ w _
 have K1:=zh (zcI B gr L d a M v W (h.below hB) (by omega));rw [zj6 hon hn1] at K1;have HM0:Hid (∀ W',I w.heap.size w W'→zaB B gr L d w W'):=fun W' hb=>⟨h.below hb,zaw.of_below hb⟩;have HLT:=zh h.lt;have HB:=zh hB;have HW:=zh hW;have HC:=zh hc;obtain ⟨c0,c1,c2⟩:=zaC hc;obtain ⟨T,hT⟩:∃ T,T=wiL a U (M-U / 64) (U / 64) d y:=⟨_,rfl⟩;have hX:wipG d a M U=if T.2.1≠0∨T.2.2=y then (T.1,T.2.1) else T.1.flush:=by rw [hT];rfl
 obtain ⟨X,hXX⟩:∃ X,X=wipG d a M U:=⟨_,rfl⟩;rw [←hXX] at hX ⊢;have HX:=zh hX;have HT:=zh hT;have hw:wrap64 (64*(M:Int))=64*(M:Int):=by unfold wrap64;omega
 have t0:decide ((U:Int)<0)=y:=ztM (by omega);have t1:decide (64*(M:Int)<(U:Int))=y:=ztM (by omega);have hdv:wrap64 ((U:Int) / 64)=(U:Int) / 64:=by unfold wrap64;omega
 have HBD:Hid (a≤4096∧M≤4096∧U≤M*64):=⟨by omega,by omega,hU⟩;clear hB hc hW h hX hXX hT hon hv hn1 n2 hm1;unfold ptr at *;go_enter func63,ntmps63
 go_upto_region 1 with fail
 refine zaf (w:=W) HW.out.symm ?_
 go_upto_region 2 with (go_at_call 114;(with_reducible refine K1.out.mono ?_);rintro q w1 ⟨rfl,b1⟩)
 have HB1:=zh (HB.out.trans (b1.mono HB.out.size));have HC1:=zh ((b1.block _ (zgx HC.out)).trans HC.out);obtain ⟨e0,e1,e2⟩:=zaC HC1.out;clear b1 c0 c1 c2 HB HC K1 HW
 go_upto_region 6 with fail
 simp only [hdv];clear hw t0 t1 e0 e1 e2 hdv
 go_loopw [8,9] (fun s i wr=>∃ (k:Nat) (d':St) (b:Bool),i=E j k∧s=.bool b∧Hid (U / 64≤k∧k≤M)∧Hid (zaB B gr L d' w wr∧wiL a U (M-k) k d' b=T)∧Hid (wr.heap[w.heap.size]?=C (F (rgc a M v) 107 (0,0)))) (fun _ i _=>M-(K i).toNat)
 case atStart=>exact ⟨U / 64,d,y,by first|rfl|congr 1,rfl,(by have:=HBD.out;exact ⟨ztI _,by omega⟩),⟨HM0.out _ HB1.out,HT.out.symm⟩,HC1⟩
 case round =>
  obtain ⟨k,d',b,rfl,rfl,hkk,hP,hcc⟩:=hrel;obtain ⟨f0,f1,f2⟩:=zaC hcc.out
  by_cases hlt:k<M
  ·have t1:decide ((k:Int)<(M:Int))=g:=ztN (by omega);obtain ⟨ham1,ham2,ham3⟩:=HBD.out;obtain ⟨hk1,hk2⟩:=hkk.out
   have hst:wiL a U (M-k) k d' b=if (zaU d' a U k).2.1=0 then wiL a U (M-(k+1)) (k+1) (zaU d' a U k).1 (b||(zaU d' a U k).2.2) else ((zaU d' a U k).1,(zaU d' a U k).2.1,b||(zaU d' a U k).2.2):=by
    rw [show M-k=(M-(k+1))+1 by omega];rfl
   rw [hP.out.2] at hst;obtain ⟨WS,hWS⟩:∃ x,x=zaU d' a U k:=⟨_,rfl⟩;rw [←hWS] at hst;have HST:=zh hst;unfold zaU at hWS;have KR:=zh (zcq B gr L d' ((a+k:Nat):Int) wr hP.out.1.1);have i1:((a+k:Nat):Int)=(a:Int)+k:=by omega
   have hl2:wrap64 ((a:Int)+k)=(a:Int)+k:=by unfold wrap64;omega
   by_cases hr:d'.refuses ((a+k:Nat):Int)=0
   rotate_left
   ·rw [if_pos hr] at hWS;obtain ⟨Z,hZ⟩:∃ Z,Z=d'.refuses ((a+k:Nat):Int):=⟨_,rfl⟩;rw [←hZ,i1] at KR;rw [←hZ] at hWS hr;subst hWS;have hst:=HST.out;rw [if_neg hr] at hst
    have hX:X=(d',Z):=by
     have:=HX.out
     rw [hst] at this;rw [this,if_pos (.inl hr)]
    have HP1:=zh hP.out.1;have t2:(Z==0)=y:=zcw hr;have t3:(Z != 0)=g:=by unfold bne;rw [t2];rfl
    obtain ⟨RS,hRS⟩:∃ s,s=txt (d'.readS ((a:Int)+k)):=⟨_,rfl⟩;rw [←hRS] at KR;subst hX;clear hr hZ i1 hst HST HX hP hRS ham1 ham2 ham3 hk1 hk2;unfold ptr at *
    go_wp2_with (go_at_call 128;(with_reducible refine KR.out.mono ?_);rintro q w5 ⟨rfl,rfl⟩)
    go_ret;exact ⟨rfl,HP1.out⟩
   have e1:d'.readS ((a+k:Nat):Int)=d'.now (a+k):=by unfold St.readS;rw [if_pos hr,ztV]
   rw [if_neg (fun h=>h hr)] at hWS;rw [e1,hr,i1] at KR;have hn64:(d'.now (a+k)).length=64:=hP.out.1.1.1.now _;obtain ⟨st,hst2⟩:∃ st,st=U-k*64:=⟨_,rfl⟩;have hstI:max ((U:Int)-64*(k:Int)) (0:Int)=(st:Int):=by omega
   have hst63:st≤63:=by omega
   have hl3:wrap64 (64*(k:Int))=64*(k:Int):=by unfold wrap64;omega
   have hl4:wrap64 ((U:Int)-64*(k:Int))=(U:Int)-64*(k:Int):=by unfold wrap64;omega
   have hkb:k≤4096:=by omega
   rw [←hst2] at hWS;obtain ⟨nw,hnw⟩:∃ nw,nw=d'.now (a+k):=⟨_,rfl⟩;rw [←hnw] at hWS KR hn64;have KW:=zh (fun (W:H) (hW:Rf W B gr L d')=>zcu B gr L d' ((a+k:Nat):Int) (nw.take st) W hW);rw [i1] at KW hWS;have hx1:=zj4 nw st (by omega);have hx2:=zeW nw st;rw [hn64] at hx1;have hs:(txt nw).size=64:=by rw [zah];exact hn64
   obtain ⟨S,hS⟩:∃ S,S=txt nw:=⟨_,rfl⟩;rw [←hS] at KR hx1 hx2 hs;have hdl:(nw.drop st).length=64-st:=by rw [zuh,hn64]
   have KZ:=zh (fun (W:H)=>zkY (nw.drop st) W (by rw [hdl];omega));rw [hdl] at KZ;rw [←hx1] at KZ;rw [←hx2] at KW;have hxs:S.extract st S.size=S.extract st 64:=by rw [hs]
   have q3:(st:Int)≤(S.size:Int):=by rw [hs];omega
   have q1:(st:Int)≤64:=by omega
   obtain ⟨D,hD⟩:∃ D,D=d'.write ((a:Int)+k) (nw.take st):=⟨_,rfl⟩;rw [←hD] at KW hWS;have HRW:=zh hP.out.1;obtain ⟨zb,hzb⟩:∃ z,z=decide (nw.drop st=Q (64-st) 0):=⟨_,rfl⟩;rw [←hzb] at KZ
   have HWS:Hid (WS=if zb=g then (d',0,y) else (D.1,D.2,g)):=by
    show _=_;rw [hWS,hzb]
    by_cases hq:nw.drop st=Q (64-st) 0
    ·rw [if_pos hq,ztN hq,if_pos rfl]
    ·rw [if_neg hq,ztM hq,if_neg (by decide)]
   have HLB:Hid (w.heap.size<wr.heap.size):=(zgx hcc.out);have HK:=zh hk2;clear hWS hzb hD hx1 hx2 hS hnw hst2 e1 hr i1 hP ham1 ham2 ham3 hk1 hk2 hn64 hdl hst;unfold ptr at *
   go_upto_region 12 with (go_at_call 128;(with_reducible refine KR.out.mono ?_);rintro q w5 ⟨rfl,rfl⟩)
   have hx0:S.extract 0 st=S.extract 0 st:=rfl
   cases zb with
   | true =>
     have hst:=HST.out;have hW2:WS=(d',0,y):=by rw [HWS.out];rfl
     rw [hW2,if_pos rfl,zuH] at hst;have HST2:=zh hst;clear hst HST HWS KW hW2
     go_wp2_with (go_at_call 132;(with_reducible refine (KZ.out _).mono ?_);rintro q w6 ⟨rfl,b6⟩)
     go_roundw
     case rel=>exact ⟨k+1,d',b,by go_num,rfl,(by have:=HK.out;have:=hkk.out;exact ⟨by omega,by omega⟩),⟨⟨HRW.out.1.below b6,HRW.out.2.trans (zaw.of_below b6)⟩,HST2.out.symm⟩,(b6.block _ HLB.out).trans hcc.out⟩
     case measure=>have:=HK.out;simp [K];omega
   | false =>
     have hst:=HST.out;have hW2:WS=(D.1,D.2,g):=by rw [HWS.out];rfl
     rw [hW2,zus] at hst;have HST2:Hid (T=if D.2=0 then wiL a U (M-(k+1)) (k+1) D.1 g else (D.1,D.2,g)):=hst.symm▸rfl;clear hst HST HWS hW2
     go_upto_region 13 with (go_at_call 132;(with_reducible refine (KZ.out _).mono ?_);rintro q w6 ⟨rfl,b6⟩)
     have HB6:=zh b6;have KW6:=zh (KW.out w6.drew ((HRW.out.1.below b6).below (J _ w6).drew));have hc6:Hid (w6.heap[w.heap.size]?=C (F (rgc a M v) 107 (0,0))):=(b6.block _ HLB.out).trans hcc.out;obtain ⟨g0,g1,g2⟩:=zaC hc6.out;have g0d:w6.drew.cell? ⟨w.heap.size,0,G⟩=C (E j a):=g0;have hw2:j.wrap ((a:Int)+k)=(a:Int)+k:=IntWalk.i64_in _ (by have:=HBD.out;omega);obtain ⟨TT,hTT⟩:∃ x,x=S.extract 0 st:=⟨_,rfl⟩;rw [←hTT] at KW6;have hx0:S.extract 0 st=TT:=hTT.symm;clear b6 KW hTT f0 f1 f2 hl2 hl3 hl4 hstI
     go_upto_region 14 with fail
     go_region_law (go_simp;go_at_call 70;(with_reducible refine KW6.out.mono ?_);rintro q w7 ⟨rfl,hM7⟩)
     all_goals
      have HM7:Hid (zaB B gr L D.1 w w7):=⟨hM7.1,HRW.out.2.trans ((zaw.of_below HB6.out).trans ((zaw.of_below (J _ w6).drew).trans hM7.2))⟩;have HC7:Hid (w7.heap[w.heap.size]?=C (F (rgc a M v) 107 (0,0))):=(hM7.2.block _ (zuk HLB.out HB6.out.size) (fun hm=>Nat.lt_irrefl _ (HLT.out _ hm))).trans hc6.out;obtain ⟨z,hz⟩:∃ z,z=D.2:=⟨_,rfl⟩;rw [←hz] at HST2 ⊢;clear hM7 KW6 g0 g1 g2 g0d hw2 hx0
      by_cases hz0:z=0
      ·have hst:=HST2.out;rw [if_pos hz0] at hst;have HST3:=zh hst;subst hz0;clear hst HST2 hz;go_wp2
       go_roundw
       case rel=>exact ⟨k+1,D.1,g,by go_num,rfl,(by have:=HK.out;have:=hkk.out;exact ⟨by omega,by omega⟩),⟨HM7.out,HST3.out.symm⟩,HC7⟩
       case measure=>have:=HK.out;simp [K];omega
      ·have hst:=HST2.out;rw [if_neg hz0] at hst
       have hX:X=(D.1,z):=by
        have:=HX.out
        rw [hst] at this;rw [this,if_pos (.inl hz0)]
       have e1:(z==0)=y:=zcw hz0;have e2:(z != 0)=g:=by unfold bne;rw [e1];rfl
       subst hX;clear hst HST2 hz HX;go_wp2;go_ret;exact ⟨rfl,HM7.out⟩
  ·have t1:decide ((k:Int)<(M:Int))=y:=ztM (by omega);obtain ⟨h1,h2⟩:=hP.out;have hkM:k=M:=by have:=hkk.out;omega
   rw [hkM,Nat.sub_self] at h2;have hT:T=(d',0,b):=h2.symm;have H1:=zh h1;clear hkM h2
   cases b with
   | false =>
     have hX:X=(d',0):=by
      have:=HX.out
      rw [hT] at this;rw [this,if_pos (.inr rfl)]
     subst hX;clear h1 HX hP hT;go_wp2;go_ret;exact ⟨rfl,H1.out⟩
   | true =>
     have hX:X=d'.flush:=by
      have:=HX.out
      rw [hT] at this;rw [this,if_neg (by simp)]
     have KF:=zh (zct B gr L d' wr h1.1);rw [←hX] at KF;clear h1 HX hP hT hX;unfold ptr at *
     go_wp2_with (go_at_call 53;(with_reducible refine KF.out.mono ?_);rintro q w8 ⟨rfl,hM8⟩)
     go_ret;exact ⟨rfl,hM8.1,H1.out.2.trans hM8.2⟩
end
end Go.Proofs.YtidndekacnmihaaGreat
