/- Parts of a proof. -/
import Derived.Test.YtidndekacnmihaaGreatC20
set_option linter.all false
set_option maxHeartbeats 8000000
set_option maxRecDepth 100000
namespace Go.Proofs.YtidndekacnmihaaGreat
open Bool renaming false→Q,true→qd
open Ending renaming returned→qi
open Go renaming World→qc,Calls→ql
open Go.RowKit renaming Below→Y,intOf→qn
open Go.RowKit.Below renaming refl→qj
open IntKind renaming i64→H,u64→qf
open Obj renaming cells→I
open Option renaming some→y,none→F
open Tryz renaming prog→qh
open Value renaming int→G,slice→M,pointer→qe,string→qg,bool→qk,ownBlock→qm
open Tryz
variable {B B' b c g n size:Nat} {W w w':qc} {A:Option Addr} {row:Option Nat} {cs:Array Value} {xs:List Value}
open Go.RowKit
section
open Dk
theorem zny (a b c f:Value) (fro til:Nat) (P:Nat→qc→Prop) (R:Int→qc→Prop) (w:qc) (hft:fro≤til) (hto:til≤1099511627776) (h0:P fro w)
 (hs:∀ k w1,fro≤k→k<til→P k w1→ql qh 187 #[G H k,a,b,c,f] w1 fun e w'=>∃ z:Int,e=qi (G H z)∧(z=0→P (k+1) w')∧(z≠0→R z w')) :
 ql qh 184 #[G H fro,G H til,.func (.func 187) #[] #[a,b,c,f]] w fun e w'=>∃ z:Int,e=qi (G H z)∧(z=0→P til w')∧(z≠0→R z w'):=by
 have HS:=zh hs;have H0:=zh h0;clear hs h0;go_enter func184,ntmps184;go_wp2
 go_loopw [7] (fun i wr=>∃ k:Nat,i=G H k∧fro≤k∧k≤til∧Hid (P k wr)) (fun i _=>til-(qn i).toNat)
 case atStart=>exact ⟨fro,rfl,ztI _,hft,H0⟩
 case round =>
  obtain ⟨k,rfl,hk1,hk2,hP⟩:=hrel
  by_cases hlt:k<til
  ·have t1:decide ((k:Int)<(til:Int))=qd:=ztN (by omega);have K:=zh (HS.out k wr hk1 hlt hP.out)
   go_upto_region 5 with fail
   refine K.out.mono ?_;rintro q w1 ⟨z,rfl,hz0,hz1⟩;clear K hP
   by_cases hz:z=0
   ·have Z0:Hid (P (k+1) w1):=hz0 hz;clear hz0 hz1;subst hz;go_wp2
    go_roundw
    case rel=>exact ⟨k+1,by go_num,by omega,by omega,Z0⟩
    case measure=>simp [qn];omega
   ·have Z1:=zh (hz1 hz);clear hz0 hz1;have e1:(z==0)=Q:=zcw hz;have e2:(z != 0)=qd:=by unfold bne;rw [e1];rfl
    go_wp2;go_ret;exact ⟨z,rfl,fun h=>absurd h hz,fun _=>Z1.out⟩
  ·have hkt:k=til:=by omega
   subst hkt;have t1:decide ((k:Int)<(k:Int))=Q:=ztM (by omega);go_wp2;go_ret;exact ⟨0,rfl,fun _=>hP.out,fun h=>absurd rfl h⟩
def wiL (at_ u:Nat):Nat→Nat→St→Bool→St×Int×Bool
 | 0,_,d,b=>(d,0,b)
 | r+1,k,d,b=>if (zaU d at_ u k).2.1=0 then wiL at_ u r (k+1) (zaU d at_ u k).1 (b||(zaU d at_ u k).2.2) else ((zaU d at_ u k).1,(zaU d at_ u k).2.1,b||(zaU d at_ u k).2.2)
def wipG (d:St) (at_ m u:Nat):St×Int :=
 if (wiL at_ u (m-u / 64) (u / 64) d Q).2.1≠0∨(wiL at_ u (m-u / 64) (u / 64) d Q).2.2=Q then ((wiL at_ u (m-u / 64) (u / 64) d Q).1,(wiL at_ u (m-u / 64) (u / 64) d Q).2.1) else (wiL at_ u (m-u / 64) (u / 64) d Q).1.flush
def znz (d:St) (at_ m:Nat) (v u:Int):St×Int:=if onB d.n at_ m v=qd∧zbC m u=qd then wipG d at_ m u.toNat else (d,1)
end
section
open Dk
theorem zsW (g:Nat) (L:List Nat) (d:St) (at_ m U b3 b7:Nat) (v:Int) (w W:qc) (T:St×Int×Bool) (hT:T=wiL at_ U (m-U / 64) (U / 64) d Q) (hb:Y w.heap.size w W) (h:Dv w g L d) (e3:b3=w.heap.size) (h3:W.heap[b3]?=y (I #[ptr g] 24 (0,0)))
 (h4:W.heap[b3+1]?=y (I (rgc at_ m v) 138 (0,0))) (h5:W.heap[b3+1+1]?=y (I #[G H U] 3 (0,0))) (h7:W.heap[b7]?=y (I #[qk Q] 4 (0,0))) (hb7:b3+1+1<b7) (ha:at_≤1048576) (hm:m≤1048576) (hU:U≤m*64) :
 ql qh 184 #[G H (U / 64:Nat),G H m,.func (.func 187) #[] #[ptr b3,ptr (b3+1),ptr (b3+1+1),ptr b7]] W fun e w'=>e=qi (G H T.2.1)∧∃ L',Dv w' g L' T.1∧zaw (b7 :: L) W w'∧zaV W L L'∧w'.heap[b7]?=y (I #[qk T.2.2] 4 (0,0))∧b7∉L':=by
 have hLw:=h.lt;have hn7:b7∉L:=fun hm=>by have:=hLw _ hm;omega
 have hD:=h.below hb
 refine (zny (ptr b3) (ptr (b3+1)) (ptr (b3+1+1)) (ptr b7) (U / 64) m
  (fun k w1=>∃ L' d' b,Dv w1 g L' d'∧zaw (b7 :: L) W w1∧zaV W L L'∧w1.heap[b7]?=y (I #[qk b] 4 (0,0))∧b7∉L'∧wiL at_ U (m-k) k d' b=T)
  (fun z w1=>z=T.2.1∧∃ L',Dv w1 g L' T.1∧zaw (b7 :: L) W w1∧zaV W L L'∧w1.heap[b7]?=y (I #[qk T.2.2] 4 (0,0))∧b7∉L') W (by omega) (by omega) ⟨L,d,Q,hD,zaw.refl _ _,zaV.refl _ _,h7,hn7,hT.symm⟩ ?_).mono ?_
 ·rintro k w1 hk0 hk ⟨L1,d1,b,hD1,hK1,hF1,h71,hn1,hw1⟩
  have hst:wiL at_ U (m-k) k d1 b=if (zaU d1 at_ U k).2.1=0 then wiL at_ U (m-(k+1)) (k+1) (zaU d1 at_ U k).1 (b||(zaU d1 at_ U k).2.2) else ((zaU d1 at_ U k).1,(zaU d1 at_ U k).2.1,b||(zaU d1 at_ U k).2.2):=by
   rw [show m-k=(m-(k+1))+1 by omega];rfl
  rw [hw1] at hst
  have hbl:∀ j,w.heap.size≤j→j<W.heap.size→j≠b7→w1.heap[j]?=W.heap[j]?:=fun j a1 a2 a3=>hK1.block j a2 fun hm=>by
   rcases ztT.1 hm with e|hm
   ·exact a3 e
   ·have:=hLw _ hm;omega
  refine (zpK g L1 d1 b3 (b3+1) (b3+1+1) b7 at_ U k m v b w1 hD1 ((hbl b3 (by omega) (zgx h3) (by omega)).trans h3) ((hbl (b3+1) (by omega) (zgx h4) (by omega)).trans h4) ((hbl (b3+1+1) (by omega) (zgx h5) (by omega)).trans h5) h71 (by omega) (by omega) hn1 ha (by omega) (by omega) (by omega)).mono ?_;rintro e w2 ⟨rfl,L2,hD2,hK2,hF2,h72,hn2⟩
  have hF12:zaV W (b7 :: L) (b7 :: L1):=fun j hj=>by
   rcases ztT.1 hj with e|hj
   ·exact .inl (by rw [e];simp)
   ·exact (hF1 j hj).elim (fun h=>.inl (ztK _ h)) .inr
  have hK3:zaw (b7 :: L) W w2:=hK1.trans' hK2 hF12;have hF3:zaV W L L2:=hF1.trans hF2 hK1.size;refine ⟨_,rfl,fun hz=>?_,fun hz=>?_⟩
  ·rw [if_pos hz] at hst;exact ⟨L2,_,_,hD2,hK3,hF3,h72,hn2,hst.symm⟩
  ·rw [if_neg hz] at hst;rw [hst];exact ⟨rfl,L2,hD2,hK3,hF3,h72,hn2⟩
 ·rintro e w1 ⟨z,rfl,hz0,hz1⟩
  by_cases hz:z=0
  ·obtain ⟨L1,d1,b,hD1,hK1,hF1,h71,hn1,hw1⟩:=hz0 hz;rw [Nat.sub_self] at hw1;have hT2:T=(d1,0,b):=hw1.symm;rw [hT2];exact ⟨by rw [hz],L1,hD1,hK1,hF1,h71,hn1⟩
  ·obtain ⟨h1,h2⟩:=hz1 hz;exact ⟨by rw [h1],h2⟩
theorem znA {L:List Nat} (hb:Y w.heap.size w W) (hk:zaw (b :: L) W w') (hbw:w.heap.size≤b):zaw L w w' :=
 ⟨hk.os.trans hb.os,hk.tape.trans hb.tape,hk.output.trans hb.output,ztL hb.size hk.size,fun k hk1 hk2=>(hk.block k (zuk hk1 hb.size) (fun hm=>by
  rcases ztT.1 hm with e|hm
  ·omega
  ·exact hk2 hm)).trans (hb.block k hk1)⟩
theorem znB (g:Nat) (L:List Nat) (d:St) (at_ m:Nat) (v u:Int) (w:qc) (h:Dv w g L d) (ha:at_≤1048576) (hm:m≤1048576) :
 ql qh 124 #[ptr g,RG at_ m v,G H u] w fun e w'=>e=qi (G H (znz d at_ m v u).2)∧zav g L (znz d at_ m v u).1 w w':=by
 obtain ⟨W,hW⟩:∃ W,W=((w.alloc (I #[ptr g] 24)).alloc (I (rgc at_ m v) 138)).alloc (I #[G H u] 3):=⟨_,rfl⟩;have hB:Y w.heap.size w W:=by rw [hW];exact (((qj _ w).alloc (ztI _) _).alloc (by simp) _).alloc (by simp;omega) _
 have hc3:W.heap[w.heap.size]?=y (I #[ptr g] 24 (0,0)):=by rw [hW];exact (zk7 w _ _ _).1
 have hc4:W.heap[w.heap.size+1]?=y (I (rgc at_ m v) 138 (0,0)):=by rw [hW];exact (zk7 w _ _ _).2.1
 have hc5:W.heap[w.heap.size+1+1]?=y (I #[G H u] 3 (0,0)):=by rw [hW];exact (zk7 w _ _ _).2.2
 have K1:=zh (zg7 g L d at_ m v W (h.below hB) ha hm);have K2:=zh (fun W=>zjV at_ v u m W hm);obtain ⟨WP,hWP⟩:∃ x,x=znz d at_ m v u:=⟨_,rfl⟩;rw [←hWP];unfold znz at hWP;obtain ⟨b1,hb1⟩:∃ b,b=onB d.n at_ m v:=⟨_,rfl⟩;obtain ⟨b2,hb2⟩:∃ b,b=zbC m u:=⟨_,rfl⟩;rw [←hb1] at K1 hWP;rw [←hb2] at K2 hWP;have fin:Hid (∀ W',Y w.heap.size w W'→zav g L d w W'):=fun W' hb=>⟨L,h.below hb,zaw.of_below hb,zaV.refl _ _⟩;have HB:=zh hB;have HW:=zh hW;have H3:=zh hc3;have H4:=zh hc4;have H5:=zh hc5;have HWP:=zh hWP;have HD:=zh h;have c3:W.cell? ⟨w.heap.size,0,F⟩=y (ptr g):=zcr W _ 0 _ 24 (0,0) hc3;have c5:W.cell? ⟨w.heap.size+1+1,0,F⟩=y (G H u):=zcr W _ 0 _ 3 (0,0) hc5;obtain ⟨c40,c41,c42⟩:=zaP hc4;clear hB hW hc3 hc4 hc5 hWP hb1 h;have hu0:=hb2;unfold ptr at *
 cases b1 with
 | false =>
   obtain rfl:WP=(d,1):=by rw [HWP.out,if_neg (by simp)]
   clear HWP hb2 hu0;go_enter func124,ntmps124
   go_upto_region 1 with fail
   refine zaf (w:=W) HW.out.symm ?_
   go_wp2_with (go_at_call 139;(with_reducible refine K1.out.mono ?_);rintro q w1 ⟨rfl,b1⟩)
   go_ret;exact ⟨rfl,fin.out _ (HB.out.trans (b1.mono HB.out.size))⟩
 | true =>
   cases b2 with
   | false =>
     obtain rfl:WP=(d,1):=by rw [HWP.out,if_neg (by simp)]
     clear HWP hb2 hu0;go_enter func124,ntmps124
     go_upto_region 1 with fail
     refine zaf (w:=W) HW.out.symm ?_
     go_wp2_with (first
      | (go_at_call 139;(with_reducible refine K1.out.mono ?_);rintro q w1 ⟨rfl,b1⟩;have HB1:=zh (HB.out.trans (b1.mono HB.out.size));obtain ⟨e0,e1,e2⟩:=zaP ((b1.block _ (zgx H4.out)).trans H4.out);have e5:w1.cell? ⟨w.heap.size+1+1,0,F⟩=y (G H u):=zcr w1 _ 0 _ 3 (0,0) ((b1.block _ (zgx H5.out)).trans H5.out);clear b1)
      | (go_at_call 140;(with_reducible refine (K2.out _).mono ?_);rintro q w2 ⟨rfl,b2⟩))
     go_ret;exact ⟨rfl,fin.out _ (HB1.out.trans (b2.mono HB1.out.size))⟩
   | true =>
     have hu:0≤u∧u≤((m*64:Nat):Int):=of_decide_eq_true hb2.symm;obtain ⟨U,rfl⟩:=ztW hu.1;have hU:U≤m*64:=by omega
     obtain ⟨T,hT⟩:∃ T,T=wiL at_ U (m-U / 64) (U / 64) d Q:=⟨_,rfl⟩
     have HW2:Hid (WP=if T.2.1≠0∨T.2.2=Q then (T.1,T.2.1) else T.1.flush):=by
      show _=_;rw [HWP.out,if_pos ⟨rfl,rfl⟩,ztV,hT];rfl
     have KEY:=zh (fun (W1:qc) (b7:Nat) (hb:Y w.heap.size w W1) (h3:W1.heap[w.heap.size]?=y (I #[qe (y ⟨g,0,F⟩)] 24 (0,0))) (h4:W1.heap[w.heap.size+1]?=y (I (rgc at_ m v) 138 (0,0))) (h5:W1.heap[w.heap.size+1+1]?=y (I #[G H U] 3 (0,0))) (h7:W1.heap[b7]?=y (I #[qk Q] 4 (0,0))) (hb7:w.heap.size+1+1<b7)=>zsW g L d at_ m U w.heap.size b7 v w W1 T hT hb HD.out rfl h3 h4 h5 h7 hb7 ha hm hU);have KF:=zh (fun (L':List Nat) (W1:qc) (h:Dv W1 g L' T.1)=>zd9 g L' T.1 W1 h);have i1:((U / 64:Nat):Int)=(U:Int) / 64:=by omega
     rw [i1] at KEY;clear HWP hb2 hu0 hT i1 hu;unfold ptr at *;go_enter func124,ntmps124
     go_upto_region 1 with fail
     refine zaf (w:=W) HW.out.symm ?_
     go_upto_region 3 with (first
      | (go_at_call 139;(with_reducible refine K1.out.mono ?_);rintro q w1 ⟨rfl,b1⟩;have HB1:=zh (HB.out.trans (b1.mono HB.out.size));have H31:=zh ((b1.block _ (zgx H3.out)).trans H3.out);have H41:=zh ((b1.block _ (zgx H4.out)).trans H4.out);have H51:=zh ((b1.block _ (zgx H5.out)).trans H5.out);obtain ⟨e0,e1,e2⟩:=zaP H41.out;have e5:w1.cell? ⟨w.heap.size+1+1,0,F⟩=y (G H U):=zcr w1 _ 0 _ 3 (0,0) H51.out;clear b1)
      | (go_at_call 140;(with_reducible refine (K2.out _).mono ?_);rintro q w2 ⟨rfl,b2⟩))
     have HB2:=zh (HB1.out.trans (b2.mono HB1.out.size));have H32:=zh ((b2.block _ (zgx H31.out)).trans H31.out);have H42:=zh ((b2.block _ (zgx H41.out)).trans H41.out);have H52:=zh ((b2.block _ (zgx H51.out)).trans H51.out);clear b2 c3 c5 c40 c41 c42 e0 e1 e2 e5;obtain ⟨P,hP⟩:∃ P,P=w2.heap.size:=⟨_,rfl⟩;have hPs:w.heap.size+1+1<P:=by rw [hP];exact (zgx H52.out)
     obtain ⟨W3,hW3⟩:∃ W3,W3=w2.alloc (I #[qk Q] 4):=⟨_,rfl⟩;have HB3:Hid (Y w.heap.size w W3):=by show Y _ _ _;rw [hW3];exact HB2.out.alloc HB2.out.size _
     have H33:Hid (W3.heap[w.heap.size]?=y (I #[qe (y ⟨g,0,F⟩)] 24 (0,0))):=by show _=_;rw [hW3];exact (ztQ _ _ _ (zgx H32.out)).trans H32.out
     have H43:Hid (W3.heap[w.heap.size+1]?=y (I (rgc at_ m v) 138 (0,0))):=by show _=_;rw [hW3];exact (ztQ _ _ _ (zgx H42.out)).trans H42.out
     have H53:Hid (W3.heap[w.heap.size+1+1]?=y (I #[G H U] 3 (0,0))):=by show _=_;rw [hW3];exact (ztQ _ _ _ (zgx H52.out)).trans H52.out
     have H73:Hid (W3.heap[P]?=y (I #[qk Q] 4 (0,0))):=by show _=_;rw [hW3,hP];exact ztJ w2 _
     have KK:=zh (KEY.out W3 P HB3.out H33.out H43.out H53.out H73.out hPs);have c5:W3.cell? ⟨w.heap.size+1+1,0,F⟩=y (G H U):=zcr W3 _ 0 _ 3 (0,0) H53.out;obtain ⟨c40,c41,c42⟩:=zaP H43.out
     go_upto_region 4 with fail
     refine zaf (w:=W3) hW3.symm ?_;rw [←hP];clear hW3 hP KEY
     go_upto_region 5 with (go_at_call 184;(with_reducible refine KK.out.mono ?_);rintro q w5 ⟨rfl,L5,hD5,hK5,hF5,h75,hn5⟩)
     have HKL:Hid (zaw L w w5):=znA HB3.out hK5 (by omega);have HFL:Hid (zaV w L L5):=fun k hk=>(hF5 k hk).elim .inl (fun h=>.inr (ztL HB3.out.size h));have HD5:=zh hD5;have HS5:Hid (w.heap.size≤w5.heap.size):=HKL.out.size
     have h35:w5.heap[w.heap.size]?=y (I #[qe (y ⟨g,0,F⟩)] 24 (0,0)):=(hK5.block _ (zgx H33.out) (fun hm=>by
      rcases ztT.1 hm with e|hm
      ·omega
      ·have:=HD.out.lt _ hm;omega)).trans H33.out
     have f3:w5.cell? ⟨w.heap.size,0,F⟩=y (qe (y ⟨g,0,F⟩)):=zcr w5 _ 0 _ 24 (0,0) h35;have f7:w5.cell? ⟨P,0,F⟩=y (qk T.2.2):=zcr w5 _ 0 _ 4 (0,0) h75;clear hD5 hK5 hF5 h75 hn5 h35 c40 c41 c42 c5;obtain ⟨t1,t2,t3⟩:=T;dsimp only at *
     by_cases hz:t2=0
     rotate_left
     ·have q1:(t2==0)=Q:=zcw hz;have q2:(t2 != 0)=qd:=by unfold bne;rw [q1];rfl
      obtain rfl:WP=(t1,t2):=by rw [HW2.out,if_pos (.inl hz)]
      clear hz HW2;go_wp2;go_ret;exact ⟨rfl,L5,HD5.out,HKL.out,HFL.out⟩
     subst hz
     cases t3 with
     | false =>
       obtain rfl:WP=(t1,0):=by rw [HW2.out,if_pos (.inr rfl)]
       clear HW2;go_wp2;go_ret;exact ⟨rfl,L5,HD5.out,HKL.out,HFL.out⟩
     | true =>
       obtain rfl:WP=t1.flush:=by rw [HW2.out,if_neg (by simp)]
       clear HW2
       go_wp2_with (go_at_call 82;(with_reducible refine (KF.out _ _ HD5.out).mono ?_);rintro q w6 ⟨rfl,hM⟩)
       go_ret;obtain ⟨L6,m1,m2,m3⟩:=hM;exact ⟨rfl,L6,m1,HKL.out.trans' m2 HFL.out,HFL.out.trans m3 HS5.out⟩
end
section
open Go.Shelf
open Dk Vi
attribute [local go_sem] Oper.semAt_some
theorem zsQ (h:Y w.heap.size w w'):w.grownBy w' F:=⟨h.os,h.tape,h.output,h.size,fun k hk _=>h.block k hk⟩
structure Kp (n₀ bV bS:Nat) (A B:qc):Prop where
 be:Y n₀ A B
 v:B.heap[bV]?=A.heap[bV]?
 s:B.heap[bS]?=A.heap[bS]?
theorem Kp.trans {n₀ bV bS:Nat} {A B C:qc} (h:Kp n₀ bV bS A B) (k:Kp n₀ bV bS B C):Kp n₀ bV bS A C:=⟨h.be.trans k.be,k.v.trans h.v,k.s.trans h.s⟩
abbrev zto (x:En×Nat):Array Value:=#[ev x.1,G H (x.2:Int)]
theorem zi2 (X:ByteArray→En) (V:ByteArray→Int) (O:ByteArray→Bool) (v:Int) (s:ByteArray) (n l bV bS n₀:Nat) (hs:s.size≤1000000000000) (hG:(∃ k,nOk (tlB s k)=qd)→zrH 293 X V O) (hn:1≤n)
 (J Jx:List (En×Nat)→qc→Prop) (B:Nat) (hJ:AbidesFrom B J)
 (hY:∀ pre x W,J pre W→pre.length<s.size+1→YieldAt Fence.wide (n-1) qh l (zto x) W fun e W' =>
   (e=qi (qk qd)∧J (pre++[x]) W'∧Kp n₀ bV bS W W')∨(e=qi (qk Q)∧Jx (pre++[x]) W'))
 (W:qc) (hbV:W.heap[bV]?=y (I #[G H v] 3 (0,0))) (hbS:W.heap[bS]?=y (I #[qg s] 9 (0,0))) (h0:J [] W) :
 CallsIn Fence.wide n qh 271 #[.func (.yield l) #[] #[],qe (y ⟨bV,0,F⟩),qe (y ⟨bS,0,F⟩)] W fun e W'=>(∃ q,e=qi q) ∧
  ((∃ ys,ys=zf3 X O v s∧J ys W')∨(∃ pre,True∧Jx pre W')):=by
 have KF:=zh (fun t W h (k:Nat) (ht:t=tlB s k)=>znf X V O v t W h (fun h1=>hG ⟨k,by rw [←ht];exact h1⟩));have HJ:=zh hJ;have HY:=zh hY;clear hG hJ hY;refine callsIn_of_wp func271 rfl trivial ?_ rfl;simp only [ntmps271,List.size_toArray,zud,List.length_nil,Nat.reduceAdd,Nat.reduceSub,Array.replicate_succ,Array.replicate_zero,List.push_toArray,List.append_toArray,zuK,List.cons_append];refine wpIn_wide.2 ?_;go_wp2
 go_loopw [4] (fun i wr=>∃ (k f:Nat) (pre:List (En×Nat)),i=G H k∧k≤s.size∧s.size<f+k∧pre.length≤k∧Hid (pre++pl X O v s f k=zf3 X O v s)∧wr.heap[bV]?=y (I #[G H v] 3 (0,0))∧wr.heap[bS]?=y (I #[qg s] 9 (0,0))∧J pre wr) (fun i _=>s.size-(qn i).toNat)
 case atStart=>exact ⟨0,s.size+1,[],rfl,ztO _,by omega,ztI _,rfl,hbV,hbS,h0⟩
 case round =>
  obtain ⟨k,f,pre,rfl,hk,hf,hpk,hpl,hV,hS,hJ⟩:=hrel;obtain ⟨f,rfl⟩:∃ f',f=f'+1:=⟨f-1,by omega⟩;have hpf:Hid (pl X O v s (f+1) k=if frB O v (tlB s k) then (X (frm (tlB s k)),zih v s k) :: pl X O v s f (zih v s k) else []):=rfl;obtain ⟨t,ht⟩:∃ t,t=tlB s k:=⟨_,rfl⟩;have hts:t.size=s.size-k:=by rw [ht];exact zeX s k hk
  rw [←ht] at hpf;have hext:s.extract k s.size=t:=ht.symm;have htb:t.size≤140737488351232:=by omega
  have K:=zh (fun W=>KF.out t W htb k ht);have c1:wr.drew.cell? ⟨bV,0,F⟩=y (G H v):=zcr wr bV 0 _ 3 (0,0) hV;have c2:wr.drew.cell? ⟨bS,0,F⟩=y (qg s):=zcr wr bS 0 _ 9 (0,0) hS;have hks:¬ (s.size:Int)<(k:Int):=by omega
  have HV:=zh hV;have HS:=zh hS;have HT:=zh ht;have HJJ:=zh hJ;clear hV hS ht hJ hbV hbS h0
  go_upto_region 1 with fail
  obtain ⟨fr,hfr⟩:∃ fr,fr=frB O v t:=⟨_,rfl⟩;rw [←hfr] at K;have HFR:=zh hfr;clear hfr;have hBa:Y wr.heap.size wr (wr.alloc (I (ec ezz) 69)).drew:=((qj _ wr).alloc (ztI _) _).drew;have hsa:(wr.alloc (I (ec ezz) 69)).drew.heap.size=wr.heap.size+1:=ztR _ _;have c1a:(wr.alloc (I #[G qf 0,G qf 0,G H 0,G qf 0,G qf 0,G qf 0,G qf 0,G H 0,G H 0,qg ⟨#[]⟩,qg ⟨#[]⟩] 69)).drew.cell? ⟨bV,0,F⟩=y (G H v):=(Below.cell (B:=wr.heap.size) hBa (p:=⟨bV,0,F⟩) (zgx HV.out)).trans (zcr wr bV 0 _ 3 (0,0) HV.out);have c2a:(wr.alloc (I #[G qf 0,G qf 0,G H 0,G qf 0,G qf 0,G qf 0,G qf 0,G H 0,G H 0,qg ⟨#[]⟩,qg ⟨#[]⟩] 69)).drew.cell? ⟨bS,0,F⟩=y (qg s):=(Below.cell (B:=wr.heap.size) hBa (p:=⟨bS,0,F⟩) (zgx HS.out)).trans (zcr wr bS 0 _ 9 (0,0) HS.out);have HBA:=zh hBa;have HSA:=zh hsa;clear hBa hsa
  go_cut [5,6,7] from 8 to 16 (fun s5 s6 s7 wx=>∃ (p:Nat) (E:En) (z:Int),s5=qe (y ⟨p,0,F⟩)∧s6=G H z∧s7=qk fr∧Hid (fr=qd→E=X (frm t)∧z=nxN t)∧wx.heap[p]?=y (I (ec E) 69 (0,0))∧wr.heap.size≤p∧Y wr.heap.size wr wx)
  case first =>
   go_region_law (first
    | (go_simp;go_at_call 272;(with_reducible refine (K.out _).mono ?_);rintro q w1 ⟨E,z,rfl,hE,hb1⟩;have HB1:Hid (Y wr.heap.size wr w1):=(qj _ wr).drew.trans hb1;have HZ:Hid ((w1.alloc (I (ec ezz) 69)).heap[w1.heap.size]?=y (I (ec ezz) 69 (0,0))):=ztJ w1 _;obtain ⟨z0,z1,z2,z3,z4,z5,z6,z7,z8,z9,z10⟩:=ecz HZ.out;have fz:∀ i,(w1.alloc (I (ec ezz) 69)).frozen? ⟨w1.heap.size,i,F⟩=Q:=fun i=>zt6 HZ.out i;clear hb1)
    | (go_simp;go_at_call 272;(with_reducible refine (K.out _).mono ?_);rintro q w1 ⟨E,z,rfl,hE,hb1⟩;have HB1:Hid (Y wr.heap.size wr w1):=HBA.out.trans (hb1.mono (ztL (Nat.le_succ _) (Nat.le_of_eq HSA.out.symm)));have HZ:Hid (w1.heap[wr.heap.size]?=y (I (ec ezz) 69 (0,0))):=(hb1.block _ (Nat.lt_of_lt_of_eq (Nat.lt_succ_self _) HSA.out.symm)).trans (ztJ wr _);obtain ⟨z0,z1,z2,z3,z4,z5,z6,z7,z8,z9,z10⟩:=ecz HZ.out;have fz:∀ i,w1.frozen? ⟨wr.heap.size,i,F⟩=Q:=fun i=>zt6 HZ.out i;clear hb1))
   all_goals
    go_wp2;go_meet
    first
     | (refine ⟨w1.heap.size,E,z,by with_reducible rfl,rfl,rfl,hE,?_,HB1.out.size,?_⟩
        ·exact ztJ w1 _
        ·exact HB1.out.alloc HB1.out.size _)
     | (refine ⟨wr.heap.size,E,z,by with_reducible rfl,rfl,rfl,hE,?_,ztI _,?_⟩
        ·exact zhZ E HZ.out
        ·exact zbU E HB1.out (ztI _))
  case rest =>
   obtain ⟨p,E,z,rfl,rfl,rfl,hE,hp,hlp,hbx⟩:=hcut;clear c1 c2 c1a c2a K HBA HSA;have HBX:=zh hbx;have hJx:Hid (J pre wc):=HJ.out _ _ _ F HJJ.out (zsQ hbx) (fun r h=>by cases h);clear hbx HJJ
   cases fr with
   | false =>
     have hst:pre=zf3 X O v s:=by
      have h1:=hpf.out;rw [←HFR.out,if_neg (by decide)] at h1;have h2:=hpl.out;rw [h1,zuG] at h2;exact h2
     have HST:=zh hst;clear hst;go_wp2;refine ztP (results_none rfl _ _ _) rfl ?_;exact ⟨⟨_,rfl⟩,.inl (by rw [←HST.out];exact hJx.out)⟩
   | true =>
     obtain ⟨hE1,hz1⟩:=hE.out rfl;have hok:nOk t=qd:=zsT HFR.out.symm;obtain ⟨hp1,hp2,hp3⟩:=zfD hok;have hlt2:=znr (v:=v) hk (by rw [←HT.out];exact hok);have hnx:zih v s k=min (bgn v (k+(nxN t).toNat)) s.size:=by unfold zih;rw [←HT.out]
     obtain ⟨N,hN⟩:∃ N,N=(nxN t).toNat:=⟨_,rfl⟩;rw [←hN] at hp1 hp2 hp3 hnx;have hzN:z=(N:Int):=by rw [hz1,hp2]
     obtain ⟨P,hP⟩:∃ P,P=zih v s k:=⟨_,rfl⟩;rw [←hP] at hnx hlt2
     have hnext:Hid ((pre++[(E,P)])++pl X O v s f P=zf3 X O v s):=by
      have h1:=hpf.out;rw [←HFR.out,if_pos rfl,←hP,←hE1] at h1;show _=_;rw [zuc,List.singleton_append,←h1];exact hpl.out
     subst hzN;have hle:k+N≤4611686018427387904:=by omega
     have KB:Hid (∀ w,ql qh 141 #[G H v,G H ((k:Int)+N)] w fun q w'=>q=qi (G H (bgn v (k+N)))∧w=w'):=fun w=>by
      have h:=zfA v (k+N) w hle;rw [Int.natCast_add] at h;exact h
     have hmin:(min (bgn v (k+N):Int) (s.size:Int))=(P:Int):=by rw [hnx];omega
     have hsum:H.wrap ((k:Int)+(N:Int))=(k:Int)+(N:Int):=IntWalk.i64_in _ (by omega);have d1:wc.drew.cell? ⟨bV,0,F⟩=y (G H v):=(HBX.out.cell (p:=⟨bV,0,F⟩) (zgx HV.out)).trans (zcr wr bV 0 _ 3 (0,0) HV.out);have d2:wc.drew.cell? ⟨bS,0,F⟩=y (qg s):=(HBX.out.cell (p:=⟨bS,0,F⟩) (zgx HS.out)).trans (zcr wr bS 0 _ 9 (0,0) HS.out);have HP:=zh hp;clear hE hE1 hz1 hok hp2 hN hP hpf hpl hnx hp
     go_upto_region 3 with fail
     go_region_with (first|(go_at_call 141;(with_reducible refine (KB.out _).mono ?_);rintro q w5 ⟨rfl,rfl⟩))
     all_goals
      have hJd:J pre wc.drew:=HJ.out _ _ _ F hJx.out (zsQ (qj _ _).drew) (fun r h=>by cases h);obtain ⟨fn,tmps,assign,body,hy,hR⟩:=HY.out pre (E,P) wc.drew hJd (by omega);dsimp only [zto] at hy;obtain ⟨e0,e1,e2,e3,e4,e5,e6,e7,e8,e9,e10⟩:=ecz (w:=wc.drew) HP.out;have HRR:=zh hR;clear hJd hR
      go_upto_region 4 with fail
      refine (wpIn_wide (n:=n)).1 ?_
      gi_wp2
      have hV3:wc.heap[bV]?=y (I #[G H v] 3 (0,0)):=(HBX.out.block _ (zgx HV.out)).trans HV.out;have hS3:wc.heap[bS]?=y (I #[qg s] 9 (0,0)):=(HBX.out.block _ (zgx HS.out)).trans HS.out;have HV3:=zh hV3;have HS3:=zh hS3;clear hV3 hS3;refine HRR.out.mono ?_;rintro e W3 (⟨rfl,hJ3,hk3⟩|⟨rfl,hJx3⟩)
      ·have HJ3:=zh hJ3;have HK3:=zh hk3;clear hJ3 hk3
       gi_wp2
       go_wp2;exact ⟨⟨P,f,pre++[(E,P)],rfl,hlt2.2,by omega,by rw [zt4];simp;omega,hnext,HK3.out.v.trans HV3.out,HK3.out.s.trans HS3.out,HJ3.out⟩,by simp [qn];omega⟩
      ·have HJ3:=zh hJx3;clear hJx3
       gi_wp2
       go_wp2;refine ztP (results_none rfl _ _ _) rfl ?_;exact ⟨⟨_,rfl⟩,.inr ⟨_,trivial,HJ3.out⟩⟩
end
section
open Go.Shelf
open Dk Vi
attribute [local go_sem] Oper.semAt_some
theorem zi3 (v:Int) (s:ByteArray) (w:qc):ql qh 228 #[G H v,qg s] w fun q w'=>q=qi (.func (.func 271) #[] #[qe (y ⟨w.heap.size,0,F⟩),qe (y ⟨w.heap.size+1,0,F⟩)])∧w'=(w.alloc (I #[G H v] 3)).alloc (I #[qg s] 9):=by
 have hmf:=zmL;go_enter func228,ntmps228;go_wp2;go_ret;exact ⟨rfl,rfl⟩
theorem zg8 (X:ByteArray→En) (V:ByteArray→Int) (O:ByteArray→Bool) (v:Int) (s:ByteArray) (n bV bS n₀:Nat) (hs:s.size≤1000000000000) (hG:(∃ k,nOk (tlB s k)=qd)→zrH 293 X V O) (hn:1≤n) (w:qc)
 (hbV:w.heap[bV]?=y (I #[G H v] 3 (0,0))) (hbS:w.heap[bS]?=y (I #[qg s] 9 (0,0))) :
 SeqStopsK Fence.wide n qh 271 #[qe (y ⟨bV,0,F⟩),qe (y ⟨bS,0,F⟩)] zto (Kp n₀ bV bS) (fun ys=>ys=zf3 X O v s) (fun _=>True) (s.size+1) w:=fun l J Jx W hW hJ _ hY h0 =>
 zi2 X V O v s n l bV bS n₀ hs hG hn J Jx W.heap.size hJ hY W ((hW.block _ (zgx hbV)).trans hbV) ((hW.block _ (zgx hbS)).trans hbS) h0
theorem Le.kept {es:List En} (h:Le B A n c es w) (hg:w.grownBy w' row) (hr:∀ r,row=y r→∃ o:Obj,w.heap[r]?=y o∧o.isCells=Q):Le B A n c es w' :=
 ⟨zcy h.own fun k hk=>hg.block k (h.own.lt k hk).2 fun e=>(by
  obtain ⟨o,ho,hc⟩:=hr k e.symm;rcases h.own.2 with ⟨hv,_⟩|⟨g,cap,cur,hv,_,hgb,_⟩
  ·rw [hv] at hk;cases hk
  ·rw [hv] at hk
   have:g=k:=by simpa [qm] using hk
   subst this;rw [hgb] at ho
   cases ho
   cases hc),h.len⟩
theorem zcm {T:TypeId} (h:w.heap[b]?=y (I cs T (0,0))) (hg:w.grownBy w' row) (hr:∀ r,row=y r→∃ o:Obj,w.heap[r]?=y o∧o.isCells=Q):w'.heap[b]?=y (I cs T (0,0)) :=
 (hg.block b (zgx h) fun e=>by obtain ⟨o,ho,hc⟩:=hr b e.symm;rw [h] at ho;cases ho;cases hc).trans h
theorem zi4 {e:TypeId} {v:Value} (hB:B'≤B) (h:w.ownsRow B e size v n xs):w.ownsRow B' e size v n xs:=by
 obtain ⟨hl,h⟩:=h;refine ⟨hl,?_⟩;rcases h with h|⟨g,cap,cur,hv,hb,r⟩
 ·exact .inl h
 ·exact .inr ⟨g,cap,cur,hv,ztL hB hb,r⟩
structure Pz (w:qc) (v:Int) (s:ByteArray) (pre:List (En×Nat)) (A:Option Addr) (n c:Nat) (W:qc):Prop where
 rl:W.heap[w.heap.size]?=y (I #[M A n c] 54 (0,0))
 ru:W.heap[w.heap.size+1]?=y (I #[G H (lpP pre)] 3 (0,0))
 bv:W.heap[w.heap.size+2]?=y (I #[G H v] 3 (0,0))
 bs:W.heap[w.heap.size+3]?=y (I #[qg s] 9 (0,0))
 le:Le (w.heap.size+4) A n c (pre.map Prod.fst) W
 be:Y w.heap.size w W
theorem Pz.kept {v:Int} {s:ByteArray} {pre:List (En×Nat)} {W':qc} (h:Pz w v s pre A n c W) (hg:W.grownBy W' row) (hr:∀ r,row=y r→w.heap.size≤r∧∃ o:Obj,W.heap[r]?=y o∧o.isCells=Q):Pz w v s pre A n c W' :=
 have hr':∀ r,row=y r→∃ o:Obj,W.heap[r]?=y o∧o.isCells=Q:=fun r e=>(hr r e).2
 ⟨zcm h.rl hg hr',zcm h.ru hg hr',zcm h.bv hg hr',zcm h.bs hg hr',h.le.kept hg hr',h.be.grown hg h.be.size fun k e=>(hr k e).1⟩
theorem Pz.step {v:Int} {s:ByteArray} {pre:List (En×Nat)} {cap:Nat} {w1:qc} {x:En×Nat} {tmp:Obj} (h:Pz w v s pre A n c W)
 (hown:w1.ownsRow (w.heap.size+4) 69 11 (M (y ⟨g,0,F⟩) (n+1) cap) (n+1) (flat (pre.map Prod.fst)++(ec x.1).toList)) (hgrow:(W.alloc tmp).grownBy w1 (qm (M A n c))) :
 (w1.heap[w.heap.size]?=y (I #[M A n c] 54 (0,0)))∧((w1.setCell ⟨w.heap.size,0,F⟩ (M (y ⟨g,0,F⟩) (n+1) cap)).heap[w.heap.size+1]?=y (I #[G H (lpP pre)] 3 (0,0))) ∧
 Pz w v s (pre++[x]) (y ⟨g,0,F⟩) (n+1) cap ((w1.setCell ⟨w.heap.size,0,F⟩ (M (y ⟨g,0,F⟩) (n+1) cap)).setCell ⟨w.heap.size+1,0,F⟩ (G H (x.2:Int))) ∧
 Kp w.heap.size (w.heap.size+2) (w.heap.size+3) W ((w1.setCell ⟨w.heap.size,0,F⟩ (M (y ⟨g,0,F⟩) (n+1) cap)).setCell ⟨w.heap.size+1,0,F⟩ (G H (x.2:Int))) ∧
 ∀ B,KeepsFrom B W ((w1.setCell ⟨w.heap.size,0,F⟩ (M (y ⟨g,0,F⟩) (n+1) cap)).setCell ⟨w.heap.size+1,0,F⟩ (G H (x.2:Int))):=by
 have hrow:∀ k,qm (M A n c)=y k→w.heap.size+4≤k∧∃ cs T fr,W.heap[k]?=y (I cs T fr):=fun k hk=>by
  refine ⟨(h.le.own.lt k hk).1,?_⟩;rcases h.le.own.2 with ⟨hv,_⟩|⟨g,cap,cur,hv,_,hgb,_⟩
  ·rw [hv] at hk;cases hk
  ·rw [hv] at hk
   have:g=k:=by simpa [qm] using hk
   subst this;exact ⟨_,_,_,hgb⟩
 have hsz1:W.heap.size≤w1.heap.size:=by have:=hgrow.size;simp at this;omega
 have old:∀ k,k<W.heap.size→qm (M A n c)≠y k→w1.heap[k]?=W.heap[k]?:=fun k hk hne =>
  (hgrow.block k (by simp;omega) fun e=>hne e.symm).trans (ztQ W _ k hk)
 have lt0:=(zgx h.rl);have lt1:=(zgx h.ru);have lt2:=(zgx h.bv);have lt3:=(zgx h.bs);have far:∀ k,k<w.heap.size+4→qm (M A n c)≠y k:=fun k hk e=>by have:=(hrow k e).1;omega
 have o0:=(old _ lt0 (far _ (by omega))).trans h.rl;have o1:=(old _ lt1 (far _ (by omega))).trans h.ru;have o2:=(old _ lt2 (far _ (by omega))).trans h.bv;have o3:=(old _ lt3 (far _ (by omega))).trans h.bs;have q1:(w1.setCell ⟨w.heap.size,0,F⟩ (M (y ⟨g,0,F⟩) (n+1) cap)).heap[w.heap.size+1]?=y (I #[G H (lpP pre)] 3 (0,0)):=(ztX w1 _ _ _ (by simp)).trans o1;have hB1:Y w.heap.size W w1:=((qj _ W).alloc h.be.size tmp).grown hgrow (by have:=h.be.size;simp;omega) fun k e=>by have:=(hrow k e).1;omega
 have hB2:Y w.heap.size W ((w1.setCell ⟨w.heap.size,0,F⟩ (M (y ⟨g,0,F⟩) (n+1) cap)).setCell ⟨w.heap.size+1,0,F⟩ (G H (x.2:Int))) :=
  (hB1.setCell (p:=⟨w.heap.size,0,F⟩) (ztI _) _).setCell (p:=⟨w.heap.size+1,0,F⟩) (by simp) _
 refine ⟨o0,q1,⟨?_,?_,?_,?_,⟨?_,?_⟩,h.be.trans hB2⟩,⟨hB2,?_,?_⟩,fun B=>⟨hB2.size,fun k o _ ho hc=>?_⟩⟩
 ·exact (ztX _ _ _ _ (by simp)).trans (zat o0 0 _)
 ·rw [zjY];exact zat q1 0 _
 ·exact (ztX _ _ _ _ (by simp)).trans ((ztX _ _ _ _ (by simp)).trans o2)
 ·exact (ztX _ _ _ _ (by simp)).trans ((ztX _ _ _ _ (by simp)).trans o3)
 ·rw [List.map_append];show World.ownsRow _ _ _ _ _ _ (flat (pre.map Prod.fst++[x.1]));rw [zdH];exact ownsRow_setCell_below (ownsRow_setCell_below hown (by simp) _) (by simp) _
 ·rw [List.length_map,zt4,←h.le.len,List.length_map];rfl
 ·exact ((ztX _ _ _ _ (by simp)).trans ((ztX _ _ _ _ (by simp)).trans o2)).trans h.bv.symm
 ·exact ((ztX _ _ _ _ (by simp)).trans ((ztX _ _ _ _ (by simp)).trans o3)).trans h.bs.symm
 ·have hk:=(zgx ho);have n0:k≠w.heap.size:=fun e=>by subst e;rw [h.rl] at ho;cases ho;cases hc
  have n1:k≠w.heap.size+1:=fun e=>by subst e;rw [h.ru] at ho;cases ho;cases hc
  have nr:qm (M A n c)≠y k:=fun e=>by obtain ⟨_,cs,T,fr,h2⟩:=hrow k e;rw [h2] at ho;cases ho;cases hc
  rw [ztX _ _ _ _ (by simpa using n1),ztX _ _ _ _ (by simpa using n0),old k hk nr];exact ho
theorem zni (X:ByteArray→En) (V:ByteArray→Int) (O:ByteArray→Bool) (v:Int) (s:ByteArray) (w:qc) (hs:s.size≤1000000000000) (hG:(∃ k,nOk (tlB s k)=qd)→zrH 293 X V O) :
 ql qh 186 #[G H v,qg s] w fun q w'=>∃ A n c,q=qi (.tuple #[M A n c,G H (znp X O v s)])∧Le w.heap.size A n c (zla X O v s) w'∧Y w.heap.size w w':=by
 refine (callsIn_wide (n:=8)).1 ?_;refine callsIn_of_wp_marks func186 rfl trivial ?_ rfl;simp only [ntmps186,List.size_toArray,zud,List.length_nil,Nat.reduceAdd,Nat.reduceSub,Array.replicate_succ,Array.replicate_zero,List.push_toArray,List.append_toArray,zuK,List.cons_append]
 gi_wp2_with (refine ⟨trivial,?_⟩;gi_at_call 228;refine (callsIn_wide.2 (zi3 _ _ _)).mono ?_;rintro e w' ⟨rfl,rfl⟩)
 obtain ⟨W4,hW4⟩:∃ W4,W4=(((w.alloc (I #[M F 0 0] 54)).alloc (I #[G H 0] 3)).alloc (I #[G H v] 3)).alloc (I #[qg s] 9):=⟨_,rfl⟩;have hsz:W4.heap.size=w.heap.size+4:=by rw [hW4];simp
 have hP0:Pz w v s [] F 0 0 W4:=by
  rw [hW4];refine ⟨?_,?_,?_,?_,Le.nil _ _,((((qj _ w).alloc (ztI _) _).alloc (by simp only [ztR];omega) _).alloc (by simp only [ztR];omega) _).alloc (by simp only [ztR];omega) _⟩
  ·exact (ztQ _ _ _ (by simp only [ztR];omega)).trans ((ztQ _ _ _ (by simp only [ztR];omega)).trans ((ztQ _ _ _ (by simp only [ztR];omega)).trans (ztJ w _)))
  ·have h:=ztJ (w.alloc (I #[M F 0 0] 54)) (I #[G H 0] 3);rw [ztR] at h;exact (ztQ _ _ _ (by simp only [ztR];omega)).trans ((ztQ _ _ _ (by simp only [ztR];omega)).trans h)
  ·have h:=ztJ ((w.alloc (I #[M F 0 0] 54)).alloc (I #[G H 0] 3)) (I #[G H v] 3);rw [ztR,ztR] at h;exact (ztQ _ _ _ (by simp only [ztR];omega)).trans h
  ·have h:=ztJ (((w.alloc (I #[M F 0 0] 54)).alloc (I #[G H 0] 3)).alloc (I #[G H v] 3)) (I #[qg s] 9);rw [ztR,ztR,ztR] at h;exact h
 rw [←hW4];clear hW4;obtain ⟨i0,hi,hz0,hz1,hz2⟩:=info_parts info69
 refine wpIn_rangeFunc_ownH rfl (by omega) (gf:=271) (lb:=#[qe (y ⟨w.heap.size+1+1,0,F⟩),qe (y ⟨w.heap.size+1+1+1,0,F⟩)]) rfl trivial (enters_of func271 (by kernel_rfl) rfl)
  (zg8 X V O v s 7 (w.heap.size+1+1) (w.heap.size+1+1+1) w.heap.size hs hG (by omega) W4 hP0.bv hP0.bs) (fun h k=>h.trans k)
  (fun W l o o' hl h hc hw=>⟨belowK_b (w:=W4) (by omega) W l o o' hl h hc hw,World.putObj_heap_other (by omega),World.putObj_heap_other (by omega)⟩) (qj _ _) (fun _=>rfl)
  (fun pre W=>∃ A n c,Pz w v s pre A n c W) (fun _ _ _=>False)
  (fun pre A B row ⟨A',n,c,hp⟩ hg hr=>⟨A',n,c,hp.kept hg (fun r e=>⟨by have:=(hr r e).1;omega,(hr r e).2⟩)⟩) (fun _ _ _ _ _ hs _ _=>hs) ⟨F,0,0,hP0⟩
  (fun x a' W=>∃ p,W.heap[p]?=y (I (ec x.1) 69 (0,0))∧w.heap.size+4≤p∧a'={ tmps:=#[G H v,qg s,undef,undef,qe (y ⟨w.heap.size,0,F⟩),qe (y ⟨w.heap.size+1,0,F⟩),qe (y ⟨p,0,F⟩),G H (x.2:Int),G H v,qg s,.func (.func 271) #[] #[qe (y ⟨w.heap.size+1+1,0,F⟩),qe (y ⟨w.heap.size+1+1+1,0,F⟩)],ev x.1,G H (x.2:Int),undef,undef,undef,undef,undef,undef,undef],defers:=[] })
  (fun x a' _ A B row ⟨p,h1,h2,h3⟩ hg hr=>⟨p,zcm h1 hg (fun r e=>(hr r e).2),h2,h3⟩) ?assign ?body ?done ?stop
 case assign =>
  rintro l pre x W K ⟨A,n,c,hp⟩ hK;have hKK:=zh hK;clear hK
  gi_wp2
  have l3:=(zgx hp.bs);exact hKK.out _ _ ((KeepsOthers.alloc _ _).from _) ⟨(qj _ W).alloc hp.be.size _,ztQ _ _ _ (by omega),ztQ _ _ _ (by omega)⟩ ⟨A,n,c,hp.kept (World.grownBy_alloc W _ F) (fun r e=>by cases e)⟩ ⟨W.heap.size,ztJ W _,by omega,rfl⟩
 case body =>
  rintro l pre x a' W hl hr ⟨A,n,c,hp⟩ ⟨p,hpx,hpl,rfl⟩ hlt;obtain ⟨e0,e1,e2,e3,e4,e5,e6,e7,e8,e9,e10⟩:=ecz hpx;have c4:W.cell? ⟨w.heap.size,0,F⟩=y (M A n c):=zcr W _ 0 _ 54 (0,0) hp.rl;have hn:n=pre.length:=by have:=hp.le.len;rw [List.length_map] at this;exact this.symm
  have hnb:n≤1000000000000:=by omega
  have hbs:=hp.be.size;have HPP:=zh hp;clear hp hpx hn hr hl
  gi_wp2_with (gi_at_builtin;refine wpListIn_append_own _ rfl _ _ 54 rfl (w.heap.size+4) 69 i0 (ev ezz) 11 104 underlying54 hi hz0 hz1 hz2 rfl (by omega) (M A n c) n (flat (pre.map Prod.fst)) rfl (HPP.out.le.below zba).own ⟨W.heap.size,0,F⟩ 1 1 (ec x.1).toList rfl rfl (World.news_of_block (ztJ W _)) (fun u hu=>by simp at hu;rcases hu with rfl|rfl|rfl|rfl|rfl|rfl|rfl|rfl|rfl|rfl|rfl<;>rfl) (by unfold maxLen;omega) (by omega) (by simp;have:=(zgx HPP.out.bs);omega) ?_;intro v' w1 hown' hgrow _;obtain ⟨g',cap',rfl⟩:=ownsRow_succ hown';obtain ⟨s0,s1,hPs,hKp,hKF⟩:=HPP.out.step hown' hgrow;have y0:w1.cell? ⟨w.heap.size,0,F⟩=y (M A n c):=zcr w1 _ 0 _ 54 (0,0) s0;have y0f:w1.frozen? ⟨w.heap.size,0,F⟩=Q:=zt6 s0 0;have y1:(w1.setCell ⟨w.heap.size,0,F⟩ (M (y ⟨g',0,F⟩) (n+1) cap')).cell? ⟨w.heap.size+1,0,F⟩=y (G H (lpP pre)):=zcr _ _ 0 _ 3 (0,0) s1;have y1f:(w1.setCell ⟨w.heap.size,0,F⟩ (M (y ⟨g',0,F⟩) (n+1) cap')).frozen? ⟨w.heap.size+1,0,F⟩=Q:=zt6 s1 0;have HPS:=zh hPs;have HKP:=zh hKp;have HKF:=zh hKF;clear hPs hKp hKF s0 s1 hown' hgrow)
  exact ⟨HKF.out _,HKP.out,_,_,_,HPS.out⟩
 case done =>
  rintro D ys W hD rfl ⟨A,n,c,hp⟩ hK;have c4:W.drew.cell? ⟨w.heap.size,0,F⟩=y (M A n c):=zcr W _ 0 _ 54 (0,0) hp.rl;have c5:W.drew.cell? ⟨w.heap.size+1,0,F⟩=y (G H (lpP (zf3 X O v s))):=zcr W _ 0 _ 3 (0,0) hp.ru;have f4:W.drew.frozen? ⟨w.heap.size,0,F⟩=Q:=zt6 (w:=W) hp.rl 0;have f5:(W.drew.setCell ⟨w.heap.size,0,F⟩ (M A n c)).frozen? ⟨w.heap.size+1,0,F⟩=Q:=zt6 ((ztX W ⟨w.heap.size,0,F⟩ (M A n c) (w.heap.size+1) (by simp)).trans hp.ru) 0;have c6:(W.drew.setCell ⟨w.heap.size,0,F⟩ (M A n c)).cell? ⟨w.heap.size+1,0,F⟩=y (G H (lpP (zf3 X O v s))):=zcr _ _ 0 _ 3 (0,0) ((ztX W ⟨w.heap.size,0,F⟩ (M A n c) (w.heap.size+1) (by simp)).trans hp.ru);have g5:(W.setCell ⟨w.heap.size,0,F⟩ (M A n c)).frozen? ⟨w.heap.size+1,0,F⟩=Q:=f5;have g6:(W.setCell ⟨w.heap.size,0,F⟩ (M A n c)).cell? ⟨w.heap.size+1,0,F⟩=y (G H (lpP (zf3 X O v s))):=c6;have h5:(W.setCell ⟨w.heap.size,0,F⟩ (M A n c)).drew.frozen? ⟨w.heap.size+1,0,F⟩=Q:=f5;have h6:(W.setCell ⟨w.heap.size,0,F⟩ (M A n c)).drew.cell? ⟨w.heap.size+1,0,F⟩=y (G H (lpP (zf3 X O v s))):=c6;have HPP:=zh hp;have HKD:=zh hK;clear hp hK
  gi_wp2
  refine wpIn_wide.2 ?_
  go_region
  obtain ⟨W9,hW9⟩:∃ W9,W9=((W.setCell ⟨w.heap.size,0,F⟩ (M A n c)).setCell ⟨w.heap.size+1,0,F⟩ (G H (lpP (zf3 X O v s)))).drew:=⟨_,rfl⟩;have hB9:Y w.heap.size W W9:=by rw [hW9];exact (((qj _ W).setCell (p:=⟨w.heap.size,0,F⟩) (ztI _) _).setCell (p:=⟨w.heap.size+1,0,F⟩) (by simp) _).drew
  have hD1:D≠w.heap.size:=by omega
  have hD2:D≠w.heap.size+1:=by omega
  have k0:W9.heap[w.heap.size]?=y (I #[M A n c] 54 (0,0)):=by
   rw [hW9];exact (ztX _ _ _ _ (by simp)).trans (zat HPP.out.rl 0 (M A n c))
  have k1:W9.heap[w.heap.size+1]?=y (I #[G H (lpP (zf3 X O v s))] 3 (0,0)):=by
   rw [hW9];exact zat ((ztX W ⟨w.heap.size,0,F⟩ (M A n c) (w.heap.size+1) (by simp)).trans HPP.out.ru) 0 (G H (lpP (zf3 X O v s)))
  have kD:W9.heap[D]?=y (.deferred (y [])):=by
   rw [hW9];exact (ztX _ _ _ _ (by simpa using hD2)).trans ((ztX _ _ _ _ (by simpa using hD1)).trans HKD.out)
  have kL:Le (w.heap.size+4) A n c (zla X O v s) W9:=by
   rw [hW9];exact ⟨ownsRow_setCell_below (ownsRow_setCell_below HPP.out.le.own (by simp) _) (by simp) _,HPP.out.le.len⟩
  have p0:(W9.putObj D (.deferred F)).cell? ⟨w.heap.size,0,F⟩=y (M A n c):=zcr _ _ 0 _ 54 (0,0) ((World.putObj_heap_other hD1.symm).trans k0);have p1:(W9.putObj D (.deferred F)).cell? ⟨w.heap.size+1,0,F⟩=y (G H (lpP (zf3 X O v s))):=zcr _ _ 0 _ 3 (0,0) ((World.putObj_heap_other hD2.symm).trans k1);have KL:=zh kL;have KD:=zh kD;have HB9:=zh hB9;have hszD:w.heap.size≤D:=by omega
  rw [←hW9];clear hW9 k0 k1 kL kD hB9 c4 c5 f4 f5 c6 g5 g6 h5 h6
  gi_wp2
  refine ⟨by simp,.inl ⟨_,_,rfl,run_takeDeferred KD.out,?_⟩⟩;refine ⟨.tuple #[M A n c,G H (lpP (zf3 X O v s))],by simp [results,results186,go_sem,p0,p1],A,n,c,rfl,⟨?_,KL.out.len⟩,?_⟩
  ·exact zi4 (by omega) (ownsRow_putObj KL.out.own _ KD.out rfl)
  ·exact (HPP.out.be.trans HB9.out).grown (grownBy_putObj' W9 D _) (ztL HPP.out.be.size HB9.out.size) (fun k e=>by cases e;exact hszD)
 case stop =>
  rintro D c pre W _ _ h _;exact h.elim
end
section
open Dk
theorem zcn {a m v:Int} (h:w.heap[b]?=y (I (rgc a m v) 138 (0,0))):w.cell? ⟨b,0,F⟩=y (G H a)∧w.cell? ⟨b,1,F⟩=y (G H m)∧w.cell? ⟨b,2,F⟩=y (G H v) :=
 ⟨zcr _ _ 0 _ 138 (0,0) h,zcr _ _ 1 _ 138 (0,0) h,zcr _ _ 2 _ 138 (0,0) h⟩
theorem zrI (g:Nat) (L:List Nat) (d:St) (b2 b3 B b at_ k:Nat) (m v:Int) (x:ByteArray) (w:qc) (h:Dv w g L d) (h2:w.heap[b2]?=y (I #[ptr g] 24 (0,0))) (h3:w.heap[b3]?=y (I (rgc at_ m v) 138 (0,0)))
 (hs:Sb B b x w) (hB:B≤w.heap.size) (hx:x.size≤1099511627776) (hk:k≤1048576) (ha:at_≤1048576) :
 ql qh 185 #[G H k,ptr b2,ptr b3,ptr b] w fun e w'=>e=qi (G H (d.refuses ((at_+k:Nat):Int)))∧Sb B b (x++txt (d.readS ((at_+k:Nat):Int))) w'∧Y B w w':=by
 have c2:w.cell? ⟨b2,0,F⟩=y (ptr g):=zcr w b2 0 _ 24 (0,0) h2;have c3:w.cell? ⟨b3,0,F⟩=y (G H at_):=zcr w b3 0 _ 138 (0,0) h3;have KR:=zh (zd6 g L d ((at_+k:Nat):Int) w h);have i1:((at_+k:Nat):Int)=(at_:Int)+(k:Int):=by omega
 have hrs:(txt (d.readS ((at_+k:Nat):Int))).size≤64:=by
  rw [zah];unfold St.readS
  split
  ·rw [h.1.now];omega
  ·exact ztO _
 rw [i1] at KR hrs ⊢;obtain ⟨Z,hZ⟩:∃ Z,Z=d.refuses ((at_:Int)+(k:Int)):=⟨_,rfl⟩;obtain ⟨T,hT⟩:∃ T,T=txt (d.readS ((at_:Int)+(k:Int))):=⟨_,rfl⟩;rw [←hZ,←hT] at KR ⊢;rw [←hT] at hrs;have KW:=zh (fun (W:qc) (hW:Sb B b x W) (hb:B≤W.heap.size)=>zeZ B b x T W hW (by omega) hb);have HS:=zh hs;clear hZ hT i1 hs h h2 h3;unfold ptr at *;go_enter func185,ntmps185
 go_upto_region 2 with (go_at_call 181;(with_reducible refine KR.out.mono ?_);rintro q w1 ⟨rfl,b1⟩)
 have HS1:=zh (HS.out.below b1);have HB1:Hid (Y B w w1):=(qj B w).trans (b1.mono hB);clear b1
 go_wp2_with (go_at_call 182;(with_reducible refine (KW.out _ HS1.out (ztL hB HB1.out.size)).mono ?_);rintro q w2 ⟨rfl,hs2,b2⟩)
 go_ret;exact ⟨rfl,hs2,HB1.out.trans b2⟩
theorem zd4 {e:TypeId} {v:Value} (hB:B'≤B) (h:w.ownsRow B e size v n xs):w.ownsRow B' e size v n xs:=by
 obtain ⟨hl,h⟩:=h;refine ⟨hl,?_⟩;rcases h with h|⟨g,cap,cur,hv,hb,r⟩
 ·exact .inl h
 ·exact .inr ⟨g,cap,cur,hv,ztL hB hb,r⟩
def rdZ (d:St) (at_ m:Nat) (v:Int):Int:=if onB d.n at_ m v then (if d.dead then 7 else 0) else 1
def zj1 (X:ByteArray→En) (O:ByteArray→Bool) (d:St) (at_ m:Nat) (v:Int):List En:=if onB d.n at_ m v&&!d.dead then zla X O v (rdB d at_ m) else []
def zj2 (X:ByteArray→En) (O:ByteArray→Bool) (d:St) (at_ m:Nat) (v:Int):Nat:=if onB d.n at_ m v&&!d.dead then znp X O v (rdB d at_ m) else 0
theorem zii (v:Int) (s:ByteArray):zf3 (fun _=>ezz) (fun _=>Q) v s=[]:=by
 unfold zf3 pl frB
 simp
theorem zij (v:Int) (s:ByteArray):zla (fun _=>ezz) (fun _=>Q) v s=[]:=by unfold zla;rw [zii];rfl
theorem zik (v:Int) (s:ByteArray):znp (fun _=>ezz) (fun _=>Q) v s=0:=by unfold znp;rw [zii];rfl
theorem zrJ (X:ByteArray→En) (V:ByteArray→Int) (O:ByteArray→Bool) (g:Nat) (L:List Nat) (d:St) (at_ m:Nat) (v:Int) (w:qc) (h:Dv w g L d) (ha:at_≤1048576) (hm:m≤1048576) (hG:(∃ k,nOk (tlB (rdB d at_ m) k)=qd)→zrH 293 X V O) :
 ql qh 123 #[ptr g,RG at_ m v] w fun e w'=>∃ A n c,e=qi (.tuple #[M A n c,G H (zj2 X O d at_ m v),G H (rdZ d at_ m v)])∧Le w.heap.size A n c (zj1 X O d at_ m v) w'∧Y w.heap.size w w':=by
 obtain ⟨W,hW⟩:∃ W,W=(w.alloc (I #[ptr g] 24)).alloc (I (rgc at_ m v) 138):=⟨_,rfl⟩;have hB:Y w.heap.size w W:=by rw [hW];exact ((qj _ w).alloc (ztI _) _).alloc (by simp) _
 have h2:W.heap[w.heap.size]?=y (I #[ptr g] 24 (0,0)):=by rw [hW,ztQ _ _ _ (by simp)];exact ztJ w _
 have h3:W.heap[w.heap.size+1]?=y (I (rgc at_ m v) 138 (0,0)):=by
  rw [hW]
  have:=ztJ (w.alloc (I #[ptr g] 24)) (I (rgc at_ m v) 138)
  rwa [ztR] at this
 have K1:=zh (zg7 g L d at_ m v W (h.below hB) ha hm);have HB:=zh hB;have HW:=zh hW;have H2:=zh h2;have H3:=zh h3;have HD:=zh h;have c2:W.cell? ⟨w.heap.size,0,F⟩=y (ptr g):=zcr W _ 0 _ 24 (0,0) h2;obtain ⟨c3,c4,c5⟩:=zcn h3;clear hB hW h2 h3 h
 cases hon:onB d.n at_ m v with
 | false =>
   have r1:zj2 X O d at_ m v=0:=by unfold zj2;rw [hon];rfl
   have r2:rdZ d at_ m v=1:=by unfold rdZ;rw [hon];rfl
   have r3:zj1 X O d at_ m v=[]:=by unfold zj1;rw [hon];rfl
   rw [r1,r2,r3,show ((0:Nat):Int)=0 from rfl];rw [hon] at K1;clear r1 r2 r3 hon;unfold ptr at *;go_enter func123,ntmps123
   go_upto_region 1 with fail
   refine zaf (w:=W) HW.out.symm ?_
   go_wp2_with (go_at_call 139;(with_reducible refine K1.out.mono ?_);rintro q w1 ⟨rfl,b1⟩)
   go_ret3
   exact ⟨F,0,0,rfl,Le.nil _ _,HB.out.trans (b1.mono HB.out.size)⟩
 | true =>
   rw [hon] at K1
   obtain ⟨hm1,hmn⟩:1≤m∧at_+m≤d.n:=by
    unfold onB at hon;rw [ztZ,ztZ] at hon;have h1:=of_decide_eq_true hon.1.1;have h2:=of_decide_eq_true hon.2;exact ⟨h1,by omega⟩
   have hre:∀ k,k<m→d.refuses ((at_+k:Nat):Int)=if d.dead then 7 else 0:=fun k hk=>by
    unfold St.refuses
    split
    ·rfl
    ·rw [if_neg (by omega)]
   have KEY:Hid (∀ W1 b,b=W1.heap.size→Y w.heap.size w W1→W1.heap[w.heap.size]?=y (I #[ptr g] 24 (0,0))→W1.heap[w.heap.size+1]?=y (I (rgc at_ m v) 138 (0,0)) →
    ql qh 184 #[G H 0,G H m,.func (.func 185) #[] #[ptr w.heap.size,ptr (w.heap.size+1),ptr b]] (W1.alloc (I #[qe F,M F 0 0] 151)) fun e w'=>e=qi (G H (if d.dead then 7 else 0))∧(d.dead=Q→Sb b b (rdB d at_ m) w')∧Y b W1 w'):=fun W1 b hb hB1 hc2 hc3=>by
    have hD1:=HD.out.below hB1;have hbl:Y b W1 (W1.alloc (I #[qe F,M F 0 0] 151)):=(qj b W1).alloc (by omega) _;have hsz:(W1.alloc (I #[qe F,M F 0 0] 151)).heap.size=b+1:=by rw [ztR,hb]
    have hs0:Sb b b ⟨#[]⟩ (W1.alloc (I #[qe F,M F 0 0] 151)):=by rw [hb];exact Lib.fresh_isBuilder 151 5 W1
    refine (zil 185 (.inr rfl) (ptr w.heap.size) (ptr (w.heap.size+1)) (ptr b) 0 m
     (fun k w1=>(d.dead=qd→k=0)∧Sb b b (txt (zeq (fun i=>d.now (at_+i)) k)) w1∧Y b W1 w1) (fun z w1=>z=7∧d.dead=qd∧Y b W1 w1) _ (ztO _) (by omega) ⟨fun _=>rfl,hs0,hbl⟩ ?_).mono ?_
    ·rintro k w1 _ hk ⟨hdk,hsb,hbw⟩;have hw1:b≤w1.heap.size:=by have:=hbw.size;omega
     have hD2:Dv w1 g L d:=hD1.below (hb▸hbw)
     have hx:(txt (zeq (fun i=>d.now (at_+i)) k)).size≤1099511627776:=by
      rw [zah,zbY _ (fun i=>HD.out.1.now _)];omega
     refine (zrI g L d w.heap.size (w.heap.size+1) b b at_ k m v _ w1 hD2 ((hbw.block _ (by have:=(zgx hc2);omega)).trans hc2) ((hbw.block _ (by have:=(zgx hc3);omega)).trans hc3) hsb hw1 hx (by omega) ha).mono ?_;rintro e w2 ⟨rfl,hs2,hb2⟩;rw [hre k hk];refine ⟨_,rfl,fun hz=>?_,fun hz=>?_⟩
     ·have hdd:d.dead=Q:=by
       cases hd:d.dead with
       | false=>rfl
       | true=>rw [hd] at hz;simp at hz
      refine ⟨fun h=>absurd (hdd.symm.trans h) (by decide),?_,hbw.trans hb2⟩
      have e1:d.readS ((at_+k:Nat):Int)=d.now (at_+k):=by
       unfold St.readS;rw [hre k hk,hdd]
       simp
       rw [show ((at_:Int)+(k:Int)).toNat=at_+k by omega]
      rw [e1] at hs2
      have e2:txt (zeq (fun i=>d.now (at_+i)) k)++txt (d.now (at_+k))=txt (zeq (fun i=>d.now (at_+i)) (k+1)):=by
       apply ByteArray.ext;apply Array.toList_inj.1;rw [zup,zuC,zal,zal,zal,zeq]
      rw [e2] at hs2;exact hs2
     ·have hdd:d.dead=qd:=by
       cases hd:d.dead with
       | false=>rw [hd] at hz;simp at hz
       | true=>rfl
      exact ⟨by rw [hdd];rfl,hdd,hbw.trans hb2⟩
    ·rintro e w1 ⟨z,rfl,hz0,hz1⟩
     by_cases hz:z=0
     ·obtain ⟨h1,h2,h3⟩:=hz0 hz
      have hdd:d.dead=Q:=by
       cases hd:d.dead with
       | false=>rfl
       | true=>have:=h1 hd;omega
      refine ⟨by rw [hz,hdd];rfl,fun _=>h2,h3⟩
     ·obtain ⟨h1,h2,h3⟩:=hz1 hz;exact ⟨by rw [h1,h2];rfl,fun h=>absurd (h2.symm.trans h) (by decide),h3⟩
   have KP:=zh (fun (W:qc)=>zni X V O v (rdB d at_ m) W (by unfold rdB;rw [zah,zbY _ (fun i=>HD.out.1.now _)];omega) hG);have KT:=zh (fun (b:Nat) (W:qc) (h:Sb b b (rdB d at_ m) W) (hb:b≤W.heap.size)=>zhb b b (rdB d at_ m) W h hb);have HRU:Hid (zj2 X O d at_ m v=if d.dead then 0 else znp X O v (rdB d at_ m)):=by show _=_;unfold zj2;rw [hon];cases d.dead<;>rfl
   have HRE:Hid (zj1 X O d at_ m v=if d.dead then [] else zla X O v (rdB d at_ m)):=by show _=_;unfold zj1;rw [hon];cases d.dead<;>rfl
   have HRZ:Hid (rdZ d at_ m v=if d.dead then 7 else 0):=by show _=_;unfold rdZ;rw [hon,if_pos rfl]
   obtain ⟨RU,hRU⟩:∃ x,x=zj2 X O d at_ m v:=⟨_,rfl⟩;obtain ⟨RE,hRE⟩:∃ x,x=zj1 X O d at_ m v:=⟨_,rfl⟩;obtain ⟨RZ,hRZ⟩:∃ x,x=rdZ d at_ m v:=⟨_,rfl⟩;obtain ⟨S,hS⟩:∃ S,S=rdB d at_ m:=⟨_,rfl⟩;obtain ⟨pe,hpe⟩:∃ pe,pe=zla X O v S:=⟨_,rfl⟩;obtain ⟨pu,hpu⟩:∃ pu,pu=znp X O v S:=⟨_,rfl⟩;rw [←hRU,←hRE,←hRZ];rw [←hRU] at HRU;rw [←hRE] at HRE;rw [←hRZ] at HRZ;rw [←hS] at KEY KP KT HRU HRE;rw [←hpe,←hpu] at KP;rw [←hpu] at HRU;rw [←hpe] at HRE;clear hRU hRE hRZ hS hpe hpu hre hon hmn hm1 hG;unfold ptr at *
   cases hdd:d.dead with
   | true =>
     rw [hdd] at KEY HRU HRE HRZ;obtain rfl:RU=0:=HRU.out;obtain rfl:RE=[]:=HRE.out;obtain rfl:RZ=7:=HRZ.out;clear HRU HRE HRZ hdd KP KT;go_enter func123,ntmps123
     go_upto_region 1 with fail
     refine zaf (w:=W) HW.out.symm ?_
     go_upto_region 3 with (go_at_call 139;(with_reducible refine K1.out.mono ?_);rintro q w1 ⟨rfl,b1⟩)
     have HB1:=zh (HB.out.trans (b1.mono HB.out.size));have H21:=zh ((b1.block _ (zgx H2.out)).trans H2.out);have H31:=zh ((b1.block _ (zgx H3.out)).trans H3.out);have KK:=zh (KEY.out w1 w1.heap.size rfl HB1.out H21.out H31.out);have f1:(w1.alloc (I #[qe F,M F 0 0] 151)).cell? ⟨w.heap.size+1,1,F⟩=y (G H m):=(zcn ((ztQ _ _ _ (zgx H31.out)).trans H31.out)).2.1;clear b1 c2 c3 c4 c5
     go_wp2_with (go_at_call 184;(with_reducible refine KK.out.mono ?_);rintro q w2 ⟨rfl,_,b2⟩)
     go_ret3
     exact ⟨F,0,0,rfl,Le.nil _ _,HB1.out.trans (b2.mono HB1.out.size)⟩
   | false =>
     rw [hdd] at KEY HRU HRE HRZ;obtain rfl:RU=pu:=HRU.out;obtain rfl:RE=pe:=HRE.out;obtain rfl:RZ=0:=HRZ.out;clear HRU HRE HRZ hdd;go_enter func123,ntmps123
     go_upto_region 1 with fail
     refine zaf (w:=W) HW.out.symm ?_
     go_upto_region 3 with (go_at_call 139;(with_reducible refine K1.out.mono ?_);rintro q w1 ⟨rfl,b1⟩)
     have HB1:=zh (HB.out.trans (b1.mono HB.out.size));have H21:=zh ((b1.block _ (zgx H2.out)).trans H2.out);have H31:=zh ((b1.block _ (zgx H3.out)).trans H3.out);have KK:=zh (KEY.out w1 w1.heap.size rfl HB1.out H21.out H31.out);have f1:(w1.alloc (I #[qe F,M F 0 0] 151)).cell? ⟨w.heap.size+1,1,F⟩=y (G H m):=(zcn ((ztQ _ _ _ (zgx H31.out)).trans H31.out)).2.1;clear b1 c2 c3 c4 c5
     go_upto_region 7 with (go_at_call 184;(with_reducible refine KK.out.mono ?_);rintro q w2 ⟨rfl,hs2,b2⟩)
     have HS2:Hid (Sb w1.heap.size w1.heap.size S w2.drew):=(show Sb w1.heap.size w1.heap.size S w2 from hs2 trivial).below (qj _ w2).drew;have HB2:Hid (Y w1.heap.size w1 w2.drew):=b2.drew;have HC2:Hid (w2.drew.heap[w.heap.size+1]?=y (I (rgc at_ m v) 138 (0,0))):=(HB2.out.block _ (zgx H31.out)).trans H31.out;have f2:w2.drew.cell? ⟨w.heap.size+1,2,F⟩=y (G H v):=(zcn HC2.out).2.2;clear hs2 b2 f1
     go_region_law (first
      | (go_simp;go_at_call 94;(with_reducible refine (KT.out _ _ HS2.out HB2.out.size).mono ?_);rintro q w4 ⟨rfl,b4⟩;have HB4:Hid (Y w1.heap.size w1 w4):=HB2.out.trans b4;have f4:w4.cell? ⟨w.heap.size+1,2,F⟩=y (G H v):=(zcn ((HB4.out.block _ (zgx H31.out)).trans H31.out)).2.2;clear b4)
      | (go_simp;go_at_call 186;(with_reducible refine (KP.out _).mono ?_);rintro q w5 ⟨A5,n5,c5',rfl,hL5,b5⟩))
     all_goals
      go_wp2
      go_ret3
      exact ⟨A5,n5,c5',rfl,⟨zd4 (ztL HB1.out.size HB4.out.size) hL5.own,hL5.len⟩,HB1.out.trans ((HB4.out.trans (b5.mono HB4.out.size)).mono HB1.out.size)⟩
theorem zsU (g:Nat) (L:List Nat) (d:St) (at_ m:Nat) (v:Int) (w:qc) (h:Dv w g L d) (ha:at_≤1048576) (hm:m≤1048576) (hon:onB d.n at_ m v=qd) (hd:d.dead=Q) (hz:∀ k,nOk (tlB (rdB d at_ m) k)=Q) :
 ql qh 123 #[ptr g,RG at_ m v] w fun e w'=>∃ A n c,e=qi (.tuple #[M A n c,G H 0,G H 0])∧Le w.heap.size A n c [] w'∧Y w.heap.size w w':=by
 have:=zrJ (fun _=>ezz) (fun _=>0) (fun _=>Q) g L d at_ m v w h ha hm (fun ⟨k,hk⟩=>by rw [hz k] at hk;cases hk)
 have e1:zj1 (fun _=>ezz) (fun _=>Q) d at_ m v=[]:=by unfold zj1;rw [hon,hd];exact zij v _
 have e2:zj2 (fun _=>ezz) (fun _=>Q) d at_ m v=0:=by unfold zj2;rw [hon,hd];exact zik v _
 have e3:rdZ d at_ m v=0:=by unfold rdZ;rw [hon,hd];rfl
 rw [e1,e2,e3] at this;exact this
end
theorem zne (a b:En) (w:qc):(binOp .neq 69 (ev a) (ev b)).run qh w=.ok (qk (!zhg a b)) w:=by
 go_simp;unfold zhg
 repeat' split
 all_goals simp_all
theorem zig (A A':Option Addr) (n c n' c':Nat) (es fs:List En) (w:qc) (hE:zcx w.heap.size A n es w) (hF:zcx w.heap.size A' n' fs w) (hn:(n:Int)≤9223372036854775807) (hn':(n':Int)≤9223372036854775807) :
 ql qh 26 #[M A n c,M A' n' c'] w fun r w'=>r=qi (qk (ze0 n n' es fs))∧Y w.heap.size w w':=by
 have HE:=zh hE;have HF:=zh hF;clear hE hF
 by_cases hnn:n=n'
 ·subst hnn;have hT:Hid (ze0 n n es fs=zkc es fs n):=by show _=_;unfold ze0;rw [ztN rfl,zt8]
  go_enter func26,ntmps26;go_wp2
  go_loopw [5] (fun i wr=>∃ k:Nat,k≤n∧i=G H k∧Hid (zkc es fs k=qd)∧Y w.heap.size w wr) (fun i _=>n-(qn i).toNat)
  case atStart=>exact ⟨0,ztO _,rfl,rfl,qj _ _⟩
  case round =>
   obtain ⟨k,hk,rfl,HI,hb⟩:=hrel
   by_cases hlt:k<n
   ·obtain ⟨e,he⟩:∃ e,es[k]?=y e:=⟨_,zt2 (by rw [HE.out.len];exact hlt)⟩;obtain ⟨f,hf⟩:∃ f,fs[k]?=y f:=⟨_,zt2 (by rw [HF.out.len];exact hlt)⟩;obtain ⟨a,hA,hB,hc⟩:=(HE.out.below hb.drew).at_ k e he;obtain ⟨a',hA',hB',hc'⟩:=(HF.out.below hb.drew).at_ k f hf;have hst:Hid (zkc es fs (k+1)=(zkc es fs k&&zhg e f)):=zhh es fs k e f he hf;have d0:wr.drew.cell? (a.add (k*11))=y (G qf e.term):=hc 0 (by omega);have d1:wr.drew.cell? ⟨(a.add (k*11)).block,(a.add (k*11)).off+1,F⟩=y (G qf e.index):=hc 1 (by omega);have d2:wr.drew.cell? ⟨(a.add (k*11)).block,(a.add (k*11)).off+2,F⟩=y (G H e.kind):=hc 2 (by omega);have d3:wr.drew.cell? ⟨(a.add (k*11)).block,(a.add (k*11)).off+3,F⟩=y (G qf e.client):=hc 3 (by omega);have d4:wr.drew.cell? ⟨(a.add (k*11)).block,(a.add (k*11)).off+4,F⟩=y (G qf e.seq):=hc 4 (by omega);have d5:wr.drew.cell? ⟨(a.add (k*11)).block,(a.add (k*11)).off+5,F⟩=y (G qf e.block):=hc 5 (by omega);have d6:wr.drew.cell? ⟨(a.add (k*11)).block,(a.add (k*11)).off+6,F⟩=y (G qf e.many):=hc 6 (by omega);have d7:wr.drew.cell? ⟨(a.add (k*11)).block,(a.add (k*11)).off+7,F⟩=y (G H e.node):=hc 7 (by omega);have d8:wr.drew.cell? ⟨(a.add (k*11)).block,(a.add (k*11)).off+8,F⟩=y (G H e.level):=hc 8 (by omega);have d9:wr.drew.cell? ⟨(a.add (k*11)).block,(a.add (k*11)).off+9,F⟩=y (qg e.data):=hc 9 (by omega);have d10:wr.drew.cell? ⟨(a.add (k*11)).block,(a.add (k*11)).off+10,F⟩=y (qg e.old):=hc 10 (by omega);have f0:wr.drew.cell? (a'.add (k*11))=y (G qf f.term):=hc' 0 (by omega);have f1:wr.drew.cell? ⟨(a'.add (k*11)).block,(a'.add (k*11)).off+1,F⟩=y (G qf f.index):=hc' 1 (by omega);have f2:wr.drew.cell? ⟨(a'.add (k*11)).block,(a'.add (k*11)).off+2,F⟩=y (G H f.kind):=hc' 2 (by omega);have f3:wr.drew.cell? ⟨(a'.add (k*11)).block,(a'.add (k*11)).off+3,F⟩=y (G qf f.client):=hc' 3 (by omega);have f4:wr.drew.cell? ⟨(a'.add (k*11)).block,(a'.add (k*11)).off+4,F⟩=y (G qf f.seq):=hc' 4 (by omega);have f5:wr.drew.cell? ⟨(a'.add (k*11)).block,(a'.add (k*11)).off+5,F⟩=y (G qf f.block):=hc' 5 (by omega);have f6:wr.drew.cell? ⟨(a'.add (k*11)).block,(a'.add (k*11)).off+6,F⟩=y (G qf f.many):=hc' 6 (by omega);have f7:wr.drew.cell? ⟨(a'.add (k*11)).block,(a'.add (k*11)).off+7,F⟩=y (G H f.node):=hc' 7 (by omega);have f8:wr.drew.cell? ⟨(a'.add (k*11)).block,(a'.add (k*11)).off+8,F⟩=y (G H f.level):=hc' 8 (by omega);have f9:wr.drew.cell? ⟨(a'.add (k*11)).block,(a'.add (k*11)).off+9,F⟩=y (qg f.data):=hc' 9 (by omega);have f10:wr.drew.cell? ⟨(a'.add (k*11)).block,(a'.add (k*11)).off+10,F⟩=y (qg f.old):=hc' 10 (by omega);have HB:=zh hb;have hq:=fun W=>zne e f W;clear hb hc hc' he hf hB hB';rw [hA,hA'];clear hA hA'
    cases hs:zhg e f with
    | true =>
      rw [hs] at hst hq;have H2:Hid (zkc es fs (k+1)=qd):=by show _=_;rw [hst.out,HI.out];rfl
      clear hs
      go_upto_region 6 with fail
      go_region
      go_wp2
      go_roundw
      case rel=>exact ⟨k+1,by omega,by go_num,H2,HB.out.drew⟩
      case measure=>simp [qn];omega
    | false =>
      rw [hs] at hst hq
      have H2:Hid (ze0 n n es fs=Q):=by
       show _=_;rw [hT.out];exact zld (k:=k+1) (by rw [hst.out,HI.out];rfl) (by omega) HE.out.len HF.out.len
      clear hs
      go_upto_region 6 with fail
      go_region
      go_wp2;go_ret;exact ⟨by rw [H2.out];rfl,HB.out.drew⟩
   ·have hkn:k=n:=by omega
    subst hkn;go_wp2;go_ret;exact ⟨by rw [hT.out,HI.out];rfl,hb⟩
 ·have hT:Hid (ze0 n n' es fs=Q):=zlc hnn;have h1:((n:Int)==(n':Int))=Q:=zcw (by omega);have h2:((n:Int) != (n':Int))=qd:=by unfold bne;rw [h1];rfl
  go_enter func26,ntmps26;go_wp2;go_ret;exact ⟨by rw [hT.out];rfl,qj _ _⟩
section
open Dk Vi
abbrev e11:En:=⟨1,1,0,0,0,0,0,0,0,⟨#[]⟩,⟨#[]⟩⟩
theorem zkW {b:ByteArray} (h:b.size≤1048576):(pack 1 b).size=9+b.size:=by
 unfold pack;rw [ztS,ztS,zbh]
 have:(hdF 1 b.size).size=5:=by
  unfold hdF zho;have a1:(fxB (160+1:Int).toNat 1).size=1:=zac _ 1 (by omega);have a2:(fxB b.size 4).size=4:=zac _ 4 (by omega);rw [if_pos rfl,ztS,a1,a2]
 omega
theorem zqp:zfK 1 e11:=znl (.inl rfl) ⟨by decide,by decide,by decide,by decide,by decide,by decide,by decide,by decide,by decide,by decide,by decide,by decide,by decide,by decide,by decide,by decide,by decide,by decide,by decide,by decide⟩ (by decide +kernel) (fun _=>by decide +kernel)
theorem znC {e:En} (h:zfK 1 e) (hm:zdl e=qd):(pS 1 e).size=119:=by
 have e1:D.ePv 1 e=pb e:=by show ze5 e=_;unfold ze5;rw [if_pos hm]
 have hp:=ziy (zjg h.ok (zda hm));rw [h.s,e1,zkW (by omega),hp]
theorem znD (es:List En) (h:∀ e∈es,zfK 1 e∧zdl e=qd):(rcA 1 (pS 1) es).size=128*es.length:=by
 have key:∀ (es:List En) (pre:List En),(∀ e∈es,zfK 1 e∧zdl e=qd)→(rcA 1 (pS 1) pre).size=128*pre.length→(rcA 1 (pS 1) (pre++es)).size=128*(pre++es).length:=by
  intro es;induction es with
  | nil=>intro pre _ h;rw [zuG];exact h
  | cons e t ih =>
    intro pre h h0;have h1:=h e (by simp)
    have h2:(rcA 1 (pS 1) (pre++[e])).size=128*(pre++[e]).length:=by
     rw [zeY,zd3,ztS,znC h1.1 h1.2,h0,zt4];unfold bgn;rw [if_pos rfl];simp only [zud,List.length_nil];omega
    have h3:=ih (pre++[e]) (fun x hx=>h x (ztK _ hx)) h2;rw [zuc] at h3;exact h3
 have:=key es [] h rfl
 simpa using this
theorem zpL {v:Int} {es:List En} (hv:v=1∨v=2) (h:∀ e∈es,zfK v e):rcS v (pS v) (pO v) es=rcA v (pS v) es∧rcO v (pO v) es=qd:=by
 have hk:knB v=qd:=ztN hv;have ha:es.all (pO v)=qd:=List.all_eq_true.2 fun e he=>(h e he).o;unfold rcS rcO;rw [hk,ha];exact ⟨rfl,rfl⟩
theorem zpM {es:List En} (h:w.heap[g]?=y (I cs 69 (0,0))) (hcs:cs.toList=flat es):zcx w.heap.size (y ⟨g,0,F⟩) es.length es w:=by
 refine ⟨rfl,fun i x hx=>⟨⟨g,0,F⟩,rfl,(zgx h),fun j hj=>?_⟩⟩;have hc:∀ k,w.cell? ⟨g,k,F⟩=(flat es)[k]?:=fun k=>by rw [←hcs,zuv];exact zcr w g k _ 69 (0,0) h
 rw [Addr.add_mid,Addr.add_mid,hc,zub];exact zdI es i x hx j hj
end
end Go.Proofs.YtidndekacnmihaaGreat
