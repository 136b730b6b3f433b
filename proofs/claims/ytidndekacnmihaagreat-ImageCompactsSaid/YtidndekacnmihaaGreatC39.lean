/- Parts of a proof. -/
import Derived.Test.YtidndekacnmihaaGreatC38
set_option linter.all false
set_option maxHeartbeats 8000000
set_option maxRecDepth 100000
namespace Go.Proofs.YtidndekacnmihaaGreat
open Bool renaming true→G,false→Q
open Ending renaming returned→N
open Go renaming Calls→I
open Go.RowKit renaming Below→P,intOf→T
open Go.RowKit.Below renaming refl→Y
open IntKind renaming i64→l,u64→F
open Obj renaming cells→E
open Option renaming some→y,none→z
open Tryz renaming prog→M
open Value renaming int→f,slice→C,string→O,agg→R,bool→U,pointer→V,tuple→X
open Tryz
variable {W w:World} {c c2 g n n2 pn:Nat} {K:List (Nat×Obj)} {A A2:Option Addr} {u:Int}
open Go.RowKit
section
open Dk
open Ar (Sn sn0)
open J.Sl (Su Hd su0 hd0 sec)
open J (setS setH ldS ldH ldE)
theorem zjN {Z:World} {K1:List (Nat×Obj)} {d:St} {base:Nat} {es more lgs:List En} (hl:Lg w.heap.size K A n c es) (hm:zcO K A2 n2 more) (hb:base≤1099511627776) (hn:es.length≤64) (hn2:more.length≤64)
 (hix:∀ i e,es[i]?=y e→e.index=((base+i+1:Nat):Int)) (hok:∀ e∈more,e.Ok) (hj:jn base es more=y lgs) (hs:∀ q∈K,q∈K1) (h:Rvx w g K1 d Z) :
 I M 62 #[f F base,C A n c,C A2 n2 c2] Z fun x w'=>∃ A' n' c' K2,x=N (X #[C A' n' c',U G])∧Rvx w g (K2++K1) d w'∧Lg w.heap.size K2 A' n' c' lgs∧(∀ q∈K2,Z.heap.size≤q.1)∧Z.heap.size≤w'.heap.size:=by
 have hbk:Bk K Z:=fun q hq=>h.bk q (hs q hq);have hL:=hl Z hbk;have hM:=hm Z hbk;refine (zh4 base A A2 n c n2 c2 es more Z hL.ents hM hb (by rw [←hL.len];exact hn) (by rw [←hM.len];exact hn2) hix hok).mono ?_;rintro x w' ⟨hjr,hbw⟩;rcases hjr with ⟨r,A',n',c',h1,rfl,h3⟩|⟨h1,rfl⟩
 ·obtain ⟨K2,x1,x2,x3⟩:=h.addLe hbw h3 (ztI _);rw [hj] at h1
  cases h1
  exact ⟨A',n',c',K2,rfl,x1,x2.low h.be.size,x3,hbw.size⟩
 ·rw [hj] at h1;cases h1
theorem zkL {d d1 d2:St} {p:Ip} {H:Hd} {s:Sn} {u:Nat} {u2:Int} {es more lgs:List En} (h:Rvx w g ((pn,E (imc g p.su H s (C A n c) u) 124 (0,0)) :: K) d W) (hK:∀ q∈K,q.1≠pn) (ok:p.Ok) (hg:p.gl=0)
 (hl:Lg w.heap.size K A n c es) (hm:zcO K A2 n2 more) (hb:s.ix≤1099511627776) (hn:es.length≤64) (hn2:more.length≤64)
 (hix:∀ i e,es[i]?=y e→e.index=((s.ix+i+1:Nat):Int)) (hok:∀ e∈more,e.Ok) (hj:jn s.ix es more=y lgs)
 (hon:onB d.n (p.hA p.h) p.L p.v=G) (hU:u≤p.L*64) (hbg:¬ (p.v=1∧u % 64≠0)) (hO:rcO p.v (pO p.v) more=G)
 (ha:zbI d (p.hA p.h) p.L p.v u more=(d1,u2,0)) (hf:d1.flush=(d2,0)) :
 I M 71 #[ptr pn,C A2 n2 c2] W fun x w'=>x=N (f l 0)∧∃ A' n' c' K2,Rvx w g ((pn,E (imc g p.su H s (C A' n' c') u2) 124 (0,0)) :: (K2++K)) d2 w'∧Lg w.heap.size (K2++K) A' n' c' lgs∧∀ q∈K2,W.heap.size≤q.1:=by
 have KJ:Hid (∀ Z,Rvx w g ((pn,E (imc g p.su H s (C A n c) u) 124 (0,0)) :: K) d Z→I M 62 #[f F s.ix,C A n c,C A2 n2 c2] Z fun x w'=>∃ A' n' c' K2,x=N (X #[C A' n' c',U G])∧Rvx w g (K2++((pn,E (imc g p.su H s (C A n c) u) 124 (0,0)) :: K)) d w'∧Lg w.heap.size K2 A' n' c' lgs∧(∀ q∈K2,Z.heap.size≤q.1)∧Z.heap.size≤w'.heap.size) :=
  fun Z hZ=>zjN hl hm hb hn hn2 hix hok hj (fun q hq=>ztK _ hq) hZ
 have KA:Hid (∀ Z K1,(∀ q∈K,q∈K1)→Rvx w g K1 d Z→I M 137 #[ptr g,R #[f l (p.hA p.h:Nat),f l p.L,f l p.v],f l u,C A2 n2 c2] Z fun x w'=>x=N (X #[f l u2,f l 0])∧Rvx w g K1 d1 w'):=fun Z K1 hs hZ=>by
  refine hZ.c1 fun L hD=>?_;have hE:=(hm.sub hs) Z hZ.bk
  have:=zpO w.heap.size g L d (p.hA p.h) p.L u p.v A2 n2 c2 more Z hD hE (by rw [←hE.len];exact hn2) hok hon hU hbg hO
  rw [ha] at this;exact this
 have KF:Hid (∀ Z K1,Rvx w g K1 d1 Z→I M 53 #[ptr g] Z fun x w'=>x=N (f l 0)∧Rvx w g K1 d2 w'):=fun Z K1 hZ=>by
  refine hZ.c1 fun L hD=>?_
  have:=zct w.heap.size g L d1 Z hD
  rw [hf] at this;exact this
 have KH:Hid (∀ Z,I M 52 #[R #[f l p.v,f l p.S,f l p.L,f l p.a,f l p.h,f l p.gl,f l p.sp],f l p.h,f l p.v] Z fun e w'=>e=N (R #[f l (p.hA p.h:Nat),f l p.L,f l p.v])∧P Z.heap.size Z w'):=fun Z=>zd0 p ok p.h ok.h p.v Z
 have KC:Hid (∀ Z K1 d',(pn,E (imc g p.su H s (C A n c) u) 124 (0,0))∈K1→Rvx w g K1 d' Z→(Z.cell? ⟨pn,0,z⟩=y (V (y ⟨g,0,z⟩))∧Z.cell? ⟨pn,1,z⟩=y (f l p.v)∧Z.cell? ⟨pn,2,z⟩=y (f l p.S)∧Z.cell? ⟨pn,3,z⟩=y (f l p.L)∧Z.cell? ⟨pn,4,z⟩=y (f l p.a)∧Z.cell? ⟨pn,5,z⟩=y (f l p.h)∧Z.cell? ⟨pn,6,z⟩=y (f l p.gl)∧Z.cell? ⟨pn,7,z⟩=y (f l p.sp))∧Z.cell? ⟨pn,11,z⟩=y (f F s.ix)∧Z.cell? ⟨pn,14,z⟩=y (C A n c)∧Z.cell? ⟨pn,15,z⟩=y (f l u)):=fun Z K1 d' hm hZ =>
  ⟨zth (hZ.get hm),zcr _ _ 11 _ 124 (0,0) (hZ.get hm),zcr _ _ 14 _ 124 (0,0) (hZ.get hm),zcr _ _ 15 _ 124 (0,0) (hZ.get hm)⟩
 have H0:=zh h;have HN:=zh hK;have hlw:Hid (pn<W.heap.size):=h.lt _ (zt0 ..);obtain ⟨⟨c0,c1,c2',c3,c4,c5,c6,c7⟩,c11,c14,c15⟩:=KC.out _ _ _ (zt0 ..) h.drew;have c6':W.cell? ⟨pn,6,z⟩=y (f l 0):=by rw [←hg];exact c6
 obtain ⟨x,hx⟩:∃ x:Int,x=((p.hA p.h:Nat):Int):=⟨_,rfl⟩;rw [←hx] at KH KA;clear hx hg c6 h hK ok hl hm hb hn hn2 hix hok hj hon hU hbg hO ha hf;unfold ptr at *;go_enter func71,ntmps71
 go_upto_region 3 with fail
 go_region_held3 (fun w'=>w'.cell? ⟨pn,11,z⟩=y (f F s.ix)∧w'.cell? ⟨pn,14,z⟩=y (C A n c)) (first|exact ⟨c11,c14⟩|exact ⟨v0,v1⟩) (first
  | (go_at_call 62;(with_reducible refine (KJ.out _ (Rvx.drew H0.out)).mono ?_);rintro q w2 ⟨A',n',c',K2,rfl,H2,hLg,hK2,hs2⟩;obtain ⟨⟨_,_,_,_,_,_,_,_⟩,v0,v1,v2⟩:=KC.out _ _ _ (ztU _ (zt0 ..)) H2))
 have HH2:=zh H2;have HLg:=zh hLg;have HK2:=zh hK2;obtain ⟨⟨b0,b1,b2,b3,b4,b5,b6,b7⟩,b11,b14,b15⟩:=KC.out _ _ _ (ztU _ (zt0 ..)) H2.drew;clear H2 hLg hK2 hs2 v0 v1 v2 c0 c1 c2' c3 c4 c5 c6' c7 c11 c14 c15
 go_upto_region 6 with fail
 go_region_held3 (fun w'=>w'.cell? ⟨pn,0,z⟩=y (V (y ⟨g,0,z⟩))∧w'.cell? ⟨pn,1,z⟩=y (f l p.v)∧w'.cell? ⟨pn,2,z⟩=y (f l p.S)∧w'.cell? ⟨pn,3,z⟩=y (f l p.L)∧w'.cell? ⟨pn,4,z⟩=y (f l p.a)∧w'.cell? ⟨pn,5,z⟩=y (f l p.h)∧w'.cell? ⟨pn,6,z⟩=y (f l p.gl)∧w'.cell? ⟨pn,7,z⟩=y (f l p.sp)∧w'.cell? ⟨pn,15,z⟩=y (f l u)) (first|exact ⟨b0,b1,b2,b3,b4,b5,b6,b7,b15⟩|exact ⟨e0,e1,e2,e3,e4,e5,e6,e7,e15⟩|exact ⟨f0,f1,f2,f3,f4,f5,f6,f7,f15⟩) (first
  | (go_at_call 52;(with_reducible refine (KH.out _).mono ?_);rintro q w3 ⟨rfl,bb⟩;have H3:=(Rvx.drew HH2.out).below bb;obtain ⟨⟨e0,e1,e2,e3,e4,e5,e6,e7⟩,e11,e14,e15⟩:=KC.out _ _ _ (ztU _ (zt0 ..)) H3)
  | (go_at_call 137;(with_reducible refine (KA.out _ _ (fun q hq=>ztU _ (ztK _ hq)) H3).mono ?_);rintro q w4 ⟨rfl,H4⟩;obtain ⟨⟨f0,f1,f2,f3,f4,f5,f6,f7⟩,f11,f14,f15⟩:=KC.out _ _ _ (ztU _ (zt0 ..)) H4))
 have HH4:=zh H4;clear H4 H3 bb e0 e1 e2 e3 e4 e5 e6 e7 e11 e14 e15 b0 b1 b2 b3 b4 b5 b6 b7 b11 b14 b15
 go_upto_region 9 with (go_at_call 53;(with_reducible refine (KF.out _ _ HH4.out).mono ?_);rintro q w5 ⟨rfl,H5⟩)
 have h6:Rvx w g ((pn,E (imc g p.su H s (C A n c) u) 124 (0,0)) :: (K2++K)) d2 w5:=H5.drop fun q hq=>by
  simp only [ztT,zt1] at hq ⊢;rcases hq with h|h|h<;>simp [h]
 obtain ⟨x1,x2,x3,x4,x5,x6,x7,x8,x9,x10,x11,x12,x13,x14,x15⟩:=zmE h6.hd;obtain ⟨y0,y1,y2,y3,y4,y5,y6,y7,y8,y9,y10,y11,y12,y13,y14,y15⟩:=zfv h6.hd;have HH6:=zh h6;clear h6 H5;go_wp2;go_ret
 have h9:=HH6.out.puts (fun q hq=>by
  rcases zt1.1 hq with h|h
  ·have:=HK2.out q h;have:=hlw.out;have e:W.drew.heap.size=W.heap.size:=rfl;omega
  ·exact HN.out q h) [(14,C A' n' c'),(15,f l u2)]
 rw [zlF] at h9;exact ⟨rfl,A',n',c',K2,h9,HLg.out.sub fun q hq=>zui _ hq,HK2.out⟩
end
section
open Dk
open Ar (Sn sn0 snS snO)
open J.Sl (Su Hd su0 hd0 sec)
open J (setS setH ldS ldH ldE)
theorem zo9 (g:Nat) (S:Su) (q:Ip) (H:Hd) (s s2:Sn) (lg lg2:Value) (u u2:Int):setc [(1,f l q.v),(2,f l q.S),(3,f l q.L),(4,f l q.a),(5,f l q.h),(6,f l q.gl),(7,f l q.sp),(11,f F s2.ix),(12,f F s2.tm),(13,O s2.da),(14,lg2),(15,f l u2)] (imc g S H s lg u)=imc g q.su H s2 lg2 u2:=by
 simp only [setc,zA,zB,zC];rfl
theorem zrn {d d1 d2 d3 d4:St} {p:Ip} {H:Hd} {s s2:Sn} {lg:Value} {more lgs:List En} (h:Rvx w g ((pn,E (imc g p.su H s lg u) 124 (0,0)) :: K) d W) (hK:∀ q∈K,q.1≠pn) (ok:p.Ok) (sok:s2.Ok) (hg:p.gl=0)
 (hm:zcO K A2 n2 more) (hb:s2.ix≤1099511627776) (hn2:more.length≤64) (hok:∀ e∈more,e.Ok) (hj:jn s2.ix [] more=y lgs) (hll:lgs.length=more.length) (hlok:∀ e∈lgs,e.Ok)
 (hS:snO p.v s2=G) (hix:s.ix≤s2.ix) (hO:rcO p.v (pO p.v) lgs=G)
 (e1:Ar.arW d (p.aA p.turn.a:Nat) (p.S:Nat) p.v s2=(d1,0)) (e2o:onB d1.n (p.hA p.turn.h) p.L p.v=G) (e2:zdB d1 (p.hA p.turn.h) p.L p.v lgs=(d2,0)) (e3:d2.flush=(d3,0)) (e4:setS d3 p.turn.su=(d4,0)) :
 I M 67 #[ptr pn,s2.v,C A2 n2 c2] W fun x w'=>x=N (f l 0)∧∃ A' n' c' K2,Rvx w g ((pn,E (imc g p.turn.su H s2 (C A' n' c') ((rcS p.v (pS p.v) (pO p.v) lgs).size:Nat)) 124 (0,0)) :: (K2++K)) d4 w'∧Lg w.heap.size (K2++K) A' n' c' lgs∧∀ q∈K2,W.heap.size≤q.1:=by
 obtain ⟨W1,hW1⟩:∃ W1,W1=W.alloc (E s2.c 104):=⟨_,rfl⟩;obtain ⟨B,hB⟩:∃ B,B=W.heap.size:=⟨_,rfl⟩;obtain ⟨K0,hK0⟩:∃ K0,K0=(pn,E (imc g p.su H s lg u) 124 (0,0)) :: K:=⟨_,rfl⟩;have hlp:pn<B:=by rw [hB];exact h.lt _ (zt0 ..)
 rw [←hK0] at h;obtain ⟨K1,hK1⟩:∃ K1,K1=(B,E s2.c 104 (0,0)) :: K0:=⟨_,rfl⟩;have h1:Rvx w g K1 d W1:=by rw [hW1,hK1,hB];exact h.al _
 have hs1:W1.heap.size=B+1:=by rw [hW1,hB];simp
 have HM0:Hid ((pn,E (imc g p.su H s lg u) 124 (0,0))∈K1):=by show _∈_;rw [hK1,hK0];simp
 have HM4:Hid ((B,E s2.c 104 (0,0))∈K1):=by show _∈_;rw [hK1];simp
 have HKs:Hid (∀ q∈K,q∈K1):=fun q hq=>by rw [hK1,hK0];simp [hq]
 have KP:Hid (∀ Z,I M 112 #[f l p.v,R #[f F s2.ix,f F s2.tm,O s2.da]] Z fun e w'=>e=N (X #[O (snS p.v s2),U G])∧P Z.heap.size Z w'):=fun Z=>by
  have:=Ar.zmD p.v s2 Z sok
  rw [hS] at this;exact this
 have KJ:Hid (∀ Z,Rvx w g K1 d Z→I M 62 #[f F s2.ix,C z 0 0,C A2 n2 c2] Z fun x w'=>∃ A' n' c' K2,x=N (X #[C A' n' c',U G])∧Rvx w g (K2++K1) d w'∧Lg w.heap.size K2 A' n' c' lgs∧(∀ q∈K2,Z.heap.size≤q.1)∧Z.heap.size≤w'.heap.size) :=
  fun Z hZ=>zjN (K:=K) (es:=[]) (Lg.nil _ _) hm hb (by simp) hn2 (by simp) hok hj (fun q hq=>HKs.out q hq) hZ
 have haa:p.aA p.turn.a≤1004:=by have:=ok.turn.a;have:=ok.S;unfold Ip.aA;rcases (show p.turn.a=0∨p.turn.a=1 by omega) with h|h<;>rw [h]<;>omega
 have KA:Hid (∀ Z,I M 50 #[R #[f l p.v,f l p.S,f l p.L,f l ((1-p.a:Nat):Int),f l ((1-p.h:Nat):Int),f l p.gl,f l p.sp],f l ((1-p.a:Nat):Int)] Z fun e w'=>e=N (f l (p.aA p.turn.a:Nat))∧P Z.heap.size Z w'):=fun Z=>zdy p.turn ok.turn p.turn.a ok.turn.a Z;have KH:Hid (∀ Z,I M 52 #[R #[f l p.v,f l p.S,f l p.L,f l ((1-p.a:Nat):Int),f l ((1-p.h:Nat):Int),f l p.gl,f l p.sp],f l ((1-p.h:Nat):Int),f l p.v] Z fun e w'=>e=N (R #[f l (p.hA p.turn.h:Nat),f l p.L,f l p.v])∧P Z.heap.size Z w'):=fun Z=>zd0 p.turn ok.turn p.turn.h ok.turn.h p.v Z
 have KW:Hid (∀ Z K9,Rvx w g K9 d Z→I M 49 #[ptr g,f l (p.aA p.turn.a:Nat),f l p.S,f l p.v,R #[f F s2.ix,f F s2.tm,O s2.da]] Z fun x w'=>x=N (f l 0)∧Rvx w g K9 d1 w'):=fun Z K9 hZ=>by
  refine hZ.c1 fun L' hD=>?_
  have:=Ar.zh3 w.heap.size g L' d (p.aA p.turn.a:Nat) (p.S:Nat) p.v s2 Z hD hZ.be.size sok (by omega)
  rw [e1] at this;exact this
 have KF:Hid (∀ Z K9 A' n' c',Rvx w g K9 d1 Z→zcO K9 A' n' lgs→I M 51 #[ptr g,R #[f l (p.hA p.turn.h:Nat),f l p.L,f l p.v],C A' n' c'] Z fun x w'=>x=N (f l 0)∧Rvx w g K9 d2 w'):=fun Z K9 A' n' c' hZ hR=>by
  refine hZ.c1 fun L' hD=>?_;have hE:=hR Z hZ.bk
  have:=zim w.heap.size g L' d1 (p.hA p.turn.h) p.L p.v A' n' c' lgs Z hD hE (by rw [←hE.len,hll];exact hn2) hlok e2o hO
  rw [e2] at this;exact this
 have KL:Hid (∀ Z K9,Rvx w g K9 d2 Z→I M 53 #[ptr g] Z fun x w'=>x=N (f l 0)∧Rvx w g K9 d3 w'):=fun Z K9 hZ=>by
  refine hZ.c1 fun L' hD=>?_
  have:=zct w.heap.size g L' d2 Z hD
  rw [e3] at this;exact this
 have KSS:Hid (∀ Z K9,Rvx w g K9 d3 Z→I M 55 #[ptr g,R #[f l p.v,f l p.S,f l p.L,f l ((1-p.a:Nat):Int),f l ((1-p.h:Nat):Int),f l p.gl,f l p.sp]] Z fun x w'=>x=N (f l 0)∧Rvx w g K9 d4 w'):=fun Z K9 hZ=>by
  refine hZ.c1 fun L' hD=>?_
  have:=J.zdO w.heap.size g L' d3 p.turn.su Z hD
  rw [e4] at this;exact this
 obtain ⟨US,hUS⟩:∃ US,US=rcS p.v (pS p.v) (pO p.v) lgs:=⟨_,rfl⟩
 have KR:Hid (∀ Z K9 A' n' c',Rvx w g K9 d4 Z→zcO K9 A' n' lgs→I M 115 #[f l p.v,C A' n' c'] Z fun x w'=>x=N (X #[O US,U G])∧Rvx w g K9 d4 w'):=fun Z K9 A' n' c' hZ hR=>by
  have hE:=hR Z hZ.bk
  have:=zc0 p.v (pS p.v) (pO p.v) A' n' c' lgs Z hE (by rw [←hE.len,hll];exact hn2) (fun e _=>ztL (zf2 p.v e) (by omega)) (zha p.v lgs hlok)
  rw [hO,←hUS] at this;exact this.mono fun x w' ⟨x1,x2⟩=>⟨x1,hZ.below x2⟩
 rw [←hUS]
 have hln:Hid (∀ K9 A' n' c' Z,Lg w.heap.size K9 A' n' c' lgs→Bk K9 Z→n'=n2):=fun K9 A' n' c' Z hL hZ=>by
  have:=(hL Z hZ).len;have:=(hm W (fun q hq=>h.bk q (by rw [hK0];exact ztK _ hq))).len;omega
 have KC:Hid (∀ Z K9 d',(∀ q∈K1,q∈K9)→Rvx w g K9 d' Z→(Z.cell? ⟨pn,0,z⟩=y (V (y ⟨g,0,z⟩))∧Z.cell? ⟨pn,1,z⟩=y (f l p.v)∧Z.cell? ⟨pn,2,z⟩=y (f l p.S)∧Z.cell? ⟨pn,3,z⟩=y (f l p.L)∧Z.cell? ⟨pn,4,z⟩=y (f l p.a)∧Z.cell? ⟨pn,5,z⟩=y (f l p.h)∧Z.cell? ⟨pn,6,z⟩=y (f l p.gl)∧Z.cell? ⟨pn,7,z⟩=y (f l p.sp))∧Z.cell? ⟨pn,11,z⟩=y (f F s.ix)∧Z.cell? ⟨B,0,z⟩=y (f F s2.ix)∧Z.cell? ⟨B,1,z⟩=y (f F s2.tm)∧Z.cell? ⟨B,2,z⟩=y (O s2.da)):=fun Z K9 d' hs hZ =>
  ⟨zth (hZ.get (hs _ HM0.out)),zcr _ _ 11 _ 124 (0,0) (hZ.get (hs _ HM0.out)),zae (hZ.get (hs _ HM4.out))⟩
 have H1:=zh h1;have HN:=zh hK;have HW1:=zh hW1;have HB:=zh hB;have HK01:Hid (K1=(B,E s2.c 104 (0,0)) :: (pn,E (imc g p.su H s lg u) 124 (0,0)) :: K):=by show _=_;rw [hK1,hK0]
 have HSZ:Hid (pn<B∧W1.heap.size=B+1):=⟨hlp,hs1⟩;obtain ⟨⟨c0,c1,c2',c3,c4,c5,c6,c7⟩,c11,b0,b1,b2⟩:=KC.out _ _ _ (fun q hq=>hq) h1.drew;have c6':W1.cell? ⟨pn,6,z⟩=y (f l 0):=by rw [←hg];exact c6
 have t1:decide ((s2.ix:Int)<(s.ix:Int))=Q:=ztM (by omega);have t1':decide (s2.ix<s.ix)=Q:=ztM (by omega);have t1n:¬ (s2.ix<s.ix):=by omega
 have t1i:¬ ((s2.ix:Int)<(s.ix:Int)):=by omega
 obtain ⟨xh,hxh⟩:∃ x:Int,x=((p.hA p.turn.h:Nat):Int):=⟨_,rfl⟩;rw [←hxh] at KH KF;obtain ⟨xa,hxa⟩:∃ x:Int,x=((p.aA p.turn.a:Nat):Int):=⟨_,rfl⟩;rw [←hxa] at KA KW;have HOK:=zh ok;have u1:wrap64 (1-(p.a:Int))=((1-p.a:Nat):Int):=by have:=ok.a;unfold wrap64;omega
 have u2:wrap64 (1-(p.h:Int))=((1-p.h:Nat):Int):=by have:=ok.h;unfold wrap64;omega
 clear hxh hxa hUS hs1 h1 hK1 hK0 hlp hB hW1 h hK ok sok hg hm hb hn2 hok hj hll hlok hS hix hO e1 e2o e2 e3 e4 haa c6;unfold Ar.Sn.v ptr at *;go_enter func67,ntmps67
 go_upto_region 1 with fail
 refine zaf (w:=W1) HW1.out.symm ?_;rw [←HB.out]
 go_upto_region 3 with fail
 go_region_held3 (fun w'=>w'.cell? ⟨pn,1,z⟩=y (f l p.v)∧w'.cell? ⟨B,0,z⟩=y (f F s2.ix)∧w'.cell? ⟨B,1,z⟩=y (f F s2.tm)∧w'.cell? ⟨B,2,z⟩=y (O s2.da)) (first|exact ⟨c1,b0,b1,b2⟩|exact ⟨d_1,v0,v1,v2⟩) (first
  | (go_at_call 112;(with_reducible refine (KP.out _).mono ?_);rintro q w2 ⟨rfl,bb⟩;have H2:=(Rvx.drew H1.out).below bb;obtain ⟨⟨d_0,d_1,d_2,d_3,d_4,d_5,d_6,d_7⟩,d_11,v0,v1,v2⟩:=KC.out _ _ _ (fun q hq=>hq) H2))
 have HH2:=zh H2;clear H2 bb c0 c1 c2' c3 c4 c5 c6' c7 c11 b0 b1 b2
 go_upto_region 5 with (go_at_call 62;(with_reducible refine (KJ.out _ HH2.out).mono ?_);rintro q w3 ⟨A',n',c',K2,rfl,H3,hLg,hK2,hs3⟩)
 have hnn:n'=n2:=hln.out _ _ _ _ _ hLg (fun q hq=>H3.bk q (zui _ hq));subst hnn;have HH3:=zh H3;have HLg:=zh hLg;have HK2:=zh hK2;obtain ⟨⟨c0,c1,c2',c3,c4,c5,c6,c7⟩,c11,b0,b1,b2⟩:=KC.out _ _ _ (fun q hq=>ztU _ hq) H3.drew;have t2:((n':Int)==(n':Int))=G:=by simp
 have t3:((n':Int) != (n':Int))=Q:=by simp
 clear H3 hLg hK2 hs3 d_0 d_1 d_2 d_3 d_4 d_5 d_6 d_7 d_11 v0 v1 v2
 go_still_tail 22,(by kernel_rfl)
 change wpList _ _ _ _ _ w3.drew
 go_upto_region 8 with fail
 clear t1 t1' t1n t1i t2 t3;obtain ⟨b4,hb4⟩:∃ b,b=w3.heap.size:=⟨_,rfl⟩;have hp4:pn<b4:=by rw [hb4];exact HH3.out.lt _ (ztU _ HM0.out)
 have hne4:Hid (∀ q∈K2++K1,q.1≠b4):=fun q hq=>by rw [hb4];exact ztY (HH3.out.lt q hq)
 have H4:=(HH3.out.al (E #[f l p.v,f l p.S,f l p.L,f l p.a,f l p.h,f l p.gl,f l p.sp] 99)).drew;rw [←hb4] at H4;obtain ⟨W4,hW4⟩:∃ W4,W4=(w3.alloc (E #[f l p.v,f l p.S,f l p.L,f l p.a,f l p.h,f l p.gl,f l p.sp] 99)).drew:=⟨_,rfl⟩;rw [←hW4] at H4;refine zaf (w:=W4) hW4.symm ?_;have hb4':w3.heap.size=b4:=hb4.symm;rw [hb4'];have HH4:=zh H4;clear hW4 hb4 hb4' c0 c1 c2' c3 c4 c5 c6 c7 c11 b0 b1 b2 H4;obtain ⟨⟨c0,c1,c2',c3,c4,c5,c6,c7⟩,c11,b0,b1,b2⟩:=KC.out _ _ _ (fun q hq=>ztK _ (ztU _ hq)) HH4.out;have r3:=zcr _ _ 3 _ 99 (0,0) HH4.out.hd;have z3:=frozen_of_row _ _ 3 _ 99 HH4.out.hd
 go_upto_region 9 with fail
 have H5:=HH4.out.puts hne4.out [(3,f l ((1-p.a:Nat):Int))];simp only [setc,zA,zB,zC] at H5;obtain ⟨W5,hW5⟩:∃ W5,W5=setl b4 [(3,f l ((1-p.a:Nat):Int))] W4:=⟨_,rfl⟩;rw [←hW5] at H5;refine zaf (w:=W5) (by rw [hW5];rfl) ?_;have HH5:=zh H5;clear hW5 c0 c1 c2' c3 c4 c5 c6 c7 c11 b0 b1 b2 H5 r3 z3;obtain ⟨⟨c0,c1,c2',c3,c4,c5,c6,c7⟩,c11,b0,b1,b2⟩:=KC.out _ _ _ (fun q hq=>ztK _ (ztU _ hq)) HH5.out;have r4:=zcr _ _ 4 _ 99 (0,0) HH5.out.hd;have z4:=frozen_of_row _ _ 4 _ 99 HH5.out.hd
 go_upto_region 10 with fail
 have H6:=HH5.out.puts hne4.out [(4,f l ((1-p.h:Nat):Int))];simp only [setc,zA,zB,zC] at H6;obtain ⟨W6,hW6⟩:∃ W6,W6=setl b4 [(4,f l ((1-p.h:Nat):Int))] W5:=⟨_,rfl⟩;rw [←hW6] at H6;refine zaf (w:=W6) (by rw [hW6];rfl) ?_;have HH6:=zh H6;clear hW6 c0 c1 c2' c3 c4 c5 c6 c7 c11 b0 b1 b2 H6 r4 z4;obtain ⟨K6,hK6⟩:∃ K6,K6=(b4,E #[f l p.v,f l p.S,f l p.L,f l ((1-p.a:Nat):Int),f l ((1-p.h:Nat):Int),f l p.gl,f l p.sp] 99 (0,0)) :: (K2++K1):=⟨_,rfl⟩;rw [←hK6] at HH6;have HS6:Hid (∀ q∈K1,q∈K6):=fun q hq=>by rw [hK6];exact ztK _ (ztU _ hq)
 have HS2:Hid (∀ q∈K2,q∈K6):=fun q hq=>by rw [hK6];exact ztK _ (zui _ hq)
 have HM7:Hid ((b4,E #[f l p.v,f l p.S,f l p.L,f l ((1-p.a:Nat):Int),f l ((1-p.h:Nat):Int),f l p.gl,f l p.sp] 99 (0,0))∈K6):=by show _∈_;rw [hK6];simp
 have KC2:Hid (∀ Z d',Rvx w g K6 d' Z→(Z.cell? ⟨pn,0,z⟩=y (V (y ⟨g,0,z⟩))∧Z.cell? ⟨B,0,z⟩=y (f F s2.ix)∧Z.cell? ⟨B,1,z⟩=y (f F s2.tm)∧Z.cell? ⟨B,2,z⟩=y (O s2.da))∧Z.cell? ⟨b4,0,z⟩=y (f l p.v)∧Z.cell? ⟨b4,1,z⟩=y (f l p.S)∧Z.cell? ⟨b4,2,z⟩=y (f l p.L)∧Z.cell? ⟨b4,3,z⟩=y (f l ((1-p.a:Nat):Int))∧Z.cell? ⟨b4,4,z⟩=y (f l ((1-p.h:Nat):Int))∧Z.cell? ⟨b4,5,z⟩=y (f l p.gl)∧Z.cell? ⟨b4,6,z⟩=y (f l p.sp)):=fun Z d' hZ=>by
  obtain ⟨⟨x0,_⟩,_,y0,y1,y2⟩:=KC.out _ _ _ HS6.out hZ;have hq:=hZ.get HM7.out;exact ⟨⟨x0,y0,y1,y2⟩,zcr _ _ 0 _ 99 (0,0) hq,zcr _ _ 1 _ 99 (0,0) hq,zcr _ _ 2 _ 99 (0,0) hq,zcr _ _ 3 _ 99 (0,0) hq,zcr _ _ 4 _ 99 (0,0) hq,zcr _ _ 5 _ 99 (0,0) hq,zcr _ _ 6 _ 99 (0,0) hq⟩
 clear hK6;obtain ⟨⟨c0,b0,b1,b2⟩,a0,a1,a2,a3,a4,a5,a6⟩:=KC2.out _ _ HH6.out.drew;clear HH3 HH4 HH5 u1 u2
 go_region_held3 (fun w'=>w'.cell? ⟨pn,0,z⟩=y (V (y ⟨g,0,z⟩))∧w'.cell? ⟨B,0,z⟩=y (f F s2.ix)∧w'.cell? ⟨B,1,z⟩=y (f F s2.tm)∧w'.cell? ⟨B,2,z⟩=y (O s2.da)∧w'.cell? ⟨b4,0,z⟩=y (f l p.v)∧w'.cell? ⟨b4,1,z⟩=y (f l p.S)∧w'.cell? ⟨b4,2,z⟩=y (f l p.L)∧w'.cell? ⟨b4,3,z⟩=y (f l ((1-p.a:Nat):Int))∧w'.cell? ⟨b4,4,z⟩=y (f l ((1-p.h:Nat):Int))∧w'.cell? ⟨b4,5,z⟩=y (f l p.gl)∧w'.cell? ⟨b4,6,z⟩=y (f l p.sp)) (first|exact ⟨c0,b0,b1,b2,a0,a1,a2,a3,a4,a5,a6⟩|exact ⟨e0,e1,e2,e3,f0,f1,f2,f3,f4,f5,f6⟩|exact ⟨g0,g1,g2,g3,h0,h1,h2,h3,h4,h5,h6⟩) (first
  | (go_at_call 50;(with_reducible refine (KA.out _).mono ?_);rintro q w7 ⟨rfl,bb⟩;have H7:=(Rvx.drew HH6.out).below bb;obtain ⟨⟨e0,e1,e2,e3⟩,f0,f1,f2,f3,f4,f5,f6⟩:=KC2.out _ _ H7)
  | (go_at_call 49;(with_reducible refine (KW.out _ _ H7).mono ?_);rintro q w8 ⟨rfl,H8⟩;obtain ⟨⟨g0,g1,g2,g3⟩,h0,h1,h2,h3,h4,h5,h6⟩:=KC2.out _ _ H8))
 have HH8:=zh H8;clear H8 H7 bb e0 e1 e2 e3 f0 f1 f2 f3 f4 f5 f6 g0 g1 g2 g3 h0 h1 h2 h3 h4 h5 h6 c0 b0 b1 b2 a0 a1 a2 a3 a4 a5 a6;obtain ⟨⟨c0,b0,b1,b2⟩,a0,a1,a2,a3,a4,a5,a6⟩:=KC2.out _ _ HH8.out.drew
 go_upto_region 12 with fail
 go_region_held3 (fun w'=>w'.cell? ⟨pn,0,z⟩=y (V (y ⟨g,0,z⟩))∧w'.cell? ⟨b4,0,z⟩=y (f l p.v)∧w'.cell? ⟨b4,1,z⟩=y (f l p.S)∧w'.cell? ⟨b4,2,z⟩=y (f l p.L)∧w'.cell? ⟨b4,3,z⟩=y (f l ((1-p.a:Nat):Int))∧w'.cell? ⟨b4,4,z⟩=y (f l ((1-p.h:Nat):Int))∧w'.cell? ⟨b4,5,z⟩=y (f l p.gl)∧w'.cell? ⟨b4,6,z⟩=y (f l p.sp)) (first|exact ⟨c0,a0,a1,a2,a3,a4,a5,a6⟩|exact ⟨e0,f0,f1,f2,f3,f4,f5,f6⟩|exact ⟨g0,h0,h1,h2,h3,h4,h5,h6⟩) (first
  | (go_at_call 52;(with_reducible refine (KH.out _).mono ?_);rintro q w7 ⟨rfl,bb⟩;have H7:=(Rvx.drew HH8.out).below bb;obtain ⟨⟨e0,e1,e2,e3⟩,f0,f1,f2,f3,f4,f5,f6⟩:=KC2.out _ _ H7)
  | (go_at_call 51;(with_reducible refine (KF.out _ _ _ _ _ H7 (Lg.rd (Lg.sub HLg.out HS2.out))).mono ?_);rintro q w9 ⟨rfl,H9⟩;obtain ⟨⟨g0,g1,g2,g3⟩,h0,h1,h2,h3,h4,h5,h6⟩:=KC2.out _ _ H9))
 have HH9:=zh H9;clear H9 H7 bb e0 e1 e2 e3 f0 f1 f2 f3 f4 f5 f6 g1 g2 g3 h0 h1 h2 h3 h4 h5 h6 c0 b0 b1 b2 a0 a1 a2 a3 a4 a5 a6
 go_upto_region 15 with (go_at_call 53;(with_reducible refine (KL.out _ _ HH9.out).mono ?_);rintro q w10 ⟨rfl,H10⟩)
 have HH10:=zh H10;clear H10 g0;obtain ⟨⟨c0,b0,b1,b2⟩,a0,a1,a2,a3,a4,a5,a6⟩:=KC2.out _ _ HH10.out.drew
 go_upto_region 16 with fail
 go_region_held3 (fun w'=>w'.cell? ⟨pn,0,z⟩=y (V (y ⟨g,0,z⟩))∧w'.cell? ⟨b4,0,z⟩=y (f l p.v)∧w'.cell? ⟨b4,1,z⟩=y (f l p.S)∧w'.cell? ⟨b4,2,z⟩=y (f l p.L)∧w'.cell? ⟨b4,3,z⟩=y (f l ((1-p.a:Nat):Int))∧w'.cell? ⟨b4,4,z⟩=y (f l ((1-p.h:Nat):Int))∧w'.cell? ⟨b4,5,z⟩=y (f l p.gl)∧w'.cell? ⟨b4,6,z⟩=y (f l p.sp)) (first|exact ⟨c0,a0,a1,a2,a3,a4,a5,a6⟩|exact ⟨g0,h0,h1,h2,h3,h4,h5,h6⟩) (first
  | (go_at_call 55;(with_reducible refine (KSS.out _ _ (Rvx.drew HH10.out)).mono ?_);rintro q w11 ⟨rfl,H11⟩;obtain ⟨⟨g0,g1,g2,g3⟩,h0,h1,h2,h3,h4,h5,h6⟩:=KC2.out _ _ H11))
 have HH11:=zh H11;clear H11 g1 g2 g3 c0 b0 b1 b2 a0 a1 a2 a3 a4 a5 a6
 go_upto_region 20 with (go_at_call 115;(with_reducible refine (KR.out _ _ _ _ _ HH11.out (Lg.rd (Lg.sub HLg.out HS2.out))).mono ?_);rintro q w12 ⟨rfl,H12⟩)
 have h13:Rvx w g ((pn,E (imc g p.su H s lg u) 124 (0,0)) :: (K2++K)) d4 w12:=H12.drop fun q hq=>by
  simp only [ztT,zt1] at hq;rcases hq with h|h|h
  ·rw [h];exact HS6.out _ HM0.out
  ·exact HS2.out _ h
  ·exact HS6.out _ (HKs.out _ h)
 have HH12:=zh H12;have HH13:=zh h13;clear H12 h13 g0 h0 h1 h2 h3 h4 h5 h6;have npb:pn≠b4:=ztY hp4;have nbp:b4≠pn:=npb.symm;have npB:pn≠B:=ztY HSZ.out.1;have nBp:B≠pn:=npB.symm;obtain ⟨x1,x2,x3,x4,x5,x6,x7,x8,x9,x10,x11,x12,x13,x14,x15⟩:=zmE HH13.out.hd;obtain ⟨y0,y1,y2,y3,y4,y5,y6,y7,y8,y9,y10,y11,y12,y13,y14,y15⟩:=zfv HH13.out.hd;obtain ⟨⟨c0,b0,b1,b2⟩,a0,a1,a2,a3,a4,a5,a6⟩:=KC2.out _ _ HH12.out;go_wp2;go_ret;have hw2:B<w2.heap.size:=HH2.out.lt _ HM4.out;have hpl:=HSZ.out.1;have hWB:W.heap.size=B:=HB.out.symm
 have h9:=HH13.out.puts (fun q hq=>by
  rcases zt1.1 hq with h|h
  ·have:=HK2.out q h;omega
  ·exact HN.out q h) [(1,f l p.turn.v),(2,f l p.turn.S),(3,f l p.turn.L),(4,f l p.turn.a),(5,f l p.turn.h),(6,f l p.turn.gl),(7,f l p.turn.sp),(11,f F s2.ix),(12,f F s2.tm),(13,O s2.da),(14,C A' n' c'),(15,f l US.size)]
 rw [zo9] at h9;exact ⟨rfl,A',n',c',K2,h9,HLg.out.sub fun q hq=>zui _ hq,fun q hq=>by have:=HK2.out q hq;omega⟩
end
section
open Dk
open Ar (Sn sn0)
open J.Sl (Su Hd su0 hd0 sec)
open J (setS setH ldS ldH ldE)
theorem zmH {d:St} {S:Su} {H:Hd} {s t:Sn} {es:List En} (h:Rvx w g ((pn,E (imc g S H s (C A n c) u) 124 (0,0)) :: K) d W)
 (hl:Lg w.heap.size K A n c es) (hn:es.length≤64) :
 I M 133 #[ptr pn,t.v] W fun x w'=>∃ A' n' c' K2,x=N (C A' n' c')∧Rvx w g (K2++((pn,E (imc g S H s (C A n c) u) 124 (0,0)) :: K)) d w'∧Lg w.heap.size K2 A' n' c' (stL s t es)∧∀ q∈K2,W.heap.size≤q.1:=by
 obtain ⟨W1,hW1⟩:∃ W1,W1=W.alloc (E t.c 104):=⟨_,rfl⟩;obtain ⟨B,hB⟩:∃ B,B=W.heap.size:=⟨_,rfl⟩;obtain ⟨K0,hK0⟩:∃ K0,K0=(pn,E (imc g S H s (C A n c) u) 124 (0,0)) :: K:=⟨_,rfl⟩;rw [←hK0] at h ⊢;have h1:Rvx w g ((B,E t.c 104 (0,0)) :: K0) d W1:=by rw [hW1,hB];exact h.al _
 have hs1:W1.heap.size=B+1:=by rw [hW1,hB];simp
 have hlen:es.length=n:=(hl W fun q hq=>h.bk q (by rw [hK0];exact ztK _ hq)).len;have KZ:Hid (∀ Z,P W1.heap.size W1 Z→Rvx w g ((B,E t.c 104 (0,0)) :: K0) d Z):=fun Z hZ=>h1.below hZ
 have KC:Hid (∀ Z,P W1.heap.size W1 Z→Z.cell? ⟨pn,11,z⟩=y (f F s.ix)∧Z.cell? ⟨pn,12,z⟩=y (f F s.tm)∧Z.cell? ⟨pn,14,z⟩=y (C A n c)∧Z.cell? ⟨B,0,z⟩=y (f F t.ix)∧Z.cell? ⟨B,1,z⟩=y (f F t.tm)):=fun Z hZ=>by
  have h2:=KZ.out Z hZ;have hp:=h2.get (k:=pn) (o:=E (imc g S H s (C A n c) u) 124 (0,0)) (ztK _ (by rw [hK0];simp));have hb:=zae h2.hd;exact ⟨zcr _ _ 11 _ 124 (0,0) hp,zcr _ _ 12 _ 124 (0,0) hp,zcr _ _ 14 _ 124 (0,0) hp,hb.1,hb.2.1⟩
 have KE:Hid (∀ k e,es[k]?=y e→∃ a,A=y a∧∀ Z,P W1.heap.size W1 Z→Cs Z a k e):=fun k e he=>by
  have hE:zcx W1.heap.size A n es W1:=(hl W1 fun q hq=>h1.bk q (ztK _ (by rw [hK0];exact ztK _ hq))).ents;obtain ⟨a,x1,x2,x3⟩:=hE.cs' he;exact ⟨a,x1,x3⟩
 have KF:Hid (∀ A' n' c' w',Le W1.heap.size A' n' c' (stL s t es) w'→P W1.heap.size W1 w'→∃ K2,Rvx w g (K2++K0) d w'∧Lg w.heap.size K2 A' n' c' (stL s t es)∧∀ q∈K2,W.heap.size≤q.1):=fun A' n' c' w' hL hb=>by
  obtain ⟨K2,x1,x2,x3⟩:=h1.addLe hb hL (ztI _);refine ⟨K2,x1.drop fun q hq=>?_,x2.low h1.be.size,fun q hq=>by have:=x3 q hq;omega⟩;simp only [zt1,ztT] at hq ⊢;rcases hq with h|h<;>simp [h]
 have HLEN:=zh hlen;have hnn:n≤64:=by omega
 have HW1:=zh hW1;have HB:=zh hB;have hB1:=Y W1.heap.size W1;clear hlen hs1 h1 hK0 hB hW1 h hl hn KZ;unfold Ar.Sn.v ptr at *;go_enter func133,ntmps133
 go_upto_region 1 with fail
 refine zaf (w:=W1) HW1.out.symm ?_;rw [←HB.out]
 go_cut [5] from 9 to 26 (fun s5 wx=>s5=U (decide (t.ix=s.ix)&&decide (t.tm=s.tm))∧P W1.heap.size W1 wx)
 case first =>
  obtain ⟨c11,c12,c14,e0,e1⟩:=KC.out W1 hB1
  by_cases h1:t.ix=s.ix
  ·have t1:((t.ix:Int)==(s.ix:Int))=G:=by rw [h1];simp
   by_cases h2:t.tm=s.tm
   ·have t2:((t.tm:Int)==(s.tm:Int))=G:=by rw [h2];simp
    have D:=zh (And.intro (ztN h1) (ztN h2));clear h1 h2
    go_quiet (fail)
    go_wp2;go_meet;exact ⟨by rw [D.out.1,D.out.2];rfl,below_drewN hB1 _⟩
   ·have t2:((t.tm:Int)==(s.tm:Int))=Q:=by simp;omega
    have D:=zh (And.intro (ztN h1) (ztM h2));clear h1 h2
    go_quiet (fail)
    go_wp2;go_meet;exact ⟨by rw [D.out.1,D.out.2];rfl,below_drewN hB1 _⟩
  ·have t1:((t.ix:Int)==(s.ix:Int))=Q:=by simp;omega
   have D:=zh (ztM h1);clear h1
   go_quiet (fail)
   go_wp2;go_meet;exact ⟨by rw [D.out];rfl,below_drewN hB1 _⟩
 case rest =>
  obtain ⟨rfl,hb2⟩:=hcut;obtain ⟨b0,hb0⟩:∃ b,b=(decide (t.ix=s.ix)&&decide (t.tm=s.tm)):=⟨_,rfl⟩;have HB0:=zh hb0;rw [←hb0];clear hb0;go_wp2
  go_loopw [5,6] (fun x i wr=>∃ k:Nat,i=f l k∧x=U (b0||(es.take k).any (smE t))∧k≤n∧P W1.heap.size W1 wr) (fun _ i _=>n-(T i).toNat)
  case atStart=>exact ⟨0,rfl,by simp,ztO _,hb2⟩
  case round =>
   clear hb2;obtain ⟨k,rfl,rfl,hk,hbw⟩:=hrel;obtain ⟨c11,c12,c14,e0,e1⟩:=KC.out wr hbw;obtain ⟨ac,hac⟩:∃ b,b=(b0||(es.take k).any (smE t)):=⟨_,rfl⟩;rw [←hac];have HAC:=zh hac;clear hac
   by_cases hlt:k<n
   ·have t1:decide ((k:Int)<(n:Int))=G:=ztN (by omega);obtain ⟨e,he⟩:∃ e,es[k]?=y e:=⟨_,zt2 (by rw [HLEN.out];exact hlt)⟩;obtain ⟨a,hA,hCs⟩:=KE.out k e he;obtain ⟨d0,d1,_⟩:=hCs wr hbw;have hsn:Hid ((b0||(es.take (k+1)).any (smE t))=(ac||smE t e)):=by show _=_;rw [zom _ he,←Bool.or_assoc,HAC.out]
    rw [hA] at c14;have HBW:=zh hbw;clear he hCs hA hbw
    go_upto_region 5 with fail
    cases ac with
    | true =>
      go_quiet (fail)
      go_wp2
      go_roundw
      case rel=>exact ⟨k+1,by go_num,by rw [hsn.out];rfl,by omega,below_drewN HBW.out _⟩
      case measure=>simp [T];omega
    | false =>
      by_cases h1:e.index=(t.ix:Int)
      ·have t2:(e.index==(t.ix:Int))=G:=by rw [h1];simp
       by_cases h2:e.term=(t.tm:Int)
       ·have t3:(e.term==(t.tm:Int))=G:=by rw [h2];simp
        have hsm:Hid (smE t e=G):=by show _=_;unfold smE;rw [ztN h1,ztN h2];rfl
        clear h1 h2
        go_quiet (fail)
        go_wp2
        go_roundw
        case rel=>exact ⟨k+1,by go_num,by rw [hsn.out,hsm.out];rfl,by omega,below_drewN HBW.out _⟩
        case measure=>simp [T];omega
       ·have t3:(e.term==(t.tm:Int))=Q:=by simpa using h2
        have hsm:Hid (smE t e=Q):=by show _=_;unfold smE;rw [ztM h2,Bool.and_false]
        clear h1 h2
        go_quiet (fail)
        go_wp2
        go_roundw
        case rel=>exact ⟨k+1,by go_num,by rw [hsn.out,hsm.out];rfl,by omega,below_drewN HBW.out _⟩
        case measure=>simp [T];omega
      ·have t2:(e.index==(t.ix:Int))=Q:=by simpa using h1
       have hsm:Hid (smE t e=Q):=by show _=_;unfold smE;rw [ztM h1,zun]
       clear h1
       go_quiet (fail)
       go_wp2
       go_roundw
       case rel=>exact ⟨k+1,by go_num,by rw [hsn.out,hsm.out];rfl,by omega,below_drewN HBW.out _⟩
       case measure=>simp [T];omega
   ·have hkn:k=n:=by omega
    subst hkn;have t1:decide ((k:Int)<(k:Int))=Q:=ztM (by omega);have hst:Hid (ac=smB s t es):=by show _=_;rw [HAC.out,HB0.out,show es.take k=es from zt9 (by rw [HLEN.out];exact ztI _)];rfl
    clear hlt
    cases ac with
    | false =>
      have hz:Hid (stL s t es=[]):=by show _=_;unfold stL;rw [←hst.out];rfl
      clear hst;have HBW:=zh hbw;go_wp2
      go_loopw [7,8] (fun o i wr=>i=f l 0∧o=C z 0 0∧P W1.heap.size W1 wr) (fun _ i _=>k-(T i).toNat)
      case atStart=>exact ⟨rfl,rfl,hbw⟩
      case round =>
       obtain ⟨rfl,rfl,hbw2⟩:=hrel;clear t1 c11 c12 c14 e0 e1;obtain ⟨c11,c12,c14,e0,e1⟩:=KC.out _ hbw2;go_wp2
       all_goals
        go_ret;obtain ⟨K2,x1,x2,x3⟩:=KF.out z 0 0 _ (by rw [hz.out];exact Le.nil _ _) hbw2;exact ⟨z,0,0,K2,rfl,x1,x2,x3⟩
    | true =>
      have hz:Hid (stL s t es=es.filter (bhE t)):=by show _=_;unfold stL;rw [←hst.out];rfl
      clear hst;go_wp2
      go_loopw [7,8] (fun o i wr=>∃ (j:Nat) (A':Option Addr) (m c':Nat),i=f l j∧o=C A' m c'∧j≤k∧m≤j∧P W1.heap.size W1 wr∧Le W1.heap.size A' m c' ((es.take j).filter (bhE t)) wr) (fun _ i _=>k-(T i).toNat)
      case atStart=>exact ⟨0,z,0,0,rfl,rfl,ztO _,ztI _,hbw,Le.nil _ _⟩
      case round =>
       obtain ⟨j,A',m,c',rfl,rfl,hj,hmj,hbw2,hLe⟩:=hrel;clear t1 c11 c12 c14 e0 e1 hbw;obtain ⟨c11,c12,c14,e0,e1⟩:=KC.out _ hbw2
       by_cases hlt:j<k
       ·have t1:decide ((j:Int)<(k:Int))=G:=ztN (by omega);obtain ⟨e,he⟩:∃ e,es[j]?=y e:=⟨_,zt2 (by rw [HLEN.out];exact hlt)⟩;obtain ⟨a,hA,hCs⟩:=KE.out j e he;obtain ⟨d0,d1,d2,d3,d4,d5,d6,d7,d8,d9,d10⟩:=hCs wr hbw2;have hsn:Hid ((es.take (j+1)).filter (bhE t)=(es.take j).filter (bhE t)++if bhE t e then [e] else []):=zds _ he;have hAA:=zh hA;rw [hA] at c14;have HBW:=zh hbw2;have HLe:=zh hLe;have HCs:=zh hCs;clear he hCs hA hbw2 hLe
        by_cases h1:(t.ix:Int)<e.index
        ·have t2:decide ((t.ix:Int)<e.index)=G:=ztN h1;have hbh:Hid (bhE t e=G):=t2;clear h1;obtain ⟨w11,w12,w14,v0,v1⟩:=KC.out wr.drew (HBW.out.drew);obtain ⟨f0,f1,f2,f3,f4,f5,f6,f7,f8,f9,f10⟩:=HCs.out wr.drew HBW.out.drew;rw [hAA.out] at w14;have HLX:Hid (Le W1.heap.size A' m c' ((es.take j).filter (bhE t)) (wr.drew.alloc (E (ec e) 69))):=HLe.out.below ((Y _ _).drew.alloc (ztI _) _);have HBX:Hid (P W1.heap.size W1 (wr.drew.alloc (E (ec e) 69))):=HBW.out.drew.alloc HBW.out.size _
         go_upto_region 10 with fail
         go_region
         go_wp2_with (at_builtin;refine zaQ rfl _ _ rfl _ W1.heap.size A' m c' wr.heap.size ((es.take j).filter (bhE t)) e rfl rfl HLX.out (ztJ wr.drew _) (by omega) HBX.out.size ?_;intro g4 cap w9 hL10 hb10 hk10)
         go_roundw
         case rel=>exact ⟨j+1,_,m+1,cap,by go_num,rfl,by omega,by omega,HBX.out.trans hb10,by rw [hsn.out,hbh.out,if_pos rfl];exact hL10⟩
         case measure=>simp [T];omega
        ·have t2:decide ((t.ix:Int)<e.index)=Q:=ztM h1;have hbh:Hid (bhE t e=Q):=t2;clear h1
         go_upto_region 10 with fail
         go_region
         go_wp2
         go_roundw
         case rel=>exact ⟨j+1,A',m,c',by go_num,rfl,by omega,by omega,HBW.out.drew,by rw [hsn.out,hbh.out,if_neg (by simp),zuG];exact HLe.out.below ((Y _ _).drew)⟩
         case measure=>simp [T];omega
       ·have hjk:j=k:=by omega
        subst hjk;have t1:decide ((j:Int)<(j:Int))=Q:=ztM (by omega);rw [show es.take j=es from zt9 (by rw [HLEN.out];exact ztI _)] at hLe;go_wp2;go_ret;obtain ⟨K2,x1,x2,x3⟩:=KF.out A' m c' _ (by rw [hz.out];exact hLe) hbw2;exact ⟨A',m,c',K2,rfl,x1,x2,x3⟩
end
section
open Dk
open Ar (Sn sn0 snS snO)
open J.Sl (Su Hd su0 hd0 sec)
open J (setS setH ldS ldH ldE)
theorem zro {s t:Sn} {es:List En} {e:En} (h:e∈stL s t es):e∈es:=by
 unfold stL at h
 split at h
 ·exact (List.mem_filter.1 h).1
 ·cases h
theorem zrp (s t:Sn) (es:List En):(stL s t es).length≤es.length:=by
 unfold stL
 split
 ·exact List.length_filter_le _ _
 ·simp
theorem ziU {d d1 d2 d3 d4:St} {p:Ip} {H:Hd} {s s2:Sn} {es lgs:List En} (h:Rvx w g ((pn,E (imc g p.su H s (C A n c) u) 124 (0,0)) :: K) d W) (hK:∀ q∈K,q.1≠pn) (ok:p.Ok) (sok:s2.Ok) (hg:p.gl=0)
 (hl:Lg w.heap.size K A n c es) (hb:s2.ix≤1099511627776) (hn2:es.length≤64) (hok:∀ e∈es,e.Ok) (hj:jn s2.ix [] (stL s s2 es)=y lgs) (hll:lgs.length=(stL s s2 es).length) (hlok:∀ e∈lgs,e.Ok)
 (hS:snO p.v s2=G) (hix:s.ix≤s2.ix) (hO:rcO p.v (pO p.v) lgs=G)
 (e1:Ar.arW d (p.aA p.turn.a:Nat) (p.S:Nat) p.v s2=(d1,0)) (e2o:onB d1.n (p.hA p.turn.h) p.L p.v=G) (e2:zdB d1 (p.hA p.turn.h) p.L p.v lgs=(d2,0)) (e3:d2.flush=(d3,0)) (e4:setS d3 p.turn.su=(d4,0)) :
 I M 66 #[ptr pn,s2.v] W fun x w'=>x=N (f l 0)∧∃ A' n' c' K2,Rvx w g ((pn,E (imc g p.turn.su H s2 (C A' n' c') ((rcS p.v (pS p.v) (pO p.v) lgs).size:Nat)) 124 (0,0)) :: (K2++K)) d4 w'∧Lg w.heap.size (K2++K) A' n' c' lgs∧∀ q∈K2,W.heap.size≤q.1:=by
 obtain ⟨W1,hW1⟩:∃ W1,W1=W.alloc (E s2.c 104):=⟨_,rfl⟩;obtain ⟨B,hB⟩:∃ B,B=W.heap.size:=⟨_,rfl⟩;have hlp:pn<B:=by rw [hB];exact h.lt _ (zt0 ..)
 obtain ⟨K0,hK0⟩:∃ K0,K0=(B,E s2.c 104 (0,0)) :: K:=⟨_,rfl⟩
 have h1:Rvx w g ((pn,E (imc g p.su H s (C A n c) u) 124 (0,0)) :: K0) d W1:=by
  have:=h.al (E s2.c 104)
  rw [hW1,hK0,hB];exact this.drop fun q hq=>by simp only [ztT] at hq ⊢;rcases hq with h|h|h<;>simp [h]
 have hs1:W1.heap.size=B+1:=by rw [hW1,hB];simp
 have hK0n:∀ q∈K0,q.1≠pn:=fun q hq=>by
  rw [hK0] at hq;rcases ztT.1 hq with rfl|hq
  ·show B≠pn;omega
  ·exact hK q hq
 have hKs:∀ q∈K,q∈K0:=fun q hq=>by rw [hK0];simp [hq]
 have hm:(B,E s2.c 104 (0,0))∈K0:=by rw [hK0];simp
 have KS:Hid (∀ Z,Rvx w g ((pn,E (imc g p.su H s (C A n c) u) 124 (0,0)) :: K0) d Z→I M 133 #[ptr pn,R #[f F s2.ix,f F s2.tm,O s2.da]] Z fun x w'=>∃ A' n' c' K2,x=N (C A' n' c')∧Rvx w g (K2++((pn,E (imc g p.su H s (C A n c) u) 124 (0,0)) :: K0)) d w'∧Lg w.heap.size K2 A' n' c' (stL s s2 es)∧∀ q∈K2,Z.heap.size≤q.1) :=
  fun Z hZ=>zmH hZ (hl.sub hKs) hn2
 have KL:Hid (∀ Z K2 A' n' c',Rvx w g (K2++((pn,E (imc g p.su H s (C A n c) u) 124 (0,0)) :: K0)) d Z→Lg w.heap.size K2 A' n' c' (stL s s2 es)→(∀ q∈K2,W1.drew.heap.size≤q.1)→I M 67 #[ptr pn,R #[f F s2.ix,f F s2.tm,O s2.da],C A' n' c'] Z fun x w'=>x=N (f l 0)∧∃ A' n' c' K2,Rvx w g ((pn,E (imc g p.turn.su H s2 (C A' n' c') ((rcS p.v (pS p.v) (pO p.v) lgs).size:Nat)) 124 (0,0)) :: (K2++K0)) d4 w'∧Lg w.heap.size (K2++K0) A' n' c' lgs∧∀ q∈K2,W.heap.size≤q.1):=fun Z K2 A' n' c' hZ hL hq2=>by
  have hZ2:Rvx w g ((pn,E (imc g p.su H s (C A n c) u) 124 (0,0)) :: (K2++K0)) d Z:=hZ.drop fun q hq=>by
   simp only [zt1,ztT] at hq ⊢;rcases hq with h|h|h<;>simp [h]
  have hB9:B<Z.heap.size:=hZ.lt _ (ztU _ (ztK _ hm));refine (zrn hZ2 ?_ ok sok hg ((hL.sub fun q hq=>zui _ hq).rd) hb (ztL (zrp _ _ _) hn2) (fun e he=>hok e (zro he)) hj hll hlok hS hix hO e1 e2o e2 e3 e4).mono ?_
  ·intro q hq;rcases zt1.1 hq with h|h
   ·have:=hq2 q h;have e:W1.drew.heap.size=W1.heap.size:=rfl;omega
   ·exact hK0n q h
  ·rintro x w' ⟨rfl,A3,n3,c3,K3,y1,y2,y3⟩;refine ⟨rfl,A3,n3,c3,K3++K2,by rw [zuc];exact y1,by rw [zuc];exact y2,fun q hq=>?_⟩;rcases zt1.1 hq with h|h
   ·have:=y3 q h;omega
   ·have:=hq2 q h;have e:W1.drew.heap.size=W1.heap.size:=rfl;omega
 have KX:Hid (∀ w' A' n' c' K2,Rvx w g ((pn,E (imc g p.turn.su H s2 (C A' n' c') ((rcS p.v (pS p.v) (pO p.v) lgs).size:Nat)) 124 (0,0)) :: (K2++K0)) d4 w'→Lg w.heap.size (K2++K0) A' n' c' lgs→(∀ q∈K2,W.heap.size≤q.1)→∃ A' n' c' K2,Rvx w g ((pn,E (imc g p.turn.su H s2 (C A' n' c') ((rcS p.v (pS p.v) (pO p.v) lgs).size:Nat)) 124 (0,0)) :: (K2++K)) d4 w'∧Lg w.heap.size (K2++K) A' n' c' lgs∧∀ q∈K2,W.heap.size≤q.1):=fun w' A' n' c' K2 y1 y2 y3=>by
  refine ⟨A',n',c',K2++[(B,E s2.c 104 (0,0))],?_,?_,fun q hq=>?_⟩
  ·rw [zuc];rw [hK0] at y1;exact y1
  ·rw [zuc];rw [hK0] at y2;exact y2
  ·rcases zt1.1 hq with h|h
   ·exact y3 q h
   ·rw [zul] at h;rw [h];exact Nat.le_of_eq hB.symm
 have KC:Hid (∀ Z K9,(∀ q∈K0,q∈K9)→Rvx w g K9 d Z→Z.cell? ⟨B,0,z⟩=y (f F s2.ix)∧Z.cell? ⟨B,1,z⟩=y (f F s2.tm)∧Z.cell? ⟨B,2,z⟩=y (O s2.da)):=fun Z K9 hs hZ=>zae (hZ.get (hs _ hm));have KC2:Hid (∀ Z K9,(∀ q∈K0,q∈K9)→Rvx w g K9 d4 Z→Z.cell? ⟨B,0,z⟩=y (f F s2.ix)∧Z.cell? ⟨B,1,z⟩=y (f F s2.tm)∧Z.cell? ⟨B,2,z⟩=y (O s2.da)):=fun Z K9 hs hZ=>zae (hZ.get (hs _ hm));have H1:=zh h1;have HW1:=zh hW1;have HB:=zh hB;have hsz1:Hid (W1.heap.size=B+1):=hs1;obtain ⟨c0,c1,c2⟩:=KC.out _ _ (fun q hq=>ztK _ hq) h1.drew;clear hm hKs hK0n hs1 h1 hK0 hlp hB hW1 h hK ok sok hg hl hb hn2 hok hj hll hlok hS hix hO e1 e2o e2 e3 e4;unfold Ar.Sn.v ptr at *;go_enter func66,ntmps66
 go_upto_region 1 with fail
 refine zaf (w:=W1) HW1.out.symm ?_;rw [←HB.out]
 go_region_held3 (fun w'=>w'.cell? ⟨B,0,z⟩=y (f F s2.ix)∧w'.cell? ⟨B,1,z⟩=y (f F s2.tm)∧w'.cell? ⟨B,2,z⟩=y (O s2.da)) (first|exact ⟨c0,c1,c2⟩|exact ⟨v0,v1,v2⟩|exact ⟨a0,a1,a2⟩) (first
  | (go_at_call 133;(with_reducible refine (KS.out _ (Rvx.drew H1.out)).mono ?_);rintro q w2 ⟨A',n',c',K2,rfl,H2,hLg,hK2⟩;obtain ⟨v0,v1,v2⟩:=KC.out _ _ (fun q hq=>ztU _ (ztK _ hq)) H2)
  | (go_at_call 67;(with_reducible refine (KL.out _ _ _ _ _ H2 hLg hK2).mono ?_);rintro q w3 ⟨rfl,A3,n3,c3,K3,H3,hL3,hK3⟩;obtain ⟨a0,a1,a2⟩:=KC2.out _ _ (fun q hq=>ztK _ (ztU _ hq)) H3))
 go_wp2;go_ret;exact ⟨rfl,KX.out _ _ _ _ _ H3 hL3 hK3⟩
end
end Go.Proofs.YtidndekacnmihaaGreat
