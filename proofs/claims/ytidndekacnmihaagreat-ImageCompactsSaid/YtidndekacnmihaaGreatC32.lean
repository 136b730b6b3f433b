/- Parts of a proof. -/
import Derived.Test.YtidndekacnmihaaGreatC31
set_option linter.all false
set_option maxHeartbeats 8000000
set_option maxRecDepth 100000
namespace Go.Proofs.YtidndekacnmihaaGreat
open Bool renaming false→C
open Ending renaming returned→B
open Go renaming Calls→t
open IntKind renaming i64→f,u64→r
open Obj renaming cells→k
open Option renaming none→i,some→j
open Tryz renaming prog→z
open Value renaming int→b,slice→l,string→D,pointer→E
open Tryz
variable {W w:World} {b3 b4 b5 b7 b8 c c2 g n n2 pm:Nat} {K:List (Nat×Obj)} {lg:Value} {u:Int} {A A2:Option Addr}
open Go.RowKit
section
open Dk
open Ar (Sn sn0)
open J.Sl (Su Hd su0 hd0 sec)
open J (setS setH ldS ldH ldE)
theorem zqJ {b9:Nat} {d:St} {p:Ip} {H:Hd} {s s2:Sn} {x:Bool} (h:Dvx w g ((pm,k (imc g p.su H s lg u) 113 (0,0)) :: K) d W)
 (k3:(b3,k #[ptr pm] 32 (0,0))∈K) (k4:(b4,k s2.c 43 (0,0))∈K) (k5:(b5,k #[l A2 n2 c2] 54 (0,0))∈K) (k8:(b8,k #[l A n c] 54 (0,0))∈K) (k9:(b9,k #[.bool x] 4 (0,0))∈K) :
 t z 98 #[ptr b4,ptr b3,ptr b9,ptr b8,ptr b5] W fun y w'=>y=B (b f (if (decide (s.ix≤s2.ix)&&(x&&decide (n=n2))) then 0 else 1))∧Dvx w g ((pm,k (imc g p.su H s lg u) 113 (0,0)) :: K) d w':=by
 have KO:=zh (fun x Z=>zhq x Z);have HH:=zh h;have HHd:=zh h.drew;obtain ⟨e0,e1,e2⟩:=zae (h.get (ztK _ k4));have f3:W.cell? ⟨b3,0,i⟩=j (ptr pm):=zcr _ _ 0 _ 32 (0,0) (h.get (ztK _ k3));have f5:W.cell? ⟨b5,0,i⟩=j (l A2 n2 c2):=zcr _ _ 0 _ 54 (0,0) (h.get (ztK _ k5));have f8:W.cell? ⟨b8,0,i⟩=j (l A n c):=zcr _ _ 0 _ 54 (0,0) (h.get (ztK _ k8));have f9:W.cell? ⟨b9,0,i⟩=j (.bool x):=zcr _ _ 0 _ 4 (0,0) (h.get (ztK _ k9));have f11:W.cell? ⟨pm,11,i⟩=j (b r s.ix):=zcr _ _ 11 _ 113 (0,0) h.hd;clear h k3 k4 k5 k8 k9
 by_cases h1:s.ix≤s2.ix
 ·have t1:decide ((s.ix:Int)≤(s2.ix:Int))=true:=ztN (by omega);have t1':decide (s.ix≤s2.ix)=true:=ztN h1;rw [t1']
  cases x with
  | true =>
    by_cases h2:n=n2
    ·subst h2;have t2:decide (n=n)=true:=ztN rfl;have t3:((n:Int)==(n:Int))=true:=by simp
     rw [t2];unfold ptr at *;go_enter func98,ntmps98
     go_upto_region 1 with fail
     go_still_tail 19,(by kernel_rfl)
     change wpList _ _ _ _ _ W.drew
     go_wp2_with (go_at_call 78;(with_reducible refine (KO.out true _).mono ?_);rintro q w1 ⟨rfl,rfl⟩)
     go_ret;exact ⟨rfl,HHd.out⟩
    ·have t2:decide (n=n2)=C:=ztM h2;have t3:((n:Int)==(n2:Int))=C:=by simp;omega
     rw [t2];unfold ptr at *;go_enter func98,ntmps98
     go_upto_region 1 with fail
     go_still_tail 19,(by kernel_rfl)
     change wpList _ _ _ _ _ W.drew
     go_wp2_with (go_at_call 78;(with_reducible refine (KO.out C _).mono ?_);rintro q w1 ⟨rfl,rfl⟩)
     go_ret;exact ⟨rfl,HHd.out⟩
  | false =>
    unfold ptr at *;go_enter func98,ntmps98
    go_upto_region 1 with fail
    go_still_tail 19,(by kernel_rfl)
    change wpList _ _ _ _ _ W.drew
    go_wp2_with (go_at_call 78;(with_reducible refine (KO.out C _).mono ?_);rintro q w1 ⟨rfl,rfl⟩)
    go_ret;exact ⟨rfl,HHd.out⟩
 ·have t1:decide ((s.ix:Int)≤(s2.ix:Int))=C:=ztM (by omega);have t1':decide (s.ix≤s2.ix)=C:=ztM h1;rw [t1'];unfold ptr at *;go_enter func98,ntmps98
  go_upto_region 1 with fail
  go_still_tail 19,(by kernel_rfl)
  change wpList _ _ _ _ _ W.drew
  go_wp2_with (go_at_call 78;(with_reducible refine (KO.out C _).mono ?_);rintro q w1 ⟨rfl,rfl⟩)
  go_ret;exact ⟨rfl,HHd.out⟩
theorem zqK {d:St} {p q:Ip} {H:Hd} {s s2:Sn} {more:List En} (h:Dvx w g ((pm,k (imc g p.su H s lg u) 113 (0,0)) :: K) d W) (ok:q.Ok) (sok:s2.Ok)
 (hm:zcO K A2 n2 more) (hn2:n2≤64) (hok:∀ e∈more,e.Ok)
 (k3:(b3,k #[ptr pm] 32 (0,0))∈K) (k4:(b4,k s2.c 43 (0,0))∈K) (k5:(b5,k #[l A2 n2 c2] 54 (0,0))∈K) (k7:(b7,k q.c 65 (0,0))∈K) :
 t z 99 #[ptr b3,ptr b7,ptr b4,ptr b5] W fun y w'=>y=B (b f (fiS d q s2 more).2)∧Dvx w g ((pm,k (imc g p.su H s lg u) 113 (0,0)) :: K) (fiS d q s2 more).1 w':=by
 have KF:Hid (∀ Z,Dvx w g ((pm,k (imc g p.su H s lg u) 113 (0,0)) :: K) d Z→t z 42 #[ptr g,.agg #[b f q.v,b f q.S,b f q.L,b f q.a,b f q.h,b f q.gl,b f q.sp],.agg #[b r s2.ix,b r s2.tm,D s2.da],l A2 n2 c2] Z fun x w'=>x=B (b f (fiS d q s2 more).2)∧Dvx w g ((pm,k (imc g p.su H s lg u) 113 (0,0)) :: K) (fiS d q s2 more).1 w') :=
  fun Z hZ=>zlB hZ ok sok (hm.sub fun q hq=>ztK _ hq) hn2 hok
 obtain ⟨T,hT⟩:∃ T,T=fiS d q s2 more:=⟨_,rfl⟩;rw [←hT] at KF ⊢;have HD:=zh h.drew
 have KC:Hid (∀ d' Z,Dvx w g ((pm,k (imc g p.su H s lg u) 113 (0,0)) :: K) d' Z→(Z.cell? ⟨b3,0,i⟩=j (ptr pm)∧Z.cell? ⟨pm,0,i⟩=j (ptr g)∧Z.cell? ⟨b5,0,i⟩=j (l A2 n2 c2))∧(Z.cell? ⟨b4,0,i⟩=j (b r s2.ix)∧Z.cell? ⟨b4,1,i⟩=j (b r s2.tm)∧Z.cell? ⟨b4,2,i⟩=j (D s2.da))∧Z.cell? ⟨b7,0,i⟩=j (b f q.v)∧Z.cell? ⟨b7,1,i⟩=j (b f q.S)∧Z.cell? ⟨b7,2,i⟩=j (b f q.L)∧Z.cell? ⟨b7,3,i⟩=j (b f q.a)∧Z.cell? ⟨b7,4,i⟩=j (b f q.h)∧Z.cell? ⟨b7,5,i⟩=j (b f q.gl)∧Z.cell? ⟨b7,6,i⟩=j (b f q.sp)):=fun d' Z hZ =>
  ⟨⟨zcr _ _ 0 _ 32 (0,0) (hZ.get (ztK _ k3)),zcr _ _ 0 _ 113 (0,0) hZ.hd,zcr _ _ 0 _ 54 (0,0) (hZ.get (ztK _ k5))⟩,zae (hZ.get (ztK _ k4)),zao (hZ.get (ztK _ k7))⟩
 obtain ⟨⟨c0,c1,y2⟩,⟨v0,v1,v2⟩,a0,a1,a2,a3,a4,a5,a6⟩:=KC.out _ _ h.drew;clear h hT k3 k4 k5 k7 ok sok hm hok;unfold ptr at *;go_enter func99,ntmps99
 go_upto_region 1 with fail
 go_region_held3 (fun w'=>w'.cell? ⟨b3,0,i⟩=j (E (j ⟨pm,0,i⟩))∧w'.cell? ⟨pm,0,i⟩=j (E (j ⟨g,0,i⟩))∧w'.cell? ⟨b5,0,i⟩=j (l A2 n2 c2)∧w'.cell? ⟨b4,0,i⟩=j (b r s2.ix)∧w'.cell? ⟨b4,1,i⟩=j (b r s2.tm)∧w'.cell? ⟨b4,2,i⟩=j (D s2.da)∧w'.cell? ⟨b7,0,i⟩=j (b f q.v)∧w'.cell? ⟨b7,1,i⟩=j (b f q.S)∧w'.cell? ⟨b7,2,i⟩=j (b f q.L)∧w'.cell? ⟨b7,3,i⟩=j (b f q.a)∧w'.cell? ⟨b7,4,i⟩=j (b f q.h)∧w'.cell? ⟨b7,5,i⟩=j (b f q.gl)∧w'.cell? ⟨b7,6,i⟩=j (b f q.sp)) (first|exact ⟨c0,c1,y2,v0,v1,v2,a0,a1,a2,a3,a4,a5,a6⟩|exact ⟨i0,i1,i2,j0,j1,j2,b_0,b_1,b_2,b_3,b_4,b_5,b_6⟩) (first
  | (go_at_call 42;(with_reducible refine (KF.out _ HD.out).mono ?_);rintro q w1 ⟨rfl,H1⟩;obtain ⟨⟨i0,i1,i2⟩,⟨j0,j1,j2⟩,b_0,b_1,b_2,b_3,b_4,b_5,b_6⟩:=KC.out _ _ H1))
 go_wp2;go_ret;exact ⟨rfl,H1⟩
theorem zqL {d:St} {p q:Ip} {H:Hd} {s:Sn} (h:Dvx w g ((pm,k (imc g p.su H s lg u) 113 (0,0)) :: K) d W)
 (k3:(b3,k #[ptr pm] 32 (0,0))∈K) (k7:(b7,k q.c 65 (0,0))∈K) :
 t z 100 #[ptr b3,ptr b7] W fun y w'=>y=B (b f (setS d q.su).2)∧Dvx w g ((pm,k (imc g p.su H s lg u) 113 (0,0)) :: K) (setS d q.su).1 w':=by
 have KF:Hid (∀ Z,Dvx w g ((pm,k (imc g p.su H s lg u) 113 (0,0)) :: K) d Z→t z 46 #[ptr g,.agg #[b f q.v,b f q.S,b f q.L,b f q.a,b f q.h,b f q.gl,b f q.sp]] Z fun x w'=>x=B (b f (setS d q.su).2)∧Dvx w g ((pm,k (imc g p.su H s lg u) 113 (0,0)) :: K) (setS d q.su).1 w') :=
  fun Z hZ=>hZ.c1 fun L hD=>J.zes g L d q.su Z hD
 obtain ⟨T,hT⟩:∃ T,T=setS d q.su:=⟨_,rfl⟩;rw [←hT] at KF ⊢;have HD:=zh h.drew
 have KC:Hid (∀ d' Z,Dvx w g ((pm,k (imc g p.su H s lg u) 113 (0,0)) :: K) d' Z→(Z.cell? ⟨b3,0,i⟩=j (ptr pm)∧Z.cell? ⟨pm,0,i⟩=j (ptr g))∧Z.cell? ⟨b7,0,i⟩=j (b f q.v)∧Z.cell? ⟨b7,1,i⟩=j (b f q.S)∧Z.cell? ⟨b7,2,i⟩=j (b f q.L)∧Z.cell? ⟨b7,3,i⟩=j (b f q.a)∧Z.cell? ⟨b7,4,i⟩=j (b f q.h)∧Z.cell? ⟨b7,5,i⟩=j (b f q.gl)∧Z.cell? ⟨b7,6,i⟩=j (b f q.sp)):=fun d' Z hZ =>
  ⟨⟨zcr _ _ 0 _ 32 (0,0) (hZ.get (ztK _ k3)),zcr _ _ 0 _ 113 (0,0) hZ.hd⟩,zao (hZ.get (ztK _ k7))⟩
 obtain ⟨⟨c0,c1⟩,a0,a1,a2,a3,a4,a5,a6⟩:=KC.out _ _ h.drew;clear h hT k3 k7;unfold ptr at *;go_enter func100,ntmps100
 go_upto_region 1 with fail
 go_region_held3 (fun w'=>w'.cell? ⟨b3,0,i⟩=j (E (j ⟨pm,0,i⟩))∧w'.cell? ⟨pm,0,i⟩=j (E (j ⟨g,0,i⟩))∧w'.cell? ⟨b7,0,i⟩=j (b f q.v)∧w'.cell? ⟨b7,1,i⟩=j (b f q.S)∧w'.cell? ⟨b7,2,i⟩=j (b f q.L)∧w'.cell? ⟨b7,3,i⟩=j (b f q.a)∧w'.cell? ⟨b7,4,i⟩=j (b f q.h)∧w'.cell? ⟨b7,5,i⟩=j (b f q.gl)∧w'.cell? ⟨b7,6,i⟩=j (b f q.sp)) (first|exact ⟨c0,c1,a0,a1,a2,a3,a4,a5,a6⟩|exact ⟨i0,i1,b_0,b_1,b_2,b_3,b_4,b_5,b_6⟩) (first
  | (go_at_call 46;(with_reducible refine (KF.out _ HD.out).mono ?_);rintro q w1 ⟨rfl,H1⟩;obtain ⟨⟨i0,i1⟩,b_0,b_1,b_2,b_3,b_4,b_5,b_6⟩:=KC.out _ _ H1))
 go_wp2;go_ret;exact ⟨rfl,H1⟩
theorem zoj (v:Int) (A:Option Addr) (n c:Nat) (es:List En) (Z:World) (hE:zcx Z.heap.size A n es Z) (hn:n≤64) (ok:∀ e∈es,e.Ok) :
 t z 102 #[b f v,l A n c] Z fun x w'=>x=B (b f ((rcS v (pS v) (pO v) es).size:Nat))∧Below Z.heap.size Z w':=by
 have K:=zh (zfF v (pS v) (pO v) A n c es Z hE hn (fun e _=>ztL (zf2 v e) (by omega)) (znk v es ok));obtain ⟨S,hS⟩:∃ S,S=rcS v (pS v) (pO v) es:=⟨_,rfl⟩;rw [←hS] at K ⊢;clear hE ok hS;go_enter func102,ntmps102
 go_wp2_with (go_at_call 154;(with_reducible refine K.out.mono ?_);rintro q w1 ⟨rfl,b1⟩)
 go_ret;exact ⟨rfl,b1⟩
end
section
open Dk
open Ar (Sn sn0)
open J.Sl (Su Hd su0 hd0 sec)
open J (setS setH ldS ldH ldE)
theorem zqM (g:Nat) (S:Su) (q:Ip) (H:Hd) (s s2:Sn) (lg lg2:Value) (u:Int):setc [(1,b f q.v),(2,b f q.S),(3,b f q.L),(4,b f q.a),(5,b f q.h),(6,b f q.gl),(7,b f q.sp),(11,b r s2.ix),(12,b r s2.tm),(13,D s2.da),(14,lg2)] (imc g S H s lg u)=imc g q.su H s2 lg2 u:=by
 simp only [setc,zA,zB,zC];rfl
theorem zok (g:Nat) (S:Su) (H:Hd) (s:Sn) (lg:Value) (u u':Int):setc [(15,b f u')] (imc g S H s lg u)=imc g S H s lg u':=by
 simp only [setc,zA,zB,zC]
theorem zqN {d:St} {p q:Ip} {H:Hd} {s s2:Sn} {more:List En} (h:Dvx w g ((pm,k (imc g p.su H s lg u) 113 (0,0)) :: K) d W) (hK:∀ x∈K,x.1≠pm)
 (hm:zcO K A2 n2 more) (hn2:n2≤64) (hok:∀ e∈more,e.Ok)
 (k3:(b3,k #[ptr pm] 32 (0,0))∈K) (k4:(b4,k s2.c 43 (0,0))∈K) (k5:(b5,k #[l A2 n2 c2] 54 (0,0))∈K) (k7:(b7,k q.c 65 (0,0))∈K) (k8:(b8,k #[l A n c] 54 (0,0))∈K) :
 t z 101 #[ptr b7,ptr b4,ptr b8,ptr b3,ptr b5] W fun y w'=>y=B (b f 0)∧Dvx w g ((pm,k (imc g q.su H s2 (l A n c) ((rcS q.v (pS q.v) (pO q.v) more).size:Nat)) 113 (0,0)) :: K) d w':=by
 have KZ:Hid (∀ Z u',Dvx w g ((pm,k (imc g q.su H s2 (l A n c) u') 113 (0,0)) :: K) d Z→t z 102 #[b f q.v,l A2 n2 c2] Z fun x w'=>x=B (b f ((rcS q.v (pS q.v) (pO q.v) more).size:Nat))∧Below Z.heap.size Z w') :=
  fun Z u' hZ=>zoj q.v A2 n2 c2 more Z (hm Z fun x hx=>hZ.bk x (ztK _ hx)) hn2 hok
 obtain ⟨S,hS⟩:∃ S:Int,S=((rcS q.v (pS q.v) (pO q.v) more).size:Nat):=⟨_,rfl⟩;rw [←hS] at KZ ⊢;have HH:=zh h;have HK:=zh hK;obtain ⟨c0,c1,y2,c3,c4,c5,c6,c7,c8,c9,c10,c11,c12,c13,c14,c15⟩:=zbi h.drew.hd;obtain ⟨x1,x2,x3,x4,x5,x6,x7,x8,x9,x10,x11,x12,x13,x14,x15⟩:=zgb h.drew.hd;obtain ⟨w0,w1,w2,w3,w4,w5,w6,w7,w8,w9,w10,w11,w12,w13,w14,w15⟩:=zbi h.hd;obtain ⟨z1,z2,z3,z4,z5,z6,z7,z8,z9,z10,z11,z12,z13,z14,z15⟩:=zgb h.hd;have n3:b3≠pm:=hK _ k3;have n4:b4≠pm:=hK _ k4;have n5:b5≠pm:=hK _ k5;have n7:b7≠pm:=hK _ k7;have n8:b8≠pm:=hK _ k8;have o3:pm≠b3:=n3.symm;have o4:pm≠b4:=n4.symm;have o5':pm≠b5:=n5.symm;have o7:pm≠b7:=n7.symm;have o8:pm≠b8:=n8.symm
 have KC:Hid (∀ Z c,Dvx w g ((pm,k c 113 (0,0)) :: K) d Z→Z.cell? ⟨b3,0,i⟩=j (ptr pm)∧Z.cell? ⟨b7,0,i⟩=j (b f q.v)∧Z.cell? ⟨b5,0,i⟩=j (l A2 n2 c2)):=fun Z c hZ =>
  ⟨zcr _ _ 0 _ 32 (0,0) (hZ.get (ztK _ k3)),(zao (hZ.get (ztK _ k7))).1,zcr _ _ 0 _ 54 (0,0) (hZ.get (ztK _ k5))⟩
 have p3:W.cell? ⟨b3,0,i⟩=j (ptr pm):=zcr _ _ 0 _ 32 (0,0) (h.get (ztK _ k3));have q3:W.drew.cell? ⟨b3,0,i⟩=j (ptr pm):=p3;have p8:W.cell? ⟨b8,0,i⟩=j (l A n c):=zcr _ _ 0 _ 54 (0,0) (h.get (ztK _ k8));have q8:W.drew.cell? ⟨b8,0,i⟩=j (l A n c):=p8;obtain ⟨r0,r1,r2⟩:=zae (h.get (ztK _ k4));obtain ⟨r0',r1',r2'⟩:=zae (h.drew.get (ztK _ k4));obtain ⟨i0,i1,i2,i3,i4,i5,i6⟩:=zao (h.get (ztK _ k7));obtain ⟨j0,j1,j2,j3,j4,j5,j6⟩:=zao (h.drew.get (ztK _ k7));clear h hK k3 k4 k5 k7 k8 hS hm hok;unfold ptr at *;go_enter func101,ntmps101
 go_upto_region 1 with fail
 go_region
 go_upto_region 2 with fail
 obtain ⟨W2,hW2⟩:∃ W2,W2=(setl pm [(1,b f q.v),(2,b f q.S),(3,b f q.L),(4,b f q.a),(5,b f q.h),(6,b f q.gl),(7,b f q.sp),(11,b r s2.ix),(12,b r s2.tm),(13,D s2.da),(14,l A n c)] W).drew:=⟨_,rfl⟩
 have H2:Dvx w g ((pm,k (imc g q.su H s2 (l A n c) u) 113 (0,0)) :: K) d W2:=by
  have h2:=(HH.out.puts HK.out [(1,b f q.v),(2,b f q.S),(3,b f q.L),(4,b f q.a),(5,b f q.h),(6,b f q.gl),(7,b f q.sp),(11,b r s2.ix),(12,b r s2.tm),(13,D s2.da),(14,l A n c)]).drew;rw [zqM] at h2;rw [hW2];exact h2
 refine zaf (w:=W2) hW2.symm ?_;have HH2:=zh H2;have HD2:=zh H2.drew;clear hW2 c0 c1 y2 c3 c4 c5 c6 c7 c8 c9 c10 c11 c12 c13 c14 c15 x1 x2 x3 x4 x5 x6 x7 x8 x9 x10 x11 x12 x13 x14 x15 w0 w1 w2 w3 w4 w5 w6 w7 w8 w9 w10 w11 w12 w13 w14 w15 z1 z2 z3 z4 z5 z6 z7 z8 z9 z10 z11 z12 z13 z14 z15 p3 q3 p8 q8 r0 r1 r2 r0' r1' r2' i0 i1 i2 i3 i4 i5 i6 j0 j1 j2 j3 j4 j5 j6 n3 n4 n5 n7 n8 o3 o4 o5' o7 o8 H2 HH;obtain ⟨a0,a1,a2⟩:=KC.out _ _ HD2.out;unfold ptr at *
 go_region_held3 (fun w'=>w'.cell? ⟨b3,0,i⟩=j (E (j ⟨pm,0,i⟩))∧w'.cell? ⟨b7,0,i⟩=j (b f q.v)∧w'.cell? ⟨b5,0,i⟩=j (l A2 n2 c2)) (first|exact ⟨a0,a1,a2⟩|exact ⟨e0,e1,e2⟩|exact ⟨f0,f1,f2⟩) (first
  | (go_at_call 102;(with_reducible refine (KZ.out _ _ HD2.out).mono ?_);rintro y w3 ⟨rfl,b3'⟩;have H3:=HD2.out.below b3';obtain ⟨e0,e1,e2⟩:=KC.out _ _ H3;have c15:=(zbi H3.hd).2.2.2.2.2.2.2.2.2.2.2.2.2.2.2;have z15:=frozen_of_row _ _ 15 _ 113 H3.hd;have H4:=H3.puts HK.out [(15,b f S)];obtain ⟨f0,f1,f2⟩:=KC.out _ _ H4))
 go_wp2;go_ret;refine ⟨rfl,?_⟩;rw [zok] at H4;exact H4
end
end Go.Proofs.YtidndekacnmihaaGreat
