/- Parts of a proof. -/
import Derived.Test.YtidndekacnmihaaGreatF28
set_option linter.unusedVariables false
set_option linter.unusedSimpArgs false
set_option maxHeartbeats 8000000
set_option maxRecDepth 100000
namespace Go.Proofs.YtidndekacnmihaaGreat
open Go.RowKit
section
open Dk
open Ar (Sn sn0)
open J.Sl (Su Hd su0 hd0 sec)
open J (setS setH ldS ldH ldE)
theorem zpI {w W:World} {g pm b3 b4 b5 b8 b9:Nat} {K:List (Nat×Obj)} {d:St} {p:Ip} {H:Hd} {s s2:Sn} {lg:Value} {u:Int} {A A2:Option Addr} {n c n2 c2:Nat} {x:Bool} (h:Dvx w g ((pm,Obj.cells (imc g p.su H s lg u) 113 (0,0)) :: K) d W)
 (k3:(b3,Obj.cells #[ptr pm] 32 (0,0))∈K) (k4:(b4,Obj.cells s2.c 43 (0,0))∈K) (k5:(b5,Obj.cells #[.slice A2 n2 c2] 54 (0,0))∈K) (k8:(b8,Obj.cells #[.slice A n c] 54 (0,0))∈K) (k9:(b9,Obj.cells #[.bool x] 4 (0,0))∈K) :
 Calls Tryz.prog 98 #[ptr b4,ptr b3,ptr b9,ptr b8,ptr b5] W fun y w'=>y=.returned (.int .i64 (if (decide (s.ix≤s2.ix)&&(x&&decide (n=n2))) then 0 else 1))∧Dvx w g ((pm,Obj.cells (imc g p.su H s lg u) 113 (0,0)) :: K) d w':=by
 have KO:=zh (fun x Z=>zhb x Z);have HH:=zh h;have HHd:=zh h.drew;obtain ⟨e0,e1,e2⟩:=zae (h.get (zsA _ k4));have f3:W.cell? ⟨b3,0,none⟩=some (ptr pm):=zcr _ _ 0 _ 32 (0,0) (h.get (zsA _ k3));have f5:W.cell? ⟨b5,0,none⟩=some (.slice A2 n2 c2):=zcr _ _ 0 _ 54 (0,0) (h.get (zsA _ k5));have f8:W.cell? ⟨b8,0,none⟩=some (.slice A n c):=zcr _ _ 0 _ 54 (0,0) (h.get (zsA _ k8));have f9:W.cell? ⟨b9,0,none⟩=some (.bool x):=zcr _ _ 0 _ 4 (0,0) (h.get (zsA _ k9));have f11:W.cell? ⟨pm,11,none⟩=some (.int .u64 s.ix):=zcr _ _ 11 _ 113 (0,0) h.hd;clear h k3 k4 k5 k8 k9
 by_cases h1:s.ix≤s2.ix
 ·have t1:decide ((s.ix:Int)≤(s2.ix:Int))=true:=zsD (by omega);have t1':decide (s.ix≤s2.ix)=true:=zsD h1;rw [t1']
  cases x with
  | true =>
    by_cases h2:n=n2
    ·subst h2;have t2:decide (n=n)=true:=zsD rfl;have t3:((n:Int)==(n:Int))=true:=by simp
     rw [t2];unfold ptr at *;go_enter Tryz.func98,Tryz.ntmps98
     go_upto_region 1 with fail
     go_still_tail 19,(by kernel_rfl)
     change wpList _ _ _ _ _ W.drew
     go_wp2_with (go_at_call 78;(with_reducible refine (KO.out true _).mono ?_);rintro q w1 ⟨rfl,rfl⟩)
     go_ret;exact ⟨rfl,HHd.out⟩
    ·have t2:decide (n=n2)=false:=zsC h2;have t3:((n:Int)==(n2:Int))=false:=by simp;omega
     rw [t2];unfold ptr at *;go_enter Tryz.func98,Tryz.ntmps98
     go_upto_region 1 with fail
     go_still_tail 19,(by kernel_rfl)
     change wpList _ _ _ _ _ W.drew
     go_wp2_with (go_at_call 78;(with_reducible refine (KO.out false _).mono ?_);rintro q w1 ⟨rfl,rfl⟩)
     go_ret;exact ⟨rfl,HHd.out⟩
  | false =>
    unfold ptr at *;go_enter Tryz.func98,Tryz.ntmps98
    go_upto_region 1 with fail
    go_still_tail 19,(by kernel_rfl)
    change wpList _ _ _ _ _ W.drew
    go_wp2_with (go_at_call 78;(with_reducible refine (KO.out false _).mono ?_);rintro q w1 ⟨rfl,rfl⟩)
    go_ret;exact ⟨rfl,HHd.out⟩
 ·have t1:decide ((s.ix:Int)≤(s2.ix:Int))=false:=zsC (by omega);have t1':decide (s.ix≤s2.ix)=false:=zsC h1;rw [t1'];unfold ptr at *;go_enter Tryz.func98,Tryz.ntmps98
  go_upto_region 1 with fail
  go_still_tail 19,(by kernel_rfl)
  change wpList _ _ _ _ _ W.drew
  go_wp2_with (go_at_call 78;(with_reducible refine (KO.out false _).mono ?_);rintro q w1 ⟨rfl,rfl⟩)
  go_ret;exact ⟨rfl,HHd.out⟩
theorem zpJ {w W:World} {g pm b3 b4 b5 b7:Nat} {K:List (Nat×Obj)} {d:St} {p q:Ip} {H:Hd} {s s2:Sn} {lg:Value} {u:Int} {A2:Option Addr} {n2 c2:Nat} {more:List En} (h:Dvx w g ((pm,Obj.cells (imc g p.su H s lg u) 113 (0,0)) :: K) d W) (ok:q.Ok) (sok:s2.Ok)
 (hm:zcI K A2 n2 more) (hn2:n2≤64) (hok:∀ e∈more,e.Ok)
 (k3:(b3,Obj.cells #[ptr pm] 32 (0,0))∈K) (k4:(b4,Obj.cells s2.c 43 (0,0))∈K) (k5:(b5,Obj.cells #[.slice A2 n2 c2] 54 (0,0))∈K) (k7:(b7,Obj.cells q.c 65 (0,0))∈K) :
 Calls Tryz.prog 99 #[ptr b3,ptr b7,ptr b4,ptr b5] W fun y w'=>y=.returned (.int .i64 (fiS d q s2 more).2)∧Dvx w g ((pm,Obj.cells (imc g p.su H s lg u) 113 (0,0)) :: K) (fiS d q s2 more).1 w':=by
 have KF:Hid (∀ Z,Dvx w g ((pm,Obj.cells (imc g p.su H s lg u) 113 (0,0)) :: K) d Z→Calls Tryz.prog 42 #[ptr g,.agg #[.int .i64 q.v,.int .i64 q.S,.int .i64 q.L,.int .i64 q.a,.int .i64 q.h,.int .i64 q.gl,.int .i64 q.sp],.agg #[.int .u64 s2.ix,.int .u64 s2.tm,.string s2.da],.slice A2 n2 c2] Z fun x w'=>x=.returned (.int .i64 (fiS d q s2 more).2)∧Dvx w g ((pm,Obj.cells (imc g p.su H s lg u) 113 (0,0)) :: K) (fiS d q s2 more).1 w') :=
  fun Z hZ=>zk9 hZ ok sok (hm.sub fun q hq=>zsA _ hq) hn2 hok
 obtain ⟨T,hT⟩:∃ T,T=fiS d q s2 more:=⟨_,rfl⟩;rw [←hT] at KF ⊢;have HD:=zh h.drew
 have KC:Hid (∀ d' Z,Dvx w g ((pm,Obj.cells (imc g p.su H s lg u) 113 (0,0)) :: K) d' Z→(Z.cell? ⟨b3,0,none⟩=some (ptr pm)∧Z.cell? ⟨pm,0,none⟩=some (ptr g)∧Z.cell? ⟨b5,0,none⟩=some (.slice A2 n2 c2))∧(Z.cell? ⟨b4,0,none⟩=some (.int .u64 s2.ix)∧Z.cell? ⟨b4,1,none⟩=some (.int .u64 s2.tm)∧Z.cell? ⟨b4,2,none⟩=some (.string s2.da))∧Z.cell? ⟨b7,0,none⟩=some (.int .i64 q.v)∧Z.cell? ⟨b7,1,none⟩=some (.int .i64 q.S)∧Z.cell? ⟨b7,2,none⟩=some (.int .i64 q.L)∧Z.cell? ⟨b7,3,none⟩=some (.int .i64 q.a)∧Z.cell? ⟨b7,4,none⟩=some (.int .i64 q.h)∧Z.cell? ⟨b7,5,none⟩=some (.int .i64 q.gl)∧Z.cell? ⟨b7,6,none⟩=some (.int .i64 q.sp)):=fun d' Z hZ =>
  ⟨⟨zcr _ _ 0 _ 32 (0,0) (hZ.get (zsA _ k3)),zcr _ _ 0 _ 113 (0,0) hZ.hd,zcr _ _ 0 _ 54 (0,0) (hZ.get (zsA _ k5))⟩,zae (hZ.get (zsA _ k4)),zao (hZ.get (zsA _ k7))⟩
 obtain ⟨⟨c0,c1,y2⟩,⟨v0,v1,v2⟩,a0,a1,a2,a3,a4,a5,a6⟩:=KC.out _ _ h.drew;clear h hT k3 k4 k5 k7 ok sok hm hok;unfold ptr at *;go_enter Tryz.func99,Tryz.ntmps99
 go_upto_region 1 with fail
 go_region_held3 (fun w'=>w'.cell? ⟨b3,0,none⟩=some (.pointer (some ⟨pm,0,none⟩))∧w'.cell? ⟨pm,0,none⟩=some (.pointer (some ⟨g,0,none⟩))∧w'.cell? ⟨b5,0,none⟩=some (.slice A2 n2 c2)∧w'.cell? ⟨b4,0,none⟩=some (.int .u64 s2.ix)∧w'.cell? ⟨b4,1,none⟩=some (.int .u64 s2.tm)∧w'.cell? ⟨b4,2,none⟩=some (.string s2.da)∧w'.cell? ⟨b7,0,none⟩=some (.int .i64 q.v)∧w'.cell? ⟨b7,1,none⟩=some (.int .i64 q.S)∧w'.cell? ⟨b7,2,none⟩=some (.int .i64 q.L)∧w'.cell? ⟨b7,3,none⟩=some (.int .i64 q.a)∧w'.cell? ⟨b7,4,none⟩=some (.int .i64 q.h)∧w'.cell? ⟨b7,5,none⟩=some (.int .i64 q.gl)∧w'.cell? ⟨b7,6,none⟩=some (.int .i64 q.sp)) (first|exact ⟨c0,c1,y2,v0,v1,v2,a0,a1,a2,a3,a4,a5,a6⟩|exact ⟨i0,i1,i2,j0,j1,j2,b_0,b_1,b_2,b_3,b_4,b_5,b_6⟩) (first
  | (go_at_call 42;(with_reducible refine (KF.out _ HD.out).mono ?_);rintro q w1 ⟨rfl,H1⟩;obtain ⟨⟨i0,i1,i2⟩,⟨j0,j1,j2⟩,b_0,b_1,b_2,b_3,b_4,b_5,b_6⟩:=KC.out _ _ H1))
 go_wp2;go_ret;exact ⟨rfl,H1⟩
theorem zpK {w W:World} {g pm b3 b7:Nat} {K:List (Nat×Obj)} {d:St} {p q:Ip} {H:Hd} {s:Sn} {lg:Value} {u:Int} (h:Dvx w g ((pm,Obj.cells (imc g p.su H s lg u) 113 (0,0)) :: K) d W)
 (k3:(b3,Obj.cells #[ptr pm] 32 (0,0))∈K) (k7:(b7,Obj.cells q.c 65 (0,0))∈K) :
 Calls Tryz.prog 100 #[ptr b3,ptr b7] W fun y w'=>y=.returned (.int .i64 (setS d q.su).2)∧Dvx w g ((pm,Obj.cells (imc g p.su H s lg u) 113 (0,0)) :: K) (setS d q.su).1 w':=by
 have KF:Hid (∀ Z,Dvx w g ((pm,Obj.cells (imc g p.su H s lg u) 113 (0,0)) :: K) d Z→Calls Tryz.prog 46 #[ptr g,.agg #[.int .i64 q.v,.int .i64 q.S,.int .i64 q.L,.int .i64 q.a,.int .i64 q.h,.int .i64 q.gl,.int .i64 q.sp]] Z fun x w'=>x=.returned (.int .i64 (setS d q.su).2)∧Dvx w g ((pm,Obj.cells (imc g p.su H s lg u) 113 (0,0)) :: K) (setS d q.su).1 w') :=
  fun Z hZ=>hZ.c1 fun L hD=>J.zek g L d q.su Z hD
 obtain ⟨T,hT⟩:∃ T,T=setS d q.su:=⟨_,rfl⟩;rw [←hT] at KF ⊢;have HD:=zh h.drew
 have KC:Hid (∀ d' Z,Dvx w g ((pm,Obj.cells (imc g p.su H s lg u) 113 (0,0)) :: K) d' Z→(Z.cell? ⟨b3,0,none⟩=some (ptr pm)∧Z.cell? ⟨pm,0,none⟩=some (ptr g))∧Z.cell? ⟨b7,0,none⟩=some (.int .i64 q.v)∧Z.cell? ⟨b7,1,none⟩=some (.int .i64 q.S)∧Z.cell? ⟨b7,2,none⟩=some (.int .i64 q.L)∧Z.cell? ⟨b7,3,none⟩=some (.int .i64 q.a)∧Z.cell? ⟨b7,4,none⟩=some (.int .i64 q.h)∧Z.cell? ⟨b7,5,none⟩=some (.int .i64 q.gl)∧Z.cell? ⟨b7,6,none⟩=some (.int .i64 q.sp)):=fun d' Z hZ =>
  ⟨⟨zcr _ _ 0 _ 32 (0,0) (hZ.get (zsA _ k3)),zcr _ _ 0 _ 113 (0,0) hZ.hd⟩,zao (hZ.get (zsA _ k7))⟩
 obtain ⟨⟨c0,c1⟩,a0,a1,a2,a3,a4,a5,a6⟩:=KC.out _ _ h.drew;clear h hT k3 k7;unfold ptr at *;go_enter Tryz.func100,Tryz.ntmps100
 go_upto_region 1 with fail
 go_region_held3 (fun w'=>w'.cell? ⟨b3,0,none⟩=some (.pointer (some ⟨pm,0,none⟩))∧w'.cell? ⟨pm,0,none⟩=some (.pointer (some ⟨g,0,none⟩))∧w'.cell? ⟨b7,0,none⟩=some (.int .i64 q.v)∧w'.cell? ⟨b7,1,none⟩=some (.int .i64 q.S)∧w'.cell? ⟨b7,2,none⟩=some (.int .i64 q.L)∧w'.cell? ⟨b7,3,none⟩=some (.int .i64 q.a)∧w'.cell? ⟨b7,4,none⟩=some (.int .i64 q.h)∧w'.cell? ⟨b7,5,none⟩=some (.int .i64 q.gl)∧w'.cell? ⟨b7,6,none⟩=some (.int .i64 q.sp)) (first|exact ⟨c0,c1,a0,a1,a2,a3,a4,a5,a6⟩|exact ⟨i0,i1,b_0,b_1,b_2,b_3,b_4,b_5,b_6⟩) (first
  | (go_at_call 46;(with_reducible refine (KF.out _ HD.out).mono ?_);rintro q w1 ⟨rfl,H1⟩;obtain ⟨⟨i0,i1⟩,b_0,b_1,b_2,b_3,b_4,b_5,b_6⟩:=KC.out _ _ H1))
 go_wp2;go_ret;exact ⟨rfl,H1⟩
theorem znx (v:Int) (A:Option Addr) (n c:Nat) (es:List En) (Z:World) (hE:zcJ Z.heap.size A n es Z) (hn:n≤64) (ok:∀ e∈es,e.Ok) :
 Calls Tryz.prog 102 #[.int .i64 v,.slice A n c] Z fun x w'=>x=.returned (.int .i64 ((rcS v (pS v) (pO v) es).size:Nat))∧Below Z.heap.size Z w':=by
 have K:=zh (zfD v (pS v) (pO v) A n c es Z hE hn (fun e _=>zsB (zfA v e) (by omega)) (zmI v es ok));obtain ⟨S,hS⟩:∃ S,S=rcS v (pS v) (pO v) es:=⟨_,rfl⟩;rw [←hS] at K ⊢;clear hE ok hS;go_enter Tryz.func102,Tryz.ntmps102
 go_wp2_with (go_at_call 154;(with_reducible refine K.out.mono ?_);rintro q w1 ⟨rfl,b1⟩)
 go_ret;exact ⟨rfl,b1⟩
end
section
open Dk
open Ar (Sn sn0)
open J.Sl (Su Hd su0 hd0 sec)
open J (setS setH ldS ldH ldE)
theorem zpL (g:Nat) (S:Su) (q:Ip) (H:Hd) (s s2:Sn) (lg lg2:Value) (u:Int):setc [(1,.int .i64 q.v),(2,.int .i64 q.S),(3,.int .i64 q.L),(4,.int .i64 q.a),(5,.int .i64 q.h),(6,.int .i64 q.gl),(7,.int .i64 q.sp),(11,.int .u64 s2.ix),(12,.int .u64 s2.tm),(13,.string s2.da),(14,lg2)] (imc g S H s lg u)=imc g q.su H s2 lg2 u:=by
 simp only [setc,zA,zB,zC];rfl
theorem zny (g:Nat) (S:Su) (H:Hd) (s:Sn) (lg:Value) (u u':Int):setc [(15,.int .i64 u')] (imc g S H s lg u)=imc g S H s lg u':=by
 simp only [setc,zA,zB,zC]
theorem zpM {w W:World} {g pm b3 b4 b5 b7 b8:Nat} {K:List (Nat×Obj)} {d:St} {p q:Ip} {H:Hd} {s s2:Sn} {lg:Value} {u:Int} {A A2:Option Addr} {n c n2 c2:Nat} {more:List En} (h:Dvx w g ((pm,Obj.cells (imc g p.su H s lg u) 113 (0,0)) :: K) d W) (hK:∀ x∈K,x.1≠pm)
 (hm:zcI K A2 n2 more) (hn2:n2≤64) (hok:∀ e∈more,e.Ok)
 (k3:(b3,Obj.cells #[ptr pm] 32 (0,0))∈K) (k4:(b4,Obj.cells s2.c 43 (0,0))∈K) (k5:(b5,Obj.cells #[.slice A2 n2 c2] 54 (0,0))∈K) (k7:(b7,Obj.cells q.c 65 (0,0))∈K) (k8:(b8,Obj.cells #[.slice A n c] 54 (0,0))∈K) :
 Calls Tryz.prog 101 #[ptr b7,ptr b4,ptr b8,ptr b3,ptr b5] W fun y w'=>y=.returned (.int .i64 0)∧Dvx w g ((pm,Obj.cells (imc g q.su H s2 (.slice A n c) ((rcS q.v (pS q.v) (pO q.v) more).size:Nat)) 113 (0,0)) :: K) d w':=by
 have KZ:Hid (∀ Z u',Dvx w g ((pm,Obj.cells (imc g q.su H s2 (.slice A n c) u') 113 (0,0)) :: K) d Z→Calls Tryz.prog 102 #[.int .i64 q.v,.slice A2 n2 c2] Z fun x w'=>x=.returned (.int .i64 ((rcS q.v (pS q.v) (pO q.v) more).size:Nat))∧Below Z.heap.size Z w') :=
  fun Z u' hZ=>znx q.v A2 n2 c2 more Z (hm Z fun x hx=>hZ.bk x (zsA _ hx)) hn2 hok
 obtain ⟨S,hS⟩:∃ S:Int,S=((rcS q.v (pS q.v) (pO q.v) more).size:Nat):=⟨_,rfl⟩;rw [←hS] at KZ ⊢;have HH:=zh h;have HK:=zh hK;obtain ⟨c0,c1,y2,c3,c4,c5,c6,c7,c8,c9,c10,c11,c12,c13,c14,c15⟩:=zbh h.drew.hd;obtain ⟨x1,x2,x3,x4,x5,x6,x7,x8,x9,x10,x11,x12,x13,x14,x15⟩:=zf4 h.drew.hd;obtain ⟨w0,w1,w2,w3,w4,w5,w6,w7,w8,w9,w10,w11,w12,w13,w14,w15⟩:=zbh h.hd;obtain ⟨z1,z2,z3,z4,z5,z6,z7,z8,z9,z10,z11,z12,z13,z14,z15⟩:=zf4 h.hd;have n3:b3≠pm:=hK _ k3;have n4:b4≠pm:=hK _ k4;have n5:b5≠pm:=hK _ k5;have n7:b7≠pm:=hK _ k7;have n8:b8≠pm:=hK _ k8;have o3:pm≠b3:=n3.symm;have o4:pm≠b4:=n4.symm;have o5':pm≠b5:=n5.symm;have o7:pm≠b7:=n7.symm;have o8:pm≠b8:=n8.symm
 have KC:Hid (∀ Z c,Dvx w g ((pm,Obj.cells c 113 (0,0)) :: K) d Z→Z.cell? ⟨b3,0,none⟩=some (ptr pm)∧Z.cell? ⟨b7,0,none⟩=some (.int .i64 q.v)∧Z.cell? ⟨b5,0,none⟩=some (.slice A2 n2 c2)):=fun Z c hZ =>
  ⟨zcr _ _ 0 _ 32 (0,0) (hZ.get (zsA _ k3)),(zao (hZ.get (zsA _ k7))).1,zcr _ _ 0 _ 54 (0,0) (hZ.get (zsA _ k5))⟩
 have p3:W.cell? ⟨b3,0,none⟩=some (ptr pm):=zcr _ _ 0 _ 32 (0,0) (h.get (zsA _ k3));have q3:W.drew.cell? ⟨b3,0,none⟩=some (ptr pm):=p3;have p8:W.cell? ⟨b8,0,none⟩=some (.slice A n c):=zcr _ _ 0 _ 54 (0,0) (h.get (zsA _ k8));have q8:W.drew.cell? ⟨b8,0,none⟩=some (.slice A n c):=p8;obtain ⟨r0,r1,r2⟩:=zae (h.get (zsA _ k4));obtain ⟨r0',r1',r2'⟩:=zae (h.drew.get (zsA _ k4));obtain ⟨i0,i1,i2,i3,i4,i5,i6⟩:=zao (h.get (zsA _ k7));obtain ⟨j0,j1,j2,j3,j4,j5,j6⟩:=zao (h.drew.get (zsA _ k7));clear h hK k3 k4 k5 k7 k8 hS hm hok;unfold ptr at *;go_enter Tryz.func101,Tryz.ntmps101
 go_upto_region 1 with fail
 go_region
 go_upto_region 2 with fail
 obtain ⟨W2,hW2⟩:∃ W2,W2=(setl pm [(1,.int .i64 q.v),(2,.int .i64 q.S),(3,.int .i64 q.L),(4,.int .i64 q.a),(5,.int .i64 q.h),(6,.int .i64 q.gl),(7,.int .i64 q.sp),(11,.int .u64 s2.ix),(12,.int .u64 s2.tm),(13,.string s2.da),(14,.slice A n c)] W).drew:=⟨_,rfl⟩
 have H2:Dvx w g ((pm,Obj.cells (imc g q.su H s2 (.slice A n c) u) 113 (0,0)) :: K) d W2:=by
  have h2:=(HH.out.puts HK.out [(1,.int .i64 q.v),(2,.int .i64 q.S),(3,.int .i64 q.L),(4,.int .i64 q.a),(5,.int .i64 q.h),(6,.int .i64 q.gl),(7,.int .i64 q.sp),(11,.int .u64 s2.ix),(12,.int .u64 s2.tm),(13,.string s2.da),(14,.slice A n c)]).drew;rw [zpL] at h2;rw [hW2];exact h2
 refine zaf (w:=W2) hW2.symm ?_;have HH2:=zh H2;have HD2:=zh H2.drew;clear hW2 c0 c1 y2 c3 c4 c5 c6 c7 c8 c9 c10 c11 c12 c13 c14 c15 x1 x2 x3 x4 x5 x6 x7 x8 x9 x10 x11 x12 x13 x14 x15 w0 w1 w2 w3 w4 w5 w6 w7 w8 w9 w10 w11 w12 w13 w14 w15 z1 z2 z3 z4 z5 z6 z7 z8 z9 z10 z11 z12 z13 z14 z15 p3 q3 p8 q8 r0 r1 r2 r0' r1' r2' i0 i1 i2 i3 i4 i5 i6 j0 j1 j2 j3 j4 j5 j6 n3 n4 n5 n7 n8 o3 o4 o5' o7 o8 H2 HH;obtain ⟨a0,a1,a2⟩:=KC.out _ _ HD2.out;unfold ptr at *
 go_region_held3 (fun w'=>w'.cell? ⟨b3,0,none⟩=some (.pointer (some ⟨pm,0,none⟩))∧w'.cell? ⟨b7,0,none⟩=some (.int .i64 q.v)∧w'.cell? ⟨b5,0,none⟩=some (.slice A2 n2 c2)) (first|exact ⟨a0,a1,a2⟩|exact ⟨e0,e1,e2⟩|exact ⟨f0,f1,f2⟩) (first
  | (go_at_call 102;(with_reducible refine (KZ.out _ _ HD2.out).mono ?_);rintro y w3 ⟨rfl,b3'⟩;have H3:=HD2.out.below b3';obtain ⟨e0,e1,e2⟩:=KC.out _ _ H3;have c15:=(zbh H3.hd).2.2.2.2.2.2.2.2.2.2.2.2.2.2.2;have z15:=frozen_of_row _ _ 15 _ 113 H3.hd;have H4:=H3.puts HK.out [(15,.int .i64 S)];obtain ⟨f0,f1,f2⟩:=KC.out _ _ H4))
 go_wp2;go_ret;refine ⟨rfl,?_⟩;rw [zny] at H4;exact H4
end
end Go.Proofs.YtidndekacnmihaaGreat
