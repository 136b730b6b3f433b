/- Parts of a proof. -/
import Derived.Test.YtidndekacnmihaaGreatC30
set_option linter.all false
set_option maxHeartbeats 8000000
set_option maxRecDepth 100000
namespace Go.Proofs.YtidndekacnmihaaGreat
open Bool renaming false→R,true→V
open Ending renaming returned→O
open Go renaming Calls→M,Value→X
open IntKind renaming i64→D,u64→Q
open Obj renaming cells→f
open Option renaming none→C,some→E
open Tryz renaming prog→N
open Value renaming int→l,slice→F,bool→G,pointer→U
open Tryz
variable {W w:World} {b b2 b3 b5 b6 b7 c c' c2 g j k n n' n2 pm t:Nat} {K:List (Nat×Obj)} {lg v:X} {u:Int} {A A' A2:Option Addr}
open Go.RowKit
section
open Dk
open Ar (Sn sn0)
open J.Sl (Su Hd su0 hd0 sec)
open J (setS setH ldS ldH ldE)
theorem ziC {d:St} {p:Ip} {H:Hd} {s:Sn} (h:Dvx w g ((pm,f (imc g p.su H s lg u) 113 (0,0)) :: K) d W) (hg:p.gl=0) :
 M N 76 #[ptr pm] W fun x w'=>x=O (l D 0)∧Dvx w g ((pm,f (imc g p.su H s lg u) 113 (0,0)) :: K) d w':=by
 have c6:W.cell? ⟨pm,6,C⟩=E (l D p.gl):=(zbi h.hd).2.2.2.2.2.2.1;rw [hg] at c6;have HH:=zh h;clear h hg;unfold ptr at *;go_enter func76,ntmps76;go_wp2;go_ret;exact ⟨rfl,HH.out⟩
theorem zax {s:Hd} (h:w.heap[b]?=E (f s.c t (0,0))) :
 w.cell? ⟨b,0,C⟩=E (l Q s.tm)∧w.cell? ⟨b,1,C⟩=E (l D s.vo)∧w.cell? ⟨b,2,C⟩=E (l Q s.cm) :=
 ⟨zcr _ _ 0 _ t (0,0) h,zcr _ _ 1 _ t (0,0) h,zcr _ _ 2 _ t (0,0) h⟩
theorem zr3 {d:St} {p:Ip} {H hh:Hd} {s:Sn} (h:Dvx w g ((pm,f (imc g p.su H s lg u) 113 (0,0)) :: K) d W) (ho:hh.Ok)
 (k2:(b2,f #[ptr pm] 32 (0,0))∈K) (k3:(b3,f hh.c 41 (0,0))∈K) :
 M N 85 #[ptr b2,ptr b3] W fun x w'=>x=O (l D (setH d p.v hh).2)∧Dvx w g ((pm,f (imc g p.su H s lg u) 113 (0,0)) :: K) (setH d p.v hh).1 w':=by
 have KW:Hid (∀ Z,Dvx w g ((pm,f (imc g p.su H s lg u) 113 (0,0)) :: K) d Z→M N 44 #[ptr g,l D p.v,.agg #[l Q hh.tm,l D hh.vo,l Q hh.cm]] Z fun x w'=>x=O (l D (setH d p.v hh).2)∧Dvx w g ((pm,f (imc g p.su H s lg u) 113 (0,0)) :: K) (setH d p.v hh).1 w') :=
  fun Z hZ=>hZ.c1 fun L hD=>J.zff g L d p.v hh Z hD ho
 obtain ⟨T,hT⟩:∃ T,T=setH d p.v hh:=⟨_,rfl⟩;rw [←hT] at KW ⊢;have HH:=zh h;have HD:=zh h.drew;obtain ⟨c0,c1,_⟩:=znU h.drew.hd;obtain ⟨e0,e1,e2⟩:=zax (h.drew.get (ztK _ k3));have f0:W.drew.cell? ⟨b2,0,C⟩=E (ptr pm):=zcr _ _ 0 _ 32 (0,0) (h.drew.get (ztK _ k2))
 have KC:Hid (∀ Z,Dvx w g ((pm,f (imc g p.su H s lg u) 113 (0,0)) :: K) T.1 Z→Z.cell? ⟨b2,0,C⟩=E (ptr pm)∧Z.cell? ⟨pm,0,C⟩=E (ptr g)∧Z.cell? ⟨pm,1,C⟩=E (l D p.v)∧Z.cell? ⟨b3,0,C⟩=E (l Q hh.tm)∧Z.cell? ⟨b3,1,C⟩=E (l D hh.vo)∧Z.cell? ⟨b3,2,C⟩=E (l Q hh.cm)):=fun Z hZ=>by
  obtain ⟨x0,x1,_⟩:=znU hZ.hd;obtain ⟨y0,y1,y2⟩:=zax (hZ.get (ztK _ k3));exact ⟨zcr _ _ 0 _ 32 (0,0) (hZ.get (ztK _ k2)),x0,x1,y0,y1,y2⟩
 clear h hT k2 k3 ho;unfold ptr at *;go_enter func85,ntmps85
 go_upto_region 1 with fail
 go_region_held3 (fun w'=>w'.cell? ⟨b2,0,C⟩=E (U (E ⟨pm,0,C⟩))∧w'.cell? ⟨pm,0,C⟩=E (U (E ⟨g,0,C⟩))∧w'.cell? ⟨pm,1,C⟩=E (l D p.v)∧w'.cell? ⟨b3,0,C⟩=E (l Q hh.tm)∧w'.cell? ⟨b3,1,C⟩=E (l D hh.vo)∧w'.cell? ⟨b3,2,C⟩=E (l Q hh.cm)) (first|exact ⟨f0,c0,c1,e0,e1,e2⟩|exact ⟨v0,v1,v2,v3,v4,v5⟩) (first
  | (go_at_call 44;(with_reducible refine (KW.out _ HD.out).mono ?_);rintro q w2 ⟨rfl,H2⟩;obtain ⟨v0,v1,v2,v3,v4,v5⟩:=KC.out _ H2))
 go_wp2;go_ret;exact ⟨rfl,H2⟩
theorem zjr (g:Nat) (S:Su) (H Y:Hd) (s:Sn) (lg:X) (u:Int):setc [(8,l Q Y.tm),(9,l D Y.vo),(10,l Q Y.cm)] (imc g S H s lg u)=imc g S Y s lg u:=by
 simp only [setc,zA,zB,zC]
theorem zr4 {d:St} {p:Ip} {H hh:Hd} {s:Sn} (h:Dvx w g ((pm,f (imc g p.su H s lg u) 113 (0,0)) :: K) d W) (hK:∀ q∈K,q.1≠pm)
 (k2:(b2,f #[ptr pm] 32 (0,0))∈K) (k3:(b3,f hh.c 41 (0,0))∈K) :
 M N 86 #[ptr b3,ptr b2] W fun x w'=>x=O (l D 0)∧Dvx w g ((pm,f (imc g p.su hh s lg u) 113 (0,0)) :: K) d w':=by
 have HH:=zh h;have HK:=zh hK;obtain ⟨c0,c1,c2,c3,c4,c5,c6,c7,c8,c9,c10,c11,c12,c13,c14,c15⟩:=zbi h.hd;obtain ⟨x1,x2,x3,x4,x5,x6,x7,x8,x9,x10,x11,x12,x13,x14,x15⟩:=zgb h.hd;obtain ⟨e0,e1,e2⟩:=zax (h.get (ztK _ k3));have f0:W.cell? ⟨b2,0,C⟩=E (ptr pm):=zcr _ _ 0 _ 32 (0,0) (h.get (ztK _ k2));clear h hK k2 k3;unfold ptr at *;go_enter func86,ntmps86;go_wp2;go_ret;refine ⟨rfl,?_⟩;have h2:=HH.out.puts HK.out [(8,l Q hh.tm),(9,l D hh.vo),(10,l Q hh.cm)];rw [zjr] at h2;exact h2
theorem zku {d d':St} {p:Ip} {H hh:Hd} {s:Sn} (h:Dvx w g ((pm,f (imc g p.su H s lg u) 113 (0,0)) :: K) d W) (hK:∀ q∈K,q.1≠pm) (hg:p.gl=0) (ho:hh.Ok)
 (hs:setH d p.v hh=(d',0)) :
 M N 29 #[ptr pm,hh.val] W fun x w'=>x=O (l D 0)∧Dvx w g ((pm,f (imc g p.su hh s lg u) 113 (0,0)) :: K) d' w':=by
 obtain ⟨B,hB⟩:∃ B,B=W.heap.size:=⟨_,rfl⟩;have hlp:=h.lt _ (zt0 ..);have hlp':pm<B:=by rw [hB];exact hlp
 obtain ⟨W1,hW1⟩:∃ W1,W1=(W.alloc (f #[ptr pm] 32)).alloc (f hh.c 41):=⟨_,rfl⟩;have hsz:W1.heap.size=B+2:=by rw [hW1,hB];simp
 obtain ⟨fs,hfs⟩:∃ fs:Array X,fs=#[.func (.func 76) #[ptr pm] #[],.func (.func 85) #[] #[ptr B,ptr (B+1)],.func (.func 86) #[] #[ptr (B+1),ptr B]]:=⟨_,rfl⟩;obtain ⟨K1,hK1⟩:∃ K1,K1=(B+2,f fs 96 (0,0)) :: (B+1,f hh.c 41 (0,0)) :: (B,f #[ptr pm] 32 (0,0)) :: K:=⟨_,rfl⟩
 have h1:Dvx w g ((B+1,f hh.c 41 (0,0)) :: (B,f #[ptr pm] 32 (0,0)) :: ((pm,f (imc g p.su H s lg u) 113 (0,0)) :: K)) d W1:=by
  have:=(h.al (f #[ptr pm] 32)).al (f hh.c 41)
  rw [ztR,←hB] at this;rw [hW1];exact this
 have c0:W1.cell? ⟨B,0,C⟩=E (ptr pm):=zcr _ _ 0 _ 32 (0,0) (h1.get (k:=B) (o:=f #[ptr pm] 32 (0,0)) (by simp));obtain ⟨W2,hW2⟩:∃ W2,W2=W1.alloc (f fs 96):=⟨_,rfl⟩
 have h2:Dvx w g ((pm,f (imc g p.su H s lg u) 113 (0,0)) :: K1) d W2:=by
  have:=h1.al (f fs 96)
  rw [hsz] at this;rw [hW2,hK1];exact this.drop fun q hq=>by simp only [ztT] at hq ⊢;rcases hq with h|h|h|h|h<;>simp [h]
 have hn1:∀ q∈K1,q.1≠pm:=fun q hq=>by
  rw [hK1] at hq;simp only [ztT] at hq;rcases hq with rfl|rfl|rfl|hq
  ·show B+2≠pm;omega
  ·show B+1≠pm;omega
  ·show B≠pm;omega
  ·exact hK q hq
 have m0:(B+2,f fs 96 (0,0))∈K1:=by rw [hK1];simp
 have m1:(B+1,f hh.c 41 (0,0))∈K1:=by rw [hK1];simp
 have m2:(B,f #[ptr pm] 32 (0,0))∈K1:=by rw [hK1];simp
 have hsub:∀ q∈K,q∈K1:=fun q hq=>by rw [hK1];simp [hq]
 have KT:M N 40 #[F (E ⟨B+2,0,C⟩) 3 3] W2 fun e w'=>e=O (l D 0)∧Dvx w g ((pm,f (imc g p.su hh s lg u) 113 (0,0)) :: K) d' w':=by
  rw [hfs] at m0
  refine (zlH (K:=K1) m0 (fun xs w=>rfl) (fun xs w=>rfl) (fun xs w=>rfl) (fun Z=>Dvx w g ((pm,f (imc g p.su H s lg u) 113 (0,0)) :: K1) d Z) (fun Z=>Dvx w g ((pm,f (imc g p.su H s lg u) 113 (0,0)) :: K1) d Z)
   (fun Z=>Dvx w g ((pm,f (imc g p.su H s lg u) 113 (0,0)) :: K1) d' Z) (fun Z=>Dvx w g ((pm,f (imc g p.su hh s lg u) 113 (0,0)) :: K1) d' Z) (fun _ _=>False)
   (fun Z h q hq=>h.bk q (ztK _ hq)) (fun Z h q hq=>h.bk q (ztK _ hq)) (fun Z h q hq=>h.bk q (ztK _ hq)) (fun Z h=>h.bk _ (ztK _ m0)) h2 ?_ ?_ ?_).mono ?_
  ·exact Stp.of (fun Z hZ=>ziC hZ hg) (fun Z _ hP=>hP) (fun Z hz _=>absurd rfl hz)
  ·refine Stp.of (r:=0) (P:=fun Z=>Dvx w g ((pm,f (imc g p.su H s lg u) 113 (0,0)) :: K1) d' Z) (fun Z hZ=>?_) (fun Z _ hP=>hP) (fun Z hz _=>absurd rfl hz)
   have:=zr3 hZ ho m2 m1
   rw [hs] at this;exact this
  ·exact Stp.of (fun Z hZ=>zr4 hZ hn1 m2 m1) (fun Z _ hP=>hP) (fun Z hz _=>absurd rfl hz)
  ·rintro e w' ⟨z,rfl,hz0,hz1⟩
   by_cases hz:z=0
   ·exact ⟨by rw [hz],(hz0 hz).drop fun q hq=>by
     rcases ztT.1 hq with h|h
     ·rw [h];simp
     ·exact ztK _ (hsub _ h)⟩
   ·exact (hz1 hz).elim
 rw [hW2,hfs,←hsz] at KT;have HT:=zh KT;have HW1:=zh hW1;have HB:=zh hB;clear KT hsub m0 m1 m2 hn1 h2 hW2 h1 hK1 hfs hsz hW1 hlp hlp' hB h hK hg ho hs;unfold J.Sl.Hd.val ptr at *;go_enter func29,ntmps29
 go_upto_region 1 with fail
 refine zaf (w:=W1) HW1.out.symm ?_;rw [←HB.out]
 go_wp2_with (go_at_call 40;(with_reducible refine HT.out.mono ?_);rintro q w3 ⟨rfl,x1⟩)
 go_ret;exact ⟨rfl,x1⟩
end
section
open Dk
open Ar (Sn sn0)
open J.Sl (Su Hd su0 hd0 sec)
open J (setS setH ldS ldH ldE)
theorem Dvx.set0 {d:St} {x:X} (h:Dvx w g ((k,f #[x] t (0,0)) :: K) d W) (hn:∀ q∈K,q.1≠k):Dvx w g ((k,f #[v] t (0,0)) :: K) d (W.setCell ⟨k,0,C⟩ v):=by
 have:=h.puts hn [(0,v)]
 simp only [setc,setl,List.setIfInBounds_toArray,List.set_cons_zero] at this;exact this
theorem zqG {d:St} {x:Bool} (h:Dvx w g K d W) (k6:(b6,f #[G x] 4 (0,0))∈K) :
 M N 77 #[ptr b6] W fun y w'=>y=O (l D (if x then 0 else 1))∧Dvx w g K d w':=by
 have KO:=zh (fun Z=>zhq x Z);obtain ⟨z,hz⟩:∃ z:Int,z=if x then 0 else 1:=⟨_,rfl⟩
 rw [←hz] at KO ⊢;clear hz;have c0:W.cell? ⟨b6,0,C⟩=E (G x):=zcr _ _ 0 _ 4 (0,0) (h.get k6);have HH:=zh h;clear h k6;unfold ptr at *;go_enter func77,ntmps77
 go_wp2_with (go_at_call 78;(with_reducible refine (KO.out _).mono ?_);rintro q w1 ⟨rfl,rfl⟩)
 go_ret;exact ⟨rfl,HH.out⟩
theorem zqH {d:St} {p:Ip} {H:Hd} {s:Sn} {u:Nat} {more:List En} {z:Int}
 (h:Dvx w g ((b7,f #[l D z] 3 (0,0)) :: K) d W) (hn7:∀ q∈K,q.1≠b7) (ok:p.Ok) (hm:zcO K A2 n2 more) (hn2:more.length≤64) (hok:∀ e∈more,e.Ok)
 (hon:onB d.n (p.hA p.h) p.L p.v=V) (hhas:zbC p.L u=V) (hbg:bgn p.v u=u)
 (k0:(pm,f (imc g p.su H s lg u) 113 (0,0))∈K) (k2:(b2,f #[ptr pm] 32 (0,0))∈K) (k3:(b3,f #[F A2 n2 c2] 54 (0,0))∈K) :
 M N 79 #[ptr b2,ptr b3,ptr b7] W fun x w'=>x=O (l D (zbI d (p.hA p.h) p.L p.v u more).2.2)∧Dvx w g ((b7,f #[l D (zbI d (p.hA p.h) p.L p.v u more).2.1] 3 (0,0)) :: K) (zbI d (p.hA p.h) p.L p.v u more).1 w':=by
 have hS:=ok.S;have hL:=ok.L;have hh:=ok.h;have haa:p.hA p.h≤4000:=by unfold Ip.hA;rcases (show p.h=0∨p.h=1 by omega) with h|h<;>rw [h]<;>omega
 have hbk:=h.bk;have hle:n2≤64:=by rw [←(hm W (fun q hq=>hbk q (ztK _ hq))).len];exact hn2
 have KA:=zh (fun W=>zeL p ok W)
 have KW:Hid (∀ Z,Dvx w g ((b7,f #[l D z] 3 (0,0)) :: K) d Z→M N 80 #[ptr g,.agg #[l D (p.hA p.h:Nat),l D p.L,l D p.v],l D u,F A2 n2 c2] Z fun x w'=>x=O (.tuple #[l D (zbI d (p.hA p.h) p.L p.v u more).2.1,l D (zbI d (p.hA p.h) p.L p.v u more).2.2])∧Dvx w g ((b7,f #[l D z] 3 (0,0)) :: K) (zbI d (p.hA p.h) p.L p.v u more).1 w') :=
  fun Z hZ=>hZ.c1 fun L hD=>zsN g L d _ _ u p.v A2 n2 c2 more Z hD (by omega) (by omega) hon hhas hbg (hm Z fun q hq=>hZ.bk q (ztK _ hq)) hle hok
 obtain ⟨T,hT⟩:∃ T,T=zbI d (p.hA p.h) p.L p.v u more:=⟨_,rfl⟩;rw [←hT] at KW ⊢;obtain ⟨x,hx⟩:∃ x:Int,x=((p.hA p.h:Nat):Int):=⟨_,rfl⟩;rw [←hx] at KA KW;have HD:=zh h.drew;have HN:=zh hn7
 have KC:Hid (∀ d' Z z',Dvx w g ((b7,f #[l D z'] 3 (0,0)) :: K) d' Z→(Z.cell? ⟨pm,0,C⟩=E (U (E ⟨g,0,C⟩))∧Z.cell? ⟨pm,1,C⟩=E (l D p.v)∧Z.cell? ⟨pm,2,C⟩=E (l D p.S)∧Z.cell? ⟨pm,3,C⟩=E (l D p.L)∧Z.cell? ⟨pm,4,C⟩=E (l D p.a)∧Z.cell? ⟨pm,5,C⟩=E (l D p.h)∧Z.cell? ⟨pm,6,C⟩=E (l D p.gl)∧Z.cell? ⟨pm,7,C⟩=E (l D p.sp))∧Z.cell? ⟨pm,15,C⟩=E (l D u)∧Z.cell? ⟨b2,0,C⟩=E (ptr pm)∧Z.cell? ⟨b3,0,C⟩=E (F A2 n2 c2)):=fun d' Z z' hZ =>
  ⟨znU (hZ.get (ztK _ k0)),zcr _ _ 15 _ 113 (0,0) (hZ.get (ztK _ k0)),zcr _ _ 0 _ 32 (0,0) (hZ.get (ztK _ k2)),zcr _ _ 0 _ 54 (0,0) (hZ.get (ztK _ k3))⟩
 obtain ⟨⟨y0,y1,y2,y3,y4,y5,y6,y7⟩,y15,yb,yl⟩:=KC.out _ _ _ h.drew;clear h hx hT haa hh k0 k2 k3 ok hm hok hon hhas hbg hbk hn7;unfold Ip.val ptr at *;go_enter func79,ntmps79
 go_upto_region 1 with fail
 go_region_held3 (fun w'=>w'.cell? ⟨pm,0,C⟩=E (U (E ⟨g,0,C⟩))∧w'.cell? ⟨pm,1,C⟩=E (l D p.v)∧w'.cell? ⟨pm,2,C⟩=E (l D p.S)∧w'.cell? ⟨pm,3,C⟩=E (l D p.L)∧w'.cell? ⟨pm,4,C⟩=E (l D p.a)∧w'.cell? ⟨pm,5,C⟩=E (l D p.h)∧w'.cell? ⟨pm,6,C⟩=E (l D p.gl)∧w'.cell? ⟨pm,7,C⟩=E (l D p.sp)∧w'.cell? ⟨pm,15,C⟩=E (l D u)∧w'.cell? ⟨b2,0,C⟩=E (U (E ⟨pm,0,C⟩))∧w'.cell? ⟨b3,0,C⟩=E (F A2 n2 c2)) (first|exact ⟨y0,y1,y2,y3,y4,y5,y6,y7,y15,yb,yl⟩|exact ⟨e0,e1,e2,e3,e4,e5,e6,e7,e15,eb,el⟩|exact ⟨f0,f1,f2,f3,f4,f5,f6,f7,f15,fb,fl⟩|exact ⟨g0,g1,g2,g3,g4,g5,g6,g7,g15,gb,gl⟩) (first
  | (go_at_call 81;(with_reducible refine (KA.out _).mono ?_);rintro q w1 ⟨rfl,b1⟩;have H1:=HD.out.below b1;obtain ⟨⟨e0,e1,e2,e3,e4,e5,e6,e7⟩,e15,eb,el⟩:=KC.out _ _ _ H1)
  | (go_at_call 80;(with_reducible refine (KW.out _ H1).mono ?_);rintro q w2 ⟨rfl,H2⟩;obtain ⟨⟨f0,f1,f2,f3,f4,f5,f6,f7⟩,f15,fb,fl⟩:=KC.out _ _ _ H2;have c7:=zcr _ _ 0 _ 3 (0,0) H2.hd;have z7:=frozen_of_row _ _ 0 _ 3 H2.hd;have H3:=Dvx.set0 (v:=l D T.2.1) H2 HN.out;obtain ⟨⟨g0,g1,g2,g3,g4,g5,g6,g7⟩,g15,gb,gl⟩:=KC.out _ _ _ H3))
 go_wp2;go_ret;exact ⟨rfl,H3⟩
theorem zlF (g:Nat) (S:Su) (H:Hd) (s:Sn) (lg lg':X) (u u':Int):setc [(14,lg'),(15,l D u')] (imc g S H s lg u)=imc g S H s lg' u':=by
 simp only [setc,zA,zB,zC]
theorem zqI {d:St} {p:Ip} {H:Hd} {s:Sn} {u':Int} (h:Dvx w g ((pm,f (imc g p.su H s lg u) 113 (0,0)) :: K) d W) (hK:∀ q∈K,q.1≠pm)
 (k2:(b2,f #[ptr pm] 32 (0,0))∈K) (k5:(b5,f #[(F A' n' c')] 54 (0,0))∈K) (k7:(b7,f #[l D u'] 3 (0,0))∈K) :
 M N 83 #[ptr b5,ptr b7,ptr b2] W fun x w'=>x=O (l D 0)∧Dvx w g ((pm,f (imc g p.su H s (F A' n' c') u') 113 (0,0)) :: K) d w':=by
 have HH:=zh h.drew;have HK:=zh hK;obtain ⟨c0,c1,c2,c3,c4,c5,c6,c7,c8,c9,c10,c11,c12,c13,c14,c15⟩:=zbi h.drew.hd;obtain ⟨x1,x2,x3,x4,x5,x6,x7,x8,x9,x10,x11,x12,x13,x14,x15⟩:=zgb h.drew.hd;have v15:W.cell? ⟨pm,15,C⟩=E (l D u):=zcr _ _ 15 _ 113 (0,0) h.hd;have z15:W.frozen? ⟨pm,15,C⟩=R:=frozen_of_row _ _ 15 _ 113 h.hd;have v14:W.cell? ⟨pm,14,C⟩=E lg:=zcr _ _ 14 _ 113 (0,0) h.hd;have z14:W.frozen? ⟨pm,14,C⟩=R:=frozen_of_row _ _ 14 _ 113 h.hd;have n2:b2≠pm:=hK _ k2;have n5:b5≠pm:=hK _ k5;have n7:b7≠pm:=hK _ k7;have m2:pm≠b2:=n2.symm;have m5:pm≠b5:=n5.symm;have m7:pm≠b7:=n7.symm;have g0:W.cell? ⟨b2,0,C⟩=E (ptr pm):=zcr _ _ 0 _ 32 (0,0) (h.get (ztK _ k2));have g5:W.cell? ⟨b5,0,C⟩=E (F A' n' c'):=zcr _ _ 0 _ 54 (0,0) (h.get (ztK _ k5));have g7:W.cell? ⟨b7,0,C⟩=E (l D u'):=zcr _ _ 0 _ 3 (0,0) (h.get (ztK _ k7));have f0:W.drew.cell? ⟨b2,0,C⟩=E (ptr pm):=zcr _ _ 0 _ 32 (0,0) (h.drew.get (ztK _ k2));have f5:W.drew.cell? ⟨b5,0,C⟩=E (F A' n' c'):=zcr _ _ 0 _ 54 (0,0) (h.drew.get (ztK _ k5));have f7:W.drew.cell? ⟨b7,0,C⟩=E (l D u'):=zcr _ _ 0 _ 3 (0,0) (h.drew.get (ztK _ k7));clear h hK k2 k5 k7;unfold ptr at *;go_enter func83,ntmps83
 go_upto_region 1 with fail
 go_region
 go_wp2;go_ret;refine ⟨rfl,?_⟩;have h2:=HH.out.puts HK.out [(14,(F A' n' c')),(15,l D u')];rw [zlF] at h2;exact h2
end
section
open Dk
open Ar (Sn sn0)
open J.Sl (Su Hd su0 hd0 sec)
open J (setS setH ldS ldH ldE)
theorem zlE {Z:World} {K1:List (Nat×Obj)} {d:St} {base:Nat} {es more:List En} (hl:Lg w.heap.size K A n c es) (hm:zcO K A2 n2 more) (hb:base≤1099511627776) (hn:es.length≤64) (hn2:more.length≤64)
 (hix:∀ i e,es[i]?=E e→e.index=((base+i+1:Nat):Int)) (hok:∀ e∈more,e.Ok) (hs:∀ q∈K,q∈K1) (h:Dvx w g K1 d Z) :
 M N 75 #[l Q base,F A n c,F A2 n2 c2] Z fun x w'=>∃ A' n' c' K2,x=O (.tuple #[F A' n' c',G (jn base es more).isSome])∧Dvx w g (K2++K1) d w'∧Lg w.heap.size K2 A' n' c' ((jn base es more).getD [])∧(∀ q∈K2,Z.heap.size≤q.1)∧Z.heap.size≤w'.heap.size:=by
 have hbk:Bk K Z:=fun q hq=>h.bk q (hs q hq);have hL:=hl Z hbk;have hM:=hm Z hbk;refine (zjW base w.heap.size A A2 n c n2 c2 es more Z hL hM hb (by rw [←hL.len];exact hn) (by rw [←hM.len];exact hn2) hix hok).mono ?_;rintro x w' ⟨hj,hbw⟩;rcases hj with ⟨r,A',n',c',h1,rfl,h3⟩|⟨h1,rfl⟩
 ·obtain ⟨K2,x1,x2,x3⟩:=h.addLe hbw h3 (ztI _);refine ⟨A',n',c',K2,by rw [h1];rfl,x1,by rw [h1];exact x2.low h.be.size,x3,hbw.size⟩
 ·exact ⟨C,0,0,[],by rw [h1];rfl,h.below hbw,by rw [h1];exact Lg.nil _ _,(fun q hq=>by cases hq),hbw.size⟩
abbrev o5:Obj:=f #[F C 0 0] 54
abbrev o6:Obj:=f #[G R] 4
theorem sc1 (h:c≠b):(w.setCell ⟨b,k,C⟩ v).cell? ⟨c,j,C⟩=w.cell? ⟨c,j,C⟩:=zuE (ztX _ _ _ _ h)
theorem zr5 {o:Obj} (h:b<w.heap.size):(w.alloc o).frozen? ⟨b,j,C⟩=w.frozen? ⟨b,j,C⟩:=World.frozen?_of_block (ztQ w o b h)
theorem Dvx.al2 {d:St} (h:Dvx w g K d W) (x y:Obj):Dvx w g ((W.heap.size+1,y) :: (W.heap.size,x) :: K) d ((W.alloc x).alloc y):=by
 have:=(h.al x).al y
 rw [ztR] at this;exact this
def apZ (J:Option (List En)) (a:St×Int×Int):Int:=if J.isNone=V then 1 else if a.2.2≠0 then a.2.2 else a.1.flush.2
def apD (J:Option (List En)) (d:St) (a:St×Int×Int):St:=if J.isNone=V then d else if a.2.2≠0 then a.1 else a.1.flush.1
theorem zoi {W7:World} {B fb:Nat} {K2:List (Nat×Obj)} {d:St} {p:Ip} {H:Hd} {s:Sn} {u:Nat} {more:List En} {J:Option (List En)}
 (ok:p.Ok) (hg:p.gl=0) (hm:zcO K A2 n2 more) (hn2:more.length≤64) (hok:∀ e∈more,e.Ok)
 (hon:onB d.n (p.hA p.h) p.L p.v=V) (hhas:zbC p.L u=V) (hbg:bgn p.v u=u)
 (hK:∀ q∈K2++K,q.1≠pm) (hd:pm<B∧B+1<b5∧B+1<b6∧b5<b7∧b6<b7∧b7<fb) (hK7:∀ q∈K2++K,q.1<b7)
 (h:Dvx w g ((fb,f #[.func (.func 76) #[ptr pm] #[],.func (.func 77) #[] #[ptr b6],.func (.func 79) #[] #[ptr B,ptr (B+1),ptr b7],.func (.func 82) #[ptr g] #[],.func (.func 83) #[] #[ptr b5,ptr b7,ptr B]] 96 (0,0)) ::
   (b7,f #[l D 0] 3 (0,0)) :: (b5,f #[F A' n' c'] 54 (0,0)) :: (b6,f #[G J.isSome] 4 (0,0)) :: (K2++(B+1,f #[F A2 n2 c2] 54 (0,0)) :: (B,f #[ptr pm] 32 (0,0)) :: (pm,f (imc g p.su H s lg u) 113 (0,0)) :: K)) d W7) :
 M N 40 #[F (E ⟨fb,0,C⟩) 5 5] W7 fun x w'=>x=O (l D (apZ J (zbI d (p.hA p.h) p.L p.v u more))) ∧
  (apZ J (zbI d (p.hA p.h) p.L p.v u more)=0→Dvx w g ((pm,f (imc g p.su H s (F A' n' c') (zbI d (p.hA p.h) p.L p.v u more).2.1) 113 (0,0)) :: (K2++K)) (zbI d (p.hA p.h) p.L p.v u more).1.flush.1 w') ∧
  (apZ J (zbI d (p.hA p.h) p.L p.v u more)≠0→Dvx w g ((pm,f (imc g p.su H s lg u) 113 (0,0)) :: K) (apD J d (zbI d (p.hA p.h) p.L p.v u more)) w')∧w'.heap[B]?=E (f #[ptr pm] 32 (0,0)):=by
 obtain ⟨fs,hfs⟩:∃ fs:Array X,fs=#[.func (.func 76) #[ptr pm] #[],.func (.func 77) #[] #[ptr b6],.func (.func 79) #[] #[ptr B,ptr (B+1),ptr b7],.func (.func 82) #[ptr g] #[],.func (.func 83) #[] #[ptr b5,ptr b7,ptr B]]:=⟨_,rfl⟩;obtain ⟨KR,hKR⟩:∃ KR,KR=(fb,f fs 96 (0,0)) :: (b5,f #[F A' n' c'] 54 (0,0)) :: (b6,f #[G J.isSome] 4 (0,0)) :: (B+1,f #[F A2 n2 c2] 54 (0,0)) :: (B,f #[ptr pm] 32 (0,0)) :: (K2++K):=⟨_,rfl⟩;rw [←hfs] at h;obtain ⟨d1,d2,d3,d4,d5,d6⟩:=hd
 have h0:Dvx w g ((pm,f (imc g p.su H s lg u) 113 (0,0)) :: (b7,f #[l D 0] 3 (0,0)) :: KR) d W7:=by
  rw [hKR]
  exact h.drop fun q hq=>by
   simp only [ztT,zt1] at hq ⊢;rcases hq with h|h|h|h|h|h|h|h|h<;>simp [h]
 have npm:∀ z,∀ q∈(b7,f #[l D z] 3 (0,0)) :: KR,q.1≠pm:=fun z q hq=>by
  rw [hKR] at hq;simp only [ztT] at hq;rcases hq with rfl|rfl|rfl|rfl|rfl|rfl|hq
  ·show b7≠pm;omega
  ·show fb≠pm;omega
  ·show b5≠pm;omega
  ·show b6≠pm;omega
  ·show B+1≠pm;omega
  ·show B≠pm;omega
  ·exact hK q hq
 have n7:∀ c,∀ q∈(pm,f c 113 (0,0)) :: KR,q.1≠b7:=fun c q hq=>by
  rw [hKR] at hq;simp only [ztT] at hq;rcases hq with rfl|rfl|rfl|rfl|rfl|rfl|hq
  ·show pm≠b7;omega
  ·show fb≠b7;omega
  ·show b5≠b7;omega
  ·show b6≠b7;omega
  ·show B+1≠b7;omega
  ·show B≠b7;omega
  ·exact ztY (hK7 q hq)
 have mfb:∀ x y,(fb,f fs 96 (0,0))∈x :: y :: KR:=fun x y=>by rw [hKR];simp
 have m5:(b5,f #[F A' n' c'] 54 (0,0))∈KR:=by rw [hKR];simp
 have m6:(b6,f #[G J.isSome] 4 (0,0))∈KR:=by rw [hKR];simp
 have m3:(B+1,f #[F A2 n2 c2] 54 (0,0))∈KR:=by rw [hKR];simp
 have m2:(B,f #[ptr pm] 32 (0,0))∈KR:=by rw [hKR];simp
 have mK:∀ q∈K2++K,q∈KR:=fun q hq=>by rw [hKR];simp only [ztT];simp [zt1.1 hq]
 have swp:∀ (a b:Nat×Obj) d Z,Dvx w g (a :: b :: KR) d Z→Dvx w g (b :: a :: KR) d Z:=fun a b d Z hZ=>hZ.drop fun q hq=>by simp only [ztT] at hq ⊢;rcases hq with h|h|h<;>simp [h]
 obtain ⟨AG,hAG⟩:∃ AG,AG=zbI d (p.hA p.h) p.L p.v u more:=⟨_,rfl⟩
 have S3:∀ Z,Dvx w g ((pm,f (imc g p.su H s lg u) 113 (0,0)) :: (b7,f #[l D 0] 3 (0,0)) :: KR) d Z→M N 79 #[ptr B,ptr (B+1),ptr b7] Z fun x w'=>x=O (l D AG.2.2)∧Dvx w g ((pm,f (imc g p.su H s lg u) 113 (0,0)) :: (b7,f #[l D AG.2.1] 3 (0,0)) :: KR) AG.1 w':=fun Z hZ=>by
  have:=zqH (swp _ _ _ _ hZ) (n7 _) ok (hm.sub fun q hq=>ztK _ (mK q (ztU _ hq))) hn2 hok hon hhas hbg (zt0 ..) (ztK _ m2) (ztK _ m3)
  rw [←hAG] at this;exact this.mono fun x w' ⟨h1,h2⟩=>⟨h1,swp _ _ _ _ h2⟩
 rw [←hAG];clear hAG;rw [hfs] at mfb
 refine (zr7 (K:=[(fb,f #[.func (.func 76) #[ptr pm] #[],.func (.func 77) #[] #[ptr b6],.func (.func 79) #[] #[ptr B,ptr (B+1),ptr b7],.func (.func 82) #[ptr g] #[],.func (.func 83) #[] #[ptr b5,ptr b7,ptr B]] 96 (0,0))]) (zt0 ..) (fun xs w=>rfl) (fun xs w=>rfl) (fun xs w=>rfl) (fun xs w=>rfl) (fun xs w=>rfl)
  (fun Z=>Dvx w g ((pm,f (imc g p.su H s lg u) 113 (0,0)) :: (b7,f #[l D 0] 3 (0,0)) :: KR) d Z)
  (fun Z=>Dvx w g ((pm,f (imc g p.su H s lg u) 113 (0,0)) :: (b7,f #[l D 0] 3 (0,0)) :: KR) d Z)
  (fun Z=>Dvx w g ((pm,f (imc g p.su H s lg u) 113 (0,0)) :: (b7,f #[l D 0] 3 (0,0)) :: KR) d Z∧J.isNone=R)
  (fun Z=>Dvx w g ((pm,f (imc g p.su H s lg u) 113 (0,0)) :: (b7,f #[l D AG.2.1] 3 (0,0)) :: KR) AG.1 Z∧J.isNone=R∧AG.2.2=0)
  (fun Z=>Dvx w g ((pm,f (imc g p.su H s lg u) 113 (0,0)) :: (b7,f #[l D AG.2.1] 3 (0,0)) :: KR) AG.1.flush.1 Z∧J.isNone=R∧AG.2.2=0∧AG.1.flush.2=0)
  (fun Z=>Dvx w g ((pm,f (imc g p.su H s (F A' n' c') AG.2.1) 113 (0,0)) :: (b7,f #[l D AG.2.1] 3 (0,0)) :: KR) AG.1.flush.1 Z∧J.isNone=R∧AG.2.2=0∧AG.1.flush.2=0)
  (fun z Z=>z=apZ J AG∧Dvx w g ((pm,f (imc g p.su H s lg u) 113 (0,0)) :: K) (apD J d AG) Z∧Z.heap[B]?=E (f #[ptr pm] 32 (0,0)))
  (fun Z h q hq=>by rw [zul] at hq;rw [hq];exact h.bk _ (mfb _ _)) (fun Z h q hq=>by rw [zul] at hq;rw [hq];exact h.bk _ (mfb _ _)) (fun Z h q hq=>by rw [zul] at hq;rw [hq];exact h.1.bk _ (mfb _ _)) (fun Z h q hq=>by rw [zul] at hq;rw [hq];exact h.1.bk _ (mfb _ _)) (fun Z h q hq=>by rw [zul] at hq;rw [hq];exact h.1.bk _ (mfb _ _)) (fun Z h=>h.1.bk _ (mfb _ _)) h0 ?_ ?_ ?_ ?_ ?_).mono ?_
 ·exact Stp.of (fun Z hZ=>ziC hZ hg) (fun Z _ hP=>hP) (fun Z hz _=>absurd rfl hz)
 ·refine Stp.of (r:=if J.isSome then 0 else 1) (P:=fun Z=>Dvx w g ((pm,f (imc g p.su H s lg u) 113 (0,0)) :: (b7,f #[l D 0] 3 (0,0)) :: KR) d Z) (fun Z hZ=>zqG hZ (ztK _ (ztK _ m6))) (fun Z hz hP=>⟨hP,?_⟩) (fun Z hz hP=>?_)
  ·cases J with
   | none=>simp at hz
   | some j=>rfl
  ·cases J with
   | none=>exact ⟨rfl,hP.drop fun q hq=>by
      rcases ztT.1 hq with h|h
      ·rw [h];simp
      ·exact ztK _ (ztK _ (mK q (ztU _ h))),hP.bk _ (ztK _ (ztK _ m2))⟩
   | some j=>simp at hz
 ·refine fun Z hI=>Stp.of (I:=fun Z=>Dvx w g ((pm,f (imc g p.su H s lg u) 113 (0,0)) :: (b7,f #[l D 0] 3 (0,0)) :: KR) d Z) (r:=AG.2.2) (P:=fun Z=>Dvx w g ((pm,f (imc g p.su H s lg u) 113 (0,0)) :: (b7,f #[l D AG.2.1] 3 (0,0)) :: KR) AG.1 Z) S3 (fun Z hz hP=>⟨hP,hI.2,hz⟩) (fun Z hz hP=>?_) Z hI.1;unfold apZ apD;rw [hI.2,if_neg (by simp),if_pos hz,if_neg (by simp),if_pos hz]
  exact ⟨rfl,hP.drop fun q hq=>by
   rcases ztT.1 hq with h|h
   ·rw [h];simp
   ·exact ztK _ (ztK _ (mK q (ztU _ h))),hP.bk _ (ztK _ (ztK _ m2))⟩
 ·refine fun Z hI=>Stp.of (I:=fun Z=>Dvx w g ((pm,f (imc g p.su H s lg u) 113 (0,0)) :: (b7,f #[l D AG.2.1] 3 (0,0)) :: KR) AG.1 Z) (r:=AG.1.flush.2) (P:=fun Z=>Dvx w g ((pm,f (imc g p.su H s lg u) 113 (0,0)) :: (b7,f #[l D AG.2.1] 3 (0,0)) :: KR) AG.1.flush.1 Z) (fun Z hZ=>hZ.c1 fun L hD=>zd9 g L _ Z hD) (fun Z hz hP=>⟨hP,hI.2.1,hI.2.2,hz⟩) (fun Z hz hP=>?_) Z hI.1;unfold apZ apD;rw [hI.2.1,if_neg (by simp),if_neg (by rw [hI.2.2];simp),if_neg (by simp),if_neg (by rw [hI.2.2];simp)]
  exact ⟨rfl,hP.drop fun q hq=>by
   rcases ztT.1 hq with h|h
   ·rw [h];simp
   ·exact ztK _ (ztK _ (mK q (ztU _ h))),hP.bk _ (ztK _ (ztK _ m2))⟩
 ·refine fun Z hI=>Stp.of (I:=fun Z=>Dvx w g ((pm,f (imc g p.su H s lg u) 113 (0,0)) :: (b7,f #[l D AG.2.1] 3 (0,0)) :: KR) AG.1.flush.1 Z) (fun Z hZ=>zqI hZ (npm _) (ztK _ m2) (ztK _ m5) (zt0 ..)) (fun Z _ hP=>⟨hP,hI.2⟩) (fun Z hz _=>absurd rfl hz) Z hI.1
 ·rintro x w' ⟨z,rfl,hz0,hz1⟩
  by_cases hz:z=0
  ·obtain ⟨x1,x2,x3,x4⟩:=hz0 hz;have e:apZ J AG=0:=by unfold apZ;rw [x2,if_neg (by simp),if_neg (by rw [x3];simp),x4]
   exact ⟨by rw [e,hz],fun _=>x1.drop fun q hq=>by
    rcases ztT.1 hq with h|h
    ·rw [h];simp
    ·exact ztK _ (ztK _ (mK q h)),fun h=>absurd e h,x1.bk _ (ztK _ (ztK _ m2))⟩
  ·obtain ⟨x1,x2,x3⟩:=hz1 hz;exact ⟨by rw [x1],fun h=>absurd (x1.trans h) hz,fun _=>x2,x3⟩
theorem zht {d:St} {p:Ip} {H:Hd} {s:Sn} {u:Nat} {es more:List En} (h:Dvx w g ((pm,f (imc g p.su H s (F A n c) u) 113 (0,0)) :: K) d W) (hK:∀ q∈K,q.1≠pm) (ok:p.Ok) (hg:p.gl=0)
 (hl:Lg w.heap.size K A n c es) (hm:zcO K A2 n2 more) (hb:s.ix≤1099511627776) (hn:es.length≤64) (hn2:more.length≤64)
 (hix:∀ i e,es[i]?=E e→e.index=((s.ix+i+1:Nat):Int)) (hok:∀ e∈more,e.Ok)
 (hon:onB d.n (p.hA p.h) p.L p.v=V) (hhas:zbC p.L u=V) (hbg:bgn p.v u=u) :
 M N 23 #[ptr pm,F A2 n2 c2] W fun x w'=>x=O (l D (apZ (jn s.ix es more) (zbI d (p.hA p.h) p.L p.v u more))) ∧
  (apZ (jn s.ix es more) (zbI d (p.hA p.h) p.L p.v u more)=0→∃ A' n' c' K2,Dvx w g ((pm,f (imc g p.su H s (F A' n' c') (zbI d (p.hA p.h) p.L p.v u more).2.1) 113 (0,0)) :: (K2++K)) (zbI d (p.hA p.h) p.L p.v u more).1.flush.1 w'∧Lg w.heap.size (K2++K) A' n' c' ((jn s.ix es more).getD [])∧∀ q∈K2,W.heap.size≤q.1) ∧
  (apZ (jn s.ix es more) (zbI d (p.hA p.h) p.L p.v u more)≠0→Dvx w g ((pm,f (imc g p.su H s (F A n c) u) 113 (0,0)) :: K) (apD (jn s.ix es more) d (zbI d (p.hA p.h) p.L p.v u more)) w'):=by
 obtain ⟨B,hB⟩:∃ B,B=W.heap.size:=⟨_,rfl⟩;have hlp:=h.lt _ (zt0 ..);have hlp':pm<B:=by rw [hB];exact hlp
 obtain ⟨W1,hW1⟩:∃ W1,W1=(W.alloc (f #[ptr pm] 32)).alloc (f #[F A2 n2 c2] 54):=⟨_,rfl⟩;have hsz:W1.heap.size=B+2:=by rw [hW1,hB];simp
 obtain ⟨K0,hK0⟩:∃ K0,K0=(B+1,f #[F A2 n2 c2] 54 (0,0)) :: (B,f #[ptr pm] 32 (0,0)) :: ((pm,f (imc g p.su H s (F A n c) u) 113 (0,0)) :: K):=⟨_,rfl⟩
 have h1:Dvx w g K0 d W1:=by
  have:=(h.al (f #[ptr pm] 32)).al (f #[F A2 n2 c2] 54)
  rw [ztR,←hB] at this;rw [hW1,hK0];exact this
 have KJ:Hid (∀ K1 Z,(∀ q∈K0,q∈K1)→Dvx w g K1 d Z→M N 75 #[l Q s.ix,F A n c,F A2 n2 c2] Z fun x w'=>∃ A' n' c' K2,x=O (.tuple #[F A' n' c',G (jn s.ix es more).isSome])∧Dvx w g (K2++K1) d w'∧Lg w.heap.size K2 A' n' c' ((jn s.ix es more).getD [])∧(∀ q∈K2,Z.heap.size≤q.1)∧Z.heap.size≤w'.heap.size) :=
  fun K1 Z hs hZ=>zlE hl hm hb hn hn2 hix hok (fun q hq=>hs q (by rw [hK0];simp [hq])) hZ
 obtain ⟨J,hJ⟩:∃ J,J=jn s.ix es more:=⟨_,rfl⟩;rw [←hJ] at KJ ⊢;clear hJ;have HM0:Hid ((pm,f (imc g p.su H s (F A n c) u) 113 (0,0))∈K0):=by show _∈_;rw [hK0];simp
 have HM2:Hid ((B,f #[ptr pm] 32 (0,0))∈K0):=by show _∈_;rw [hK0];simp
 have HM3:Hid ((B+1,f #[F A2 n2 c2] 54 (0,0))∈K0):=by show _∈_;rw [hK0];simp
 have KC:Hid (∀ K1 Z,(∀ q∈K0,q∈K1)→Dvx w g K1 d Z→Z.cell? ⟨B,0,C⟩=E (ptr pm)∧Z.cell? ⟨pm,11,C⟩=E (l Q s.ix)∧Z.cell? ⟨pm,14,C⟩=E (F A n c)∧Z.cell? ⟨B+1,0,C⟩=E (F A2 n2 c2)) :=
  fun K1 Z hs hZ=>⟨zcr _ _ 0 _ 32 (0,0) (hZ.get (hs _ HM2.out)),zcr _ _ 11 _ 113 (0,0) (hZ.get (hs _ HM0.out)),zcr _ _ 14 _ 113 (0,0) (hZ.get (hs _ HM0.out)),zcr _ _ 0 _ 54 (0,0) (hZ.get (hs _ HM3.out))⟩
 have KT:Hid (∀ b5 b6 A' n' c' K2 wc W8,Dvx w g ((b5,f #[F A' n' c'] 54 (0,0)) :: (b6,f #[G J.isSome] 4 (0,0)) :: (K2++K0)) d wc→Lg w.heap.size K2 A' n' c' (J.getD [])→(∀ q∈K2,W1.heap.size≤q.1)→W1.heap.size≤b5→W1.heap.size≤b6→W8=wc.alloc (f #[l D 0] 3) →
  M N 40 #[F (E ⟨W8.heap.size,0,C⟩) 5 5] (W8.alloc (f #[.func (.func 76) #[ptr pm] #[],.func (.func 77) #[] #[ptr b6],.func (.func 79) #[] #[ptr B,ptr (B+1),ptr wc.heap.size],.func (.func 82) #[ptr g] #[],.func (.func 83) #[] #[ptr b5,ptr wc.heap.size,ptr B]] 96)).drew
  fun x w'=>x=O (l D (apZ J (zbI d (p.hA p.h) p.L p.v u more))) ∧
  (apZ J (zbI d (p.hA p.h) p.L p.v u more)=0→∃ A' n' c' K2,Dvx w g ((pm,f (imc g p.su H s (F A' n' c') (zbI d (p.hA p.h) p.L p.v u more).2.1) 113 (0,0)) :: (K2++K)) (zbI d (p.hA p.h) p.L p.v u more).1.flush.1 w'∧Lg w.heap.size (K2++K) A' n' c' (J.getD [])∧∀ q∈K2,W.heap.size≤q.1) ∧
  (apZ J (zbI d (p.hA p.h) p.L p.v u more)≠0→Dvx w g ((pm,f (imc g p.su H s (F A n c) u) 113 (0,0)) :: K) (apD J d (zbI d (p.hA p.h) p.L p.v u more)) w')∧w'.cell? ⟨B,0,C⟩=E (ptr pm)∧w'.cell? ⟨pm,0,C⟩=E (ptr g)):=by
  intro b5 b6 A' n' c' K2 wc W8 hZ hLg hk2 h5 h6 hW8;have hsz8:W8.heap.size=wc.heap.size+1:=by rw [hW8];simp
  have l5:=hZ.lt _ (zt0 ..);have l6:=hZ.lt _ (ztK _ (zt0 ..));have hZ2:=((hZ.al (f #[l D 0] 3)).al (f #[.func (.func 76) #[ptr pm] #[],.func (.func 77) #[] #[ptr b6],.func (.func 79) #[] #[ptr B,ptr (B+1),ptr wc.heap.size],.func (.func 82) #[ptr g] #[],.func (.func 83) #[] #[ptr b5,ptr wc.heap.size,ptr B]] 96)).drew;rw [←hW8] at hZ2;have hZ3:Dvx w g ((W8.heap.size,_) :: _) d _:=hZ2;rw [hK0] at hZ3;refine (zoi (B:=B) (b5:=b5) (b6:=b6) (K:=K) (K2:=K2) (J:=J) ok hg hm hn2 hok hon hhas hbg ?_ ⟨hlp',by omega,by omega,l5,l6,by omega⟩ ?_ hZ3).mono ?_
  ·intro q hq;rcases zt1.1 hq with h|h
   ·have:=hk2 q h;omega
   ·exact hK q h
  ·intro q hq;refine hZ.lt q (ztK _ (ztK _ ?_));rw [hK0];rcases zt1.1 hq with h|h
   ·exact zui _ h
   ·exact ztU _ (by simp [h])
  ·rintro x w' ⟨e1,e2,e3,e4⟩;refine ⟨e1,fun h=>⟨A',n',c',K2,e2 h,hLg.sub (fun q hq=>zui _ hq),fun q hq=>by have:=hk2 q hq;omega⟩,e3,zcr _ _ 0 _ 32 (0,0) e4,?_⟩
   by_cases hz:apZ J (zbI d (p.hA p.h) p.L p.v u more)=0
   ·exact zcr _ _ 0 _ 113 (0,0) (e2 hz).hd
   ·exact zcr _ _ 0 _ 113 (0,0) (e3 hz).hd
 obtain ⟨AG,hAG⟩:∃ AG,AG=zbI d (p.hA p.h) p.L p.v u more:=⟨_,rfl⟩;rw [←hAG] at KT ⊢;obtain ⟨ZZ,hZZ⟩:∃ ZZ,ZZ=apZ J AG:=⟨_,rfl⟩;obtain ⟨DD,hDD⟩:∃ DD,DD=apD J d AG:=⟨_,rfl⟩;rw [←hZZ,←hDD] at KT ⊢;clear hAG hZZ hDD;have S0:Hid (∀ q∈K0,q∈K0):=fun q hq=>hq;have S1:Hid (∀ x,∀ q∈K0,q∈x :: K0):=fun x q hq=>ztK _ hq;have S2:Hid (∀ x y,∀ q∈K0,q∈x :: y :: K0):=fun x y q hq=>ztK _ (ztK _ hq);have H0:=zh h1;have HW1:=zh hW1;have HB:=zh hB;have HSZ:=zh hsz;have hl1:B<W1.heap.size:=by omega
 have hl2:B+1<W1.heap.size:=by omega
 have hl3:pm<W1.heap.size:=by omega
 obtain ⟨y0,y1,y2,y3⟩:=KC.out K0 _ S0.out h1.drew;clear hl hm hb hn hn2 hix hok h1 hK0 hsz hW1 hlp hlp' hB h;unfold ptr at *;go_enter func23,ntmps23
 go_upto_region 1 with fail
 refine zaf (w:=W1) HW1.out.symm ?_;rw [←HB.out]
 go_cut [5,6] from 9 to 23 (fun s5 s6 wx=>∃ b5 b6 A' n' c' K2,s5=U (E ⟨b5,0,C⟩)∧s6=U (E ⟨b6,0,C⟩)∧Hid (Dvx w g ((b5,f #[F A' n' c'] 54 (0,0)) :: (b6,f #[G J.isSome] 4 (0,0)) :: (K2++K0)) d wx)∧Hid (Lg w.heap.size K2 A' n' c' (J.getD []))∧Hid (∀ q∈K2,W1.heap.size≤q.1)∧W1.heap.size≤b5∧W1.heap.size≤b6∧b5≠b6)
 case first =>
  go_region_held3 (fun w'=>w'.cell? ⟨B,0,C⟩=E (U (E ⟨pm,0,C⟩))∧w'.cell? ⟨pm,11,C⟩=E (l Q s.ix)∧w'.cell? ⟨pm,14,C⟩=E (F A n c)∧w'.cell? ⟨B+1,0,C⟩=E (F A2 n2 c2))
   (first|exact ⟨y0,y1,y2,y3⟩|exact ⟨e0,e1,e2,e3⟩|(refine ⟨?_,?_,?_,?_⟩<;>(repeat (first|assumption|(refine (zaT (by first|omega|(simp;done)|(simp;omega))).trans ?_)|(refine (zar (by first|omega|(simp;done)|(simp;omega))).trans ?_)|(refine (sc1 (by first|omega|(simp;done)|(simp;omega))).trans ?_))))) (first
   | (go_at_call 75;(first
       | (with_reducible refine (KJ.out K0 _ S0.out (Dvx.drew H0.out)).mono ?_)
       | (with_reducible refine (KJ.out _ _ (S1.out _) (Dvx.drew (H0.out.al o5))).mono ?_)
       | (with_reducible refine (KJ.out _ _ (S1.out _) (Dvx.drew (H0.out.al o6))).mono ?_)
       | (with_reducible refine (KJ.out _ _ (S2.out _ _) (Dvx.drew (H0.out.al2 o5 o6))).mono ?_)
       | (with_reducible refine (KJ.out _ _ (S2.out _ _) (Dvx.drew (H0.out.al2 o6 o5))).mono ?_));rintro q w5 ⟨A',n',c',K2,rfl,H5,hLg,hK2,hs5⟩;have hw5:W1.heap.size≤w5.heap.size:=ztL (by first|(simp;done)|(simp;omega)) hs5;obtain ⟨e0,e1,e2,e3⟩:=KC.out _ _ (fun q hq=>ztU _ (by first|exact S0.out q hq|exact S1.out _ q hq|exact S2.out _ _ q hq)) H5;(first|(have t6:=Dvx.get H5 (k:=W1.heap.size+1) (o:=o6) (ztU _ (zt0 ..));have ct6:=zcr _ _ 0 _ 4 (0,0) t6;have ft6:=frozen_of_row _ _ 0 _ 4 t6;have t5:=Dvx.get H5 (k:=W1.heap.size) (o:=o5) (ztU _ (ztK _ (zt0 ..)));have ct5:=zcr _ _ 0 _ 54 (0,0) t5;have ft5:=frozen_of_row _ _ 0 _ 54 t5)|(have t5:=Dvx.get H5 (k:=W1.heap.size+1) (o:=o5) (ztU _ (zt0 ..));have ct5:=zcr _ _ 0 _ 54 (0,0) t5;have ft5:=frozen_of_row _ _ 0 _ 54 t5;have t6:=Dvx.get H5 (k:=W1.heap.size) (o:=o6) (ztU _ (ztK _ (zt0 ..)));have ct6:=zcr _ _ 0 _ 4 (0,0) t6;have ft6:=frozen_of_row _ _ 0 _ 4 t6)|(have t5:=Dvx.get H5 (k:=W1.heap.size) (o:=o5) (ztU _ (zt0 ..));have ct5:=zcr _ _ 0 _ 54 (0,0) t5;have ft5:=frozen_of_row _ _ 0 _ 54 t5;have lt5:=(zgx t5);have gt5:(w5.alloc (f #[G R] 4)).cell? ⟨W1.heap.size,0,C⟩=_:=(zar lt5).trans ct5;have ht5:(w5.alloc (f #[G R] 4)).frozen? ⟨W1.heap.size,0,C⟩=_:=(zr5 lt5).trans ft5)|(have t6:=Dvx.get H5 (k:=W1.heap.size) (o:=o6) (ztU _ (zt0 ..));have ct6:=zcr _ _ 0 _ 4 (0,0) t6;have ft6:=frozen_of_row _ _ 0 _ 4 t6;have lt6:=(zgx t6);have gt6:(w5.alloc (f #[F C 0 0] 54)).cell? ⟨W1.heap.size,0,C⟩=_:=(zar lt6).trans ct6;have ht6:(w5.alloc (f #[F C 0 0] 54)).frozen? ⟨W1.heap.size,0,C⟩=_:=(zr5 lt6).trans ft6)|skip)))
  all_goals
   go_wp2;go_meet
  ·exact ⟨_,_,A',n',c',K2,rfl,rfl,(H5.al2 (f #[F A' n' c'] 54) (f #[G J.isSome] 4)).drop (fun q hq=>by simp only [ztT] at hq ⊢;rcases hq with h|h|h<;>simp [h]),hLg,fun q hq=>ztL (by simp) (hK2 q hq),by omega,by omega,by omega⟩
  ·exact ⟨_,_,A',n',c',K2,rfl,rfl,H5.al2 (f #[G J.isSome] 4) (f #[F A' n' c'] 54),hLg,fun q hq=>ztL (by simp) (hK2 q hq),by omega,by omega,by omega⟩
  ·have hk2:∀ q∈K2,W1.heap.size+1≤q.1:=fun q hq=>ztL (by simp) (hK2 q hq);have hn:∀ q∈K2++K0,q.1≠W1.heap.size:=fun q hq=>(zt1.1 hq).elim (fun h=>by have:=hk2 q h;omega) (fun h=>ztY (H0.out.lt q h));have h6:Dvx w g ((W1.heap.size,o5) :: (K2++K0)) d w5:=H5.drop fun q hq=>by simp only [ztT,zt1] at hq ⊢;rcases hq with h|h|h<;>simp [h]
   have hlw:W1.heap.size<w5.heap.size:=h6.lt _ (zt0 ..);have h7:=(h6.set0 (v:=F A' n' c') hn).al (f #[G J.isSome] 4);have es7:∀ v,(w5.setCell ⟨W1.heap.size,0,C⟩ v).heap.size=w5.heap.size:=fun v=>by simp
   rw [es7] at h7;exact ⟨_,_,A',n',c',K2,rfl,rfl,h7.drop (fun q hq=>by simp only [ztT] at hq ⊢;rcases hq with h|h|h<;>simp [h]),hLg,fun q hq=>by have:=hk2 q hq;omega,by omega,by omega,by omega⟩
  ·have hk2:∀ q∈K2,W1.heap.size+1+1≤q.1:=fun q hq=>ztL (by simp) (hK2 q hq)
   have hn:∀ q∈(W1.heap.size+1,o6) :: (K2++K0),q.1≠W1.heap.size:=fun q hq=>by
    rcases ztT.1 hq with rfl|hq
    ·show W1.heap.size+1≠_;omega
    ·exact (zt1.1 hq).elim (fun h=>by have:=hk2 q h;omega) (fun h=>ztY (H0.out.lt q h))
   have h6:Dvx w g ((W1.heap.size,o5) :: (W1.heap.size+1,o6) :: (K2++K0)) d w5:=H5.drop fun q hq=>by simp only [ztT,zt1] at hq ⊢;rcases hq with h|h|h|h<;>simp [h]
   have hn2:∀ q∈(W1.heap.size,f #[F A' n' c'] 54 (0,0)) :: (K2++K0),q.1≠W1.heap.size+1:=fun q hq=>by
    rcases ztT.1 hq with rfl|hq
    ·show W1.heap.size≠_;omega
    ·exact (zt1.1 hq).elim (fun h=>by have:=hk2 q h;omega) (fun h=>by have:=H0.out.lt q h;omega)
   have h7:Dvx w g ((W1.heap.size+1,o6) :: (W1.heap.size,f #[F A' n' c'] 54 (0,0)) :: (K2++K0)) d _:=(h6.set0 (v:=F A' n' c') hn).drop fun q hq=>by simp only [ztT] at hq ⊢;rcases hq with h|h|h<;>simp [h]
   exact ⟨_,_,A',n',c',K2,rfl,rfl,(h7.set0 (v:=G J.isSome) hn2).drop (fun q hq=>by simp only [ztT] at hq ⊢;rcases hq with h|h|h<;>simp [h]),hLg,fun q hq=>by have:=hk2 q hq;omega,by omega,by omega,by omega⟩
  ·have hk2:∀ q∈K2,W1.heap.size+1≤q.1:=fun q hq=>ztL (by simp) (hK2 q hq);have hn:∀ q∈K2++K0,q.1≠W1.heap.size:=fun q hq=>(zt1.1 hq).elim (fun h=>by have:=hk2 q h;omega) (fun h=>ztY (H0.out.lt q h));have h6:Dvx w g ((W1.heap.size,o6) :: (K2++K0)) d w5:=H5.drop fun q hq=>by simp only [ztT,zt1] at hq ⊢;rcases hq with h|h|h<;>simp [h]
   have hlw:W1.heap.size<w5.heap.size:=h6.lt _ (zt0 ..);have h7:=(h6.set0 (v:=G J.isSome) hn).al (f #[F A' n' c'] 54);have es7:∀ v,(w5.setCell ⟨W1.heap.size,0,C⟩ v).heap.size=w5.heap.size:=fun v=>by simp
   rw [es7] at h7;exact ⟨_,_,A',n',c',K2,rfl,rfl,h7,hLg,fun q hq=>by have:=hk2 q hq;omega,by omega,by omega,by omega⟩
  ·have hk2:∀ q∈K2,W1.heap.size+1+1≤q.1:=fun q hq=>ztL (by simp) (hK2 q hq);have h6:Dvx w g ((W1.heap.size+1,o5) :: (W1.heap.size,o6) :: (K2++K0)) d w5:=H5.drop fun q hq=>by simp only [ztT,zt1] at hq ⊢;rcases hq with h|h|h|h<;>simp [h]
   have hn:∀ q∈(W1.heap.size,o6) :: (K2++K0),q.1≠W1.heap.size+1:=fun q hq=>by
    rcases ztT.1 hq with rfl|hq
    ·show W1.heap.size≠_;omega
    ·exact (zt1.1 hq).elim (fun h=>by have:=hk2 q h;omega) (fun h=>by have:=H0.out.lt q h;omega)
   have hn2:∀ q∈(W1.heap.size+1,f #[F A' n' c'] 54 (0,0)) :: (K2++K0),q.1≠W1.heap.size:=fun q hq=>by
    rcases ztT.1 hq with rfl|hq
    ·show W1.heap.size+1≠_;omega
    ·exact (zt1.1 hq).elim (fun h=>by have:=hk2 q h;omega) (fun h=>ztY (H0.out.lt q h))
   have h7:Dvx w g ((W1.heap.size,o6) :: (W1.heap.size+1,f #[F A' n' c'] 54 (0,0)) :: (K2++K0)) d _:=(h6.set0 (v:=F A' n' c') hn).drop fun q hq=>by simp only [ztT] at hq ⊢;rcases hq with h|h|h<;>simp [h]
   exact ⟨_,_,A',n',c',K2,rfl,rfl,(h7.set0 (v:=G J.isSome) hn2).drop (fun q hq=>by simp only [ztT] at hq ⊢;rcases hq with h|h|h<;>simp [h]),hLg,fun q hq=>by have:=hk2 q hq;omega,by omega,by omega,by omega⟩
 case rest =>
  obtain ⟨b5,b6,A',n',c',K2,rfl,rfl,H5,HLg,HK2,hb5,hb6,hb56⟩:=hcut;have HAL:=H5.out.al (f #[l D 0] 3);obtain ⟨W8,hW8⟩:∃ W8,W8=wc.alloc (f #[l D 0] 3):=⟨_,rfl⟩;have HW8:=zh hW8;have HT:=zh (KT.out b5 b6 A' n' c' K2 wc W8 H5.out HLg.out HK2.out hb5 hb6 hW8);obtain ⟨b7,hb7⟩:∃ b7,b7=wc.heap.size:=⟨_,rfl⟩;rw [←hb7] at HT;have HB7:=zh hb7;rw [←hW8] at HAL;have y0':W8.drew.cell? ⟨B,0,C⟩=E (ptr pm):=zcr _ _ 0 _ 32 (0,0) (HAL.get (ztK _ (ztK _ (ztK _ (ztU _ HM2.out)))));have z0':W8.drew.cell? ⟨pm,0,C⟩=E (ptr g):=zcr _ _ 0 _ 113 (0,0) (HAL.get (ztK _ (ztK _ (ztK _ (ztU _ HM0.out)))));have hly:B<W8.heap.size:=HAL.lt _ (ztK _ (ztK _ (ztK _ (ztU _ HM2.out))));have hlz:pm<W8.heap.size:=HAL.lt _ (ztK _ (ztK _ (ztK _ (ztU _ HM0.out))));clear KT KJ KC S0 S1 S2 H0 HAL hW8 hb7 y0 y1 y2 y3 hl1 hl2 hl3;unfold ptr at *
  go_upto_region 3 with fail
  refine zaf (w:=W8) HW8.out.symm ?_;rw [←HB7.out]
  go_still_tail 10,(by kernel_rfl)
  change wpList _ _ _ _ _ W8.drew
  go_wp2_with (go_at_call 40;(with_reducible refine HT.out.mono ?_);rintro q w9 ⟨rfl,E1,E2,E3,E4⟩;have HE1:=zh E1;have HE2:=zh E2;clear E1 E2)
  go_ret;exact ⟨rfl,HE1.out,HE2.out⟩
end
end Go.Proofs.YtidndekacnmihaaGreat
