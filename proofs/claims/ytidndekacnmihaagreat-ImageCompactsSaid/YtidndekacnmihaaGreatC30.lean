/- Parts of a proof. -/
import Derived.Test.YtidndekacnmihaaGreatC12
import Derived.Test.YtidndekacnmihaaGreatC25
import Derived.Test.YtidndekacnmihaaGreatC28
import Derived.Test.YtidndekacnmihaaGreatC29
set_option linter.all false
set_option maxHeartbeats 8000000
set_option maxRecDepth 100000
namespace Go.Proofs.YtidndekacnmihaaGreat
open Bool renaming false→U
open Ending renaming returned→N
open Go renaming Calls→O,World→R,Value→qc
open Go.RowKit renaming Below→qd
open Go.RowKit.Below renaming refl→qh
open IntKind renaming i64→C,u64→G
open Obj renaming cells→F
open Option renaming none→D,some→E
open Tryz renaming prog→Q
open Value renaming int→i,slice→M,string→V,pointer→qe,agg→qf,tuple→qg
open Tryz
variable {b b4 b5 b9 c g k n pm t:Nat} {W:R} {K:List (Nat×Obj)} {A:Option Addr} {u v:Int} {o:Obj} {cs:Array qc} {lg:qc}
open Go.RowKit
section
open Dk
open Ar (Sn)
def fiS (d:St) (p:Ip) (s:Sn) (es:List En):St×Int :=
 if (Ar.arW d (p.aA p.a:Nat) (p.S:Nat) p.v s).2≠0 then Ar.arW d (p.aA p.a:Nat) (p.S:Nat) p.v s
 else if (zdB (Ar.arW d (p.aA p.a:Nat) (p.S:Nat) p.v s).1 (p.hA p.h) p.L p.v es).2≠0 then zdB (Ar.arW d (p.aA p.a:Nat) (p.S:Nat) p.v s).1 (p.hA p.h) p.L p.v es
 else (zdB (Ar.arW d (p.aA p.a:Nat) (p.S:Nat) p.v s).1 (p.hA p.h) p.L p.v es).1.flush
theorem zae {w:R} {s:Sn} (h:w.heap[b]?=E (F s.c t (0,0))) :
 w.cell? ⟨b,0,D⟩=E (i G s.ix)∧w.cell? ⟨b,1,D⟩=E (i G s.tm)∧w.cell? ⟨b,2,D⟩=E (V s.da) :=
 ⟨zcr _ _ 0 _ t (0,0) h,zcr _ _ 1 _ t (0,0) h,zcr _ _ 2 _ t (0,0) h⟩
theorem zn8 {w:R} {d:St} {b6:Nat} {p:Ip} {s:Sn} (h:Dvx w g K d W) (ok:p.Ok) (sok:s.Ok)
 (k4:(b4,F #[ptr g] 24 (0,0))∈K) (k5:(b5,F p.c 65 (0,0))∈K) (k6:(b6,F s.c 43 (0,0))∈K) :
 O Q 105 #[ptr b4,ptr b5,ptr b6] W fun x w'=>x=N (i C (Ar.arW d (p.aA p.a:Nat) (p.S:Nat) p.v s).2)∧Dvx w g K (Ar.arW d (p.aA p.a:Nat) (p.S:Nat) p.v s).1 w':=by
 have hL:=ok.S;have ha:=ok.a;have haa:p.aA p.a≤1004:=by unfold Ip.aA;rcases (show p.a=0∨p.a=1 by omega) with h|h<;>rw [h]<;>omega
 have KA:=zh (fun W=>zef p ok p.a ok.a W)
 have KW:Hid (∀ Z,Dvx w g K d Z→O Q 106 #[ptr g,i C (p.aA p.a:Nat),i C (p.S:Nat),i C p.v,s.v] Z fun x w'=>x=N (i C (Ar.arW d (p.aA p.a:Nat) (p.S:Nat) p.v s).2)∧Dvx w g K (Ar.arW d (p.aA p.a:Nat) (p.S:Nat) p.v s).1 w') :=
  fun Z hZ=>hZ.c1 fun L hD=>Ar.zkJ g L d _ _ p.v s Z hD sok (by omega)
 have KC:Hid (∀ Z d',Dvx w g K d' Z→Z.cell? ⟨b4,0,D⟩=E (ptr g)∧(Z.cell? ⟨b5,0,D⟩=E (i C p.v)∧Z.cell? ⟨b5,1,D⟩=E (i C p.S)∧Z.cell? ⟨b5,2,D⟩=E (i C p.L)∧Z.cell? ⟨b5,3,D⟩=E (i C p.a)∧Z.cell? ⟨b5,4,D⟩=E (i C p.h)∧Z.cell? ⟨b5,5,D⟩=E (i C p.gl)∧Z.cell? ⟨b5,6,D⟩=E (i C p.sp))∧Z.cell? ⟨b6,0,D⟩=E (i G s.ix)∧Z.cell? ⟨b6,1,D⟩=E (i G s.tm)∧Z.cell? ⟨b6,2,D⟩=E (V s.da)) :=
  fun Z d' hZ=>⟨zcr _ _ 0 _ 24 (0,0) (hZ.get k4),zao (hZ.get k5),zae (hZ.get k6)⟩
 obtain ⟨T,hT⟩:∃ T,T=Ar.arW d (p.aA p.a:Nat) (p.S:Nat) p.v s:=⟨_,rfl⟩;rw [←hT] at KW ⊢;obtain ⟨x,hx⟩:∃ x:Int,x=((p.aA p.a:Nat):Int):=⟨_,rfl⟩;rw [←hx] at KA KW;have H:=zh h;have HD:=zh h.drew;obtain ⟨c4,⟨c50,c51,c52,c53,c54,c55,c56⟩,c60,c61,c62⟩:=KC.out _ _ h.drew;clear h hx hT haa ha k4 k5 k6 ok sok;unfold Ip.val ptr at *;go_enter func105,ntmps105
 go_upto_region 1 with fail
 go_region_held3 (fun w'=>w'.cell? ⟨b4,0,D⟩=E (qe (E ⟨g,0,D⟩))∧w'.cell? ⟨b5,0,D⟩=E (i C p.v)∧w'.cell? ⟨b5,1,D⟩=E (i C p.S)∧w'.cell? ⟨b5,2,D⟩=E (i C p.L)∧w'.cell? ⟨b5,3,D⟩=E (i C p.a)∧w'.cell? ⟨b5,4,D⟩=E (i C p.h)∧w'.cell? ⟨b5,5,D⟩=E (i C p.gl)∧w'.cell? ⟨b5,6,D⟩=E (i C p.sp)∧w'.cell? ⟨b6,0,D⟩=E (i G s.ix)∧w'.cell? ⟨b6,1,D⟩=E (i G s.tm)∧w'.cell? ⟨b6,2,D⟩=E (V s.da)) (first|exact ⟨c4,c50,c51,c52,c53,c54,c55,c56,c60,c61,c62⟩|exact ⟨f4,f50,f51,f52,f53,f54,f55,f56,f60,f61,f62⟩|exact ⟨e4,e50,e51,e52,e53,e54,e55,e56,e60,e61,e62⟩) (first
  | (go_at_call 35;(with_reducible refine (KA.out _).mono ?_);rintro q w1 ⟨rfl,b1⟩;have H1:=HD.out.below b1;obtain ⟨e4,⟨e50,e51,e52,e53,e54,e55,e56⟩,e60,e61,e62⟩:=KC.out _ _ H1)
  | (go_at_call 106;(with_reducible refine (KW.out _ H1).mono ?_);rintro q w2 ⟨rfl,H2⟩;obtain ⟨f4,⟨f50,f51,f52,f53,f54,f55,f56⟩,f60,f61,f62⟩:=KC.out _ _ H2))
 go_wp2;go_ret;exact ⟨rfl,H2⟩
theorem zn9 {w:R} {d:St} {b7:Nat} {p:Ip} {es:List En} (h:Dvx w g K d W) (ok:p.Ok) (hR:zcO K A n es) (hn:n≤64) (eok:∀ e∈es,e.Ok)
 (k4:(b4,F #[ptr g] 24 (0,0))∈K) (k5:(b5,F p.c 65 (0,0))∈K) (k7:(b7,F #[M A n c] 54 (0,0))∈K) :
 O Q 107 #[ptr b4,ptr b5,ptr b7] W fun x w'=>x=N (i C (zdB d (p.hA p.h) p.L p.v es).2)∧Dvx w g K (zdB d (p.hA p.h) p.L p.v es).1 w':=by
 have hS:=ok.S;have hL:=ok.L;have hh:=ok.h;have haa:p.hA p.h≤4000:=by unfold Ip.hA;rcases (show p.h=0∨p.h=1 by omega) with h|h<;>rw [h]<;>omega
 have KA:=zh (fun W=>zeL p ok W)
 have KW:Hid (∀ Z,Dvx w g K d Z→O Q 108 #[ptr g,qf #[i C (p.hA p.h:Nat),i C p.L,i C p.v],M A n c] Z fun x w'=>x=N (i C (zdB d (p.hA p.h) p.L p.v es).2)∧Dvx w g K (zdB d (p.hA p.h) p.L p.v es).1 w') :=
  fun Z hZ=>hZ.c1 fun L hD=>zng g L d _ _ p.v A n c es Z hD (by omega) (by omega) (hR Z hZ.bk) hn eok
 have KC:Hid (∀ Z d',Dvx w g K d' Z→Z.cell? ⟨b4,0,D⟩=E (ptr g)∧(Z.cell? ⟨b5,0,D⟩=E (i C p.v)∧Z.cell? ⟨b5,1,D⟩=E (i C p.S)∧Z.cell? ⟨b5,2,D⟩=E (i C p.L)∧Z.cell? ⟨b5,3,D⟩=E (i C p.a)∧Z.cell? ⟨b5,4,D⟩=E (i C p.h)∧Z.cell? ⟨b5,5,D⟩=E (i C p.gl)∧Z.cell? ⟨b5,6,D⟩=E (i C p.sp))∧Z.cell? ⟨b7,0,D⟩=E (M A n c)) :=
  fun Z d' hZ=>⟨zcr _ _ 0 _ 24 (0,0) (hZ.get k4),zao (hZ.get k5),zcr _ _ 0 _ 54 (0,0) (hZ.get k7)⟩
 obtain ⟨T,hT⟩:∃ T,T=zdB d (p.hA p.h) p.L p.v es:=⟨_,rfl⟩;rw [←hT] at KW ⊢;obtain ⟨x,hx⟩:∃ x:Int,x=((p.hA p.h:Nat):Int):=⟨_,rfl⟩;rw [←hx] at KA KW;have H:=zh h;have HD:=zh h.drew;obtain ⟨c4,⟨c50,c51,c52,c53,c54,c55,c56⟩,c60⟩:=KC.out _ _ h.drew;clear h hx hT haa hh k4 k5 k7 ok hR eok;unfold Ip.val ptr at *;go_enter func107,ntmps107
 go_upto_region 1 with fail
 go_region_held3 (fun w'=>w'.cell? ⟨b4,0,D⟩=E (qe (E ⟨g,0,D⟩))∧w'.cell? ⟨b5,0,D⟩=E (i C p.v)∧w'.cell? ⟨b5,1,D⟩=E (i C p.S)∧w'.cell? ⟨b5,2,D⟩=E (i C p.L)∧w'.cell? ⟨b5,3,D⟩=E (i C p.a)∧w'.cell? ⟨b5,4,D⟩=E (i C p.h)∧w'.cell? ⟨b5,5,D⟩=E (i C p.gl)∧w'.cell? ⟨b5,6,D⟩=E (i C p.sp)∧w'.cell? ⟨b7,0,D⟩=E (M A n c)) (first|exact ⟨c4,c50,c51,c52,c53,c54,c55,c56,c60⟩|exact ⟨f4,f50,f51,f52,f53,f54,f55,f56,f60⟩|exact ⟨e4,e50,e51,e52,e53,e54,e55,e56,e60⟩) (first
  | (go_at_call 81;(with_reducible refine (KA.out _).mono ?_);rintro q w1 ⟨rfl,b1⟩;have H1:=HD.out.below b1;obtain ⟨e4,⟨e50,e51,e52,e53,e54,e55,e56⟩,e60⟩:=KC.out _ _ H1)
  | (go_at_call 108;(with_reducible refine (KW.out _ H1).mono ?_);rintro q w2 ⟨rfl,H2⟩;obtain ⟨f4,⟨f50,f51,f52,f53,f54,f55,f56⟩,f60⟩:=KC.out _ _ H2))
 go_wp2;go_ret;exact ⟨rfl,H2⟩
theorem zlB {w:R} {d:St} {p:Ip} {s:Sn} {es:List En} (h:Dvx w g K d W) (ok:p.Ok) (sok:s.Ok) (hR:zcO K A n es) (hn:n≤64) (eok:∀ e∈es,e.Ok) :
 O Q 42 #[ptr g,p.val,s.v,M A n c] W fun x w'=>x=N (i C (fiS d p s es).2)∧Dvx w g K (fiS d p s es).1 w':=by
 obtain ⟨B,hB⟩:∃ B,B=W.heap.size:=⟨_,rfl⟩;obtain ⟨W1,hW1⟩:∃ W1,W1=(((W.alloc (F #[ptr g] 24)).alloc (F p.c 65)).alloc (F s.c 43)).alloc (F #[M A n c] 54):=⟨_,rfl⟩;have hsz:W1.heap.size=B+4:=by rw [hW1,hB];simp
 have hb1:qd W.heap.size W W1:=by rw [hW1];exact ((((qh _ W).alloc (ztI _) _).alloc (by simp) _).alloc (by simp only [ztR];omega) _).alloc (by simp only [ztR];omega) _
 have q4:W1.heap[B]?=E (F #[ptr g] 24 (0,0)):=by rw [hW1,hB];exact (ztQ _ _ _ (by simp only [ztR];omega)).trans ((ztQ _ _ _ (by simp only [ztR];omega)).trans ((ztQ _ _ _ (by simp)).trans (ztJ W _)))
 have q5:W1.heap[B+1]?=E (F p.c 65 (0,0)):=by rw [hW1,hB];exact (ztQ _ _ _ (by simp only [ztR];omega)).trans ((ztQ _ _ _ (by simp only [ztR];omega)).trans (heap_alloc2_new W _ _))
 have q6:W1.heap[B+1+1]?=E (F s.c 43 (0,0)):=by
  have h:=ztJ ((W.alloc (F #[ptr g] 24)).alloc (F p.c 65)) (F s.c 43);rw [ztR,ztR] at h;rw [hW1,hB];exact (ztQ _ _ _ (by simp only [ztR];omega)).trans h
 have q7:W1.heap[B+1+1+1]?=E (F #[M A n c] 54 (0,0)):=by
  have h:=ztJ (((W.alloc (F #[ptr g] 24)).alloc (F p.c 65)).alloc (F s.c 43)) (F #[M A n c] 54);rw [ztR,ztR,ztR] at h;rw [hW1,hB];exact h
 obtain ⟨fs,hfs⟩:∃ fs:Array qc,fs=#[.func (.func 105) #[] #[ptr B,ptr (B+1),ptr (B+1+1)],.func (.func 107) #[] #[ptr B,ptr (B+1),ptr (B+1+1+1)],.func (.func 82) #[ptr g] #[]]:=⟨_,rfl⟩;obtain ⟨K1,hK1⟩:∃ K1:List (Nat×Obj),K1=[(B,F #[ptr g] 24 (0,0)),(B+1,F p.c 65 (0,0)),(B+1+1,F s.c 43 (0,0)),(B+1+1+1,F #[M A n c] 54 (0,0))]++K:=⟨_,rfl⟩
 have h1:Dvx w g K1 d W1:=by
  rw [hK1];exact h.adds hb1 _ (by simp only [ztT,List.not_mem_nil,or_false];rintro q (rfl|rfl|rfl|rfl)<;>exact ⟨by rw [hB];omega,by assumption⟩)
 obtain ⟨W2,hW2⟩:∃ W2,W2=W1.alloc (F fs 96):=⟨_,rfl⟩
 have h2:Dvx w g ((B+4,F fs 96 (0,0)) :: K1) d W2:=by
  rw [hW2,←hsz];exact h1.add ((qh _ W1).alloc (ztI _) _) (ztI _) (ztJ W1 _)
 obtain ⟨K2,hK2⟩:∃ K2,K2=(B+4,F fs 96 (0,0)) :: K1:=⟨_,rfl⟩;rw [←hK2] at h2;have m4:(B,F #[ptr g] 24 (0,0))∈K2:=by rw [hK2,hK1];simp
 have m5:(B+1,F p.c 65 (0,0))∈K2:=by rw [hK2,hK1];simp
 have m6:(B+1+1,F s.c 43 (0,0))∈K2:=by rw [hK2,hK1];simp
 have m7:(B+1+1+1,F #[M A n c] 54 (0,0))∈K2:=by rw [hK2,hK1];simp
 have hsub:∀ q∈K,q∈K2:=fun q hq=>by rw [hK2,hK1];simp [hq]
 have hbs:(B+4,F fs 96 (0,0))∈K2:=by rw [hK2];simp
 have hR2:zcO K2 A n es:=hR.sub hsub;obtain ⟨a,ha⟩:∃ a,a=Ar.arW d (p.aA p.a:Nat) (p.S:Nat) p.v s:=⟨_,rfl⟩;obtain ⟨b,hb⟩:∃ b,b=zdB a.1 (p.hA p.h) p.L p.v es:=⟨_,rfl⟩;obtain ⟨f,hf⟩:∃ f,f=b.1.flush:=⟨_,rfl⟩;obtain ⟨T,hT⟩:∃ T,T=fiS d p s es:=⟨_,rfl⟩;have hT2:T=if a.2≠0 then a else if b.2≠0 then b else f:=by rw [hT,hf,hb,ha];rfl
 have KT:O Q 40 #[M (E ⟨B+4,0,D⟩) 3 3] W2 fun e w'=>∃ z:Int,e=N (i C z)∧(z=0→Dvx w g K2 f.1 w'∧a.2=0∧b.2=0∧f.2=0)∧(z≠0→Dvx w g K2 T.1 w'∧z=T.2):=by
  subst hfs
  refine zlH hbs (fun xs w=>rfl) (fun xs w=>rfl) (fun xs w=>rfl) (fun Z=>Dvx w g K2 d Z) (fun Z=>Dvx w g K2 a.1 Z∧a.2=0) (fun Z=>Dvx w g K2 b.1 Z∧a.2=0∧b.2=0) _ _
   (fun Z h=>h.bk) (fun Z h=>h.1.bk) (fun Z h=>h.1.bk) (fun Z h=>h.1.bk _ hbs) h2 ?_ ?_ ?_
  ·refine Stp.of (r:=a.2) (P:=fun Z=>Dvx w g K2 a.1 Z) (fun Z hZ=>?_) (fun Z hz hP=>⟨hP,hz⟩) (fun Z hz hP=>by rw [hT2,if_pos hz];exact ⟨hP,rfl⟩);rw [ha];exact zn8 hZ ok sok m4 m5 m6
  ·refine fun Z hI=>Stp.of (I:=fun Z=>Dvx w g K2 a.1 Z) (r:=b.2) (P:=fun Z=>Dvx w g K2 b.1 Z) (fun Z hZ=>?_) (fun Z hz hP=>⟨hP,hI.2,hz⟩) (fun Z hz hP=>by rw [hT2,if_neg (by rw [hI.2];simp),if_pos hz];exact ⟨hP,rfl⟩) Z hI.1;rw [hb];exact zn9 hZ ok hR2 hn eok m4 m5 m7
  ·refine fun Z hI=>Stp.of (I:=fun Z=>Dvx w g K2 b.1 Z) (r:=f.2) (P:=fun Z=>Dvx w g K2 f.1 Z) (fun Z hZ=>?_) (fun Z hz hP=>⟨hP,hI.2.1,hI.2.2,hz⟩) (fun Z hz hP=>by rw [hT2,if_neg (by rw [hI.2.1];simp),if_neg (by rw [hI.2.2];simp)];exact ⟨hP,rfl⟩) Z hI.1;rw [hf];exact hZ.c1 fun L hD=>zd9 g L _ Z hD
 rw [hW2,hfs,←hsz] at KT;have HT:=zh KT
 have HF:Hid (∀ w',(Dvx w g K2 f.1 w'∧a.2=0∧b.2=0∧f.2=0)→Dvx w g K T.1 w'∧T.2=0):=fun w' ⟨x1,x2,x3,x4⟩=>by
  rw [hT2,if_neg (by rw [x2];simp),if_neg (by rw [x3];simp)];exact ⟨x1.drop hsub,x4⟩
 have HG:Hid (∀ w',Dvx w g K2 T.1 w'→Dvx w g K T.1 w'):=fun w' hx=>hx.drop hsub;have c4:W1.cell? ⟨B,0,D⟩=E (ptr g):=zcr _ _ 0 _ 24 (0,0) q4;rw [←hT];have HB:=zh hB;have HS:=zh hsz;have HW1:=zh hW1;have HW2:=zh hW2;have HFS:=zh hfs;clear hT hT2 hf hb ha KT hR2 hbs hsub m4 m5 m6 m7 hK2 h2 hW2 h1 hK1 hfs q4 q5 q6 q7 hb1 hsz hW1 hB h ok sok hR eok;unfold Ip.val ptr at *;go_enter func42,ntmps42
 go_upto_region 1 with fail
 refine zaf (w:=W1) HW1.out.symm ?_;rw [←HB.out]
 go_wp2_with (go_at_call 40;(with_reducible refine HT.out.mono ?_);rintro q w3 ⟨z,rfl,hz0,hz1⟩)
 go_ret
 by_cases hz:z=0
 ·obtain ⟨y1,y2⟩:=HF.out _ (hz0 hz);exact ⟨by rw [y2];subst hz;rfl,y1⟩
 ·obtain ⟨y1,y2⟩:=hz1 hz;exact ⟨by rw [←y2];rfl,HG.out _ y1⟩
end
section
open Dk
open Ar (Sn sn0)
open J.Sl (Su Hd su0 hd0 sec)
open J (setS setH)
def Ip.su (p:Ip):Su:=⟨p.v,p.S,p.L,p.a,p.h,p.gl,p.sp⟩
def foS (d:St) (p:Ip):St×Int :=
 if (fiS d p sn0 []).2≠0 then fiS d p sn0 []
 else if (setH (fiS d p sn0 []).1 p.v hd0).2≠0 then setH (fiS d p sn0 []).1 p.v hd0
 else setS (setH (fiS d p sn0 []).1 p.v hd0).1 p.su
theorem zlC:sn0.Ok:=⟨by decide,by decide,by decide⟩
theorem zjn:hd0.Ok:=⟨by decide,by decide,by decide,by decide⟩
theorem zoa {w:R} {d:St} {p:Ip} (h:Dvx w g K d W) (ok:p.Ok)
 (k4:(b4,F #[ptr g] 24 (0,0))∈K) (k9:(b9,F p.c 65 (0,0))∈K) :
 O Q 41 #[ptr b4,ptr b9] W fun x w'=>x=N (i C (fiS d p sn0 []).2)∧Dvx w g K (fiS d p sn0 []).1 w':=by
 have KF:Hid (O Q 42 #[ptr g,p.val,qf #[i G 0,i G 0,V ⟨#[]⟩],M D 0 0] W fun x w'=>x=N (i C (fiS d p sn0 []).2)∧Dvx w g K (fiS d p sn0 []).1 w') :=
  zlB (s:=sn0) (A:=D) (n:=0) (c:=0) (es:=[]) h ok zlC (zcO.nil K) (by omega) (by simp)
 have c4:W.cell? ⟨b4,0,D⟩=E (ptr g):=zcr _ _ 0 _ 24 (0,0) (h.get k4);obtain ⟨c50,c51,c52,c53,c54,c55,c56⟩:=zao (h.get k9);obtain ⟨T,hT⟩:∃ T,T=fiS d p sn0 []:=⟨_,rfl⟩;rw [←hT] at KF ⊢;clear h ok k4 k9 hT;unfold Ip.val ptr at *;go_enter func41,ntmps41
 go_wp2_with (go_at_call 42;(with_reducible refine KF.out.mono ?_);rintro q w1 ⟨rfl,h1⟩)
 go_ret;exact ⟨rfl,h1⟩
theorem zob {w:R} {d:St} (h:Dvx w g K d W)
 (k4:(b4,F #[ptr g] 24 (0,0))∈K) (k5:(b5,F #[i C v] 3 (0,0))∈K) :
 O Q 43 #[ptr b4,ptr b5] W fun x w'=>x=N (i C (setH d v hd0).2)∧Dvx w g K (setH d v hd0).1 w':=by
 have KF:Hid (O Q 44 #[ptr g,i C v,qf #[i G 0,i C 0,i G 0]] W fun x w'=>x=N (i C (setH d v hd0).2)∧Dvx w g K (setH d v hd0).1 w') :=
  h.c1 fun L hD=>J.zff g L d v hd0 W hD zjn
 have c4:W.cell? ⟨b4,0,D⟩=E (ptr g):=zcr _ _ 0 _ 24 (0,0) (h.get k4);have c5:W.cell? ⟨b5,0,D⟩=E (i C v):=zcr _ _ 0 _ 3 (0,0) (h.get k5);obtain ⟨T,hT⟩:∃ T,T=setH d v hd0:=⟨_,rfl⟩;rw [←hT] at KF ⊢;clear h k4 k5 hT;unfold ptr at *;go_enter func43,ntmps43
 go_wp2_with (go_at_call 44;(with_reducible refine KF.out.mono ?_);rintro q w1 ⟨rfl,h1⟩)
 go_ret;exact ⟨rfl,h1⟩
theorem zoc {w:R} {d:St} {p:Ip} (h:Dvx w g K d W)
 (k4:(b4,F #[ptr g] 24 (0,0))∈K) (k9:(b9,F p.c 65 (0,0))∈K) :
 O Q 45 #[ptr b4,ptr b9] W fun x w'=>x=N (i C (setS d p.su).2)∧Dvx w g K (setS d p.su).1 w':=by
 have KF:Hid (O Q 46 #[ptr g,p.val] W fun x w'=>x=N (i C (setS d p.su).2)∧Dvx w g K (setS d p.su).1 w') :=
  h.c1 fun L hD=>J.zes g L d p.su W hD
 have c4:W.cell? ⟨b4,0,D⟩=E (ptr g):=zcr _ _ 0 _ 24 (0,0) (h.get k4);obtain ⟨c50,c51,c52,c53,c54,c55,c56⟩:=zao (h.get k9);obtain ⟨T,hT⟩:∃ T,T=setS d p.su:=⟨_,rfl⟩;rw [←hT] at KF ⊢;clear h k4 k9 hT;unfold Ip.val ptr at *;go_enter func45,ntmps45
 go_wp2_with (go_at_call 46;(with_reducible refine KF.out.mono ?_);rintro q w1 ⟨rfl,h1⟩)
 go_ret;exact ⟨rfl,h1⟩
theorem zhr {p:Ip} (ok:p.Ok) (hg:p.gl=0) (hs:p.sp=0):J.Sl.rgt p.su=true:=by
 rw [J.Sl.zbj]
 have:=ok.v;have:=ok.S;have:=ok.L;have:=ok.a;have:=ok.h
 show (1≤p.v∧p.v≤2)∧(1≤(p.S:Int)∧(p.S:Int)≤1000)∧(1≤(p.L:Int)∧(p.L:Int)≤1000)∧(0≤(p.a:Int)∧(p.a:Int)≤1)∧(0≤(p.h:Int)∧(p.h:Int)≤1)∧(0≤p.gl∧p.gl≤2)∧(0≤p.sp∧p.sp≤9)∧(p.gl≠0∨p.sp=0);omega
theorem zp2 (W:R) (a b c:Obj):∃ W1,W1=((W.alloc a).alloc b).alloc c∧W1.heap.size=W.heap.size+3∧qd W.heap.size W W1∧W1.heap[W.heap.size]?=E a∧W1.heap[W.heap.size+1]?=E b∧W1.heap[W.heap.size+1+1]?=E c:=by
 refine ⟨_,rfl,by simp,(((qh _ W).alloc (ztI _) _).alloc (by simp) _).alloc (by simp only [ztR];omega) _,?_,?_,?_⟩
 ·exact (ztQ _ _ _ (by simp only [ztR];omega)).trans ((ztQ _ _ _ (by simp)).trans (ztJ W _))
 ·exact (ztQ _ _ _ (by simp only [ztR];omega)).trans (heap_alloc2_new W _ _)
 ·have h:=ztJ ((W.alloc a).alloc b) c;rw [ztR,ztR] at h;exact h
theorem zlD {w:R} {d:St} {S L:Nat} (h:Dvx w g K d W) (ok:(Ip.mk v S L 0 0 0 0).Ok) (hn:4+2*(S+L)≤d.n) :
 O Q 13 #[ptr g,i C v,i C S,i C L] W fun x w'=>x=N (i C (foS d ⟨v,S,L,0,0,0,0⟩).2)∧Dvx w g K (foS d ⟨v,S,L,0,0,0,0⟩).1 w':=by
 obtain ⟨p,hp⟩:∃ p,p=Ip.mk v S L 0 0 0 0:=⟨_,rfl⟩;have hpc:p.c=#[i C v,i C S,i C L,i C 0,i C 0,i C 0,i C 0]:=by rw [hp];rfl
 have hsu:sec p.su=4+2*((S:Int)+L):=by
  unfold J.Sl.sec;rw [if_pos (zhr (hp▸ok) (by rw [hp]) (by rw [hp])),hp];rfl
 have hpv:p.v=v:=by rw [hp]
 rw [←hp] at ok ⊢;obtain ⟨W1,hW1,hsz,hb1,q4,q5,q9⟩:=zp2 W (F #[ptr g] 24) (F #[i C v] 3) (F p.c 65);obtain ⟨B,hB⟩:∃ B,B=W.heap.size:=⟨_,rfl⟩;rw [←hB] at q4 q5 q9 hsz;obtain ⟨K1,hK1⟩:∃ K1:List (Nat×Obj),K1=[(B,F #[ptr g] 24 (0,0)),(B+1,F #[i C v] 3 (0,0)),(B+1+1,F p.c 65 (0,0))]++K:=⟨_,rfl⟩
 have h1:Dvx w g K1 d W1:=by
  rw [hK1];exact h.adds hb1 _ (by simp only [ztT,List.not_mem_nil,or_false];rintro q (rfl|rfl|rfl)<;>exact ⟨by rw [hB];omega,by assumption⟩)
 have KS:Hid (∀ Z,O Q 38 #[qf p.c] Z fun e w'=>e=N (i C (4+2*((S:Int)+L)))∧qd Z.heap.size Z w'):=fun Z=>by
  have:=J.zbS p.su Z
  rw [hsu] at this;exact this
 have KD:Hid (∀ Z,Dvx w g K1 d Z→O Q 39 #[ptr g] Z fun e w'=>e=N (i C d.n)∧Z=w'):=fun Z hZ=>by
  obtain ⟨L',hD,_⟩:=hZ;exact zdD g L' d Z hD
 obtain ⟨fs,hfs⟩:∃ fs:Array qc,fs=#[.func (.func 41) #[] #[ptr B,ptr (B+1+1)],.func (.func 43) #[] #[ptr B,ptr (B+1)],.func (.func 45) #[] #[ptr B,ptr (B+1+1)]]:=⟨_,rfl⟩;have hsub0:∀ q∈K,q∈K1:=fun q hq=>by rw [hK1];simp [hq]
 have m4:(B,F #[ptr g] 24 (0,0))∈K1:=by rw [hK1];simp
 have m5:(B+1,F #[i C v] 3 (0,0))∈K1:=by rw [hK1];simp
 have m9:(B+1+1,F p.c 65 (0,0))∈K1:=by rw [hK1];simp
 obtain ⟨a,ha⟩:∃ a,a=fiS d p sn0 []:=⟨_,rfl⟩;obtain ⟨b,hb⟩:∃ b,b=setH a.1 p.v hd0:=⟨_,rfl⟩;obtain ⟨f,hf⟩:∃ f,f=setS b.1 p.su:=⟨_,rfl⟩;obtain ⟨T,hT⟩:∃ T,T=foS d p:=⟨_,rfl⟩;have hT2:T=if a.2≠0 then a else if b.2≠0 then b else f:=by rw [hT,hf,hb,ha];rfl
 have KT:Hid (∀ Z,Dvx w g K1 d Z→O Q 40 #[M (E ⟨Z.heap.size,0,D⟩) 3 3] (Z.alloc (F fs 96)) fun e w'=>e=N (i C T.2)∧Dvx w g K T.1 w'):=fun Z hZ=>by
  obtain ⟨K2,hK2⟩:∃ K2,K2=(Z.heap.size,F fs 96 (0,0)) :: K1:=⟨_,rfl⟩
  have h2:Dvx w g K2 d (Z.alloc (F fs 96)):=by
   rw [hK2];exact hZ.add ((qh _ Z).alloc (ztI _) _) (ztI _) (ztJ Z _)
  have hbs:(Z.heap.size,F fs 96 (0,0))∈K2:=by rw [hK2];simp
  have s1:∀ q∈K1,q∈K2:=fun q hq=>by rw [hK2];simp [hq]
  rw [hfs] at hbs h2 ⊢
  refine (zlH hbs (fun xs w=>rfl) (fun xs w=>rfl) (fun xs w=>rfl) (fun Z=>Dvx w g K2 d Z) (fun Z=>Dvx w g K2 a.1 Z∧a.2=0) (fun Z=>Dvx w g K2 b.1 Z∧a.2=0∧b.2=0) (fun Z=>Dvx w g K2 f.1 Z∧a.2=0∧b.2=0∧f.2=0) (fun z Z=>Dvx w g K2 T.1 Z∧z=T.2)
   (fun Z h=>h.bk) (fun Z h=>h.1.bk) (fun Z h=>h.1.bk) (fun Z h=>h.1.bk _ hbs) h2 ?_ ?_ ?_).mono ?_
  ·refine Stp.of (r:=a.2) (P:=fun Z=>Dvx w g K2 a.1 Z) (fun Z hZ=>?_) (fun Z hz hP=>⟨hP,hz⟩) (fun Z hz hP=>by rw [hT2,if_pos hz];exact ⟨hP,rfl⟩);rw [ha];exact zoa hZ ok (s1 _ m4) (s1 _ m9)
  ·refine fun Z hI=>Stp.of (I:=fun Z=>Dvx w g K2 a.1 Z) (r:=b.2) (P:=fun Z=>Dvx w g K2 b.1 Z) (fun Z hZ=>?_) (fun Z hz hP=>⟨hP,hI.2,hz⟩) (fun Z hz hP=>by rw [hT2,if_neg (by rw [hI.2];simp),if_pos hz];exact ⟨hP,rfl⟩) Z hI.1;rw [hb,hpv];exact zob hZ (s1 _ m4) (s1 _ m5)
  ·refine fun Z hI=>Stp.of (I:=fun Z=>Dvx w g K2 b.1 Z) (r:=f.2) (P:=fun Z=>Dvx w g K2 f.1 Z) (fun Z hZ=>?_) (fun Z hz hP=>⟨hP,hI.2.1,hI.2.2,hz⟩) (fun Z hz hP=>by rw [hT2,if_neg (by rw [hI.2.1];simp),if_neg (by rw [hI.2.2];simp)];exact ⟨hP,rfl⟩) Z hI.1;rw [hf];exact zoc hZ (s1 _ m4) (s1 _ m9)
  ·rintro e w' ⟨z,rfl,hz0,hz1⟩
   by_cases hz:z=0
   ·obtain ⟨x1,x2,x3,x4⟩:=hz0 hz;have e1:T=f:=by rw [hT2,if_neg (by rw [x2];simp),if_neg (by rw [x3];simp)]
    exact ⟨by rw [hz,e1,x4],by rw [e1];exact x1.drop fun q hq=>s1 _ (hsub0 _ hq)⟩
   ·obtain ⟨y1,y2⟩:=hz1 hz;exact ⟨by rw [y2],y1.drop fun q hq=>s1 _ (hsub0 _ hq)⟩
 have t3:decide ((d.n:Int)<4+2*((S:Int)+L))=U:=ztM (by omega)
 have t0:((4+2*((S:Int)+L))==0)=U:=by
  have:=ok.S
  simp
  omega
 have HC:=zh (h1.get m9);obtain ⟨c50,c51,c52,c53,c54,c55,c56⟩:=zao (h1.get m9);have c4:W1.cell? ⟨B,0,D⟩=E (ptr g):=zcr _ _ 0 _ 24 (0,0) q4;have KCC:Hid (∀ Z,Dvx w g K1 d Z→Z.cell? ⟨B,0,D⟩=E (ptr g)):=fun Z hZ=>zcr _ _ 0 _ 24 (0,0) (hZ.get m4);have H1:=zh h1;rw [←hT];rw [hfs] at KT;obtain ⟨X,hX⟩:∃ X:Int,X=4+2*((S:Int)+L):=⟨_,rfl⟩;rw [←hX] at KS t0 t3;rw [hpc] at hW1;have HW1:=zh hW1;have HB:=zh hB;clear hX hT hT2 hf hb ha m4 m5 m9 hsub0 hfs h1 hK1 q4 q5 q9 hb1 hsz hW1 hB h ok hsu hp hpv hn;unfold ptr at *;go_enter func13,ntmps13
 go_upto_region 2 with fail
 refine zaf (w:=W1) HW1.out.symm ?_;rw [←HB.out];have KSc:Hid (O Q 38 #[qf #[i C p.v,i C p.S,i C p.L,i C p.a,i C p.h,i C p.gl,i C p.sp]] W1 fun e w'=>e=N (i C X)∧qd W1.heap.size W1 w'):=KS.out W1;clear KS hpc
 go_wp2_with (first
  | (go_at_call 38;(with_reducible refine KSc.out.mono ?_);rintro q w2 ⟨rfl,b2⟩;have H2:=H1.out.below b2;have e4:=KCC.out _ H2)
  | (go_at_call 39;(with_reducible refine (KD.out _ H2).mono ?_);rintro q w3 ⟨rfl,rfl⟩)
  | (go_at_call 40;(with_reducible refine (KT.out _ H2).mono ?_);rintro q w4 ⟨rfl,H4⟩))
 go_ret;exact ⟨rfl,H4⟩
end
section
open Dk
open Ar (Sn sn0)
open J.Sl (Su Hd su0 hd0 sec)
open J (setS setH ldS ldH ldE)
theorem Dvx.hd {w:R} {d:St} (h:Dvx w g ((k,o) :: K) d W):W.heap[k]?=E o:=h.get (by simp)
theorem Dvx.hl {w:R} {d:St} (h:Dvx w g ((k,o) :: K) d W):w.heap.size≤k:=h.low (o:=o) (by simp)
def setl (k:Nat):List (Nat×qc)→R→R
 | [],w=>w
 | p :: l,w=>setl k l (w.setCell ⟨k,p.1,D⟩ p.2)
def setc:List (Nat×qc)→Array qc→Array qc
 | [],c=>c
 | p :: l,c=>setc l (c.setIfInBounds p.1 p.2)
theorem zbt (k t:Nat):∀ (l:List (Nat×qc)) (w:R) (cs:Array qc),w.heap[k]?=E (F cs t (0,0))→(setl k l w).heap[k]?=E (F (setc l cs) t (0,0))∧(∀ j,j≠k→(setl k l w).heap[j]?=w.heap[j]?)∧∀ B a,qd B a w→B≤k→qd B a (setl k l w)
 | [],w,cs,h=>⟨h,fun _ _=>rfl,fun _ _ hb _=>hb⟩
 | p :: l,w,cs,h=>by
   obtain ⟨i1,i2,i3⟩:=zbt k t l (w.setCell ⟨k,p.1,D⟩ p.2) _ (heap_setCell_same w k p.1 cs t p.2 h);exact ⟨i1,fun j hj=>(i2 j hj).trans (ztX _ _ _ _ hj),fun B a hb hk=>i3 B a (hb.setCell hk _) hk⟩
theorem Dvx.puts {w:R} {d:St} (h:Dvx w g ((k,F cs t (0,0)) :: K) d W) (hn:∀ q∈K,q.1≠k) (l:List (Nat×qc)) :
 Dvx w g ((k,F (setc l cs) t (0,0)) :: K) d (setl k l W):=by
 obtain ⟨i1,i2,i3⟩:=zbt k t l W cs h.hd;exact h.put hn i1 i2 (i3 _ _ h.be h.hl)
abbrev imc (g:Nat) (S:Su) (H:Hd) (s:Sn) (lg:qc) (u:Int):Array qc :=
 #[ptr g,i C S.v,i C S.sn,i C S.lg,i C S.ar,i C S.hf,i C S.gl,i C S.sp,i G H.tm,i C H.vo,i G H.cm,i G s.ix,i G s.tm,V s.da,lg,i C u]
theorem zbi {w:R} {S:Su} {H:Hd} {s:Sn} (h:w.heap[b]?=E (F (imc g S H s lg u) 113 (0,0))) :
 w.cell? ⟨b,0,D⟩=E (qe (E ⟨g,0,D⟩))∧w.cell? ⟨b,1,D⟩=E (i C S.v)∧w.cell? ⟨b,2,D⟩=E (i C S.sn)∧w.cell? ⟨b,3,D⟩=E (i C S.lg)∧w.cell? ⟨b,4,D⟩=E (i C S.ar)∧w.cell? ⟨b,5,D⟩=E (i C S.hf)∧w.cell? ⟨b,6,D⟩=E (i C S.gl)∧w.cell? ⟨b,7,D⟩=E (i C S.sp)∧w.cell? ⟨b,8,D⟩=E (i G H.tm)∧w.cell? ⟨b,9,D⟩=E (i C H.vo)∧w.cell? ⟨b,10,D⟩=E (i G H.cm)∧w.cell? ⟨b,11,D⟩=E (i G s.ix)∧w.cell? ⟨b,12,D⟩=E (i G s.tm)∧w.cell? ⟨b,13,D⟩=E (V s.da)∧w.cell? ⟨b,14,D⟩=E (lg)∧w.cell? ⟨b,15,D⟩=E (i C u) :=
 ⟨zcr _ _ 0 _ 113 (0,0) h,zcr _ _ 1 _ 113 (0,0) h,zcr _ _ 2 _ 113 (0,0) h,zcr _ _ 3 _ 113 (0,0) h,zcr _ _ 4 _ 113 (0,0) h,zcr _ _ 5 _ 113 (0,0) h,zcr _ _ 6 _ 113 (0,0) h,zcr _ _ 7 _ 113 (0,0) h,zcr _ _ 8 _ 113 (0,0) h,zcr _ _ 9 _ 113 (0,0) h,zcr _ _ 10 _ 113 (0,0) h,zcr _ _ 11 _ 113 (0,0) h,zcr _ _ 12 _ 113 (0,0) h,zcr _ _ 13 _ 113 (0,0) h,zcr _ _ 14 _ 113 (0,0) h,zcr _ _ 15 _ 113 (0,0) h⟩
theorem zgb {w:R} (h:w.heap[b]?=E (F cs 113 (0,0))) :
 w.frozen? ⟨b,1,D⟩=U∧w.frozen? ⟨b,2,D⟩=U∧w.frozen? ⟨b,3,D⟩=U∧w.frozen? ⟨b,4,D⟩=U∧w.frozen? ⟨b,5,D⟩=U∧w.frozen? ⟨b,6,D⟩=U∧w.frozen? ⟨b,7,D⟩=U∧w.frozen? ⟨b,8,D⟩=U∧w.frozen? ⟨b,9,D⟩=U∧w.frozen? ⟨b,10,D⟩=U∧w.frozen? ⟨b,11,D⟩=U∧w.frozen? ⟨b,12,D⟩=U∧w.frozen? ⟨b,13,D⟩=U∧w.frozen? ⟨b,14,D⟩=U∧w.frozen? ⟨b,15,D⟩=U :=
 ⟨frozen_of_row _ _ 1 _ 113 h,frozen_of_row _ _ 2 _ 113 h,frozen_of_row _ _ 3 _ 113 h,frozen_of_row _ _ 4 _ 113 h,frozen_of_row _ _ 5 _ 113 h,frozen_of_row _ _ 6 _ 113 h,frozen_of_row _ _ 7 _ 113 h,frozen_of_row _ _ 8 _ 113 h,frozen_of_row _ _ 9 _ 113 h,frozen_of_row _ _ 10 _ 113 h,frozen_of_row _ _ 11 _ 113 h,frozen_of_row _ _ 12 _ 113 h,frozen_of_row _ _ 13 _ 113 h,frozen_of_row _ _ 14 _ 113 h,frozen_of_row _ _ 15 _ 113 h⟩
theorem zod (g:Nat) (S X:Su) (H Y:Hd) (s:Sn) (lg:qc) (u:Int):setc [(1,i C X.v),(2,i C X.sn),(3,i C X.lg),(4,i C X.ar),(5,i C X.hf),(6,i C X.gl),(7,i C X.sp),(8,i G Y.tm),(9,i C Y.vo),(10,i G Y.cm)] (imc g S H s lg u)=imc g X Y s lg u:=by
 simp only [setc,zA,zB,zC]
theorem zjo {w:R} {d:St} {S:Su} {H:Hd} {s:Sn} (h:Dvx w g ((pm,F (imc g S H s lg u) 113 (0,0)) :: K) d W) (hK:∀ q∈K,q.1≠pm) :
 O Q 56 #[ptr pm] W fun x w'=>x=N (i C (ldE d))∧Dvx w g ((pm,F (imc g (ldS d) (ldH d) s lg u) 113 (0,0)) :: K) d w':=by
 have KL:Hid (∀ Z,Dvx w g ((pm,F (imc g S H s lg u) 113 (0,0)) :: K) d Z→O Q 121 #[ptr g] Z fun e w'=>e=N (qg #[qf #[i C (ldS d).v,i C (ldS d).sn,i C (ldS d).lg,i C (ldS d).ar,i C (ldS d).hf,i C (ldS d).gl,i C (ldS d).sp],qf #[i G (ldH d).tm,i C (ldH d).vo,i G (ldH d).cm],i C (ldE d)])∧Dvx w g ((pm,F (imc g S H s lg u) 113 (0,0)) :: K) d w'∧qd Z.heap.size Z w') :=
  fun Z hZ=>hZ.q1 fun L hD=>J.zoz g L d Z hD
 obtain ⟨X,hX⟩:∃ X,X=ldS d:=⟨_,rfl⟩;obtain ⟨Y,hY⟩:∃ Y,Y=ldH d:=⟨_,rfl⟩;obtain ⟨Z,hZ⟩:∃ Z,Z=ldE d:=⟨_,rfl⟩;rw [←hX,←hY,←hZ] at KL;rw [←hX,←hY,←hZ];have H0:=zh h;have HK:=zh hK;have c0:W.cell? ⟨pm,0,D⟩=E (ptr g):=zcr _ _ 0 _ 113 (0,0) h.hd;clear hX hY hZ h hK;unfold ptr at *;go_enter func56,ntmps56
 go_upto_region 1 with fail
 go_wp2_with (go_at_call 121;(with_reducible refine (KL.out _ H0.out).mono ?_);rintro q w1 ⟨rfl,h1,b1⟩;obtain ⟨e0,e1,e2,e3,e4,e5,e6,e7,e8,e9,e10,e11,e12,e13,e14,e15⟩:=zbi h1.hd;obtain ⟨f1,f2,f3,f4,f5,f6,f7,f8,f9,f10,f11,f12,f13,f14,f15⟩:=zgb h1.hd)
 go_ret;refine ⟨rfl,?_⟩;have h2:=h1.puts HK.out [(1,i C X.v),(2,i C X.sn),(3,i C X.lg),(4,i C X.ar),(5,i C X.hf),(6,i C X.gl),(7,i C X.sp),(8,i G Y.tm),(9,i C Y.vo),(10,i G Y.cm)];rw [zod] at h2;exact h2
theorem zdM {w:R} {p:Ip} {H:Hd} {s:Sn} (h:w.heap[b]?=E (F (imc g p.su H s lg u) 113 (0,0))) :
 w.cell? ⟨b,0,D⟩=E (qe (E ⟨g,0,D⟩))∧w.cell? ⟨b,1,D⟩=E (i C p.v)∧w.cell? ⟨b,2,D⟩=E (i C p.S)∧w.cell? ⟨b,3,D⟩=E (i C p.L)∧w.cell? ⟨b,4,D⟩=E (i C p.a)∧w.cell? ⟨b,5,D⟩=E (i C p.h)∧w.cell? ⟨b,6,D⟩=E (i C p.gl)∧w.cell? ⟨b,7,D⟩=E (i C p.sp)∧w.cell? ⟨b,15,D⟩=E (i C u) :=
 ⟨zcr _ _ 0 _ 113 (0,0) h,zcr _ _ 1 _ 113 (0,0) h,zcr _ _ 2 _ 113 (0,0) h,zcr _ _ 3 _ 113 (0,0) h,zcr _ _ 4 _ 113 (0,0) h,zcr _ _ 5 _ 113 (0,0) h,zcr _ _ 6 _ 113 (0,0) h,zcr _ _ 7 _ 113 (0,0) h,zcr _ _ 15 _ 113 (0,0) h⟩
theorem zoe {w:R} {d:St} {p:Ip} {H:Hd} {s:Sn} (h:Dvx w g ((pm,F (imc g p.su H s lg u) 113 (0,0)) :: K) d W) (ok:p.Ok) :
 O Q 58 #[ptr pm] W fun x w'=>x=N (i C (znz d (p.hA p.h) p.L p.v u).2)∧Dvx w g ((pm,F (imc g p.su H s lg u) 113 (0,0)) :: K) (znz d (p.hA p.h) p.L p.v u).1 w':=by
 have hS:=ok.S;have hL:=ok.L;have hh:=ok.h;have haa:p.hA p.h≤4000:=by unfold Ip.hA;rcases (show p.h=0∨p.h=1 by omega) with h|h<;>rw [h]<;>omega
 obtain ⟨K0,hK0⟩:∃ K0,K0=(pm,F (imc g p.su H s lg u) 113 (0,0)) :: K:=⟨_,rfl⟩;have KC:Hid (∀ Z d',Dvx w g K0 d' Z→Z.heap[pm]?=E (F (imc g p.su H s lg u) 113 (0,0))):=fun Z d' hZ=>by rw [hK0] at hZ;exact hZ.hd
 rw [←hK0] at h ⊢;have KA:=zh (fun W=>zeL p ok W)
 have KW:Hid (∀ Z,Dvx w g K0 d Z→O Q 124 #[ptr g,qf #[i C (p.hA p.h:Nat),i C p.L,i C p.v],i C u] Z fun x w'=>x=N (i C (znz d (p.hA p.h) p.L p.v u).2)∧Dvx w g K0 (znz d (p.hA p.h) p.L p.v u).1 w') :=
  fun Z hZ=>hZ.c1 fun L hD=>znB g L d _ _ p.v u Z hD (by omega) (by omega)
 obtain ⟨T,hT⟩:∃ T,T=znz d (p.hA p.h) p.L p.v u:=⟨_,rfl⟩;rw [←hT] at KW ⊢;obtain ⟨x,hx⟩:∃ x:Int,x=((p.hA p.h:Nat):Int):=⟨_,rfl⟩;rw [←hx] at KA KW;have H0:=zh h;have HD:=zh h.drew;obtain ⟨c0,c1,c2,c3,c4,c5,c6,c7,c15⟩:=zdM (KC.out _ _ h.drew);clear h hx hT haa hh hK0 ok;unfold Ip.val ptr at *;go_enter func58,ntmps58
 go_upto_region 1 with fail
 go_region_held3 (fun w'=>w'.cell? ⟨pm,0,D⟩=E (qe (E ⟨g,0,D⟩))∧w'.cell? ⟨pm,1,D⟩=E (i C p.v)∧w'.cell? ⟨pm,2,D⟩=E (i C p.S)∧w'.cell? ⟨pm,3,D⟩=E (i C p.L)∧w'.cell? ⟨pm,4,D⟩=E (i C p.a)∧w'.cell? ⟨pm,5,D⟩=E (i C p.h)∧w'.cell? ⟨pm,6,D⟩=E (i C p.gl)∧w'.cell? ⟨pm,7,D⟩=E (i C p.sp)∧w'.cell? ⟨pm,15,D⟩=E (i C u)) (first|exact ⟨c0,c1,c2,c3,c4,c5,c6,c7,c15⟩|exact ⟨f0,f1,f2,f3,f4,f5,f6,f7,f15⟩|exact ⟨e0,e1,e2,e3,e4,e5,e6,e7,e15⟩) (first
  | (go_at_call 81;(with_reducible refine (KA.out _).mono ?_);rintro q w1 ⟨rfl,b1⟩;have H1:=HD.out.below b1;obtain ⟨e0,e1,e2,e3,e4,e5,e6,e7,e15⟩:=zdM (KC.out _ _ H1))
  | (go_at_call 124;(with_reducible refine (KW.out _ H1).mono ?_);rintro q w2 ⟨rfl,H2⟩;obtain ⟨f0,f1,f2,f3,f4,f5,f6,f7,f15⟩:=zdM (KC.out _ _ H2)))
 go_wp2;go_ret;exact ⟨rfl,H2⟩
theorem zar {w:R} {j:Nat} (h:b<w.heap.size):(w.alloc o).cell? ⟨b,j,D⟩=w.cell? ⟨b,j,D⟩:=zuE (ztQ w o b h)
theorem znU {w:R} {p:Ip} {H:Hd} {s:Sn} (h:w.heap[b]?=E (F (imc g p.su H s lg u) 113 (0,0))) :
 w.cell? ⟨b,0,D⟩=E (qe (E ⟨g,0,D⟩))∧w.cell? ⟨b,1,D⟩=E (i C p.v)∧w.cell? ⟨b,2,D⟩=E (i C p.S)∧w.cell? ⟨b,3,D⟩=E (i C p.L)∧w.cell? ⟨b,4,D⟩=E (i C p.a)∧w.cell? ⟨b,5,D⟩=E (i C p.h)∧w.cell? ⟨b,6,D⟩=E (i C p.gl)∧w.cell? ⟨b,7,D⟩=E (i C p.sp) :=
 ⟨zcr _ _ 0 _ 113 (0,0) h,zcr _ _ 1 _ 113 (0,0) h,zcr _ _ 2 _ 113 (0,0) h,zcr _ _ 3 _ 113 (0,0) h,zcr _ _ 4 _ 113 (0,0) h,zcr _ _ 5 _ 113 (0,0) h,zcr _ _ 6 _ 113 (0,0) h,zcr _ _ 7 _ 113 (0,0) h⟩
theorem Dvx.lt {w:R} {d:St} (h:Dvx w g K d W):∀ q∈K,q.1<W.heap.size:=fun q hq=>(Array.getElem?_eq_some_iff.1 (h.bk q hq)).1
theorem zjp (z s:Sn):setc [(0,i G s.ix),(1,i G s.tm),(2,V s.da)] z.c=s.c:=by
 simp only [setc,Ar.Sn.c,zA,zB,zC]
theorem zof (g:Nat) (S:Su) (H:Hd) (s s':Sn) (lg lg':qc) (u u':Int):setc [(11,i G s'.ix),(12,i G s'.tm),(13,V s'.da),(14,lg'),(15,i C u')] (imc g S H s lg u)=imc g S H s' lg' u':=by
 simp only [setc,zA,zB,zC]
theorem zaT {w:R} {j:Nat} (h:b<w.heap.size):(w.alloc o).drew.cell? ⟨b,j,D⟩=w.drew.cell? ⟨b,j,D⟩:=zar h
theorem st3 {w:R} {j:Nat} {x y z:qc} (h:c≠b):(((w.setCell ⟨b,0,D⟩ x).setCell ⟨b,1,D⟩ y).setCell ⟨b,2,D⟩ z).cell? ⟨c,j,D⟩=w.cell? ⟨c,j,D⟩ :=
 zuE ((ztX _ _ _ _ h).trans ((ztX _ _ _ _ h).trans (ztX _ _ _ _ h)))
theorem Dvx.al {w:R} {d:St} (h:Dvx w g K d W) (o:Obj):Dvx w g ((W.heap.size,o) :: K) d (W.alloc o):=h.add zba (ztI _) (ztJ _ _)
theorem zhs {w:R} (h:w.heap[b]?=E (F cs t (0,0))):w.frozen? ⟨b,0,D⟩=U∧w.frozen? ⟨b,1,D⟩=U∧w.frozen? ⟨b,2,D⟩=U :=
 ⟨frozen_of_row _ _ 0 _ t h,frozen_of_row _ _ 1 _ t h,frozen_of_row _ _ 2 _ t h⟩
theorem zog {w:R} {d:St} {p:Ip} {H:Hd} {s s':Sn} {es lgs:List En} {u':Nat} (h:Dvx w g ((pm,F (imc g p.su H s lg u) 113 (0,0)) :: K) d W) (hK:∀ q∈K,q.1≠pm) (ok:p.Ok)
 (hA:Ar.arR d (p.aA p.a:Nat) (p.S:Nat)=(s',p.v,0)) (hix:s'.ix≤1099511627776) (hes:es.length≤64) (eok:∀ e∈es,e.Ok)
 (hR:∀ L Z,Dv Z g L d→O Q 123 #[ptr g,RG (p.hA p.h:Nat) p.L p.v] Z fun x w'=>∃ A n c,x=N (qg #[M A n c,i C u',i C 0])∧Le Z.heap.size A n c es w'∧qd Z.heap.size Z w')
 (hj:jn s'.ix [] es=E lgs) :
 O Q 57 #[ptr pm] W fun x w'=>x=N (i C 0)∧∃ A n c K2,Dvx w g ((pm,F (imc g p.su H s' (M A n c) u') 113 (0,0)) :: (K2++K)) d w'∧Lg w.heap.size (K2++K) A n c lgs∧∀ q∈K2,W.heap.size≤q.1:=by
 have hS:=ok.S;have hL:=ok.L;have hh:=ok.h;have haa:p.aA p.a≤1004:=by have:=ok.a;unfold Ip.aA;rcases (show p.a=0∨p.a=1 by omega) with h|h<;>rw [h]<;>omega
 obtain ⟨K0,hK0⟩:∃ K0,K0=(pm,F (imc g p.su H s lg u) 113 (0,0)) :: K:=⟨_,rfl⟩;have KC:Hid (∀ Z,Dvx w g K0 d Z→Z.heap[pm]?=E (F (imc g p.su H s lg u) 113 (0,0))):=fun Z hZ=>by rw [hK0] at hZ;exact hZ.hd
 have KLT:Hid (∀ Z,Dvx w g K0 d Z→pm<Z.heap.size):=fun Z hZ=>(Array.getElem?_eq_some_iff.1 (KC.out Z hZ)).1;have HK0:=zh hK0;have HM0:Hid ((pm,F (imc g p.su H s lg u) 113 (0,0))∈K0):=by show _∈_;rw [hK0];simp
 rw [←hK0] at h;have KA:=zh (fun W=>zef p ok p.a ok.a W);have KH:=zh (fun W=>zeL p ok W)
 have KR1:Hid (∀ K1 Z,Dvx w g K1 d Z→O Q 122 #[ptr g,i C (p.aA p.a:Nat),i C p.S] Z fun x w'=>x=N (qg #[qf #[i G s'.ix,i G s'.tm,V s'.da],i C p.v,i C 0])∧Dvx w g K1 d w'∧qd Z.heap.size Z w'):=fun K1 Z hZ=>by
  refine hZ.q1 fun L hD=>?_
  have:=Ar.zmu g L d (p.aA p.a:Nat) (p.S:Nat) Z hD (by omega)
  rw [hA] at this;exact this
 have KR2:Hid (∀ K1 Z,Dvx w g K1 d Z→O Q 123 #[ptr g,qf #[i C (p.hA p.h:Nat),i C p.L,i C p.v]] Z fun x w'=>∃ A n c,x=N (qg #[M A n c,i C u',i C 0])∧Le Z.heap.size A n c es w'∧Dvx w g K1 d w'∧qd Z.heap.size Z w'):=fun K1 Z hZ=>by
  have hZ0:=hZ;obtain ⟨L,hD,_⟩:=hZ;exact (hR L Z hD).mono fun x w' ⟨A,n,c,h1,h2,h3⟩=>⟨A,n,c,h1,h2,hZ0.below h3,h3⟩
 have KJ:Hid (∀ A n c Z,zcx Z.heap.size A n es Z→O Q 75 #[i G s'.ix,M D 0 0,M A n c] Z fun x w'=>∃ A' n' c',x=N (qg #[M A' n' c',.bool true])∧Le Z.heap.size A' n' c' lgs w'∧qd Z.heap.size Z w'):=fun A n c Z hE=>by
  refine (zjW s'.ix 0 D A 0 0 n c [] es Z (Le.nil 0 Z) hE hix (by omega) (by rw [←hE.len];exact hes) (by simp) eok).mono ?_;rintro x w' ⟨hj2,hb⟩;rw [hj] at hj2;rcases hj2 with ⟨r,A',n',c',h1,h2,h3⟩|⟨h1,_⟩
  ·cases h1
   exact ⟨A',n',c',h2,h3,hb⟩
  ·cases h1
 obtain ⟨x,hx⟩:∃ x:Int,x=((p.hA p.h:Nat):Int):=⟨_,rfl⟩;rw [←hx] at KH KR2;obtain ⟨y,hy⟩:∃ y:Int,y=((p.aA p.a:Nat):Int):=⟨_,rfl⟩;rw [←hy] at KA KR1;have H0:=zh h;have HD:=zh h.drew;have HK:=zh hK;obtain ⟨c0,c1,c2,c3,c4,c5,c6,c7⟩:=znU (KC.out _ h.drew);clear h hx hy haa hh hK0 ok hA hR hj hix hes eok hK;unfold Ip.val ptr at *;go_enter func57,ntmps57
 go_upto_region 1 with fail
 have hltd:pm<W.heap.size:=KLT.out _ H0.out
 go_cut [3,4,5] from 11 to 33 (fun s3 s4 s5 wx=>s4=i C p.v∧s5=i C 0∧∃ b3,s3=qe (E ⟨b3,0,D⟩)∧pm≠b3∧W.heap.size≤wx.heap.size∧Hid (Dvx w g ((b3,F s'.c 43 (0,0)) :: K0) d wx))
 case first =>
  go_region_held3 (fun w'=>w'.cell? ⟨pm,0,D⟩=E (qe (E ⟨g,0,D⟩))∧w'.cell? ⟨pm,1,D⟩=E (i C p.v)∧w'.cell? ⟨pm,2,D⟩=E (i C p.S)∧w'.cell? ⟨pm,3,D⟩=E (i C p.L)∧w'.cell? ⟨pm,4,D⟩=E (i C p.a)∧w'.cell? ⟨pm,5,D⟩=E (i C p.h)∧w'.cell? ⟨pm,6,D⟩=E (i C p.gl)∧w'.cell? ⟨pm,7,D⟩=E (i C p.sp)) (first|exact ⟨c0,c1,c2,c3,c4,c5,c6,c7⟩|exact ⟨f0,f1,f2,f3,f4,f5,f6,f7⟩|exact ⟨e0,e1,e2,e3,e4,e5,e6,e7⟩|with_reducible exact ⟨(zar hlt2).trans f0,(zar hlt2).trans f1,(zar hlt2).trans f2,(zar hlt2).trans f3,(zar hlt2).trans f4,(zar hlt2).trans f5,(zar hlt2).trans f6,(zar hlt2).trans f7⟩|with_reducible exact ⟨(zar hlt1).trans e0,(zar hlt1).trans e1,(zar hlt1).trans e2,(zar hlt1).trans e3,(zar hlt1).trans e4,(zar hlt1).trans e5,(zar hlt1).trans e6,(zar hlt1).trans e7⟩|with_reducible exact ⟨(zaT hltd).trans c0,(zaT hltd).trans c1,(zaT hltd).trans c2,(zaT hltd).trans c3,(zaT hltd).trans c4,(zaT hltd).trans c5,(zaT hltd).trans c6,(zaT hltd).trans c7⟩|with_reducible exact ⟨(st3 (ztY hlt1)).trans f0,(st3 (ztY hlt1)).trans f1,(st3 (ztY hlt1)).trans f2,(st3 (ztY hlt1)).trans f3,(st3 (ztY hlt1)).trans f4,(st3 (ztY hlt1)).trans f5,(st3 (ztY hlt1)).trans f6,(st3 (ztY hlt1)).trans f7⟩|with_reducible exact ⟨(st3 (ztY hltd)).trans f0,(st3 (ztY hltd)).trans f1,(st3 (ztY hltd)).trans f2,(st3 (ztY hltd)).trans f3,(st3 (ztY hltd)).trans f4,(st3 (ztY hltd)).trans f5,(st3 (ztY hltd)).trans f6,(st3 (ztY hltd)).trans f7⟩) (first
   | (go_at_call 35;(with_reducible refine (KA.out _).mono ?_);rintro q w1 ⟨rfl,b1⟩;(first|(have H1:Dvx w g K0 d w1:=by with_reducible exact Dvx.below HD.out b1)|(have H1:Dvx w g ((W.heap.size,(F #[i G 0,i G 0,V ⟨#[]⟩] 43)) :: K0) d w1:=by with_reducible exact Dvx.below (Dvx.drew (H0.out.al (F #[i G 0,i G 0,V ⟨#[]⟩] 43))) b1));obtain ⟨e0,e1,e2,e3,e4,e5,e6,e7⟩:=znU (H1.get (by first|exact HM0.out|exact ztK _ HM0.out));have hlt1:pm<w1.heap.size:=(Array.getElem?_eq_some_iff.1 (H1.get (by first|exact HM0.out|exact ztK _ HM0.out))).1)
   | (go_at_call 122;(first|(with_reducible refine (KR1.out _ w1 H1).mono ?_)|(with_reducible refine (KR1.out _ (w1.alloc (F #[i G 0,i G 0,V ⟨#[]⟩] 43)) (H1.al (F #[i G 0,i G 0,V ⟨#[]⟩] 43))).mono ?_));rintro q w2 ⟨rfl,H2,b2⟩;obtain ⟨f0,f1,f2,f3,f4,f5,f6,f7⟩:=znU (H2.get (by first|exact HM0.out|exact ztK _ HM0.out));have hlt2:pm<w2.heap.size:=(Array.getElem?_eq_some_iff.1 (H2.get (by first|exact HM0.out|exact ztK _ HM0.out))).1;(first|(obtain ⟨z0,z1,z2⟩:=zae (s:=sn0) (Dvx.hd H2);obtain ⟨y0,y1,y2⟩:=zhs (Dvx.hd H2))|skip)))
  all_goals
   go_wp2;go_meet;have hsW:W.heap.size≤w2.heap.size:=ztL (ztL (by first|(simp;done)|(simp;omega)) b1.size) (ztL (by first|(simp;done)|(simp;omega)) b2.size);refine ⟨rfl,rfl,_,rfl,?_,by first|(simp;done)|(simp;omega),?_⟩
  ·exact ztY hlt2
  ·exact H2.al (F s'.c 43)
  ·exact ztY hlt1
  ·show Dvx _ _ _ _ _;have h3:=H2.puts (fun q hq=>ztY (H1.lt q hq)) [(0,i G s'.ix),(1,i G s'.tm),(2,V s'.da)];rw [show (#[i G 0,i G 0,V ⟨#[]⟩]:Array qc)=sn0.c from rfl,zjp] at h3;exact h3
  ·exact ztY hltd
  ·show Dvx _ _ _ _ _;have h3:=H2.puts (fun q hq=>ztY (H0.out.lt q hq)) [(0,i G s'.ix),(1,i G s'.tm),(2,V s'.da)];rw [show (#[i G 0,i G 0,V ⟨#[]⟩]:Array qc)=sn0.c from rfl,zjp] at h3;exact h3
 case rest =>
  obtain ⟨rfl,rfl,b3,rfl,hne,hWc,HZ⟩:=hcut;have HCc:Hid (∀ Z,Dvx w g ((b3,F s'.c 43 (0,0)) :: K0) d Z→Z.heap[pm]?=E (F (imc g p.su H s lg u) 113 (0,0))):=fun Z hZ=>hZ.get (ztK _ HM0.out);obtain ⟨g0,g1,g2,g3,g4,g5,g6,g7⟩:=znU (HCc.out _ HZ.out.drew)
  go_upto_region 4 with fail
  go_region_held3 (fun w'=>w'.cell? ⟨pm,0,D⟩=E (qe (E ⟨g,0,D⟩))∧w'.cell? ⟨pm,1,D⟩=E (i C p.v)∧w'.cell? ⟨pm,2,D⟩=E (i C p.S)∧w'.cell? ⟨pm,3,D⟩=E (i C p.L)∧w'.cell? ⟨pm,4,D⟩=E (i C p.a)∧w'.cell? ⟨pm,5,D⟩=E (i C p.h)∧w'.cell? ⟨pm,6,D⟩=E (i C p.gl)∧w'.cell? ⟨pm,7,D⟩=E (i C p.sp)) (first|exact ⟨g0,g1,g2,g3,g4,g5,g6,g7⟩|exact ⟨h0,h1,h2,h3,h4,h5,h6,h7⟩|exact ⟨k0,k1,k2,k3,k4,k5,k6,k7⟩) (first
   | (go_at_call 81;(with_reducible refine (KH.out _).mono ?_);rintro q w4 ⟨rfl,b4⟩;have H4:=HZ.out.drew.below b4;obtain ⟨k0,k1,k2,k3,k4,k5,k6,k7⟩:=znU (HCc.out _ H4))
   | (go_at_call 123;(with_reducible refine (KR2.out _ _ H4).mono ?_);rintro q w5 ⟨A,n,c,rfl,hLe,H5,b5⟩;obtain ⟨h0,h1,h2,h3,h4,h5,h6,h7⟩:=znU (HCc.out _ H5)))
  have HH5:=zh H5;have hW5:W.heap.size≤w5.heap.size:=ztL hWc (ztL (by simp) (ztL b4.size b5.size));have HW5:Hid (W.heap.size≤w5.heap.size):=hW5;clear hW5 hWc;have HE5:=zh hLe.ents;obtain ⟨r0,r1,r2⟩:=zae H5.hd
  go_upto_region 8 with (go_at_call 75;(with_reducible refine (KJ.out _ _ _ _ HE5.out).mono ?_);rintro q w6 ⟨A',n',c',rfl,hLe2,b6⟩)
  obtain ⟨K2,H6,hLg,hK2⟩:=HH5.out.addLe b6 hLe2 (ztI _);have hmem:∀ q∈(b3,F s'.c 43 (0,0)) :: K0,q∈K2++((b3,F s'.c 43 (0,0)) :: K0):=fun q hq=>ztU _ hq;obtain ⟨o0,o1,o2,o3,o4,o5,o6,o7,o8,o9,o10,o11,o12,o13,o14,o15⟩:=zbi (S:=p.su) (H6.get (hmem _ (ztK _ HM0.out)));obtain ⟨v1,v2,v3,v4,v5,v6,v7,v8,v9,v10,v11,v12,v13,v14,v15⟩:=zgb (H6.get (hmem _ (ztK _ HM0.out)));obtain ⟨r0',r1',r2'⟩:=zae (H6.get (hmem _ (zt0 ..)));have HH6:=zh H6;have HLg:=zh hLg;have HK2:=zh hK2;clear H6 hLg hK2 hmem hLe2 b6 H5 hLe b5;have e_v:p.su.v=p.v:=rfl;go_wp2;go_ret;have hlp:pm<w5.heap.size:=HH5.out.lt _ (ztK _ HM0.out)
  have hsub:∀ q∈(pm,F (imc g p.su H s lg u) 113 (0,0)) :: (K2++K),q∈K2++((b3,F s'.c 43 (0,0)) :: K0):=fun q hq=>by
   rw [HK0.out];simp only [ztT,zt1] at hq ⊢;rcases hq with h|h|h
   ·exact .inr (.inr (.inl h))
   ·exact .inl h
   ·exact .inr (.inr (.inr h))
  have hne2:∀ q∈K2++K,q.1≠pm:=fun q hq=>(zt1.1 hq).elim (fun h=>by have:=HK2.out q h;omega) (HK.out q);have H8:=(HH6.out.drop hsub).puts hne2 [(11,i G s'.ix),(12,i G s'.tm),(13,V s'.da),(14,M A' n' c'),(15,i C u')];rw [zof] at H8;refine ⟨rfl,A',n',c',K2,H8,((HLg.out).sub (fun q hq=>zui _ hq)).low (HH5.out.be.size),fun q hq=>ztL HW5.out (HK2.out q hq)⟩
end
section
open Dk
open Ar (Sn sn0)
open J.Sl (Su Hd su0 hd0 sec)
open J (setS setH ldS ldH ldE)
structure Mnt (d:St) (g:Nat) (p:Ip) (H:Hd) (s:Sn) (es lgs:List En) (u:Nat) (d':St):Prop where
 ok:p.Ok
 e:ldE d=0
 su:ldS d=p.su
 hd:ldH d=H
 a:Ar.arR d (p.aA p.a:Nat) (p.S:Nat)=(s,p.v,0)
 ix:s.ix≤1099511627776
 len:es.length≤64
 eok:∀ e∈es,e.Ok
 r:∀ L Z,Dv Z g L d→O Q 123 #[ptr g,RG (p.hA p.h:Nat) p.L p.v] Z fun x w'=>∃ A n c,x=N (qg #[M A n c,i C u,i C 0])∧Le Z.heap.size A n c es w'∧qd Z.heap.size Z w'
 j:jn s.ix [] es=E lgs
 w:znz d (p.hA p.h) p.L p.v u=(d',0)
theorem zjq {w:R} {d d':St} {p:Ip} {H:Hd} {s:Sn} {es lgs:List En} {u:Nat} (h:Dvx w g K d W) (hm:Mnt d g p H s es lgs u d') :
 O Q 15 #[ptr g] W fun x w'=>∃ pm A n c K2,x=N (qg #[ptr pm,i C 0])∧Dvx w g ((pm,F (imc g p.su H s (M A n c) u) 113 (0,0)) :: (K2++K)) d' w'∧Lg w.heap.size (K2++K) A n c lgs∧(∀ q∈K2++K,q.1≠pm)∧W.heap.size≤pm∧∀ q∈K2,W.heap.size≤q.1:=by
 obtain ⟨fs,hfs⟩:∃ fs:Array qc,fs=#[.func (.func 56) #[ptr W.heap.size] #[],.func (.func 57) #[ptr W.heap.size] #[],.func (.func 58) #[ptr W.heap.size] #[]]:=⟨_,rfl⟩;obtain ⟨pm,hpm⟩:∃ pm,pm=W.heap.size:=⟨_,rfl⟩;obtain ⟨W1,hW1⟩:∃ W1,W1=W.alloc (F (imc g su0 hd0 sn0 (M D 0 0) 0) 113):=⟨_,rfl⟩;have h1:Dvx w g ((pm,F (imc g su0 hd0 sn0 (M D 0 0) 0) 113 (0,0)) :: K) d W1:=by rw [hW1,hpm];exact h.al _
 have hKlt:∀ q∈K,q.1≠pm:=fun q hq=>by have:=h.lt q hq;omega
 obtain ⟨W2,hW2⟩:∃ W2,W2=W1.alloc (F fs 96):=⟨_,rfl⟩
 have h2:Dvx w g ((pm,F (imc g su0 hd0 sn0 (M D 0 0) 0) 113 (0,0)) :: ((W1.heap.size,F fs 96 (0,0)) :: K)) d W2:=by
  rw [hW2];exact (h1.al _).drop fun q hq=>by simp only [ztT] at hq ⊢;rcases hq with h|h|h<;>simp [h]
 have hsz:W1.heap.size=pm+1:=by rw [hW1,hpm];simp
 obtain ⟨K1,hK1⟩:∃ K1,K1=(W1.heap.size,F fs 96 (0,0)) :: K:=⟨_,rfl⟩;rw [←hK1] at h2
 have hK1n:∀ q∈K1,q.1≠pm:=fun q hq=>by
  rw [hK1] at hq;rcases ztT.1 hq with rfl|hq
  ·show W1.heap.size≠pm;omega
  ·exact hKlt q hq
 have hbs:(W1.heap.size,F fs 96 (0,0))∈K1:=by rw [hK1];simp
 have KT:Hid (O Q 40 #[M (E ⟨W1.heap.size,0,D⟩) 3 3] W2 fun e w'=>e=N (i C 0)∧∃ A n c K2,Dvx w g ((pm,F (imc g p.su H s (M A n c) u) 113 (0,0)) :: (K2++K1)) d' w'∧Lg w.heap.size (K2++K1) A n c lgs∧∀ q∈K2,pm<q.1):=by
  rw [hfs,←hpm] at hbs
  refine (zlH (K:=K1) hbs (fun xs w=>rfl) (fun xs w=>rfl) (fun xs w=>rfl) (fun Z=>Dvx w g ((pm,F (imc g su0 hd0 sn0 (M D 0 0) 0) 113 (0,0)) :: K1) d Z)
   (fun Z=>Dvx w g ((pm,F (imc g p.su H sn0 (M D 0 0) 0) 113 (0,0)) :: K1) d Z)
   (fun Z=>∃ A n c K2,Dvx w g ((pm,F (imc g p.su H s (M A n c) u) 113 (0,0)) :: (K2++K1)) d Z∧Lg w.heap.size (K2++K1) A n c lgs∧∀ q∈K2,pm<q.1)
   (fun Z=>∃ A n c K2,Dvx w g ((pm,F (imc g p.su H s (M A n c) u) 113 (0,0)) :: (K2++K1)) d' Z∧Lg w.heap.size (K2++K1) A n c lgs∧∀ q∈K2,pm<q.1) (fun z Z=>False)
   (fun Z h q hq=>h.bk q (ztK _ hq)) (fun Z h q hq=>h.bk q (ztK _ hq))
   (fun Z ⟨A,n,c,K2,h,_⟩ q hq=>h.bk q (ztK _ (ztU _ hq))) (fun Z ⟨A,n,c,K2,h,_⟩=>h.bk _ (ztK _ (ztU _ hbs))) h2 ?_ ?_ ?_).mono ?_
  ·intro Z hZ;refine (zjo hZ hK1n).mono ?_;rintro x w' ⟨rfl,hx⟩;rw [hm.su,hm.hd] at hx;exact ⟨_,rfl,fun _=>hx,fun hz=>absurd hm.e hz⟩
  ·intro Z hZ;refine (zog hZ hK1n hm.ok hm.a hm.ix hm.len hm.eok hm.r hm.j).mono ?_;rintro x w' ⟨rfl,A,n,c,K2,hx1,hx2,hx3⟩;have hlt:=hZ.lt _ (zt0 ..);exact ⟨0,rfl,fun _=>⟨A,n,c,K2,hx1,hx2,fun q hq=>zuk hlt (hx3 q hq)⟩,fun hz=>absurd rfl hz⟩
  ·rintro Z ⟨A,n,c,K2,hZ,hL,hN⟩;have hw:=zoe hZ hm.ok;rw [hm.w] at hw;refine hw.mono ?_;rintro x w' ⟨rfl,hx⟩;exact ⟨0,rfl,fun _=>⟨A,n,c,K2,hx,hL,hN⟩,fun hz=>absurd rfl hz⟩
  ·rintro e w' ⟨z,rfl,hz0,hz1⟩
   by_cases hz:z=0
   ·exact ⟨by rw [hz],hz0 hz⟩
   ·exact (hz1 hz).elim
 have HE:Hid (∀ w' A n c K2,Dvx w g ((pm,F (imc g p.su H s (M A n c) u) 113 (0,0)) :: (K2++K1)) d' w'→Lg w.heap.size (K2++K1) A n c lgs→(∀ q∈K2,pm<q.1) →
  ∃ pm A n c K2,N (qg #[ptr W.heap.size,i C 0])=N (qg #[ptr pm,i C 0])∧Dvx w g ((pm,F (imc g p.su H s (M A n c) u) 113 (0,0)) :: (K2++K)) d' w'∧Lg w.heap.size (K2++K) A n c lgs∧(∀ q∈K2++K,q.1≠pm)∧W.heap.size≤pm∧∀ q∈K2,W.heap.size≤q.1):=fun w' A n c K2 x1 x2 x3=>by
  refine ⟨pm,A,n,c,K2++[(W1.heap.size,F fs 96 (0,0))],by rw [hpm],?_,?_,?_,by omega,?_⟩
  ·rw [zuc];rw [hK1] at x1;exact x1
  ·rw [zuc];rw [hK1] at x2;exact x2
  ·intro q hq;rw [zuc] at hq;rcases zt1.1 hq with hq|hq
   ·exact Nat.ne_of_gt (x3 q hq)
   ·exact hK1n q (by rw [hK1];exact hq)
  ·intro q hq;rcases zt1.1 hq with hq|hq
   ·have:=x3 q hq;omega
   ·rw [zul] at hq;rw [hq];show W.heap.size≤W1.heap.size;omega
 rw [hW2,hfs] at KT;have HW1:=zh hW1;clear hbs hK1n hK1 hsz h2 hW2 hKlt h1 hW1 hfs hm h;unfold ptr at *;go_enter func15,ntmps15
 go_upto_region 2 with fail
 refine zaf (w:=W1) HW1.out.symm ?_
 go_wp2_with (go_at_call 40;(with_reducible refine KT.out.mono ?_);rintro q w3 ⟨rfl,A,n,c,K2,x1,x2,x3⟩)
 go_ret2;exact HE.out w3 A n c K2 x1 x2 x3
theorem zoh {w:R} {d:St} (h:Dvx w g K d W) (he:ldE d≠0) :
 O Q 15 #[ptr g] W fun x w'=>x=N (qg #[qe D,i C (ldE d)])∧Dvx w g K d w':=by
 obtain ⟨fs,hfs⟩:∃ fs:Array qc,fs=#[.func (.func 56) #[ptr W.heap.size] #[],.func (.func 57) #[ptr W.heap.size] #[],.func (.func 58) #[ptr W.heap.size] #[]]:=⟨_,rfl⟩;obtain ⟨pm,hpm⟩:∃ pm,pm=W.heap.size:=⟨_,rfl⟩;obtain ⟨W1,hW1⟩:∃ W1,W1=W.alloc (F (imc g su0 hd0 sn0 (M D 0 0) 0) 113):=⟨_,rfl⟩;have h1:Dvx w g ((pm,F (imc g su0 hd0 sn0 (M D 0 0) 0) 113 (0,0)) :: K) d W1:=by rw [hW1,hpm];exact h.al _
 have hKlt:∀ q∈K,q.1≠pm:=fun q hq=>by have:=h.lt q hq;omega
 obtain ⟨W2,hW2⟩:∃ W2,W2=W1.alloc (F fs 96):=⟨_,rfl⟩
 have h2:Dvx w g ((pm,F (imc g su0 hd0 sn0 (M D 0 0) 0) 113 (0,0)) :: ((W1.heap.size,F fs 96 (0,0)) :: K)) d W2:=by
  rw [hW2];exact (h1.al _).drop fun q hq=>by simp only [ztT] at hq ⊢;rcases hq with h|h|h<;>simp [h]
 have hsz:W1.heap.size=pm+1:=by rw [hW1,hpm];simp
 obtain ⟨K1,hK1⟩:∃ K1,K1=(W1.heap.size,F fs 96 (0,0)) :: K:=⟨_,rfl⟩;rw [←hK1] at h2
 have hK1n:∀ q∈K1,q.1≠pm:=fun q hq=>by
  rw [hK1] at hq;rcases ztT.1 hq with rfl|hq
  ·show W1.heap.size≠pm;omega
  ·exact hKlt q hq
 have hbs:(W1.heap.size,F fs 96 (0,0))∈K1:=by rw [hK1];simp
 obtain ⟨Z,hZ⟩:∃ Z,Z=ldE d:=⟨_,rfl⟩
 have KT:Hid (O Q 40 #[M (E ⟨W1.heap.size,0,D⟩) 3 3] W2 fun e w'=>e=N (i C Z)∧Dvx w g K d w'):=by
  rw [hfs,←hpm] at hbs
  refine (zlH (K:=K1) hbs (fun xs w=>rfl) (fun xs w=>rfl) (fun xs w=>rfl) (fun Z=>Dvx w g ((pm,F (imc g su0 hd0 sn0 (M D 0 0) 0) 113 (0,0)) :: K1) d Z)
   (fun _=>False) (fun _=>False) (fun _=>False) (fun z Z=>z=ldE d∧Dvx w g K d Z)
   (fun Z h q hq=>h.bk q (ztK _ hq)) (fun _ h=>h.elim) (fun _ h=>h.elim) (fun _ h=>h.elim) h2 ?_ (fun _ h=>h.elim) (fun _ h=>h.elim)).mono ?_
  ·intro Z hZ;refine (zjo hZ hK1n).mono ?_;rintro x w' ⟨rfl,hx⟩;exact ⟨_,rfl,fun hz=>absurd hz he,fun _=>⟨rfl,hx.drop fun q hq=>by rw [hK1];simp [hq]⟩⟩
  ·rintro e w' ⟨z,rfl,hz0,hz1⟩
   by_cases hz:z=0
   ·exact (hz0 hz).elim
   ·obtain ⟨x1,x2⟩:=hz1 hz;exact ⟨by rw [x1,hZ],x2⟩
 have e1:(Z==0)=U:=by rw [hZ];simpa using he
 have e2:(Z != 0)=true:=by unfold bne;rw [e1];rfl
 rw [hW2,hfs] at KT;rw [←hZ];have HW1:=zh hW1;clear hZ hbs hK1n hK1 hsz h2 hW2 hKlt h1 hW1 hfs he h;unfold ptr at *;go_enter func15,ntmps15
 go_upto_region 2 with fail
 refine zaf (w:=W1) HW1.out.symm ?_
 go_wp2_with (go_at_call 40;(with_reducible refine KT.out.mono ?_);rintro q w3 ⟨rfl,x1⟩)
 go_ret2;exact ⟨rfl,x1⟩
end
end Go.Proofs.YtidndekacnmihaaGreat
