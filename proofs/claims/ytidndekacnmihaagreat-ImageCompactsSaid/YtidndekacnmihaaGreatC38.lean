/- Parts of a proof. -/
import Derived.Test.YtidndekacnmihaaGreatC32
import Derived.Test.YtidndekacnmihaaGreatC37
set_option linter.all false
set_option maxHeartbeats 8000000
set_option maxRecDepth 100000
namespace Go.Proofs.YtidndekacnmihaaGreat
open Bool renaming false→X,true→qc
open Ending renaming returned→T
open Go renaming Calls→V,Value→Y,World→qf
open Go.RowKit renaming Below→Q,intOf→qg
open IntKind renaming u64→O,i64→U
open Obj renaming cells→D
open Option renaming some→M,none→N
open Tryz renaming prog→R
open Value renaming slice→E,int→G,bool→qd,string→qe
open Tryz
variable {W w:qf} {B c c2 cap g i k n n2 pm:Nat} {K:List (Nat×Obj)} {lg:Y} {A A2:Option Addr} {u:Int}
open Go.RowKit
section
open Dk
open Ar (Sn sn0)
open J.Sl (Su Hd su0 hd0 sec)
open J (setS setH ldS ldH ldE)
def lyC (i i2:Nat) (J:Option (List En)) (n:Nat):Bool:=decide (i≤i2)&&(J.isSome&&decide ((J.getD []).length=n))
def lyZ (c:Bool) (a b:St×Int):Int:=if c=X then 1 else if a.2≠0 then a.2 else b.2
def lyD (c:Bool) (d:St) (a b:St×Int):St:=if c=X then d else if a.2≠0 then a.1 else b.1
theorem zol {W7:qf} {b3 b4 b5 b7 b8 b9 fb:Nat} {d:St} {p q:Ip} {H:Hd} {s s2:Sn} {A':Option Addr} {n' c':Nat} {more:List En} {x:Bool}
 (ok:q.Ok) (sok:s2.Ok) (hg:p.gl=0) (hm:zcO K A2 n2 more) (hn2:n2≤64) (hok:∀ e∈more,e.Ok)
 (hK:∀ y∈K,y.1≠pm) (hd:b3≠pm∧b4≠pm∧b5≠pm∧b7≠pm∧b8≠pm∧b9≠pm∧fb≠pm)
 (h:Dvx w g ((pm,D (imc g p.su H s lg u) 113 (0,0)) :: (fb,D #[.func (.func 76) #[ptr pm] #[],.func (.func 98) #[] #[ptr b4,ptr b3,ptr b9,ptr b8,ptr b5],.func (.func 99) #[] #[ptr b3,ptr b7,ptr b4,ptr b5],.func (.func 100) #[] #[ptr b3,ptr b7],.func (.func 101) #[] #[ptr b7,ptr b4,ptr b8,ptr b3,ptr b5]] 96 (0,0)) ::
   (b3,D #[ptr pm] 32 (0,0)) :: (b4,D s2.c 43 (0,0)) :: (b5,D #[E A2 n2 c2] 54 (0,0)) :: (b7,D q.c 65 (0,0)) :: (b8,D #[E A' n' c'] 54 (0,0)) :: (b9,D #[qd x] 4 (0,0)) :: K) d W7) :
 V R 40 #[E (M ⟨fb,0,N⟩) 5 5] W7 fun y w'=>y=T (G U (lyZ (decide (s.ix≤s2.ix)&&(x&&decide (n'=n2))) (fiS d q s2 more) (setS (fiS d q s2 more).1 q.su))) ∧
  (lyZ (decide (s.ix≤s2.ix)&&(x&&decide (n'=n2))) (fiS d q s2 more) (setS (fiS d q s2 more).1 q.su)=0→Dvx w g ((pm,D (imc g q.su H s2 (E A' n' c') ((rcS q.v (pS q.v) (pO q.v) more).size:Nat)) 113 (0,0)) :: K) (setS (fiS d q s2 more).1 q.su).1 w') ∧
  (lyZ (decide (s.ix≤s2.ix)&&(x&&decide (n'=n2))) (fiS d q s2 more) (setS (fiS d q s2 more).1 q.su)≠0→Dvx w g ((pm,D (imc g p.su H s lg u) 113 (0,0)) :: K) (lyD (decide (s.ix≤s2.ix)&&(x&&decide (n'=n2))) d (fiS d q s2 more) (setS (fiS d q s2 more).1 q.su)) w'):=by
 obtain ⟨fs,hfs⟩:∃ fs:Array Y,fs=#[.func (.func 76) #[ptr pm] #[],.func (.func 98) #[] #[ptr b4,ptr b3,ptr b9,ptr b8,ptr b5],.func (.func 99) #[] #[ptr b3,ptr b7,ptr b4,ptr b5],.func (.func 100) #[] #[ptr b3,ptr b7],.func (.func 101) #[] #[ptr b7,ptr b4,ptr b8,ptr b3,ptr b5]]:=⟨_,rfl⟩;rw [←hfs] at h;obtain ⟨KR,hKR⟩:∃ KR,KR=(fb,D fs 96 (0,0)) :: (b3,D #[ptr pm] 32 (0,0)) :: (b4,D s2.c 43 (0,0)) :: (b5,D #[E A2 n2 c2] 54 (0,0)) :: (b7,D q.c 65 (0,0)) :: (b8,D #[E A' n' c'] 54 (0,0)) :: (b9,D #[qd x] 4 (0,0)) :: K:=⟨_,rfl⟩;rw [←hKR] at h;obtain ⟨d1,d2,d3,d4,d5,d6,d7⟩:=hd
 have npm:∀ y∈KR,y.1≠pm:=fun y hy=>by
  rw [hKR] at hy;simp only [ztT] at hy;rcases hy with rfl|rfl|rfl|rfl|rfl|rfl|rfl|hy
  ·exact d7
  ·exact d1
  ·exact d2
  ·exact d3
  ·exact d4
  ·exact d5
  ·exact d6
  ·exact hK y hy
 have mfb:∀ y,(fb,D fs 96 (0,0))∈y :: KR:=fun y=>by rw [hKR];simp
 have m3:(b3,D #[ptr pm] 32 (0,0))∈KR:=by rw [hKR];simp
 have m4:(b4,D s2.c 43 (0,0))∈KR:=by rw [hKR];simp
 have m5:(b5,D #[E A2 n2 c2] 54 (0,0))∈KR:=by rw [hKR];simp
 have m7:(b7,D q.c 65 (0,0))∈KR:=by rw [hKR];simp
 have m8:(b8,D #[E A' n' c'] 54 (0,0))∈KR:=by rw [hKR];simp
 have m9:(b9,D #[qd x] 4 (0,0))∈KR:=by rw [hKR];simp
 have mK:∀ y∈K,y∈KR:=fun y hy=>by rw [hKR];simp [hy]
 have hmR:zcO KR A2 n2 more:=hm.sub mK;obtain ⟨C,hC⟩:∃ C,C=(decide (s.ix≤s2.ix)&&(x&&decide (n'=n2))):=⟨_,rfl⟩;obtain ⟨FI,hFI⟩:∃ FI,FI=fiS d q s2 more:=⟨_,rfl⟩;obtain ⟨SS,hSS⟩:∃ SS,SS=setS FI.1 q.su:=⟨_,rfl⟩;obtain ⟨US,hUS⟩:∃ US:Int,US=((rcS q.v (pS q.v) (pO q.v) more).size:Nat):=⟨_,rfl⟩
 have dr:∀ c d Z,Dvx w g ((pm,c) :: KR) d Z→Dvx w g ((pm,c) :: K) d Z:=fun c d Z hZ=>hZ.drop fun y hy=>by
  rcases ztT.1 hy with h|h
  ·rw [h];simp
  ·exact ztK _ (mK y h)
 have S2:∀ Z,Dvx w g ((pm,D (imc g p.su H s lg u) 113 (0,0)) :: KR) d Z→V R 98 #[ptr b4,ptr b3,ptr b9,ptr b8,ptr b5] Z fun y w'=>y=T (G U (if C then 0 else 1))∧Dvx w g ((pm,D (imc g p.su H s lg u) 113 (0,0)) :: KR) d w':=fun Z hZ=>by rw [hC];exact zqJ hZ m3 m4 m5 m8 m9
 have S3:∀ Z,Dvx w g ((pm,D (imc g p.su H s lg u) 113 (0,0)) :: KR) d Z→V R 99 #[ptr b3,ptr b7,ptr b4,ptr b5] Z fun y w'=>y=T (G U FI.2)∧Dvx w g ((pm,D (imc g p.su H s lg u) 113 (0,0)) :: KR) FI.1 w':=fun Z hZ=>by rw [hFI];exact zqK hZ ok sok hmR hn2 hok m3 m4 m5 m7
 have S4:∀ Z,Dvx w g ((pm,D (imc g p.su H s lg u) 113 (0,0)) :: KR) FI.1 Z→V R 100 #[ptr b3,ptr b7] Z fun y w'=>y=T (G U SS.2)∧Dvx w g ((pm,D (imc g p.su H s lg u) 113 (0,0)) :: KR) SS.1 w':=fun Z hZ=>by rw [hSS];exact zqL hZ m3 m7
 have S5:∀ Z,Dvx w g ((pm,D (imc g p.su H s lg u) 113 (0,0)) :: KR) SS.1 Z→V R 101 #[ptr b7,ptr b4,ptr b8,ptr b3,ptr b5] Z fun y w'=>y=T (G U 0)∧Dvx w g ((pm,D (imc g q.su H s2 (E A' n' c') US) 113 (0,0)) :: KR) SS.1 w':=fun Z hZ=>by rw [hUS];exact zqN hZ npm hmR hn2 hok m3 m4 m5 m7 m8
 rw [←hC,←hFI,←hSS,←hUS];clear hC hFI hSS hUS hmR;rw [hfs] at mfb
 refine (zr7 (K:=[(fb,D #[.func (.func 76) #[ptr pm] #[],.func (.func 98) #[] #[ptr b4,ptr b3,ptr b9,ptr b8,ptr b5],.func (.func 99) #[] #[ptr b3,ptr b7,ptr b4,ptr b5],.func (.func 100) #[] #[ptr b3,ptr b7],.func (.func 101) #[] #[ptr b7,ptr b4,ptr b8,ptr b3,ptr b5]] 96 (0,0))]) (zt0 ..) (fun xs w=>rfl) (fun xs w=>rfl) (fun xs w=>rfl) (fun xs w=>rfl) (fun xs w=>rfl)
  (fun Z=>Dvx w g ((pm,D (imc g p.su H s lg u) 113 (0,0)) :: KR) d Z)
  (fun Z=>Dvx w g ((pm,D (imc g p.su H s lg u) 113 (0,0)) :: KR) d Z)
  (fun Z=>Dvx w g ((pm,D (imc g p.su H s lg u) 113 (0,0)) :: KR) d Z∧C=qc)
  (fun Z=>Dvx w g ((pm,D (imc g p.su H s lg u) 113 (0,0)) :: KR) FI.1 Z∧C=qc∧FI.2=0)
  (fun Z=>Dvx w g ((pm,D (imc g p.su H s lg u) 113 (0,0)) :: KR) SS.1 Z∧C=qc∧FI.2=0∧SS.2=0)
  (fun Z=>Dvx w g ((pm,D (imc g q.su H s2 (E A' n' c') US) 113 (0,0)) :: KR) SS.1 Z∧C=qc∧FI.2=0∧SS.2=0)
  (fun z Z=>z=lyZ C FI SS∧Dvx w g ((pm,D (imc g p.su H s lg u) 113 (0,0)) :: K) (lyD C d FI SS) Z)
  (fun Z h y hy=>by rw [zul] at hy;rw [hy];exact h.bk _ (mfb _)) (fun Z h y hy=>by rw [zul] at hy;rw [hy];exact h.bk _ (mfb _)) (fun Z h y hy=>by rw [zul] at hy;rw [hy];exact h.1.bk _ (mfb _)) (fun Z h y hy=>by rw [zul] at hy;rw [hy];exact h.1.bk _ (mfb _)) (fun Z h y hy=>by rw [zul] at hy;rw [hy];exact h.1.bk _ (mfb _)) (fun Z h=>h.1.bk _ (mfb _)) h ?_ ?_ ?_ ?_ ?_).mono ?_
 ·exact Stp.of (fun Z hZ=>ziC hZ hg) (fun Z _ hP=>hP) (fun Z hz _=>absurd rfl hz)
 ·refine Stp.of S2 (fun Z hz hP=>⟨hP,?_⟩) (fun Z hz hP=>?_)
  ·cases C with
   | false=>simp at hz
   | true=>rfl
  ·cases C with
   | false=>exact ⟨rfl,dr _ _ _ hP⟩
   | true=>simp at hz
 ·refine fun Z hI=>Stp.of (I:=fun Z=>Dvx w g ((pm,D (imc g p.su H s lg u) 113 (0,0)) :: KR) d Z) S3 (fun Z hz hP=>⟨hP,hI.2,hz⟩) (fun Z hz hP=>?_) Z hI.1;unfold lyZ lyD;rw [hI.2,if_neg (by simp),if_pos hz,if_neg (by simp),if_pos hz];exact ⟨rfl,dr _ _ _ hP⟩
 ·refine fun Z hI=>Stp.of (I:=fun Z=>Dvx w g ((pm,D (imc g p.su H s lg u) 113 (0,0)) :: KR) FI.1 Z) S4 (fun Z hz hP=>⟨hP,hI.2.1,hI.2.2,hz⟩) (fun Z hz hP=>?_) Z hI.1;unfold lyZ lyD;rw [hI.2.1,if_neg (by simp),if_neg (by rw [hI.2.2];simp),if_neg (by simp),if_neg (by rw [hI.2.2];simp)];exact ⟨rfl,dr _ _ _ hP⟩
 ·exact fun Z hI=>Stp.of (I:=fun Z=>Dvx w g ((pm,D (imc g p.su H s lg u) 113 (0,0)) :: KR) SS.1 Z) S5 (fun Z _ hP=>⟨hP,hI.2⟩) (fun Z hz _=>absurd rfl hz) Z hI.1
 ·rintro y w' ⟨z,rfl,hz0,hz1⟩
  by_cases hz:z=0
  ·obtain ⟨x1,x2,x3,x4⟩:=hz0 hz;have e:lyZ C FI SS=0:=by unfold lyZ;rw [x2,if_neg (by simp),if_neg (by rw [x3];simp),x4]
   exact ⟨by rw [e,hz],fun _=>dr _ _ _ x1,fun h=>absurd e h⟩
  ·obtain ⟨x1,x2⟩:=hz1 hz;exact ⟨by rw [x1],fun h=>absurd (x1.trans h) hz,fun _=>x2⟩
theorem zr6 {d:St} {p:Ip} {H:Hd} {s s2:Sn} {more:List En} (h:Dvx w g ((pm,D (imc g p.su H s lg u) 113 (0,0)) :: K) d W) (hK:∀ q∈K,q.1≠pm) (ok:p.Ok) (sok:s2.Ok) (hg:p.gl=0)
 (hm:zcO K A2 n2 more) (hb:s2.ix≤1099511627776) (hn2:more.length≤64) (hok:∀ e∈more,e.Ok) :
 V R 34 #[ptr pm,s2.v,E A2 n2 c2] W fun x w'=>x=T (G U (lyZ (lyC s.ix s2.ix (jn s2.ix [] more) more.length) (fiS d p.turn s2 more) (setS (fiS d p.turn s2 more).1 p.turn.su))) ∧
  (lyZ (lyC s.ix s2.ix (jn s2.ix [] more) more.length) (fiS d p.turn s2 more) (setS (fiS d p.turn s2 more).1 p.turn.su)=0→∃ A' n' c' K2,Dvx w g ((pm,D (imc g p.turn.su H s2 (E A' n' c') ((rcS p.v (pS p.v) (pO p.v) more).size:Nat)) 113 (0,0)) :: (K2++K)) (setS (fiS d p.turn s2 more).1 p.turn.su).1 w'∧Lg w.heap.size (K2++K) A' n' c' ((jn s2.ix [] more).getD [])∧∀ q∈K2,W.heap.size≤q.1) ∧
  (lyZ (lyC s.ix s2.ix (jn s2.ix [] more) more.length) (fiS d p.turn s2 more) (setS (fiS d p.turn s2 more).1 p.turn.su)≠0→Dvx w g ((pm,D (imc g p.su H s lg u) 113 (0,0)) :: K) (lyD (lyC s.ix s2.ix (jn s2.ix [] more) more.length) d (fiS d p.turn s2 more) (setS (fiS d p.turn s2 more).1 p.turn.su)) w'):=by
 obtain ⟨W1,hW1,hsz,hb1,q3,q4,q5⟩:=zp2 W (D #[ptr pm] 32) (D s2.c 43) (D #[E A2 n2 c2] 54);obtain ⟨B,hB⟩:∃ B,B=W.heap.size:=⟨_,rfl⟩;rw [←hB] at q3 q4 q5 hsz;have hlp:pm<B:=by rw [hB];exact h.lt _ (zt0 ..)
 obtain ⟨K0,hK0⟩:∃ K0,K0=[(B,D #[ptr pm] 32 (0,0)),(B+1,D s2.c 43 (0,0)),(B+1+1,D #[E A2 n2 c2] 54 (0,0))]++((pm,D (imc g p.su H s lg u) 113 (0,0)) :: K):=⟨_,rfl⟩
 have h1:Dvx w g K0 d W1:=by
  rw [hK0];exact h.adds hb1 _ (by simp only [ztT,List.not_mem_nil,or_false];rintro q (rfl|rfl|rfl)<;>exact ⟨by rw [hB];omega,by assumption⟩)
 have hKs:∀ q∈K,q∈K0:=fun q hq=>by rw [hK0];simp [hq]
 have hlen:n2=more.length:=(hm W (fun q hq=>h.bk q (ztK _ hq))).len.symm;have KU:Hid (∀ Z,V R 97 #[.agg #[G U p.v,G U p.S,G U p.L,G U p.a,G U p.h,G U p.gl,G U p.sp]] Z fun e w'=>e=T (.agg p.turn.c)∧Q Z.heap.size Z w'):=fun Z=>zkt p ok Z
 have KJ:Hid (∀ K1 Z,(∀ q∈K0,q∈K1)→Dvx w g K1 d Z→V R 75 #[G O s2.ix,E N 0 0,E A2 n2 c2] Z fun x w'=>∃ A' n' c' K2,x=T (.tuple #[E A' n' c',qd (jn s2.ix [] more).isSome])∧Dvx w g (K2++K1) d w'∧Lg w.heap.size K2 A' n' c' ((jn s2.ix [] more).getD [])∧(∀ q∈K2,Z.heap.size≤q.1)∧Z.heap.size≤w'.heap.size) :=
  fun K1 Z hs hZ=>zlE (K:=K) (es:=[]) (Lg.nil _ _) hm hb (by simp) hn2 (by simp) hok (fun q hq=>hs q (hKs q hq)) hZ
 obtain ⟨J,hJ⟩:∃ J,J=jn s2.ix [] more:=⟨_,rfl⟩;rw [←hJ] at KJ ⊢;clear hJ;obtain ⟨FI,hFI⟩:∃ FI,FI=fiS d p.turn s2 more:=⟨_,rfl⟩;obtain ⟨SS,hSS⟩:∃ SS,SS=setS FI.1 p.turn.su:=⟨_,rfl⟩;obtain ⟨US,hUS⟩:∃ US:Int,US=((rcS p.v (pS p.v) (pO p.v) more).size:Nat):=⟨_,rfl⟩;rw [←hFI,←hSS,←hUS];obtain ⟨LZ,hLZ⟩:∃ LZ,LZ=lyZ (lyC s.ix s2.ix J more.length) FI SS:=⟨_,rfl⟩;obtain ⟨LD,hLD⟩:∃ LD,LD=lyD (lyC s.ix s2.ix J more.length) d FI SS:=⟨_,rfl⟩;rw [←hLZ,←hLD]
 have KT:Hid (∀ b7 A' n' c' K2 Z,Dvx w g (K2++((b7,D p.turn.c 65 (0,0)) :: K0)) d Z→Lg w.heap.size K2 A' n' c' (J.getD [])→(∀ q∈K2,W1.heap.size≤q.1)→W1.heap.size≤b7 →
  V R 40 #[E (M ⟨Z.heap.size+1+1,0,N⟩) 5 5] (((Z.alloc (D #[E A' n' c'] 54)).alloc (D #[qd J.isSome] 4)).alloc (D #[.func (.func 76) #[ptr pm] #[],.func (.func 98) #[] #[ptr (B+1),ptr B,ptr (Z.heap.size+1),ptr Z.heap.size,ptr (B+1+1)],.func (.func 99) #[] #[ptr B,ptr b7,ptr (B+1),ptr (B+1+1)],.func (.func 100) #[] #[ptr B,ptr b7],.func (.func 101) #[] #[ptr b7,ptr (B+1),ptr Z.heap.size,ptr B,ptr (B+1+1)]] 96))
  fun x w'=>x=T (G U LZ)∧(LZ=0→∃ A' n' c' K2,Dvx w g ((pm,D (imc g p.turn.su H s2 (E A' n' c') US) 113 (0,0)) :: (K2++K)) SS.1 w'∧Lg w.heap.size (K2++K) A' n' c' (J.getD [])∧∀ q∈K2,W.heap.size≤q.1) ∧
   (LZ≠0→Dvx w g ((pm,D (imc g p.su H s lg u) 113 (0,0)) :: K) LD w')):=by
  intro b7 A' n' c' K2 Z hZ hLg hk2 h7;have hZs:pm<Z.heap.size:=hZ.lt (pm,D (imc g p.su H s lg u) 113 (0,0)) (ztU _ (ztK _ (by rw [hK0];simp)));have hZ2:=((hZ.al2 (D #[E A' n' c'] 54) (D #[qd J.isSome] 4)).al (D #[.func (.func 76) #[ptr pm] #[],.func (.func 98) #[] #[ptr (B+1),ptr B,ptr (Z.heap.size+1),ptr Z.heap.size,ptr (B+1+1)],.func (.func 99) #[] #[ptr B,ptr b7,ptr (B+1),ptr (B+1+1)],.func (.func 100) #[] #[ptr B,ptr b7],.func (.func 101) #[] #[ptr b7,ptr (B+1),ptr Z.heap.size,ptr B,ptr (B+1+1)]] 96));rw [ztR,ztR,hK0] at hZ2;have hn':n'=(J.getD []).length:=(hLg Z fun q hq=>hZ.bk q (zui _ hq)).len.symm;have hcC:(decide (s.ix≤s2.ix)&&(J.isSome&&decide (n'=n2)))=lyC s.ix s2.ix J more.length:=by unfold lyC;rw [hn',hlen]
  have:=zol (w:=w) (g:=g) (pm:=pm) (b3:=B) (b4:=B+1) (b5:=B+1+1) (b7:=b7) (b8:=Z.heap.size) (b9:=Z.heap.size+1) (fb:=Z.heap.size+1+1) (K:=K2++K) (p:=p) (q:=p.turn) (s:=s) (s2:=s2) (H:=H) (lg:=lg) (u:=u) (A2:=A2) (n2:=n2) (c2:=c2) (A':=A') (n':=n') (c':=c') (x:=J.isSome) (more:=more) ok.turn sok hg (hm.sub fun q hq=>ztU _ hq) (by rw [hlen];exact hn2) hok
   (fun y hy=>(zt1.1 hy).elim (fun h=>by have:=hk2 y h;omega) (hK y)) ⟨by omega,by omega,by omega,by omega,by omega,by omega,by omega⟩
   (hZ2.drop fun q hq=>by
     simp only [ztT,zt1,List.not_mem_nil,or_false] at hq ⊢;rcases hq with h|h|h|h|h|h|h|h|h|h<;>simp [h])
  rw [hcC,←hFI,←hSS,show p.turn.v=p.v from rfl,←hUS,←hLZ,←hLD] at this;refine this.mono ?_;rintro x w' ⟨e1,e2,e3⟩;refine ⟨e1,fun h=>⟨A',n',c',K2,e2 h,hLg.sub (fun q hq=>zui _ hq),fun q hq=>by have:=hk2 q hq;omega⟩,fun h=>(e3 h).drop fun q hq=>?_⟩;simp only [ztT,zt1] at hq ⊢;rcases hq with h|h<;>simp [h]
 have HM0:Hid ((pm,D (imc g p.su H s lg u) 113 (0,0))∈K0):=by show _∈_;rw [hK0];simp
 have HM4:Hid ((B+1,D s2.c 43 (0,0))∈K0):=by show _∈_;rw [hK0];simp
 have HM5:Hid ((B+1+1,D #[E A2 n2 c2] 54 (0,0))∈K0):=by show _∈_;rw [hK0];simp
 have HM3:Hid ((B,D #[ptr pm] 32 (0,0))∈K0):=by show _∈_;rw [hK0];simp
 have KC:Hid (∀ K1 Z,(∀ q∈K0,q∈K1)→Dvx w g K1 d Z→Z.cell? ⟨B,0,N⟩=M (ptr pm)∧Z.cell? ⟨B+1,0,N⟩=M (G O s2.ix)∧Z.cell? ⟨B+1+1,0,N⟩=M (E A2 n2 c2)∧Z.heap[pm]?=M (D (imc g p.su H s lg u) 113 (0,0))) :=
  fun K1 Z hs hZ=>⟨zcr _ _ 0 _ 32 (0,0) (hZ.get (hs _ HM3.out)),(zae (hZ.get (hs _ HM4.out))).1,zcr _ _ 0 _ 54 (0,0) (hZ.get (hs _ HM5.out)),hZ.get (hs _ HM0.out)⟩
 have H1:=zh h1;have HW1:=zh hW1;have HB:=zh hB;obtain ⟨c0,c1,y2,hpm0⟩:=KC.out K0 _ (fun q hq=>hq) h1;obtain ⟨e0,e1,e2,e3,e4,e5,e6,e7⟩:=znU hpm0;clear hFI hSS hUS hLZ hLD hKs hlen h1 hK0 hlp q3 q4 q5 hb1 hsz hW1 hB h hK ok sok hg hm hb hn2 hok hpm0;unfold Ar.Sn.v ptr at *;go_enter func34,ntmps34
 go_upto_region 1 with fail
 refine zaf (w:=W1) HW1.out.symm ?_;rw [←HB.out]
 go_upto_region 2 with (go_at_call 97;(with_reducible refine (KU.out _).mono ?_);rintro q w2 ⟨rfl,b2⟩)
 have H2:=(H1.out.below b2).al (D p.turn.c 65);have hs2:=b2.size;obtain ⟨b7,hb7⟩:∃ b7,b7=w2.heap.size:=⟨_,rfl⟩;rw [←hb7] at H2 hs2;obtain ⟨W3,hW3⟩:∃ W3,W3=w2.alloc (D p.turn.c 65):=⟨_,rfl⟩;have hs3:W3.heap.size=b7+1:=by rw [hW3,hb7];simp
 rw [←hW3] at H2;refine zaf (w:=W3) hW3.symm ?_;rw [←hb7];have HH2:=zh H2;obtain ⟨a0,a1,a2,_⟩:=KC.out _ _ (fun q hq=>ztK _ hq) H2;have HSS:Hid (W1.heap.size≤b7∧W3.heap.size=b7+1):=⟨hs2,hs3⟩;clear H2 hW3 hb7 b2 hs2 hs3 c0 c1 y2 e0 e1 e2 e3 e4 e5 e6 e7;unfold ptr at *
 go_wp2_with (first
  | (go_at_call 75;(with_reducible refine (KJ.out _ _ (fun q hq=>ztK _ hq) HH2.out).mono ?_);rintro q w5 ⟨A',n',c',K2,rfl,H5,hLg,hk2,hs5⟩;have HT:=zh (KT.out b7 A' n' c' K2 w5 H5 hLg (fun q hq=>by have:=hk2 q hq;have:=HSS.out;omega) HSS.out.1);obtain ⟨v0,v1,v2,_⟩:=KC.out _ _ (fun q hq=>ztU _ (ztK _ hq)) H5;have lB:B<w5.heap.size:=H5.lt _ (ztU _ (ztK _ HM3.out));clear H5 hLg hk2)
  | (go_at_call 40;(with_reducible refine HT.out.mono ?_);rintro q w9 ⟨rfl,E1,E2⟩;have HE1:=zh E1;have HE2:=zh E2;clear E1 E2))
 go_ret;exact ⟨rfl,HE1.out,HE2.out⟩
end
section
open Ar (Sn sn0)
def smE (t:Sn) (e:En):Bool:=decide (e.index=(t.ix:Int))&&decide (e.term=(t.tm:Int))
def smB (s t:Sn) (es:List En):Bool:=(decide (t.ix=s.ix)&&decide (t.tm=s.tm))||es.any (smE t)
def bhE (t:Sn) (e:En):Bool:=decide ((t.ix:Int)<e.index)
def stL (s t:Sn) (es:List En):List En:=if smB s t es then es.filter (bhE t) else []
theorem zom {es:List En} {e:En} (f:En→Bool) (h:es[k]?=M e):(es.take (k+1)).any f=((es.take k).any f||f e):=by
 rw [zbB h,List.any_append];simp
theorem zds {es:List En} {e:En} (f:En→Bool) (h:es[k]?=M e):(es.take (k+1)).filter f=(es.take k).filter f++if f e then [e] else []:=by
 rw [zbB h,List.filter_append]
 cases hf:f e<;>simp [hf]
end
section
open Ar (Sn sn0)
def sets:Array Y→Nat→List Y→Array Y
 | c,_,[]=>c
 | c,o,v :: r=>sets (c.setIfInBounds o v) (o+1) r
theorem zfd (g t:Nat):∀ (vs:List Y) (o:Nat) (w:qf) (c:Array Y),w.heap[g]?=M (D c t (0,0))→(w.setCells g o vs).heap[g]?=M (D (sets c o vs) t (0,0))
 | [],_,_,_,h=>h
 | v :: r,o,w,c,h=>zfd g t r (o+1) _ _ (heap_setCell_same w g o c t v h)
theorem zfe:∀ (vs:List Y) (o:Nat) (c:Array Y),(sets c o vs).size=c.size
 | [],_,_=>rfl
 | v :: r,o,c=>by rw [sets,zfe r];simp
theorem zgE:∀ (vs:List Y) (o:Nat) (c:Array Y) (j:Nat),o+vs.length≤c.size→(sets c o vs)[j]?=if o≤j∧j<o+vs.length then vs[j-o]? else c[j]?
 | [],o,c,j,h=>by
   rw [sets,if_neg (by simp)]
 | v :: r,o,c,j,h=>by
   simp only [zud] at h;rw [sets,zgE r (o+1) _ j (by simp;omega)]
   by_cases h1:j=o
   ·subst h1;rw [if_neg (by omega),if_pos (by simp),Array.getElem?_setIfInBounds]
    simp
    omega
   ·by_cases h2:o+1≤j∧j<o+1+r.length
    ·rw [if_pos h2,if_pos (by simp;omega),show j-o=(j-(o+1))+1 by omega];rfl
    ·rw [if_neg h2,if_neg (by simp;omega),Array.getElem?_setIfInBounds,if_neg (by omega)]
theorem zeg {B g:Nat} {a:qf} (hg:B≤g):∀ (vs:List Y) (o:Nat) (w:qf),Q B a w→Q B a (w.setCells g o vs)
 | [],_,_,h=>h
 | v :: r,o,w,h=>zeg hg r (o+1) _ (h.setCell (p:=⟨g,o,N⟩) hg v)
theorem zp3 (e:En):(ec e).toList.length=11:=rfl
theorem zon (es:List En) (i:Nat) (e:En) (j:Nat) (hi:i<es.length):(flat (es.set i e))[j]?=if i*11≤j∧j<i*11+11 then (ec e).toList[j-i*11]? else (flat es)[j]?:=by
 by_cases hj:j<es.length*11
 ·obtain ⟨q,r,hq,hr⟩:∃ q r,j=q*11+r∧r<11:=⟨j / 11,j % 11,by omega,by omega⟩;have hql:q<es.length:=by omega
  obtain ⟨x,hx⟩:∃ x,es[q]?=M x:=⟨_,zt2 hql⟩;rw [hq]
  by_cases hqi:q=i
  ·subst hqi;rw [if_pos (by omega),zdI _ q e (by rw [List.getElem?_set_self hi]) r hr,show q*11+r-q*11=r by omega,zuv]
  ·rw [if_neg (by omega),zdI _ q x (by rw [List.getElem?_set_ne (Ne.symm hqi)];exact hx) r hr,zdI _ q x hx r hr]
 ·rw [if_neg (by omega),zuQ (by rw [za4,List.length_set];omega),zuQ (by rw [za4];omega)]
theorem Le.sto {es:List En} (h:Le B (M ⟨g,0,N⟩) n cap es w) (hi:i<n) (e:En):Le B (M ⟨g,0,N⟩) n cap (es.set i e) (w.setCells g (i*11) (ec e).toList):=by
 have hl:=h.len;obtain ⟨⟨h0,h1⟩,h2⟩:=h;rcases h1 with ⟨hv,_⟩|⟨g',cap',cur,hv,hb,hg,hn,hm,hs,ht⟩
 ·cases hv
 ·cases hv
  refine ⟨⟨by rw [za4,List.length_set,hl],.inr ⟨_,_,_,rfl,hb,zfd _ _ _ _ _ _ hg,hn,hm,by rw [zfe,hs],?_⟩⟩,by rw [List.length_set,hl]⟩;have hle:i*11+11≤cur.size:=by rw [hs];omega
  apply List.ext_getElem?;intro j;rw [zon _ _ _ _ (by rw [hl];exact hi),zuP,zuv,zgE _ _ _ _ (by rw [zp3];exact hle),zp3]
  by_cases hj:j<n*11
  ·rw [if_pos hj]
   by_cases hc:i*11≤j∧j<i*11+11
   ·rw [if_pos hc,if_pos hc]
   ·rw [if_neg hc,if_neg hc,←ht,zuP,if_pos hj,zuv]
  ·rw [if_neg hj,if_neg (by omega),zuQ (by rw [za4,hl];omega)]
theorem Le.past {o:Nat} {es:List En} (h:Le B (M ⟨g,0,N⟩) n cap es w) (vs:List Y) (ho:n*11≤o) (hov:o+vs.length≤cap*11):Le B (M ⟨g,0,N⟩) n cap es (w.setCells g o vs):=by
 have hl:=h.len;obtain ⟨⟨h0,h1⟩,h2⟩:=h;rcases h1 with ⟨hv,_⟩|⟨g',cap',cur,hv,hb,hg,hn,hm,hs,ht⟩
 ·cases hv
 ·cases hv
  refine ⟨⟨h0,.inr ⟨_,_,_,rfl,hb,zfd _ _ _ _ _ _ hg,hn,hm,by rw [zfe,hs],?_⟩⟩,h2⟩;rw [←ht];apply List.ext_getElem?;intro j;rw [zuP,zuP,zuv,zuv,zgE _ _ _ _ (by rw [hs];exact hov)]
  by_cases hj:j<n*11
  ·rw [if_pos hj,if_pos hj,if_neg (by omega)]
  ·rw [if_neg hj,if_neg hj]
theorem Le.there {es:List En} (h:Le B (M ⟨g,0,N⟩) n cap es w) (hi:i+k≤cap*11):w.there g i k:=by
 obtain ⟨⟨h0,h1⟩,h2⟩:=h;rcases h1 with ⟨hv,_⟩|⟨g',cap',cur,hv,hb,hg,hn,hm,hs,ht⟩
 ·cases hv
 ·cases hv
  intro j hj;have hlt:i+j<cur.size:=by rw [hs];omega
  refine ⟨?_,frozen_of_row _ _ _ _ 69 hg⟩;rw [zcr w g (i+j) cur 69 (0,0) hg,Array.getElem?_eq_getElem hlt];rfl
end
section
open Ar (Sn sn0)
theorem zjs (t:Sn) (b:Nat) (e:En) (Z:qf) (hb:Z.heap[b]?=M (D t.c 43 (0,0))):V R 145 #[ev e,ptr b] Z fun q w'=>q=T (qd (smE t e))∧Q Z.heap.size Z w':=by
 obtain ⟨W,hW⟩:∃ W,W=Z.alloc (D (ec e) 69):=⟨_,rfl⟩;have hB:Q Z.heap.size Z W:=by rw [hW];exact zba
 have hn:W.heap[Z.heap.size]?=M (D (ec e) 69 (0,0)):=by rw [hW];exact ztJ Z _
 obtain ⟨c0,c1,_⟩:=ecz hn;obtain ⟨v0,v1,v2⟩:=zae ((hB.block _ (zgx hb)).trans hb);have HB:=zh hB;have HW:=zh hW;clear hn hB hW hb;unfold ev ptr at *
 by_cases h1:e.index=(t.ix:Int)
 ·have t1:(e.index==(t.ix:Int))=qc:=by rw [h1];simp
  by_cases h2:e.term=(t.tm:Int)
  ·have t2:(e.term==(t.tm:Int))=qc:=by rw [h2];simp
   have HS:Hid (smE t e=qc):=by show _=_;unfold smE;rw [ztN h1,ztN h2];rfl
   clear h1 h2;go_enter func145,ntmps145
   go_upto_region 1 with fail
   refine zaf (w:=W) HW.out.symm ?_;go_wp2;go_ret;exact ⟨by rw [HS.out];rfl,HB.out⟩
  ·have t2:(e.term==(t.tm:Int))=X:=by simpa using h2
   have HS:Hid (smE t e=X):=by show _=_;unfold smE;rw [ztM h2,Bool.and_false]
   clear h1 h2;go_enter func145,ntmps145
   go_upto_region 1 with fail
   refine zaf (w:=W) HW.out.symm ?_;go_wp2;go_ret;exact ⟨by rw [HS.out];rfl,HB.out⟩
 ·have t1:(e.index==(t.ix:Int))=X:=by simpa using h1
  have HS:Hid (smE t e=X):=by show _=_;unfold smE;rw [ztM h1,zun]
  clear h1;go_enter func145,ntmps145
  go_upto_region 1 with fail
  refine zaf (w:=W) HW.out.symm ?_;go_wp2;go_ret;exact ⟨by rw [HS.out];rfl,HB.out⟩
theorem zlG (t:Sn) (b:Nat) (e:En) (Z:qf) (hb:Z.heap[b]?=M (D t.c 43 (0,0))):V R 147 #[ev e,ptr b] Z fun q w'=>q=T (qd (!bhE t e))∧Q Z.heap.size Z w':=by
 obtain ⟨W,hW⟩:∃ W,W=Z.alloc (D (ec e) 69):=⟨_,rfl⟩;have hB:Q Z.heap.size Z W:=by rw [hW];exact zba
 have hn:W.heap[Z.heap.size]?=M (D (ec e) 69 (0,0)):=by rw [hW];exact ztJ Z _
 obtain ⟨c0,c1,_⟩:=ecz hn;obtain ⟨v0,v1,v2⟩:=zae ((hB.block _ (zgx hb)).trans hb);have HB:=zh hB;have HW:=zh hW;clear hn hB hW hb;unfold ev ptr at *
 have HS:Hid ((!bhE t e)=decide (e.index≤(t.ix:Int))):=by
  show _=_;unfold bhE
  by_cases h:e.index≤(t.ix:Int)
  ·rw [ztN h,ztM (by omega)];rfl
  ·rw [ztM h,ztN (by omega)];rfl
 cases h1:decide (e.index≤(t.ix:Int)) <;>
 ·rw [h1] at HS;go_enter func147,ntmps147
  go_upto_region 1 with fail
  refine zaf (w:=W) HW.out.symm ?_;go_wp2;go_ret;exact ⟨by rw [HS.out];rfl,HB.out⟩
def IxF (f:En→Bool) (es:List En) (z:Int):Prop:=(z=-1∧∀ e∈es,f e=X)∨∃ k e,z=((k:Nat):Int)∧es[k]?=M e∧f e=qc∧∀ x∈es.take k,f x=X
theorem zdN (F:Nat) (ys:Array Y) (f:En→Bool) (hE:Ent F) (A:Option Addr) (n c:Nat) (es:List En) (w:qf) (h:zcx w.heap.size A n es w) (hn:n≤1000000)
 (hP:∀ Z e,Q w.heap.size w Z→V R F (#[ev e]++ys) Z fun q w'=>q=T (qd (f e))∧Q Z.heap.size Z w') :
 V R 198 #[E A n c,.func (.func F) #[] ys] w fun q w'=>∃ z,q=T (G U z)∧IxF f es z∧Q w.heap.size w w':=by
 have HH:=zh h;have HP:=zh hP;have HE:Hid (Ent F):=hE;have HL:Hid (es.length=n):=h.len;have hb0:=Below.refl w.heap.size w;clear h hP hE;go_enter func198,ntmps198;go_wp2
 go_loopw [5,8] (fun _ i wr=>∃ k:Nat,i=G U k∧k≤n∧Q w.heap.size w wr∧Hid (∀ x∈es.take k,f x=X)) (fun _ i _=>n-(qg i).toNat)
 case atStart=>exact ⟨0,rfl,ztO _,hb0,fun x hx=>by simp at hx⟩
 case round =>
  obtain ⟨k,rfl,hk,hbw,hno⟩:=hrel
  by_cases hlt:k<n
  ·have t1:decide ((k:Int)<(n:Int))=qc:=ztN (by omega);obtain ⟨e,he⟩:∃ e,es[k]?=M e:=⟨_,zt2 (by rw [HL.out];exact hlt)⟩;obtain ⟨a,hA,hB,d0,d1,d2,d3,d4,d5,d6,d7,d8,d9,d10⟩:=(HH.out.below hbw).cs he;have K:=zh (HP.out wr e hbw);have HEE:Hid (es[k]?=M e):=he;have HBW:=zh hbw;clear hB he hbw;rw [hA];clear hA
   go_upto_region 5 with fail
   rw [HE.out,Oper.upon_enter];refine K.out.mono ?_;rintro q w1 ⟨rfl,hb1⟩;have HB1:=zh (HBW.out.trans (hb1.mono HBW.out.size));clear K hb1 HBW d0 d1 d2 d3 d4 d5 d6 d7 d8 d9 d10
   cases hf:f e with
   | true =>
     have HF:Hid (IxF f es (k:Int)):=.inr ⟨k,e,rfl,HEE.out,hf,hno.out⟩;clear hf;go_wp2;go_ret;exact ⟨_,rfl,HF.out,HB1.out⟩
   | false =>
     have HF:Hid (∀ x∈es.take (k+1),f x=X):=by
      rw [zbB HEE.out];intro x hx;rcases zt1.1 hx with h|h
      ·exact hno.out x h
      ·rw [zul] at h;rw [h];exact hf
     clear hf;go_wp2
     go_roundw
     case rel=>exact ⟨k+1,by go_num,by omega,HB1.out,HF⟩
     case measure=>simp [qg];omega
  ·have hkn:k=n:=by omega
   subst hkn;have t1:decide ((k:Int)<(k:Int))=X:=ztM (by omega);have HF:Hid (IxF f es (-1)):=.inl ⟨rfl,fun e he=>hno.out e (by rw [zt9 (by rw [HL.out];exact ztI _)];exact he)⟩;clear hlt;go_wp2;go_ret;exact ⟨_,rfl,HF.out,hbw⟩
theorem zeC (F:Nat) (ys:Array Y) (f:En→Bool) (hE:Ent F) (A:Option Addr) (n c:Nat) (es:List En) (w:qf) (h:zcx w.heap.size A n es w) (hn:n≤1000000)
 (hP:∀ Z e,Q w.heap.size w Z→V R F (#[ev e]++ys) Z fun q w'=>q=T (qd (f e))∧Q Z.heap.size Z w') :
 V R 146 #[E A n c,.func (.func F) #[] ys] w fun q w'=>q=T (qd (es.any f))∧Q w.heap.size w w':=by
 have K:=zh (zdN F ys f hE A n c es w h hn hP);clear h hP hE;go_enter func146,ntmps146
 go_upto_region 1 with fail
 go_wp2_with (go_at_call 198;(with_reducible refine K.out.mono ?_);rintro q w1 ⟨z,rfl,hz,hb⟩)
 go_ret;refine ⟨?_,hb⟩;rcases hz with ⟨rfl,ha⟩|⟨k,e,rfl,he,hf,_⟩
 ·have:es.any f=X:=by rw [List.any_eq_false];exact fun x hx=>by rw [ha x hx];simp
  rw [this];rfl
 ·have:es.any f=qc:=by rw [List.any_eq_true];exact ⟨e,zuy he,hf⟩
  rw [this];rfl
end
section
open Ar (Sn sn0)
theorem zoo {es:List En} {e:En} (h:i<es.length):(es.set i e).take (i+1)=es.take i++[e]:=by
 rw [zbB (e:=e) (by rw [List.getElem?_set_self h]),List.take_set_of_le (ztI _)]
theorem zop {es:List En} {j:Nat} {e:En} (h:i<j):(es.set i e).drop j=es.drop j:=by
 apply List.ext_getElem?;intro k;rw [List.getElem?_drop,List.getElem?_drop,List.getElem?_set_ne (by omega)]
theorem zgc {es:List En} {f:En→Bool} (h:∀ e∈es,f e=X):es.filter (fun e=>!f e)=es:=List.filter_eq_self.2 fun e he=>by rw [h e he];rfl
def zcs (n:Nat):List Y:=(Builtin.zeroCells (ec ezz) n).toList
theorem zcs_length (n:Nat):(zcs n).length=n*11:=by unfold zcs Builtin.zeroCells;simp
theorem zcs_one (n:Nat):∀ v∈zcs n,v.oneCell'=qc:=fun v hv=>by
 have h11:∀ r,r<11→((ec ezz)[r]!).oneCell'=qc:=by decide
 unfold zcs Builtin.zeroCells at hv;rw [Array.mem_toList_iff,Array.mem_map] at hv;obtain ⟨a,_,rfl⟩:=hv;exact h11 _ (Nat.mod_lt _ (by decide))
theorem zgd (w:qf):(zeroValue 69).run R w=.ok (ev ezz) w:=by
 obtain ⟨i0,hi,hz0,hz1,hz2⟩:=info_parts info69;simp [zeroValue,typeInfo,hi,hz0]
theorem zhu (w:qf) (ty:TypeId) (g o n c:Nat) (hn:0<n) (ht:w.there g o (n*11)) :
 (Builtin.clear_ #[54] ty #[E (M ⟨g,o,N⟩) n c]).run R w=.ok (.tuple #[]) (w.setCells g o (zcs n)):=by
 have hst:=run_storeCells_cells (P:=R) g o (zcs n) 0 w (by rw [zcs_length];exact fun j hj=>(ht j hj).1) (by rw [zcs_length];exact fun j hj=>(ht j hj).2) (zcs_one n);have hv:=zgd;simp only [Nat.add_zero] at hst;unfold zcs at *;obtain ⟨m,rfl⟩:∃ m,n=m+1:=⟨n-1,by omega⟩;have hc:Value.cells (ev ezz)=ec ezz:=rfl;simp only [Builtin.clear_,run_underlying underlying54,Sem.run_bind,Result.andThen_ok,zuw,zuz,zgd,hc,hst,Sem.run_pure]
theorem zfN (F:Nat) (ys:Array Y) (f:En→Bool) (hE:Ent F) (B:Nat) (A:Option Addr) (n c:Nat) (es:List En) (w:qf) (h:Le B A n c es w) (hB:B≤w.heap.size) (hn:n≤1000000)
 (hP:∀ Z e,Q B w Z→V R F (#[ev e]++ys) Z fun q w'=>q=T (qd (f e))∧Q Z.heap.size Z w') :
 V R 148 #[E A n c,.func (.func F) #[] ys] w fun q w'=>∃ m,q=T (E A m c)∧Le B A m c (es.filter fun e=>!f e) w'∧Q B w w':=by
 have K:=zh (zdN F ys f hE A n c es w h.ents hn fun Z e hZ=>hP Z e (hZ.mono hB));have HH:=zh h;have HP:=zh hP;have HE:Hid (Ent F):=hE;have HL:Hid (es.length=n):=h.len;have HBS:Hid (B≤w.heap.size):=hB;clear h hP hE hB;go_enter func148,ntmps148
 go_upto_region 2 with (go_at_call 198;(with_reducible refine K.out.mono ?_);rintro q w1 ⟨z,rfl,hz,hb⟩)
 have HZ:=zh hz;have HB1:Hid (Q B w w1):=hb.mono HBS.out;have HL1:Hid (Le B A n c es w1):=HH.out.below hb;clear hz hb K;rcases HZ.out with ⟨rfl,hall⟩|⟨k,e,rfl,he,hf,hpre⟩
 ·have HF:Hid (es.filter (fun e=>!f e)=es):=zgc hall;clear hall;go_wp2;go_ret;exact ⟨n,rfl,by rw [HF.out];exact HL1.out,HB1.out⟩
 ·have hkn:k<n:=by have:=(List.getElem?_eq_some_iff.1 he).1;have:=HL.out;omega
  rcases HL1.out.form with ⟨rfl,rfl,rfl,rfl⟩|⟨g,rfl,hnc,hcm,hgl⟩
  ·omega
  ·have HK0:Hid ((es.take (k+1)).filter (fun e=>!f e)=es.take k):=by
    show _=_;rw [zbB he,List.filter_append,zgc hpre];simp [hf]
   have hgB:Hid (B≤g):=(HL1.out.own.lt g rfl).1;have tk:((k:Int)==-1)=X:=by simp
   clear he hf hpre
   go_upto_region 5 with fail
   go_wp2
   go_loopw [5,6,7] (fun i5 i6 _ wr=>∃ (i j:Nat) (cur:List En),i5=G U i∧i6=G U j∧i<j∧j≤n∧Hid (cur.take i=(es.take j).filter (fun e=>!f e))∧Hid (cur.drop j=es.drop j)∧Hid (cur.length=n)∧Hid (Le B (M ⟨g,0,N⟩) n c cur wr)∧Hid (Q B w wr)) (fun _ i _ _=>n-(qg i).toNat)
   case atStart=>exact ⟨k,k+1,es,rfl,by go_num,by omega,by omega,HK0.out.symm,rfl,HL.out,HL1.out,HB1.out⟩
   case round =>
    obtain ⟨i,j,cur,rfl,rfl,hij,hjn,hkp,hdr,hcl,hLe,hbw⟩:=hrel
    by_cases hlt:j<n
    ·have t1:decide ((j:Int)<(n:Int))=qc:=ztN (by omega);obtain ⟨e,he⟩:∃ e,es[j]?=M e:=⟨_,zt2 (by rw [HL.out];exact hlt)⟩
     have hce:cur[j]?=M e:=by
      have:=congrArg (fun l=>l[0]?) hdr.out
      simpa [he] using this
     obtain ⟨a,hA,hBl,d0,d1,d2,d3,d4,d5,d6,d7,d8,d9,d10⟩:=hLe.out.ents.cs hce
     cases hA
     simp only [Addr.add_mid,zub] at d0 d1 d2 d3 d4 d5 d6 d7 d8 d9 d10
     go_upto_region 8 with fail
     obtain ⟨W2,hW2⟩:∃ W2,W2=wr.alloc (D (ec e) 69):=⟨_,rfl⟩;obtain ⟨P,hPz⟩:∃ P,P=wr.heap.size:=⟨_,rfl⟩;have hB2:Q B w W2:=by rw [hW2];exact hbw.out.alloc (ztL HBS.out hbw.out.size) _
     have hL2:Le B (M ⟨g,0,N⟩) n c cur W2:=by rw [hW2];exact hLe.out.below zba
     have hp2:W2.heap[P]?=M (D (ec e) 69 (0,0)):=by rw [hW2,hPz];exact ztJ wr _
     have hgP:g<P:=by rw [hPz];exact (hLe.out.own.lt g rfl).2
     refine zaf (w:=W2) hW2.symm ?_;rw [←hPz];have HB2:=zh hB2;have HL2:=zh hL2;have HP2:=zh hp2;have KP:=zh (HP.out W2 e hB2);have HEE:Hid (es[j]?=M e):=he;obtain ⟨v0,v1,v2,v3,v4,v5,v6,v7,v8,v9,v10⟩:=ecz hp2;clear hB2 hL2 hp2 he hce hBl d0 d1 d2 d3 d4 d5 d6 d7 d8 d9 d10 hW2 hPz hLe hbw
     go_upto_region 9 with fail
     rw [HE.out,Oper.upon_enter];refine KP.out.mono ?_;rintro q w3 ⟨rfl,hb3⟩;have HB3:Hid (Q B w w3):=HB2.out.trans (hb3.mono (ztL HBS.out HB2.out.size));have HL3:Hid (Le B (M ⟨g,0,N⟩) n c cur w3):=HL2.out.below hb3;have HP3:=zh ((hb3.block _ (zgx HP2.out)).trans HP2.out);clear KP hb3 v0 v1 v2 v3 v4 v5 v6 v7 v8 v9 v10
     cases hf:f e with
     | true =>
       have HF:Hid ((es.take (j+1)).filter (fun e=>!f e)=(es.take j).filter (fun e=>!f e)):=by show _=_;rw [zds _ HEE.out,hf];simp
       have HD:Hid (cur.drop (j+1)=es.drop (j+1)):=by show _=_;rw [←List.drop_drop,←List.drop_drop,hdr.out]
       clear hf;go_wp2
       go_roundw
       case rel=>exact ⟨i,j+1,cur,rfl,by go_num,by omega,by omega,by show _=_;rw [HF.out,hkp.out],HD,hcl,HL3,HB3⟩
       case measure=>simp [qg];omega
     | false =>
       have HF:Hid ((es.take (j+1)).filter (fun e=>!f e)=(es.take j).filter (fun e=>!f e)++[e]):=by show _=_;rw [zds _ HEE.out,hf];simp
       have HD:Hid ((cur.set i e).drop (j+1)=es.drop (j+1)):=by show _=_;rw [zop (by omega),←List.drop_drop,←List.drop_drop,hdr.out]
       have HT:Hid ((cur.set i e).take (i+1)=(es.take (j+1)).filter (fun e=>!f e)):=by show _=_;rw [zoo (by rw [hcl.out];omega),hkp.out,HF.out]
       have HL4:Hid (Le B (M ⟨g,0,N⟩) n c (cur.set i e) (w3.setCells g (i*11) (ec e).toList)):=HL3.out.sto (by omega) e;have HB4:Hid (Q B w (w3.setCells g (i*11) (ec e).toList)):=zeg hgB.out _ _ _ HB3.out;have HTH:Hid (w3.there g (i*11) (ec e).size):=HL3.out.there (by show i*11+11≤c*11;omega);obtain ⟨v0,v1,v2,v3,v4,v5,v6,v7,v8,v9,v10⟩:=ecz HP3.out;have hil:(i:Int)<(n:Int):=by omega
       have hi0:(0:Int)≤(i:Int):=by omega
       clear hf;obtain ⟨x,hx⟩:∃ x,cur[i]?=M x:=⟨_,zt2 (by rw [hcl.out];omega)⟩;obtain ⟨a,hA,hBl,y0,y1,y2,y3,y4,y5,y6,y7,y8,y9,y10⟩:=HL3.out.ents.cs hx
       cases hA
       simp only [Addr.add_mid,zub] at y0 y1 y2 y3 y4 y5 y6 y7 y8 y9 y10;have z0:w3.frozen? ⟨g,i*11,N⟩=X:=(HTH.out 0 (by show 0<11;omega)).2;have z1:w3.frozen? ⟨g,i*11+1,N⟩=X:=(HTH.out 1 (by show 1<11;omega)).2;have z2:w3.frozen? ⟨g,i*11+2,N⟩=X:=(HTH.out 2 (by show 2<11;omega)).2;have z3:w3.frozen? ⟨g,i*11+3,N⟩=X:=(HTH.out 3 (by show 3<11;omega)).2;have z4:w3.frozen? ⟨g,i*11+4,N⟩=X:=(HTH.out 4 (by show 4<11;omega)).2;have z5:w3.frozen? ⟨g,i*11+5,N⟩=X:=(HTH.out 5 (by show 5<11;omega)).2;have z6:w3.frozen? ⟨g,i*11+6,N⟩=X:=(HTH.out 6 (by show 6<11;omega)).2;have z7:w3.frozen? ⟨g,i*11+7,N⟩=X:=(HTH.out 7 (by show 7<11;omega)).2;have z8:w3.frozen? ⟨g,i*11+8,N⟩=X:=(HTH.out 8 (by show 8<11;omega)).2;have z9:w3.frozen? ⟨g,i*11+9,N⟩=X:=(HTH.out 9 (by show 9<11;omega)).2;have z10:w3.frozen? ⟨g,i*11+10,N⟩=X:=(HTH.out 10 (by show 10<11;omega)).2;clear hx hBl;go_wp2
       go_roundw
       case rel=>exact ⟨i+1,j+1,cur.set i e,by go_num,by go_num,by omega,by omega,HT,HD,by show _=_;rw [List.length_set];exact hcl.out,HL4,HB4⟩
       case measure=>simp [qg];omega
    ·have hjn':j=n:=by omega
     subst hjn';have t1:decide ((j:Int)<(j:Int))=X:=ztM (by omega);have hie:Hid (cur.take i=es.filter fun e=>!f e):=by show _=_;rw [hkp.out,zt9 (by rw [HL.out];exact ztI _)]
     have HLT:Hid (Le B (M ⟨g,0,N⟩) i c (cur.take i) wr):=hLe.out.take (by omega);have hij2:(i:Int)≤(j:Int):=by omega
     have hi0:(0:Int)≤(i:Int):=by omega
     have hic:(i:Int)≤(c:Int):=by omega
     go_upto_region 11 with fail
     have hcl2:∀ ty,(Builtin.clear_ #[54] ty #[E (M ⟨g,i*11,N⟩) (j-i) (c-i)]).run R wr=.ok (.tuple #[]) (wr.setCells g (i*11) (zcs (j-i))):=fun ty=>zhu wr ty g (i*11) (j-i) (c-i) (by omega) (hLe.out.there (by omega));have HL9:Hid (Le B (M ⟨g,0,N⟩) i c (cur.take i) (wr.setCells g (i*11) (zcs (j-i)))):=HLT.out.past _ (ztI _) (by rw [zcs_length];omega);have HB9:Hid (Q B w (wr.setCells g (i*11) (zcs (j-i)))):=zeg hgB.out _ _ _ hbw.out;go_wp2;go_ret;exact ⟨i,rfl,by rw [←hie.out];exact HL9.out,HB9.out⟩
end
section
open Dk
open Ar (Sn sn0)
open J.Sl (Su Hd su0 hd0 sec)
theorem zr8:Ent 145:=fun xs w=>rfl
theorem zr9:Ent 147:=fun xs w=>rfl
def zoq (s:Sn):En:=⟨s.tm,s.ix,0,0,0,0,0,0,0,⟨#[]⟩,⟨#[]⟩⟩
theorem zor {d:St} {S:Su} {H:Hd} {s t:Sn} {es:List En} (h:Dvx w g ((pm,D (imc g S H s (E A n c) u) 113 (0,0)) :: K) d W)
 (hl:Lg w.heap.size K A n c es) (hn:es.length≤64) :
 V R 87 #[ptr pm,t.v] W fun x w'=>∃ A' n' c' K2,x=T (E A' n' c')∧Dvx w g (K2++((pm,D (imc g S H s (E A n c) u) 113 (0,0)) :: K)) d w'∧Lg w.heap.size K2 A' n' c' (stL s t es)∧∀ q∈K2,W.heap.size≤q.1:=by
 obtain ⟨W1,hW1⟩:∃ W1,W1=W.alloc (D t.c 43):=⟨_,rfl⟩;obtain ⟨B,hB⟩:∃ B,B=W.heap.size:=⟨_,rfl⟩;obtain ⟨K0,hK0⟩:∃ K0,K0=(pm,D (imc g S H s (E A n c) u) 113 (0,0)) :: K:=⟨_,rfl⟩;rw [←hK0] at h ⊢;have h1:Dvx w g ((B,D t.c 43 (0,0)) :: K0) d W1:=by rw [hW1,hB];exact h.al _
 have hs1:W1.heap.size=B+1:=by rw [hW1,hB];simp
 have hlen:es.length=n:=(hl W fun q hq=>h.bk q (by rw [hK0];exact ztK _ hq)).len;have KZ:Hid (∀ Z,Q W1.heap.size W1 Z→Dvx w g ((B,D t.c 43 (0,0)) :: K0) d Z):=fun Z hZ=>h1.below hZ
 have KC:Hid (∀ Z,Q W1.heap.size W1 Z→Z.cell? ⟨pm,11,N⟩=M (G O s.ix)∧Z.cell? ⟨pm,12,N⟩=M (G O s.tm)∧Z.cell? ⟨pm,14,N⟩=M (E A n c)∧Z.heap[B]?=M (D t.c 43 (0,0))):=fun Z hZ=>by
  have h2:=KZ.out Z hZ;have hp:=h2.get (k:=pm) (o:=D (imc g S H s (E A n c) u) 113 (0,0)) (ztK _ (by rw [hK0];simp));exact ⟨zcr _ _ 11 _ 113 (0,0) hp,zcr _ _ 12 _ 113 (0,0) hp,zcr _ _ 14 _ 113 (0,0) hp,h2.hd⟩
 have KL:Hid (∀ Z,Q W1.heap.size W1 Z→Le w.heap.size A n c es Z):=fun Z hZ=>hl Z fun q hq=>(KZ.out Z hZ).bk q (ztK _ (by rw [hK0];exact ztK _ hq))
 have KF:Hid (∀ A' n' c' w',Le W1.heap.size A' n' c' (stL s t es) w'→Q W1.heap.size W1 w'→∃ K2,Dvx w g (K2++K0) d w'∧Lg w.heap.size K2 A' n' c' (stL s t es)∧∀ q∈K2,W.heap.size≤q.1):=fun A' n' c' w' hL hb=>by
  obtain ⟨K2,x1,x2,x3⟩:=h1.addLe hb hL (ztI _);refine ⟨K2,x1.drop fun q hq=>?_,x2.low h1.be.size,fun q hq=>by have:=x3 q hq;omega⟩;simp only [zt1,ztT] at hq ⊢;rcases hq with h|h<;>simp [h]
 have hnn:n≤64:=by omega
 have KSM:Hid (∀ Z,Q W1.heap.size W1 Z→V R 145 #[.agg #[G O s.tm,G O s.ix,G U 0,G O 0,G O 0,G O 0,G O 0,G U 0,G U 0,qe ⟨#[]⟩,qe ⟨#[]⟩],ptr B] Z fun q w'=>q=T (qd (smE t (zoq s)))∧Q Z.heap.size Z w'):=fun Z hZ=>zjs t B (zoq s) Z (KC.out Z hZ).2.2.2
 have KCF:Hid (∀ Z,Q W1.heap.size W1 Z→V R 146 #[E A n c,.func (.func 145) #[] #[ptr B]] Z fun q w'=>q=T (qd (es.any (smE t)))∧Q Z.heap.size Z w'):=fun Z hZ =>
  zeC 145 #[ptr B] (smE t) zr8 A n c es Z (KL.out Z hZ).ents (by omega) fun Z2 e hZ2=>zjs t B e Z2 (KC.out Z2 (hZ.trans (hZ2.mono hZ.size))).2.2.2
 have KCL:Hid (∀ Z,Q W1.heap.size W1 Z→V R 84 #[E A n c] Z fun q w'=>∃ A' c',q=T (E A' n c')∧Le Z.heap.size A' n c' es w'∧Q Z.heap.size Z w'):=fun Z hZ=>zeo w.heap.size A n c es Z (KL.out Z hZ) (by omega)
 have KDF:Hid (∀ Z Bz A' c',Q W1.heap.size W1 Z→W1.heap.size≤Bz→Bz≤Z.heap.size→Le Bz A' n c' es Z→V R 148 #[E A' n c',.func (.func 147) #[] #[ptr B]] Z fun q w'=>∃ m,q=T (E A' m c')∧Le Bz A' m c' (es.filter (bhE t)) w'∧Q Bz Z w'):=fun Z Bz A' c' hZ hBz hBz2 hLe=>by
  have:=zfN 147 #[ptr B] (fun e=>!bhE t e) zr9 Bz A' n c' es Z hLe hBz2 (by omega) fun Z2 e hZ2=>zlG t B e Z2 (KC.out Z2 (hZ.trans (hZ2.mono hBz))).2.2.2
  simp only [Bool.not_not] at this;exact this
 have HSM:Hid (smE t (zoq s)=(decide (t.ix=s.ix)&&decide (t.tm=s.tm))):=by
  show _=_;unfold smE zoq
  by_cases h1:t.ix=s.ix
  ·rw [ztN h1,ztN (by show (s.ix:Int)=t.ix;omega)]
   by_cases h2:t.tm=s.tm
   ·rw [ztN h2,ztN (by show (s.tm:Int)=t.tm;omega)]
   ·rw [ztM h2,ztM (by show ¬ (s.tm:Int)=t.tm;omega)]
  ·rw [ztM h1,ztM (by show ¬ (s.ix:Int)=t.ix;omega)];rfl
 have HW1:=zh hW1;have HB:=zh hB;have hB1:=Below.refl W1.heap.size W1;clear hlen hs1 h1 hK0 hB hW1 h hl hn KZ;obtain ⟨c11,c12,c14,cB⟩:=KC.out W1 hB1;have HCB:=zh cB;clear cB;unfold Ar.Sn.v ptr at *;go_enter func87,ntmps87
 go_upto_region 1 with fail
 refine zaf (w:=W1) HW1.out.symm ?_;rw [←HB.out];obtain ⟨e11,e12,_,_⟩:=KC.out (W1.alloc (D (ec ezz) 69)) (hB1.alloc (ztI _) _);obtain ⟨f11,f12,_,_⟩:=KC.out (W1.alloc (D (ec ezz) 69)).drew (hB1.alloc (ztI _) _).drew;obtain ⟨g11,g12,_,_⟩:=KC.out W1.drew hB1.drew
 go_upto_region 2 with fail
 go_region
 go_upto_region 3 with fail
 obtain ⟨W2,hW2⟩:∃ W2,W2=(W1.alloc (D (ec (zoq s)) 69)).drew:=⟨_,rfl⟩;have hB2:Q W1.heap.size W1 W2:=by rw [hW2];exact (hB1.alloc (ztI _) _).drew
 have hp2:W2.heap[W1.heap.size]?=M (D (ec (zoq s)) 69 (0,0)):=by rw [hW2];exact ztJ W1 _
 refine zaf (w:=W2) hW2.symm ?_;obtain ⟨v0,v1,v2,v3,v4,v5,v6,v7,v8,v9,v10⟩:=ecz hp2;simp only [zoq] at v0 v1 v2 v3 v4 v5 v6 v7 v8 v9 v10;have KS2:=zh (KSM.out W2 hB2);have HB2:=zh hB2;clear hp2 hW2 hB2 c11 c12 c14 e11 e12 f11 f12 g11 g12 HW1 HB KSM
 have KE:Hid (∀ Z,Q W1.heap.size W1 Z→smB s t es=qc→V R 84 #[E A n c] Z fun q w'=>∃ A' c',q=T (E A' n c')∧Q W1.heap.size W1 w'∧V R 148 #[E A' n c',.func (.func 147) #[] #[ptr B]] w' fun q w'=>∃ A' n' c' K2,q=T (E A' n' c')∧Dvx w g (K2++K0) d w'∧Lg w.heap.size K2 A' n' c' (stL s t es)∧∀ q∈K2,W.heap.size≤q.1):=fun Z hZ hs=>by
  have hst:stL s t es=es.filter (bhE t):=by unfold stL;rw [hs];rfl
  refine (KCL.out Z hZ).mono ?_;rintro q w' ⟨A',c',rfl,hLe,hb⟩;refine ⟨A',c',rfl,hZ.trans (hb.mono hZ.size),?_⟩;refine (KDF.out w' Z.heap.size A' c' (hZ.trans (hb.mono hZ.size)) hZ.size hb.size hLe).mono ?_;rintro q w2 ⟨m,rfl,hL2,hb2⟩;obtain ⟨K2,x1,x2,x3⟩:=KF.out A' m c' w2 (by rw [hst];exact ⟨zbA hZ.size hL2.own,hL2.len⟩) ((hZ.trans (hb.mono hZ.size)).trans (hb2.mono hZ.size));exact ⟨A',m,c',K2,rfl,x1,x2,x3⟩
 have KN:Hid (∀ Z,Q W1.heap.size W1 Z→smB s t es=X→∃ A' n' c' K2,T (E N 0 0)=T (E A' n' c')∧Dvx w g (K2++K0) d Z∧Lg w.heap.size K2 A' n' c' (stL s t es)∧∀ q∈K2,W.heap.size≤q.1):=fun Z hZ hs=>by
  have hst:stL s t es=[]:=by unfold stL;rw [hs];rfl
  obtain ⟨K2,x1,x2,x3⟩:=KF.out N 0 0 Z (by rw [hst];exact Le.nil _ _) hZ;exact ⟨N,0,0,K2,rfl,x1,x2,x3⟩
 clear KF KDF KCL KL;have HSB:Hid (smB s t es=(smE t (zoq s)||es.any (smE t))):=by show _=_;rw [HSM.out];rfl
 clear HSM;obtain ⟨so,hso⟩:∃ so,so=smE t (zoq s):=⟨_,rfl⟩;obtain ⟨sa,hsa⟩:∃ sa,sa=es.any (smE t):=⟨_,rfl⟩;rw [←hso] at KS2 HSB;rw [←hsa] at KCF HSB;clear hso hsa;unfold ptr at *
 cases so with
 | true =>
   have HSB':Hid (smB s t es=qc):=by show _=_;rw [HSB.out];rfl
   go_upto_region 5 with (first
    | (go_at_call 145;(with_reducible refine KS2.out.mono ?_);rintro q w3 ⟨rfl,b3⟩;have H3:=zh (HB2.out.trans (b3.mono HB2.out.size));obtain ⟨x11,x12,x14,_⟩:=KC.out w3 H3.out))
   go_wp2_with (first
    | (go_at_call 84;(with_reducible refine (KE.out w3 H3.out HSB'.out).mono ?_);rintro q w4 ⟨A',c',rfl,b4,KD⟩;have HKD:=zh KD;clear KD)
    | (go_at_call 148;(with_reducible refine HKD.out.mono ?_);rintro q w5 ⟨A2,n2,c2,K2,rfl,y1,y2,y3⟩))
   go_ret;exact ⟨A2,n2,c2,K2,rfl,y1,y2,y3⟩
 | false =>
   cases sa with
   | true =>
     have HSB':Hid (smB s t es=qc):=by show _=_;rw [HSB.out];rfl
     go_upto_region 5 with (first
      | (go_at_call 145;(with_reducible refine KS2.out.mono ?_);rintro q w3 ⟨rfl,b3⟩;have H3:=zh (HB2.out.trans (b3.mono HB2.out.size));obtain ⟨x11,x12,x14,_⟩:=KC.out w3 H3.out)
      | (go_at_call 146;(with_reducible refine (KCF.out w3 H3.out).mono ?_);rintro q w6 ⟨rfl,b6⟩;have H6:=zh (H3.out.trans (b6.mono H3.out.size));obtain ⟨z11,z12,z14,_⟩:=KC.out w6 H6.out))
     go_wp2_with (first
      | (go_at_call 84;(with_reducible refine (KE.out w6 H6.out HSB'.out).mono ?_);rintro q w4 ⟨A',c',rfl,b4,KD⟩;have HKD:=zh KD;clear KD)
      | (go_at_call 148;(with_reducible refine HKD.out.mono ?_);rintro q w5 ⟨A2,n2,c2,K2,rfl,y1,y2,y3⟩))
     go_ret;exact ⟨A2,n2,c2,K2,rfl,y1,y2,y3⟩
   | false =>
     go_wp2_with (first
      | (go_at_call 145;(with_reducible refine KS2.out.mono ?_);rintro q w3 ⟨rfl,b3⟩;have H3:=zh (HB2.out.trans (b3.mono HB2.out.size));obtain ⟨x11,x12,x14,_⟩:=KC.out w3 H3.out)
      | (go_at_call 146;(with_reducible refine (KCF.out w3 H3.out).mono ?_);rintro q w6 ⟨rfl,b6⟩;have H6:Hid (Q W1.heap.size W1 w6):=H3.out.trans (b6.mono H3.out.size)))
     go_ret;exact KN.out _ H6.out (by rw [HSB.out];rfl)
end
section
open Dk
open Ar (Sn sn0)
open J.Sl (Su Hd su0 hd0 sec)
open J (setS setH ldS ldH ldE)
theorem zos {s t:Sn} {es:List En} {e:En} (h:e∈stL s t es):e∈es:=by
 unfold stL at h
 split at h
 ·exact (List.mem_filter.1 h).1
 ·cases h
theorem zot (s t:Sn) (es:List En):(stL s t es).length≤es.length:=by
 unfold stL
 split
 ·exact List.length_filter_le _ _
 ·simp
theorem zge {d:St} {p:Ip} {H:Hd} {s s2:Sn} {es more:List En} {LZ:Int} {LD d4:St} (h:Dvx w g ((pm,D (imc g p.su H s (E A n c) u) 113 (0,0)) :: K) d W) (hK:∀ q∈K,q.1≠pm) (ok:p.Ok) (sok:s2.Ok) (hg:p.gl=0)
 (hl:Lg w.heap.size K A n c es) (hb:s2.ix≤1099511627776) (hn:es.length≤64) (hok:∀ e∈es,e.Ok) (hmore:more=stL s s2 es)
 (hLZ:LZ=lyZ (lyC s.ix s2.ix (jn s2.ix [] more) more.length) (fiS d p.turn s2 more) (setS (fiS d p.turn s2 more).1 p.turn.su)) (hLD:LD=lyD (lyC s.ix s2.ix (jn s2.ix [] more) more.length) d (fiS d p.turn s2 more) (setS (fiS d p.turn s2 more).1 p.turn.su)) (hd4:d4=(setS (fiS d p.turn s2 more).1 p.turn.su).1) :
 V R 30 #[ptr pm,s2.v] W fun x w'=>x=T (G U LZ) ∧
  (LZ=0→∃ A' n' c' K2,Dvx w g ((pm,D (imc g p.turn.su H s2 (E A' n' c') ((rcS p.v (pS p.v) (pO p.v) more).size:Nat)) 113 (0,0)) :: (K2++K)) d4 w'∧Lg w.heap.size (K2++K) A' n' c' ((jn s2.ix [] more).getD [])∧∀ q∈K2,W.heap.size≤q.1) ∧
  (LZ≠0→∃ K2,Dvx w g ((pm,D (imc g p.su H s (E A n c) u) 113 (0,0)) :: (K2++K)) LD w'∧∀ q∈K2,W.heap.size≤q.1):=by
 obtain ⟨W1,hW1⟩:∃ W1,W1=W.alloc (D s2.c 43):=⟨_,rfl⟩;obtain ⟨B,hB⟩:∃ B,B=W.heap.size:=⟨_,rfl⟩;have hlp:pm<B:=by rw [hB];exact h.lt _ (zt0 ..)
 obtain ⟨K0,hK0⟩:∃ K0,K0=(B,D s2.c 43 (0,0)) :: K:=⟨_,rfl⟩
 have h1:Dvx w g ((pm,D (imc g p.su H s (E A n c) u) 113 (0,0)) :: K0) d W1:=by
  have:=h.al (D s2.c 43)
  rw [hW1,hK0,hB];exact this.drop fun q hq=>by simp only [ztT] at hq ⊢;rcases hq with h|h|h<;>simp [h]
 have hs1:W1.heap.size=B+1:=by rw [hW1,hB];simp
 have hK0n:∀ q∈K0,q.1≠pm:=fun q hq=>by
  rw [hK0] at hq;rcases ztT.1 hq with rfl|hq
  ·show B≠pm;omega
  ·exact hK q hq
 have hKs:∀ q∈K,q∈K0:=fun q hq=>by rw [hK0];simp [hq]
 have hm:(B,D s2.c 43 (0,0))∈K0:=by rw [hK0];simp
 have KS:Hid (∀ Z,Dvx w g ((pm,D (imc g p.su H s (E A n c) u) 113 (0,0)) :: K0) d Z→V R 87 #[ptr pm,.agg #[G O s2.ix,G O s2.tm,qe s2.da]] Z fun x w'=>∃ A' n' c' K2,x=T (E A' n' c')∧Dvx w g (K2++((pm,D (imc g p.su H s (E A n c) u) 113 (0,0)) :: K0)) d w'∧Lg w.heap.size K2 A' n' c' more∧∀ q∈K2,Z.heap.size≤q.1) :=
  fun Z hZ=>by rw [hmore];exact zor hZ (hl.sub hKs) hn
 obtain ⟨Pz,hPz⟩:∃ Pz:qf→Prop,Pz=fun w'=>(LZ=0→∃ A' n' c' K2,Dvx w g ((pm,D (imc g p.turn.su H s2 (E A' n' c') ((rcS p.v (pS p.v) (pO p.v) more).size:Nat)) 113 (0,0)) :: (K2++K)) d4 w'∧Lg w.heap.size (K2++K) A' n' c' ((jn s2.ix [] more).getD [])∧∀ q∈K2,W.heap.size≤q.1) ∧
  (LZ≠0→∃ K2,Dvx w g ((pm,D (imc g p.su H s (E A n c) u) 113 (0,0)) :: (K2++K)) LD w'∧∀ q∈K2,W.heap.size≤q.1):=⟨_,rfl⟩
 have KL:Hid (∀ Z K2 A' n' c',Dvx w g (K2++((pm,D (imc g p.su H s (E A n c) u) 113 (0,0)) :: K0)) d Z→Lg w.heap.size K2 A' n' c' more→(∀ q∈K2,W1.drew.heap.size≤q.1)→V R 34 #[ptr pm,.agg #[G O s2.ix,G O s2.tm,qe s2.da],E A' n' c'] Z fun x w'=>x=T (G U LZ)∧Pz w'∧w'.cell? ⟨B,0,N⟩=M (G O s2.ix)∧w'.cell? ⟨B,1,N⟩=M (G O s2.tm)∧w'.cell? ⟨B,2,N⟩=M (qe s2.da)):=fun Z K2 A' n' c' hZ hL hq2=>by
  have hZ2:Dvx w g ((pm,D (imc g p.su H s (E A n c) u) 113 (0,0)) :: (K2++K0)) d Z:=hZ.drop fun q hq=>by
   simp only [zt1,ztT] at hq ⊢;rcases hq with h|h|h<;>simp [h]
  have hB9:B<Z.heap.size:=hZ.lt _ (ztU _ (ztK _ hm));have e1:W1.drew.heap.size=W1.heap.size:=rfl;have hmem:∀ e∈more,e∈es:=fun e he=>zos (by rw [←hmore];exact he);have hmlen:more.length≤64:=by rw [hmore];exact ztL (zot _ _ _) hn
  have:=zr6 hZ2 (A2:=A') (n2:=n') (c2:=c') (more:=more) (s2:=s2) (fun q hq=>by
   rcases zt1.1 hq with h|h
   ·have:=hq2 q h;omega
   ·exact hK0n q h) ok sok hg ((hL.sub fun q hq=>zui _ hq).rd) hb hmlen (fun e he=>hok e (hmem e he))
  rw [←hLZ,←hLD,←hd4] at this;refine this.mono ?_;rintro x w' ⟨rfl,z1,z2⟩;refine ⟨rfl,?_,?_⟩
  ·rw [hPz];refine ⟨fun hz=>?_,fun hz=>?_⟩
   ·obtain ⟨A3,n3,c3,K3,y1,y2,y3⟩:=z1 hz;refine ⟨A3,n3,c3,K3++(K2++[(B,D s2.c 43 (0,0))]),?_,?_,fun q hq=>?_⟩
    ·rw [zuc,zuc];rw [hK0] at y1;exact y1
    ·rw [zuc,zuc];rw [hK0] at y2;exact y2
    ·simp only [zt1,zul] at hq;rcases hq with h|h|h
     ·have:=y3 q h;omega
     ·have:=hq2 q h;omega
     ·rw [h];exact Nat.le_of_eq hB.symm
   ·refine ⟨K2++[(B,D s2.c 43 (0,0))],?_,fun q hq=>?_⟩
    ·rw [zuc];have:=z2 hz;rw [hK0] at this;exact this
    ·simp only [zt1,zul] at hq;rcases hq with h|h
     ·have:=hq2 q h;omega
     ·rw [h];exact Nat.le_of_eq hB.symm
  ·by_cases hz:LZ=0
   ·obtain ⟨A3,n3,c3,K3,y1,y2,y3⟩:=z1 hz;exact zae (y1.get (ztK _ (ztU _ (ztU _ hm))))
   ·exact zae ((z2 hz).get (ztK _ (ztU _ hm)))
 have KC:Hid (∀ Z K9,(∀ q∈K0,q∈K9)→Dvx w g K9 d Z→Z.cell? ⟨B,0,N⟩=M (G O s2.ix)∧Z.cell? ⟨B,1,N⟩=M (G O s2.tm)∧Z.cell? ⟨B,2,N⟩=M (qe s2.da)):=fun Z K9 hs hZ=>zae (hZ.get (hs _ hm));have H1:=zh h1;have HW1:=zh hW1;have HB:=zh hB;obtain ⟨c0,c1,c2⟩:=KC.out _ _ (fun q hq=>ztK _ hq) h1.drew;have HPz:=zh hPz
 have hPP:Hid (∀ w',Pz w'→(LZ=0→∃ A' n' c' K2,Dvx w g ((pm,D (imc g p.turn.su H s2 (E A' n' c') ((rcS p.v (pS p.v) (pO p.v) more).size:Nat)) 113 (0,0)) :: (K2++K)) d4 w'∧Lg w.heap.size (K2++K) A' n' c' ((jn s2.ix [] more).getD [])∧∀ q∈K2,W.heap.size≤q.1) ∧
  (LZ≠0→∃ K2,Dvx w g ((pm,D (imc g p.su H s (E A n c) u) 113 (0,0)) :: (K2++K)) LD w'∧∀ q∈K2,W.heap.size≤q.1)):=fun w' h=>by rw [hPz] at h;exact h
 clear hPz HPz hm hKs hK0n hs1 h1 hK0 hlp hB hW1 h hK ok sok hg hl hb hn hok hmore hLZ hLD hd4;unfold Ar.Sn.v ptr at *;go_enter func30,ntmps30
 go_upto_region 1 with fail
 refine zaf (w:=W1) HW1.out.symm ?_;rw [←HB.out]
 go_region_held3 (fun w'=>w'.cell? ⟨B,0,N⟩=M (G O s2.ix)∧w'.cell? ⟨B,1,N⟩=M (G O s2.tm)∧w'.cell? ⟨B,2,N⟩=M (qe s2.da)) (first|exact ⟨c0,c1,c2⟩|exact ⟨v0,v1,v2⟩|exact ⟨a0,a1,a2⟩) (first
  | (go_at_call 87;(with_reducible refine (KS.out _ (Dvx.drew H1.out)).mono ?_);rintro q w2 ⟨A',n',c',K2,rfl,H2,hLg,hK2⟩;obtain ⟨v0,v1,v2⟩:=KC.out _ _ (fun q hq=>ztU _ (ztK _ hq)) H2)
  | (go_at_call 34;(with_reducible refine (KL.out _ _ _ _ _ H2 hLg hK2).mono ?_);rintro q w3 ⟨rfl,H3,a0,a1,a2⟩))
 go_wp2;go_ret;exact ⟨rfl,hPP.out _ H3⟩
theorem st7:(prog.info? 61).map (fun i=>i.size)=M 7:=by kernel_rfl
theorem zlI (tmps:Array Y) (w:qf) (b:Nat) (c:Array Y) (hc:c.size=7) (hp:tmps.getD 2 undef=.pointer (M ⟨b,0,N⟩)) (hg:w.heap[b]?=M (D c 61 (0,0))) :
 (results f25 tmps).run R w=.ok (.agg c) w:=by
 rw [zdL results25,hp];simp [asAddr,run_loadVar_row w b 61 61 c (0,0) _ hg underlying61 rfl (by rw [st7,hc])]
abbrev stc (H:Hd) (s:Sn) (lg:Y):Array Y:=#[G O H.tm,G U H.vo,G O H.cm,G O s.ix,G O s.tm,qe s.da,lg]
theorem zou {d:St} {S:Su} {H:Hd} {s:Sn} {es:List En} (h:Dvx w g ((pm,D (imc g S H s (E A n c) u) 113 (0,0)) :: K) d W)
 (hl:Lg w.heap.size K A n c es) (hn:es.length≤64) :
 V R 25 #[ptr pm] W fun x w'=>∃ A' c' K2,x=T (.agg (stc H s (E A' n c')))∧Dvx w g (K2++((pm,D (imc g S H s (E A n c) u) 113 (0,0)) :: K)) d w'∧Lg w.heap.size K2 A' n c' es∧∀ q∈K2,W.heap.size≤q.1:=by
 obtain ⟨K0,hK0⟩:∃ K0,K0=(pm,D (imc g S H s (E A n c) u) 113 (0,0)) :: K:=⟨_,rfl⟩;rw [←hK0] at h ⊢;have hpm:(pm,D (imc g S H s (E A n c) u) 113 (0,0))∈K0:=by rw [hK0];simp
 have KL:Hid (∀ Z,Dvx w g K0 d Z→Le w.heap.size A n c es Z):=fun Z hZ=>hl Z fun q hq=>hZ.bk q (by rw [hK0];exact ztK _ hq);obtain ⟨W1,hW1⟩:∃ W1,W1=W.alloc (D #[G O 0,G U 0,G O 0,G O 0,G O 0,qe ⟨#[]⟩,E N 0 0] 61):=⟨_,rfl⟩;obtain ⟨B,hB⟩:∃ B,B=W.heap.size:=⟨_,rfl⟩;have h1:Dvx w g ((B,D #[G O 0,G U 0,G O 0,G O 0,G O 0,qe ⟨#[]⟩,E N 0 0] 61 (0,0)) :: K0) d W1:=by rw [hW1,hB];exact h.al _
 have hs1:W1.heap.size=B+1:=by rw [hW1,hB];simp
 obtain ⟨c0,c1,c2,c3,c4,c5,c6,c7,c8,c9,c10,c11,c12,c13,c14,c15⟩:=zbi (h1.get (ztK _ hpm));have HW1:=zh hW1;have HB:=zh hB;have H1:=zh h1;have HPM:=zh hpm;have HK0:=zh hK0;have HS1:Hid (W1.heap.size=B+1):=hs1;have HKL:Hid (∀ q∈K0,q.1<B):=fun q hq=>by rw [hB];exact h.lt q hq
 clear hW1 hB h1 hpm hK0 hs1 h hl;unfold ptr at *;go_enter func25,ntmps25
 go_upto_region 1 with fail
 refine zaf (w:=W1) HW1.out.symm ?_;rw [←HB.out]
 go_upto_region 2 with fail
 have h2:=H1.out.al (D (stc H s (E A n c)) 61);rw [HS1.out] at h2;obtain ⟨W2,hW2⟩:∃ W2,W2=W1.alloc (D (stc H s (E A n c)) 61):=⟨_,rfl⟩;rw [←hW2] at h2;refine zaf (w:=W2) hW2.symm ?_;rw [HS1.out];have H2:=zh h2;have hK2s:Hid (∀ q∈K0,q∈(B+1,D (stc H s (E A n c)) 61 (0,0)) :: (B,D #[G O 0,G U 0,G O 0,G O 0,G O 0,qe ⟨#[]⟩,E N 0 0] 61 (0,0)) :: K0):=fun q hq=>ztK _ (ztK _ hq);have hW2s:Hid (B+1<W2.heap.size):=h2.lt _ (zt0 ..);have KCL:=zh (zeo w.heap.size A n c es W2 (KL.out W2 (h2.drop hK2s.out)) (by have:=(KL.out W2 (h2.drop hK2s.out)).len;omega));have e6:W2.cell? ⟨B+1,6,N⟩=M (E A n c):=zcr _ _ 6 _ 61 (0,0) h2.hd;clear c0 c1 c2 c3 c4 c5 c6 c7 c8 c9 c10 c11 c12 c13 c14 c15 hW2 h2 KL
 go_upto_region 2 with fail
 go_upto_region 3 with (go_at_call 84;(with_reducible refine KCL.out.mono ?_);rintro q w3 ⟨A',c',rfl,hLe,b3⟩;have ADD:=H2.out.addLe b3 hLe (ztI _);obtain ⟨K2,h3,hLg,hK2⟩:=ADD;have HLg:=zh hLg;have HK2:=zh hK2;have h4:Dvx w g ((B+1,D (stc H s (E A n c)) 61 (0,0)) :: ((B,D #[G O 0,G U 0,G O 0,G O 0,G O 0,qe ⟨#[]⟩,E N 0 0] 61 (0,0)) :: (K2++K0))) d w3:=h3.drop (fun q hq=>by simp only [ztT,zt1] at hq ⊢;rcases hq with h|h|h|h<;>simp [h]);have H4:=zh h4;have f6:w3.cell? ⟨B+1,6,N⟩=M (E A n c):=zcr _ _ 6 _ 61 (0,0) h4.hd;have z6:=frozen_of_row _ _ 6 _ 61 h4.hd;clear hLe b3 h3 hLg hK2 h4)
 have hnK:Hid (∀ q∈K2++K0,q.1≠B+1∧q.1≠B):=fun q hq=>by
  rcases zt1.1 hq with h|h
  ·have:=HK2.out q h;have:=hW2s.out;omega
  ·have:=HKL.out q h;omega
 have h5:=H4.out.puts (fun q hq=>by
  rcases ztT.1 hq with rfl|h
  ·show B≠B+1;omega
  ·exact (hnK.out q h).1) [(6,E A' n c')]
 simp only [setc,zA,zB,zC] at h5;obtain ⟨W5,hW5⟩:∃ W5,W5=setl (B+1) [(6,E A' n c')] w3:=⟨_,rfl⟩;rw [←hW5] at h5;refine zaf (w:=W5) hW5.symm ?_
 have h6:Dvx w g ((B,D #[G O 0,G U 0,G O 0,G O 0,G O 0,qe ⟨#[]⟩,E N 0 0] 61 (0,0)) :: ((B+1,D (stc H s (E A' n c')) 61 (0,0)) :: (K2++K0))) d W5:=h5.drop fun q hq=>by
  simp only [ztT] at hq ⊢;rcases hq with h|h|h<;>simp [h]
 have i0:=zcr _ _ 0 _ 61 (0,0) h5.hd;have i1:=zcr _ _ 1 _ 61 (0,0) h5.hd;have i2:=zcr _ _ 2 _ 61 (0,0) h5.hd;have i3:=zcr _ _ 3 _ 61 (0,0) h5.hd;have i4:=zcr _ _ 4 _ 61 (0,0) h5.hd;have i5:=zcr _ _ 5 _ 61 (0,0) h5.hd;have i6:=zcr _ _ 6 _ 61 (0,0) h5.hd;have j0:=zcr _ _ 0 _ 61 (0,0) h6.hd;have j1:=zcr _ _ 1 _ 61 (0,0) h6.hd;have j2:=zcr _ _ 2 _ 61 (0,0) h6.hd;have j3:=zcr _ _ 3 _ 61 (0,0) h6.hd;have j4:=zcr _ _ 4 _ 61 (0,0) h6.hd;have j5:=zcr _ _ 5 _ 61 (0,0) h6.hd;have j6:=zcr _ _ 6 _ 61 (0,0) h6.hd;have k0:=frozen_of_row _ _ 0 _ 61 h6.hd;have k1:=frozen_of_row _ _ 1 _ 61 h6.hd;have k2:=frozen_of_row _ _ 2 _ 61 h6.hd;have k3:=frozen_of_row _ _ 3 _ 61 h6.hd;have k4:=frozen_of_row _ _ 4 _ 61 h6.hd;have k5:=frozen_of_row _ _ 5 _ 61 h6.hd;have k6:=frozen_of_row _ _ 6 _ 61 h6.hd
 have h7:=h6.puts (fun q hq=>by
  rcases ztT.1 hq with rfl|h
  ·show B+1≠B;omega
  ·exact (hnK.out q h).2) [(0,G O H.tm),(1,G U H.vo),(2,G O H.cm),(3,G O s.ix),(4,G O s.tm),(5,qe s.da),(6,E A' n c')]
 simp only [setc,zA,zB,zC] at h7;have H7:=zh h7;clear h7 h6 h5 hW5 f6 z6 e6;go_wp2;have h8:Dvx w g ((B,D (stc H s (E A' n c')) 61 (0,0)) :: (B+1,D (stc H s (E A' n c')) 61 (0,0)) :: (K2++K0)) d _:=H7.out;have hWB:W.heap.size=B:=HB.out.symm;refine ztP (v:=_) (zlI _ _ B _ rfl rfl h8.hd) rfl ⟨A',c',K2,rfl,h8.drop fun q hq=>ztK _ (ztK _ hq),HLg.out.low H2.out.be.size,fun q hq=>?_⟩
 have:=HK2.out q hq
 have:=hW2s.out
 omega
end
end Go.Proofs.YtidndekacnmihaaGreat
