/- Parts of a proof. -/
import Derived.Test.YtidndekacnmihaaGreatF36
set_option linter.unusedVariables false
set_option linter.unusedSimpArgs false
set_option maxHeartbeats 8000000
set_option maxRecDepth 100000
namespace Go.Proofs.YtidndekacnmihaaGreat
open Go.RowKit
section
open Dk
open Ar (Sn sn0 snS snO)
open J.Sl (Su Hd su0 hd0 sec)
open J (setS setH ldS ldH ldE)
theorem zof (g:Nat) (S:Su) (q:Ip) (H:Hd) (s s2:Sn) (lg lg2:Value) (u u2:Int):setc [(1,.int .i64 q.v),(2,.int .i64 q.S),(3,.int .i64 q.L),(4,.int .i64 q.a),(5,.int .i64 q.h),(6,.int .i64 q.gl),(7,.int .i64 q.sp),(11,.int .u64 s2.ix),(12,.int .u64 s2.tm),(13,.string s2.da),(14,lg2),(15,.int .i64 u2)] (imc g S H s lg u)=imc g q.su H s2 lg2 u2:=by
 simp only [setc,zA,zB,zC];rfl
theorem zqi {w W:World} {g pn:Nat} {K:List (Nat×Obj)} {d d1 d2 d3 d4:St} {p:Ip} {H:Hd} {s s2:Sn} {lg:Value} {A2:Option Addr} {n2 c2:Nat} {u:Int} {more lgs:List En} (h:Rvx w g ((pn,Obj.cells (imc g p.su H s lg u) 124 (0,0)) :: K) d W) (hK:∀ q∈K,q.1≠pn) (ok:p.Ok) (sok:s2.Ok) (hg:p.gl=0)
 (hm:zcI K A2 n2 more) (hb:s2.ix≤1099511627776) (hn2:more.length≤64) (hok:∀ e∈more,e.Ok) (hj:jn s2.ix [] more=some lgs) (hll:lgs.length=more.length) (hlok:∀ e∈lgs,e.Ok)
 (hS:snO p.v s2=true) (hix:s.ix≤s2.ix) (hO:rcO p.v (pO p.v) lgs=true)
 (e1:Ar.arW d (p.aA p.turn.a:Nat) (p.S:Nat) p.v s2=(d1,0)) (e2o:onB d1.n (p.hA p.turn.h) p.L p.v=true) (e2:zdr d1 (p.hA p.turn.h) p.L p.v lgs=(d2,0)) (e3:d2.flush=(d3,0)) (e4:setS d3 p.turn.su=(d4,0)) :
 Calls Tryz.prog 67 #[ptr pn,s2.v,.slice A2 n2 c2] W fun x w'=>x=.returned (.int .i64 0)∧∃ A' n' c' K2,Rvx w g ((pn,Obj.cells (imc g p.turn.su H s2 (.slice A' n' c') ((rcS p.v (pS p.v) (pO p.v) lgs).size:Nat)) 124 (0,0)) :: (K2++K)) d4 w'∧Lg w.heap.size (K2++K) A' n' c' lgs∧∀ q∈K2,W.heap.size≤q.1:=by
 obtain ⟨W1,hW1⟩:∃ W1,W1=W.alloc (.cells s2.c 104):=⟨_,rfl⟩;obtain ⟨B,hB⟩:∃ B,B=W.heap.size:=⟨_,rfl⟩;obtain ⟨K0,hK0⟩:∃ K0,K0=(pn,Obj.cells (imc g p.su H s lg u) 124 (0,0)) :: K:=⟨_,rfl⟩;have hlp:pn<B:=by rw [hB];exact h.lt _ (zsO ..)
 rw [←hK0] at h;obtain ⟨K1,hK1⟩:∃ K1,K1=(B,Obj.cells s2.c 104 (0,0)) :: K0:=⟨_,rfl⟩;have h1:Rvx w g K1 d W1:=by rw [hW1,hK1,hB];exact h.al _
 have hs1:W1.heap.size=B+1:=by rw [hW1,hB];simp
 have HM0:Hid ((pn,Obj.cells (imc g p.su H s lg u) 124 (0,0))∈K1):=by show _∈_;rw [hK1,hK0];simp
 have HM4:Hid ((B,Obj.cells s2.c 104 (0,0))∈K1):=by show _∈_;rw [hK1];simp
 have HKs:Hid (∀ q∈K,q∈K1):=fun q hq=>by rw [hK1,hK0];simp [hq]
 have KP:Hid (∀ Z,Calls Tryz.prog 112 #[.int .i64 p.v,.agg #[.int .u64 s2.ix,.int .u64 s2.tm,.string s2.da]] Z fun e w'=>e=.returned (.tuple #[.string (snS p.v s2),.bool true])∧Below Z.heap.size Z w'):=fun Z=>by
  have:=Ar.zl3 p.v s2 Z sok
  rw [hS] at this;exact this
 have KJ:Hid (∀ Z,Rvx w g K1 d Z→Calls Tryz.prog 62 #[.int .u64 s2.ix,.slice none 0 0,.slice A2 n2 c2] Z fun x w'=>∃ A' n' c' K2,x=.returned (.tuple #[.slice A' n' c',.bool true])∧Rvx w g (K2++K1) d w'∧Lg w.heap.size K2 A' n' c' lgs∧(∀ q∈K2,Z.heap.size≤q.1)∧Z.heap.size≤w'.heap.size) :=
  fun Z hZ=>zjz (K:=K) (es:=[]) (Lg.nil _ _) hm hb (by simp) hn2 (by simp) hok hj (fun q hq=>HKs.out q hq) hZ
 have haa:p.aA p.turn.a≤1004:=by have:=ok.turn.a;have:=ok.S;unfold Ip.aA;rcases (show p.turn.a=0∨p.turn.a=1 by omega) with h|h<;>rw [h]<;>omega
 have KA:Hid (∀ Z,Calls Tryz.prog 50 #[.agg #[.int .i64 p.v,.int .i64 p.S,.int .i64 p.L,.int .i64 ((1-p.a:Nat):Int),.int .i64 ((1-p.h:Nat):Int),.int .i64 p.gl,.int .i64 p.sp],.int .i64 ((1-p.a:Nat):Int)] Z fun e w'=>e=.returned (.int .i64 (p.aA p.turn.a:Nat))∧Below Z.heap.size Z w'):=fun Z=>zdo p.turn ok.turn p.turn.a ok.turn.a Z;have KH:Hid (∀ Z,Calls Tryz.prog 52 #[.agg #[.int .i64 p.v,.int .i64 p.S,.int .i64 p.L,.int .i64 ((1-p.a:Nat):Int),.int .i64 ((1-p.h:Nat):Int),.int .i64 p.gl,.int .i64 p.sp],.int .i64 ((1-p.h:Nat):Int),.int .i64 p.v] Z fun e w'=>e=.returned (.agg #[.int .i64 (p.hA p.turn.h:Nat),.int .i64 p.L,.int .i64 p.v])∧Below Z.heap.size Z w'):=fun Z=>zdR p.turn ok.turn p.turn.h ok.turn.h p.v Z
 have KW:Hid (∀ Z K9,Rvx w g K9 d Z→Calls Tryz.prog 49 #[ptr g,.int .i64 (p.aA p.turn.a:Nat),.int .i64 p.S,.int .i64 p.v,.agg #[.int .u64 s2.ix,.int .u64 s2.tm,.string s2.da]] Z fun x w'=>x=.returned (.int .i64 0)∧Rvx w g K9 d1 w'):=fun Z K9 hZ=>by
  refine hZ.c1 fun L' hD=>?_
  have:=Ar.zhN w.heap.size g L' d (p.aA p.turn.a:Nat) (p.S:Nat) p.v s2 Z hD hZ.be.size sok (by omega)
  rw [e1] at this;exact this
 have KF:Hid (∀ Z K9 A' n' c',Rvx w g K9 d1 Z→zcI K9 A' n' lgs→Calls Tryz.prog 51 #[ptr g,.agg #[.int .i64 (p.hA p.turn.h:Nat),.int .i64 p.L,.int .i64 p.v],.slice A' n' c'] Z fun x w'=>x=.returned (.int .i64 0)∧Rvx w g K9 d2 w'):=fun Z K9 A' n' c' hZ hR=>by
  refine hZ.c1 fun L' hD=>?_;have hE:=hR Z hZ.bk
  have:=zh6 w.heap.size g L' d1 (p.hA p.turn.h) p.L p.v A' n' c' lgs Z hD hE (by rw [←hE.len,hll];exact hn2) hlok e2o hO
  rw [e2] at this;exact this
 have KL:Hid (∀ Z K9,Rvx w g K9 d2 Z→Calls Tryz.prog 53 #[ptr g] Z fun x w'=>x=.returned (.int .i64 0)∧Rvx w g K9 d3 w'):=fun Z K9 hZ=>by
  refine hZ.c1 fun L' hD=>?_
  have:=zcn w.heap.size g L' d2 Z hD
  rw [e3] at this;exact this
 have KSS:Hid (∀ Z K9,Rvx w g K9 d3 Z→Calls Tryz.prog 55 #[ptr g,.agg #[.int .i64 p.v,.int .i64 p.S,.int .i64 p.L,.int .i64 ((1-p.a:Nat):Int),.int .i64 ((1-p.h:Nat):Int),.int .i64 p.gl,.int .i64 p.sp]] Z fun x w'=>x=.returned (.int .i64 0)∧Rvx w g K9 d4 w'):=fun Z K9 hZ=>by
  refine hZ.c1 fun L' hD=>?_
  have:=J.zdF w.heap.size g L' d3 p.turn.su Z hD
  rw [e4] at this;exact this
 obtain ⟨US,hUS⟩:∃ US,US=rcS p.v (pS p.v) (pO p.v) lgs:=⟨_,rfl⟩
 have KR:Hid (∀ Z K9 A' n' c',Rvx w g K9 d4 Z→zcI K9 A' n' lgs→Calls Tryz.prog 115 #[.int .i64 p.v,.slice A' n' c'] Z fun x w'=>x=.returned (.tuple #[.string US,.bool true])∧Rvx w g K9 d4 w'):=fun Z K9 A' n' c' hZ hR=>by
  have hE:=hR Z hZ.bk
  have:=zbZ p.v (pS p.v) (pO p.v) A' n' c' lgs Z hE (by rw [←hE.len,hll];exact hn2) (fun e _=>zsB (zfA p.v e) (by omega)) (zeR p.v lgs hlok)
  rw [hO,←hUS] at this;exact this.mono fun x w' ⟨x1,x2⟩=>⟨x1,hZ.below x2⟩
 rw [←hUS]
 have hln:Hid (∀ K9 A' n' c' Z,Lg w.heap.size K9 A' n' c' lgs→Bk K9 Z→n'=n2):=fun K9 A' n' c' Z hL hZ=>by
  have:=(hL Z hZ).len;have:=(hm W (fun q hq=>h.bk q (by rw [hK0];exact zsA _ hq))).len;omega
 have KC:Hid (∀ Z K9 d',(∀ q∈K1,q∈K9)→Rvx w g K9 d' Z→(Z.cell? ⟨pn,0,none⟩=some (.pointer (some ⟨g,0,none⟩))∧Z.cell? ⟨pn,1,none⟩=some (.int .i64 p.v)∧Z.cell? ⟨pn,2,none⟩=some (.int .i64 p.S)∧Z.cell? ⟨pn,3,none⟩=some (.int .i64 p.L)∧Z.cell? ⟨pn,4,none⟩=some (.int .i64 p.a)∧Z.cell? ⟨pn,5,none⟩=some (.int .i64 p.h)∧Z.cell? ⟨pn,6,none⟩=some (.int .i64 p.gl)∧Z.cell? ⟨pn,7,none⟩=some (.int .i64 p.sp))∧Z.cell? ⟨pn,11,none⟩=some (.int .u64 s.ix)∧Z.cell? ⟨B,0,none⟩=some (.int .u64 s2.ix)∧Z.cell? ⟨B,1,none⟩=some (.int .u64 s2.tm)∧Z.cell? ⟨B,2,none⟩=some (.string s2.da)):=fun Z K9 d' hs hZ =>
  ⟨zr9 (hZ.get (hs _ HM0.out)),zcr _ _ 11 _ 124 (0,0) (hZ.get (hs _ HM0.out)),zae (hZ.get (hs _ HM4.out))⟩
 have H1:=zh h1;have HN:=zh hK;have HW1:=zh hW1;have HB:=zh hB;have HK01:Hid (K1=(B,Obj.cells s2.c 104 (0,0)) :: (pn,Obj.cells (imc g p.su H s lg u) 124 (0,0)) :: K):=by show _=_;rw [hK1,hK0]
 have HSZ:Hid (pn<B∧W1.heap.size=B+1):=⟨hlp,hs1⟩;obtain ⟨⟨c0,c1,c2',c3,c4,c5,c6,c7⟩,c11,b0,b1,b2⟩:=KC.out _ _ _ (fun q hq=>hq) h1.drew;have c6':W1.cell? ⟨pn,6,none⟩=some (.int .i64 0):=by rw [←hg];exact c6
 have t1:decide ((s2.ix:Int)<(s.ix:Int))=false:=zsC (by omega);have t1':decide (s2.ix<s.ix)=false:=zsC (by omega);have t1n:¬ (s2.ix<s.ix):=by omega
 have t1i:¬ ((s2.ix:Int)<(s.ix:Int)):=by omega
 obtain ⟨xh,hxh⟩:∃ x:Int,x=((p.hA p.turn.h:Nat):Int):=⟨_,rfl⟩;rw [←hxh] at KH KF;obtain ⟨xa,hxa⟩:∃ x:Int,x=((p.aA p.turn.a:Nat):Int):=⟨_,rfl⟩;rw [←hxa] at KA KW;have HOK:=zh ok;have u1:wrap64 (1-(p.a:Int))=((1-p.a:Nat):Int):=by have:=ok.a;unfold wrap64;omega
 have u2:wrap64 (1-(p.h:Int))=((1-p.h:Nat):Int):=by have:=ok.h;unfold wrap64;omega
 clear hxh hxa hUS hs1 h1 hK1 hK0 hlp hB hW1 h hK ok sok hg hm hb hn2 hok hj hll hlok hS hix hO e1 e2o e2 e3 e4 haa c6;unfold Ar.Sn.v ptr at *;go_enter Tryz.func67,Tryz.ntmps67
 go_upto_region 1 with fail
 refine zaf (w:=W1) HW1.out.symm ?_;rw [←HB.out]
 go_upto_region 3 with fail
 go_region_held3 (fun w'=>w'.cell? ⟨pn,1,none⟩=some (.int .i64 p.v)∧w'.cell? ⟨B,0,none⟩=some (.int .u64 s2.ix)∧w'.cell? ⟨B,1,none⟩=some (.int .u64 s2.tm)∧w'.cell? ⟨B,2,none⟩=some (.string s2.da)) (first|exact ⟨c1,b0,b1,b2⟩|exact ⟨d_1,v0,v1,v2⟩) (first
  | (go_at_call 112;(with_reducible refine (KP.out _).mono ?_);rintro q w2 ⟨rfl,bb⟩;have H2:=(Rvx.drew H1.out).below bb;obtain ⟨⟨d_0,d_1,d_2,d_3,d_4,d_5,d_6,d_7⟩,d_11,v0,v1,v2⟩:=KC.out _ _ _ (fun q hq=>hq) H2))
 have HH2:=zh H2;clear H2 bb c0 c1 c2' c3 c4 c5 c6' c7 c11 b0 b1 b2
 go_upto_region 5 with (go_at_call 62;(with_reducible refine (KJ.out _ HH2.out).mono ?_);rintro q w3 ⟨A',n',c',K2,rfl,H3,hLg,hK2,hs3⟩)
 have hnn:n'=n2:=hln.out _ _ _ _ _ hLg (fun q hq=>H3.bk q (zs6 _ hq));subst hnn;have HH3:=zh H3;have HLg:=zh hLg;have HK2:=zh hK2;obtain ⟨⟨c0,c1,c2',c3,c4,c5,c6,c7⟩,c11,b0,b1,b2⟩:=KC.out _ _ _ (fun q hq=>zsJ _ hq) H3.drew;have t2:((n':Int)==(n':Int))=true:=by simp
 have t3:((n':Int) != (n':Int))=false:=by simp
 clear H3 hLg hK2 hs3 d_0 d_1 d_2 d_3 d_4 d_5 d_6 d_7 d_11 v0 v1 v2
 go_still_tail 22,(by kernel_rfl)
 change wpList _ _ _ _ _ w3.drew
 go_upto_region 8 with fail
 clear t1 t1' t1n t1i t2 t3;obtain ⟨b4,hb4⟩:∃ b,b=w3.heap.size:=⟨_,rfl⟩;have hp4:pn<b4:=by rw [hb4];exact HH3.out.lt _ (zsJ _ HM0.out)
 have hne4:Hid (∀ q∈K2++K1,q.1≠b4):=fun q hq=>by rw [hb4];exact zsN (HH3.out.lt q hq)
 have H4:=(HH3.out.al (.cells #[.int .i64 p.v,.int .i64 p.S,.int .i64 p.L,.int .i64 p.a,.int .i64 p.h,.int .i64 p.gl,.int .i64 p.sp] 99)).drew;rw [←hb4] at H4;obtain ⟨W4,hW4⟩:∃ W4,W4=(w3.alloc (.cells #[.int .i64 p.v,.int .i64 p.S,.int .i64 p.L,.int .i64 p.a,.int .i64 p.h,.int .i64 p.gl,.int .i64 p.sp] 99)).drew:=⟨_,rfl⟩;rw [←hW4] at H4;refine zaf (w:=W4) hW4.symm ?_;have hb4':w3.heap.size=b4:=hb4.symm;rw [hb4'];have HH4:=zh H4;clear hW4 hb4 hb4' c0 c1 c2' c3 c4 c5 c6 c7 c11 b0 b1 b2 H4;obtain ⟨⟨c0,c1,c2',c3,c4,c5,c6,c7⟩,c11,b0,b1,b2⟩:=KC.out _ _ _ (fun q hq=>zsA _ (zsJ _ hq)) HH4.out;have r3:=zcr _ _ 3 _ 99 (0,0) HH4.out.hd;have z3:=frozen_of_row _ _ 3 _ 99 HH4.out.hd
 go_upto_region 9 with fail
 have H5:=HH4.out.puts hne4.out [(3,.int .i64 ((1-p.a:Nat):Int))];simp only [setc,zA,zB,zC] at H5;obtain ⟨W5,hW5⟩:∃ W5,W5=setl b4 [(3,.int .i64 ((1-p.a:Nat):Int))] W4:=⟨_,rfl⟩;rw [←hW5] at H5;refine zaf (w:=W5) (by rw [hW5];rfl) ?_;have HH5:=zh H5;clear hW5 c0 c1 c2' c3 c4 c5 c6 c7 c11 b0 b1 b2 H5 r3 z3;obtain ⟨⟨c0,c1,c2',c3,c4,c5,c6,c7⟩,c11,b0,b1,b2⟩:=KC.out _ _ _ (fun q hq=>zsA _ (zsJ _ hq)) HH5.out;have r4:=zcr _ _ 4 _ 99 (0,0) HH5.out.hd;have z4:=frozen_of_row _ _ 4 _ 99 HH5.out.hd
 go_upto_region 10 with fail
 have H6:=HH5.out.puts hne4.out [(4,.int .i64 ((1-p.h:Nat):Int))];simp only [setc,zA,zB,zC] at H6;obtain ⟨W6,hW6⟩:∃ W6,W6=setl b4 [(4,.int .i64 ((1-p.h:Nat):Int))] W5:=⟨_,rfl⟩;rw [←hW6] at H6;refine zaf (w:=W6) (by rw [hW6];rfl) ?_;have HH6:=zh H6;clear hW6 c0 c1 c2' c3 c4 c5 c6 c7 c11 b0 b1 b2 H6 r4 z4;obtain ⟨K6,hK6⟩:∃ K6,K6=(b4,Obj.cells #[.int .i64 p.v,.int .i64 p.S,.int .i64 p.L,.int .i64 ((1-p.a:Nat):Int),.int .i64 ((1-p.h:Nat):Int),.int .i64 p.gl,.int .i64 p.sp] 99 (0,0)) :: (K2++K1):=⟨_,rfl⟩;rw [←hK6] at HH6;have HS6:Hid (∀ q∈K1,q∈K6):=fun q hq=>by rw [hK6];exact zsA _ (zsJ _ hq)
 have HS2:Hid (∀ q∈K2,q∈K6):=fun q hq=>by rw [hK6];exact zsA _ (zs6 _ hq)
 have HM7:Hid ((b4,Obj.cells #[.int .i64 p.v,.int .i64 p.S,.int .i64 p.L,.int .i64 ((1-p.a:Nat):Int),.int .i64 ((1-p.h:Nat):Int),.int .i64 p.gl,.int .i64 p.sp] 99 (0,0))∈K6):=by show _∈_;rw [hK6];simp
 have KC2:Hid (∀ Z d',Rvx w g K6 d' Z→(Z.cell? ⟨pn,0,none⟩=some (.pointer (some ⟨g,0,none⟩))∧Z.cell? ⟨B,0,none⟩=some (.int .u64 s2.ix)∧Z.cell? ⟨B,1,none⟩=some (.int .u64 s2.tm)∧Z.cell? ⟨B,2,none⟩=some (.string s2.da))∧Z.cell? ⟨b4,0,none⟩=some (.int .i64 p.v)∧Z.cell? ⟨b4,1,none⟩=some (.int .i64 p.S)∧Z.cell? ⟨b4,2,none⟩=some (.int .i64 p.L)∧Z.cell? ⟨b4,3,none⟩=some (.int .i64 ((1-p.a:Nat):Int))∧Z.cell? ⟨b4,4,none⟩=some (.int .i64 ((1-p.h:Nat):Int))∧Z.cell? ⟨b4,5,none⟩=some (.int .i64 p.gl)∧Z.cell? ⟨b4,6,none⟩=some (.int .i64 p.sp)):=fun Z d' hZ=>by
  obtain ⟨⟨x0,_⟩,_,y0,y1,y2⟩:=KC.out _ _ _ HS6.out hZ;have hq:=hZ.get HM7.out;exact ⟨⟨x0,y0,y1,y2⟩,zcr _ _ 0 _ 99 (0,0) hq,zcr _ _ 1 _ 99 (0,0) hq,zcr _ _ 2 _ 99 (0,0) hq,zcr _ _ 3 _ 99 (0,0) hq,zcr _ _ 4 _ 99 (0,0) hq,zcr _ _ 5 _ 99 (0,0) hq,zcr _ _ 6 _ 99 (0,0) hq⟩
 clear hK6;obtain ⟨⟨c0,b0,b1,b2⟩,a0,a1,a2,a3,a4,a5,a6⟩:=KC2.out _ _ HH6.out.drew;clear HH3 HH4 HH5 u1 u2
 go_region_held3 (fun w'=>w'.cell? ⟨pn,0,none⟩=some (.pointer (some ⟨g,0,none⟩))∧w'.cell? ⟨B,0,none⟩=some (.int .u64 s2.ix)∧w'.cell? ⟨B,1,none⟩=some (.int .u64 s2.tm)∧w'.cell? ⟨B,2,none⟩=some (.string s2.da)∧w'.cell? ⟨b4,0,none⟩=some (.int .i64 p.v)∧w'.cell? ⟨b4,1,none⟩=some (.int .i64 p.S)∧w'.cell? ⟨b4,2,none⟩=some (.int .i64 p.L)∧w'.cell? ⟨b4,3,none⟩=some (.int .i64 ((1-p.a:Nat):Int))∧w'.cell? ⟨b4,4,none⟩=some (.int .i64 ((1-p.h:Nat):Int))∧w'.cell? ⟨b4,5,none⟩=some (.int .i64 p.gl)∧w'.cell? ⟨b4,6,none⟩=some (.int .i64 p.sp)) (first|exact ⟨c0,b0,b1,b2,a0,a1,a2,a3,a4,a5,a6⟩|exact ⟨e0,e1,e2,e3,f0,f1,f2,f3,f4,f5,f6⟩|exact ⟨g0,g1,g2,g3,h0,h1,h2,h3,h4,h5,h6⟩) (first
  | (go_at_call 50;(with_reducible refine (KA.out _).mono ?_);rintro q w7 ⟨rfl,bb⟩;have H7:=(Rvx.drew HH6.out).below bb;obtain ⟨⟨e0,e1,e2,e3⟩,f0,f1,f2,f3,f4,f5,f6⟩:=KC2.out _ _ H7)
  | (go_at_call 49;(with_reducible refine (KW.out _ _ H7).mono ?_);rintro q w8 ⟨rfl,H8⟩;obtain ⟨⟨g0,g1,g2,g3⟩,h0,h1,h2,h3,h4,h5,h6⟩:=KC2.out _ _ H8))
 have HH8:=zh H8;clear H8 H7 bb e0 e1 e2 e3 f0 f1 f2 f3 f4 f5 f6 g0 g1 g2 g3 h0 h1 h2 h3 h4 h5 h6 c0 b0 b1 b2 a0 a1 a2 a3 a4 a5 a6;obtain ⟨⟨c0,b0,b1,b2⟩,a0,a1,a2,a3,a4,a5,a6⟩:=KC2.out _ _ HH8.out.drew
 go_upto_region 12 with fail
 go_region_held3 (fun w'=>w'.cell? ⟨pn,0,none⟩=some (.pointer (some ⟨g,0,none⟩))∧w'.cell? ⟨b4,0,none⟩=some (.int .i64 p.v)∧w'.cell? ⟨b4,1,none⟩=some (.int .i64 p.S)∧w'.cell? ⟨b4,2,none⟩=some (.int .i64 p.L)∧w'.cell? ⟨b4,3,none⟩=some (.int .i64 ((1-p.a:Nat):Int))∧w'.cell? ⟨b4,4,none⟩=some (.int .i64 ((1-p.h:Nat):Int))∧w'.cell? ⟨b4,5,none⟩=some (.int .i64 p.gl)∧w'.cell? ⟨b4,6,none⟩=some (.int .i64 p.sp)) (first|exact ⟨c0,a0,a1,a2,a3,a4,a5,a6⟩|exact ⟨e0,f0,f1,f2,f3,f4,f5,f6⟩|exact ⟨g0,h0,h1,h2,h3,h4,h5,h6⟩) (first
  | (go_at_call 52;(with_reducible refine (KH.out _).mono ?_);rintro q w7 ⟨rfl,bb⟩;have H7:=(Rvx.drew HH8.out).below bb;obtain ⟨⟨e0,e1,e2,e3⟩,f0,f1,f2,f3,f4,f5,f6⟩:=KC2.out _ _ H7)
  | (go_at_call 51;(with_reducible refine (KF.out _ _ _ _ _ H7 (Lg.rd (Lg.sub HLg.out HS2.out))).mono ?_);rintro q w9 ⟨rfl,H9⟩;obtain ⟨⟨g0,g1,g2,g3⟩,h0,h1,h2,h3,h4,h5,h6⟩:=KC2.out _ _ H9))
 have HH9:=zh H9;clear H9 H7 bb e0 e1 e2 e3 f0 f1 f2 f3 f4 f5 f6 g1 g2 g3 h0 h1 h2 h3 h4 h5 h6 c0 b0 b1 b2 a0 a1 a2 a3 a4 a5 a6
 go_upto_region 15 with (go_at_call 53;(with_reducible refine (KL.out _ _ HH9.out).mono ?_);rintro q w10 ⟨rfl,H10⟩)
 have HH10:=zh H10;clear H10 g0;obtain ⟨⟨c0,b0,b1,b2⟩,a0,a1,a2,a3,a4,a5,a6⟩:=KC2.out _ _ HH10.out.drew
 go_upto_region 16 with fail
 go_region_held3 (fun w'=>w'.cell? ⟨pn,0,none⟩=some (.pointer (some ⟨g,0,none⟩))∧w'.cell? ⟨b4,0,none⟩=some (.int .i64 p.v)∧w'.cell? ⟨b4,1,none⟩=some (.int .i64 p.S)∧w'.cell? ⟨b4,2,none⟩=some (.int .i64 p.L)∧w'.cell? ⟨b4,3,none⟩=some (.int .i64 ((1-p.a:Nat):Int))∧w'.cell? ⟨b4,4,none⟩=some (.int .i64 ((1-p.h:Nat):Int))∧w'.cell? ⟨b4,5,none⟩=some (.int .i64 p.gl)∧w'.cell? ⟨b4,6,none⟩=some (.int .i64 p.sp)) (first|exact ⟨c0,a0,a1,a2,a3,a4,a5,a6⟩|exact ⟨g0,h0,h1,h2,h3,h4,h5,h6⟩) (first
  | (go_at_call 55;(with_reducible refine (KSS.out _ _ (Rvx.drew HH10.out)).mono ?_);rintro q w11 ⟨rfl,H11⟩;obtain ⟨⟨g0,g1,g2,g3⟩,h0,h1,h2,h3,h4,h5,h6⟩:=KC2.out _ _ H11))
 have HH11:=zh H11;clear H11 g1 g2 g3 c0 b0 b1 b2 a0 a1 a2 a3 a4 a5 a6
 go_upto_region 20 with (go_at_call 115;(with_reducible refine (KR.out _ _ _ _ _ HH11.out (Lg.rd (Lg.sub HLg.out HS2.out))).mono ?_);rintro q w12 ⟨rfl,H12⟩)
 have h13:Rvx w g ((pn,Obj.cells (imc g p.su H s lg u) 124 (0,0)) :: (K2++K)) d4 w12:=H12.drop fun q hq=>by
  simp only [zsL,zsP] at hq;rcases hq with h|h|h
  ·rw [h];exact HS6.out _ HM0.out
  ·exact HS2.out _ h
  ·exact HS6.out _ (HKs.out _ h)
 have HH12:=zh H12;have HH13:=zh h13;clear H12 h13 g0 h0 h1 h2 h3 h4 h5 h6;have npb:pn≠b4:=zsN hp4;have nbp:b4≠pn:=npb.symm;have npB:pn≠B:=zsN HSZ.out.1;have nBp:B≠pn:=npB.symm;obtain ⟨x1,x2,x3,x4,x5,x6,x7,x8,x9,x10,x11,x12,x13,x14,x15⟩:=zl4 HH13.out.hd;obtain ⟨y0,y1,y2,y3,y4,y5,y6,y7,y8,y9,y10,y11,y12,y13,y14,y15⟩:=zfs HH13.out.hd;obtain ⟨⟨c0,b0,b1,b2⟩,a0,a1,a2,a3,a4,a5,a6⟩:=KC2.out _ _ HH12.out;go_wp2;go_ret;have hw2:B<w2.heap.size:=HH2.out.lt _ HM4.out;have hpl:=HSZ.out.1;have hWB:W.heap.size=B:=HB.out.symm
 have h9:=HH13.out.puts (fun q hq=>by
  rcases zsP.1 hq with h|h
  ·have:=HK2.out q h;omega
  ·exact HN.out q h) [(1,.int .i64 p.turn.v),(2,.int .i64 p.turn.S),(3,.int .i64 p.turn.L),(4,.int .i64 p.turn.a),(5,.int .i64 p.turn.h),(6,.int .i64 p.turn.gl),(7,.int .i64 p.turn.sp),(11,.int .u64 s2.ix),(12,.int .u64 s2.tm),(13,.string s2.da),(14,.slice A' n' c'),(15,.int .i64 US.size)]
 rw [zof] at h9;exact ⟨rfl,A',n',c',K2,h9,HLg.out.sub fun q hq=>zs6 _ hq,fun q hq=>by have:=HK2.out q hq;omega⟩
end
section
open Dk
open Ar (Sn sn0)
open J.Sl (Su Hd su0 hd0 sec)
open J (setS setH ldS ldH ldE)
theorem zl7 {w W:World} {g pn:Nat} {K:List (Nat×Obj)} {d:St} {S:Su} {H:Hd} {s t:Sn} {A:Option Addr} {n c:Nat} {u:Int} {es:List En} (h:Rvx w g ((pn,Obj.cells (imc g S H s (.slice A n c) u) 124 (0,0)) :: K) d W)
 (hl:Lg w.heap.size K A n c es) (hn:es.length≤64) :
 Calls Tryz.prog 133 #[ptr pn,t.v] W fun x w'=>∃ A' n' c' K2,x=.returned (.slice A' n' c')∧Rvx w g (K2++((pn,Obj.cells (imc g S H s (.slice A n c) u) 124 (0,0)) :: K)) d w'∧Lg w.heap.size K2 A' n' c' (stL s t es)∧∀ q∈K2,W.heap.size≤q.1:=by
 obtain ⟨W1,hW1⟩:∃ W1,W1=W.alloc (.cells t.c 104):=⟨_,rfl⟩;obtain ⟨B,hB⟩:∃ B,B=W.heap.size:=⟨_,rfl⟩;obtain ⟨K0,hK0⟩:∃ K0,K0=(pn,Obj.cells (imc g S H s (.slice A n c) u) 124 (0,0)) :: K:=⟨_,rfl⟩;rw [←hK0] at h ⊢;have h1:Rvx w g ((B,Obj.cells t.c 104 (0,0)) :: K0) d W1:=by rw [hW1,hB];exact h.al _
 have hs1:W1.heap.size=B+1:=by rw [hW1,hB];simp
 have hlen:es.length=n:=(hl W fun q hq=>h.bk q (by rw [hK0];exact zsA _ hq)).len;have KZ:Hid (∀ Z,Below W1.heap.size W1 Z→Rvx w g ((B,Obj.cells t.c 104 (0,0)) :: K0) d Z):=fun Z hZ=>h1.below hZ
 have KC:Hid (∀ Z,Below W1.heap.size W1 Z→Z.cell? ⟨pn,11,none⟩=some (.int .u64 s.ix)∧Z.cell? ⟨pn,12,none⟩=some (.int .u64 s.tm)∧Z.cell? ⟨pn,14,none⟩=some (.slice A n c)∧Z.cell? ⟨B,0,none⟩=some (.int .u64 t.ix)∧Z.cell? ⟨B,1,none⟩=some (.int .u64 t.tm)):=fun Z hZ=>by
  have h2:=KZ.out Z hZ;have hp:=h2.get (k:=pn) (o:=.cells (imc g S H s (.slice A n c) u) 124 (0,0)) (zsA _ (by rw [hK0];simp));have hb:=zae h2.hd;exact ⟨zcr _ _ 11 _ 124 (0,0) hp,zcr _ _ 12 _ 124 (0,0) hp,zcr _ _ 14 _ 124 (0,0) hp,hb.1,hb.2.1⟩
 have KE:Hid (∀ k e,es[k]?=some e→∃ a,A=some a∧∀ Z,Below W1.heap.size W1 Z→Cs Z a k e):=fun k e he=>by
  have hE:zcJ W1.heap.size A n es W1:=(hl W1 fun q hq=>h1.bk q (zsA _ (by rw [hK0];exact zsA _ hq))).ents;obtain ⟨a,x1,x2,x3⟩:=hE.cs' he;exact ⟨a,x1,x3⟩
 have KF:Hid (∀ A' n' c' w',Le W1.heap.size A' n' c' (stL s t es) w'→Below W1.heap.size W1 w'→∃ K2,Rvx w g (K2++K0) d w'∧Lg w.heap.size K2 A' n' c' (stL s t es)∧∀ q∈K2,W.heap.size≤q.1):=fun A' n' c' w' hL hb=>by
  obtain ⟨K2,x1,x2,x3⟩:=h1.addLe hb hL (zsy _);refine ⟨K2,x1.drop fun q hq=>?_,x2.low h1.be.size,fun q hq=>by have:=x3 q hq;omega⟩;simp only [zsP,zsL] at hq ⊢;rcases hq with h|h<;>simp [h]
 have HLEN:=zh hlen;have hnn:n≤64:=by omega
 have HW1:=zh hW1;have HB:=zh hB;have hB1:=Below.refl W1.heap.size W1;clear hlen hs1 h1 hK0 hB hW1 h hl hn KZ;unfold Ar.Sn.v ptr at *;go_enter Tryz.func133,Tryz.ntmps133
 go_upto_region 1 with fail
 refine zaf (w:=W1) HW1.out.symm ?_;rw [←HB.out]
 go_cut [5] from 9 to 26 (fun s5 wx=>s5=.bool (decide (t.ix=s.ix)&&decide (t.tm=s.tm))∧Below W1.heap.size W1 wx)
 case first =>
  obtain ⟨c11,c12,c14,e0,e1⟩:=KC.out W1 hB1
  by_cases h1:t.ix=s.ix
  ·have t1:((t.ix:Int)==(s.ix:Int))=true:=by rw [h1];simp
   by_cases h2:t.tm=s.tm
   ·have t2:((t.tm:Int)==(s.tm:Int))=true:=by rw [h2];simp
    have D:=zh (And.intro (zsD h1) (zsD h2));clear h1 h2
    go_quiet (fail)
    go_wp2;go_meet;exact ⟨by rw [D.out.1,D.out.2];rfl,below_drewN hB1 _⟩
   ·have t2:((t.tm:Int)==(s.tm:Int))=false:=by simp;omega
    have D:=zh (And.intro (zsD h1) (zsC h2));clear h1 h2
    go_quiet (fail)
    go_wp2;go_meet;exact ⟨by rw [D.out.1,D.out.2];rfl,below_drewN hB1 _⟩
  ·have t1:((t.ix:Int)==(s.ix:Int))=false:=by simp;omega
   have D:=zh (zsC h1);clear h1
   go_quiet (fail)
   go_wp2;go_meet;exact ⟨by rw [D.out];rfl,below_drewN hB1 _⟩
 case rest =>
  obtain ⟨rfl,hb2⟩:=hcut;obtain ⟨b0,hb0⟩:∃ b,b=(decide (t.ix=s.ix)&&decide (t.tm=s.tm)):=⟨_,rfl⟩;have HB0:=zh hb0;rw [←hb0];clear hb0;go_wp2
  go_loopw [5,6] (fun x i wr=>∃ k:Nat,i=.int .i64 k∧x=.bool (b0||(es.take k).any (smE t))∧k≤n∧Below W1.heap.size W1 wr) (fun _ i _=>n-(Go.RowKit.intOf i).toNat)
  case atStart=>exact ⟨0,rfl,by simp,zsE _,hb2⟩
  case round =>
   clear hb2;obtain ⟨k,rfl,rfl,hk,hbw⟩:=hrel;obtain ⟨c11,c12,c14,e0,e1⟩:=KC.out wr hbw;obtain ⟨ac,hac⟩:∃ b,b=(b0||(es.take k).any (smE t)):=⟨_,rfl⟩;rw [←hac];have HAC:=zh hac;clear hac
   by_cases hlt:k<n
   ·have t1:decide ((k:Int)<(n:Int))=true:=zsD (by omega);obtain ⟨e,he⟩:∃ e,es[k]?=some e:=⟨_,zsW (by rw [HLEN.out];exact hlt)⟩;obtain ⟨a,hA,hCs⟩:=KE.out k e he;obtain ⟨d0,d1,_⟩:=hCs wr hbw;have hsn:Hid ((b0||(es.take (k+1)).any (smE t))=(ac||smE t e)):=by show _=_;rw [znA _ he,←Bool.or_assoc,HAC.out]
    rw [hA] at c14;have HBW:=zh hbw;clear he hCs hA hbw
    go_upto_region 5 with fail
    cases ac with
    | true =>
      go_quiet (fail)
      go_wp2
      go_roundw
      case rel=>exact ⟨k+1,by go_num,by rw [hsn.out];rfl,by omega,below_drewN HBW.out _⟩
      case measure=>simp [Go.RowKit.intOf];omega
    | false =>
      by_cases h1:e.index=(t.ix:Int)
      ·have t2:(e.index==(t.ix:Int))=true:=by rw [h1];simp
       by_cases h2:e.term=(t.tm:Int)
       ·have t3:(e.term==(t.tm:Int))=true:=by rw [h2];simp
        have hsm:Hid (smE t e=true):=by show _=_;unfold smE;rw [zsD h1,zsD h2];rfl
        clear h1 h2
        go_quiet (fail)
        go_wp2
        go_roundw
        case rel=>exact ⟨k+1,by go_num,by rw [hsn.out,hsm.out];rfl,by omega,below_drewN HBW.out _⟩
        case measure=>simp [Go.RowKit.intOf];omega
       ·have t3:(e.term==(t.tm:Int))=false:=by simpa using h2
        have hsm:Hid (smE t e=false):=by show _=_;unfold smE;rw [zsC h2,Bool.and_false]
        clear h1 h2
        go_quiet (fail)
        go_wp2
        go_roundw
        case rel=>exact ⟨k+1,by go_num,by rw [hsn.out,hsm.out];rfl,by omega,below_drewN HBW.out _⟩
        case measure=>simp [Go.RowKit.intOf];omega
      ·have t2:(e.index==(t.ix:Int))=false:=by simpa using h1
       have hsm:Hid (smE t e=false):=by show _=_;unfold smE;rw [zsC h1,ztd]
       clear h1
       go_quiet (fail)
       go_wp2
       go_roundw
       case rel=>exact ⟨k+1,by go_num,by rw [hsn.out,hsm.out];rfl,by omega,below_drewN HBW.out _⟩
       case measure=>simp [Go.RowKit.intOf];omega
   ·have hkn:k=n:=by omega
    subst hkn;have t1:decide ((k:Int)<(k:Int))=false:=zsC (by omega);have hst:Hid (ac=smB s t es):=by show _=_;rw [HAC.out,HB0.out,show es.take k=es from zsX (by rw [HLEN.out];exact zsy _)];rfl
    clear hlt
    cases ac with
    | false =>
      have hz:Hid (stL s t es=[]):=by show _=_;unfold stL;rw [←hst.out];rfl
      clear hst;have HBW:=zh hbw;go_wp2
      go_loopw [7,8] (fun o i wr=>i=.int .i64 0∧o=.slice none 0 0∧Below W1.heap.size W1 wr) (fun _ i _=>k-(Go.RowKit.intOf i).toNat)
      case atStart=>exact ⟨rfl,rfl,hbw⟩
      case round =>
       obtain ⟨rfl,rfl,hbw2⟩:=hrel;clear t1 c11 c12 c14 e0 e1;obtain ⟨c11,c12,c14,e0,e1⟩:=KC.out _ hbw2;go_wp2
       all_goals
        go_ret;obtain ⟨K2,x1,x2,x3⟩:=KF.out none 0 0 _ (by rw [hz.out];exact Le.nil _ _) hbw2;exact ⟨none,0,0,K2,rfl,x1,x2,x3⟩
    | true =>
      have hz:Hid (stL s t es=es.filter (bhE t)):=by show _=_;unfold stL;rw [←hst.out];rfl
      clear hst;go_wp2
      go_loopw [7,8] (fun o i wr=>∃ (j:Nat) (A':Option Addr) (m c':Nat),i=.int .i64 j∧o=.slice A' m c'∧j≤k∧m≤j∧Below W1.heap.size W1 wr∧Le W1.heap.size A' m c' ((es.take j).filter (bhE t)) wr) (fun _ i _=>k-(Go.RowKit.intOf i).toNat)
      case atStart=>exact ⟨0,none,0,0,rfl,rfl,zsE _,zsy _,hbw,Le.nil _ _⟩
      case round =>
       obtain ⟨j,A',m,c',rfl,rfl,hj,hmj,hbw2,hLe⟩:=hrel;clear t1 c11 c12 c14 e0 e1 hbw;obtain ⟨c11,c12,c14,e0,e1⟩:=KC.out _ hbw2
       by_cases hlt:j<k
       ·have t1:decide ((j:Int)<(k:Int))=true:=zsD (by omega);obtain ⟨e,he⟩:∃ e,es[j]?=some e:=⟨_,zsW (by rw [HLEN.out];exact hlt)⟩;obtain ⟨a,hA,hCs⟩:=KE.out j e he;obtain ⟨d0,d1,d2,d3,d4,d5,d6,d7,d8,d9,d10⟩:=hCs wr hbw2;have hsn:Hid ((es.take (j+1)).filter (bhE t)=(es.take j).filter (bhE t)++if bhE t e then [e] else []):=zdi _ he;have hAA:=zh hA;rw [hA] at c14;have HBW:=zh hbw2;have HLe:=zh hLe;have HCs:=zh hCs;clear he hCs hA hbw2 hLe
        by_cases h1:(t.ix:Int)<e.index
        ·have t2:decide ((t.ix:Int)<e.index)=true:=zsD h1;have hbh:Hid (bhE t e=true):=t2;clear h1;obtain ⟨w11,w12,w14,v0,v1⟩:=KC.out wr.drew (HBW.out.drew);obtain ⟨f0,f1,f2,f3,f4,f5,f6,f7,f8,f9,f10⟩:=HCs.out wr.drew HBW.out.drew;rw [hAA.out] at w14;have HLX:Hid (Le W1.heap.size A' m c' ((es.take j).filter (bhE t)) (wr.drew.alloc (.cells (ec e) 69))):=HLe.out.below ((Below.refl _ _).drew.alloc (zsy _) _);have HBX:Hid (Below W1.heap.size W1 (wr.drew.alloc (.cells (ec e) 69))):=HBW.out.drew.alloc HBW.out.size _
         go_upto_region 10 with fail
         go_region
         go_wp2_with (at_builtin;refine za8 rfl _ _ rfl _ W1.heap.size A' m c' wr.heap.size ((es.take j).filter (bhE t)) e rfl rfl HLX.out (zsz wr.drew _) (by omega) HBX.out.size ?_;intro g4 cap w9 hL10 hb10 hk10)
         go_roundw
         case rel=>exact ⟨j+1,_,m+1,cap,by go_num,rfl,by omega,by omega,HBX.out.trans hb10,by rw [hsn.out,hbh.out,if_pos rfl];exact hL10⟩
         case measure=>simp [Go.RowKit.intOf];omega
        ·have t2:decide ((t.ix:Int)<e.index)=false:=zsC h1;have hbh:Hid (bhE t e=false):=t2;clear h1
         go_upto_region 10 with fail
         go_region
         go_wp2
         go_roundw
         case rel=>exact ⟨j+1,A',m,c',by go_num,rfl,by omega,by omega,HBW.out.drew,by rw [hsn.out,hbh.out,if_neg (by simp),zth];exact HLe.out.below ((Below.refl _ _).drew)⟩
         case measure=>simp [Go.RowKit.intOf];omega
       ·have hjk:j=k:=by omega
        subst hjk;have t1:decide ((j:Int)<(j:Int))=false:=zsC (by omega);rw [show es.take j=es from zsX (by rw [HLEN.out];exact zsy _)] at hLe;go_wp2;go_ret;obtain ⟨K2,x1,x2,x3⟩:=KF.out A' m c' _ (by rw [hz.out];exact hLe) hbw2;exact ⟨A',m,c',K2,rfl,x1,x2,x3⟩
end
section
open Dk
open Ar (Sn sn0 snS snO)
open J.Sl (Su Hd su0 hd0 sec)
open J (setS setH ldS ldH ldE)
theorem zqj {s t:Sn} {es:List En} {e:En} (h:e∈stL s t es):e∈es:=by
 unfold stL at h
 split at h
 ·exact (List.mem_filter.1 h).1
 ·cases h
theorem zqk (s t:Sn) (es:List En):(stL s t es).length≤es.length:=by
 unfold stL
 split
 ·exact List.length_filter_le _ _
 ·simp
theorem ziG {w W:World} {g pn:Nat} {K:List (Nat×Obj)} {d d1 d2 d3 d4:St} {p:Ip} {H:Hd} {s s2:Sn} {A:Option Addr} {n c:Nat} {u:Int} {es lgs:List En} (h:Rvx w g ((pn,Obj.cells (imc g p.su H s (.slice A n c) u) 124 (0,0)) :: K) d W) (hK:∀ q∈K,q.1≠pn) (ok:p.Ok) (sok:s2.Ok) (hg:p.gl=0)
 (hl:Lg w.heap.size K A n c es) (hb:s2.ix≤1099511627776) (hn2:es.length≤64) (hok:∀ e∈es,e.Ok) (hj:jn s2.ix [] (stL s s2 es)=some lgs) (hll:lgs.length=(stL s s2 es).length) (hlok:∀ e∈lgs,e.Ok)
 (hS:snO p.v s2=true) (hix:s.ix≤s2.ix) (hO:rcO p.v (pO p.v) lgs=true)
 (e1:Ar.arW d (p.aA p.turn.a:Nat) (p.S:Nat) p.v s2=(d1,0)) (e2o:onB d1.n (p.hA p.turn.h) p.L p.v=true) (e2:zdr d1 (p.hA p.turn.h) p.L p.v lgs=(d2,0)) (e3:d2.flush=(d3,0)) (e4:setS d3 p.turn.su=(d4,0)) :
 Calls Tryz.prog 66 #[ptr pn,s2.v] W fun x w'=>x=.returned (.int .i64 0)∧∃ A' n' c' K2,Rvx w g ((pn,Obj.cells (imc g p.turn.su H s2 (.slice A' n' c') ((rcS p.v (pS p.v) (pO p.v) lgs).size:Nat)) 124 (0,0)) :: (K2++K)) d4 w'∧Lg w.heap.size (K2++K) A' n' c' lgs∧∀ q∈K2,W.heap.size≤q.1:=by
 obtain ⟨W1,hW1⟩:∃ W1,W1=W.alloc (.cells s2.c 104):=⟨_,rfl⟩;obtain ⟨B,hB⟩:∃ B,B=W.heap.size:=⟨_,rfl⟩;have hlp:pn<B:=by rw [hB];exact h.lt _ (zsO ..)
 obtain ⟨K0,hK0⟩:∃ K0,K0=(B,Obj.cells s2.c 104 (0,0)) :: K:=⟨_,rfl⟩
 have h1:Rvx w g ((pn,Obj.cells (imc g p.su H s (.slice A n c) u) 124 (0,0)) :: K0) d W1:=by
  have:=h.al (.cells s2.c 104)
  rw [hW1,hK0,hB];exact this.drop fun q hq=>by simp only [zsL] at hq ⊢;rcases hq with h|h|h<;>simp [h]
 have hs1:W1.heap.size=B+1:=by rw [hW1,hB];simp
 have hK0n:∀ q∈K0,q.1≠pn:=fun q hq=>by
  rw [hK0] at hq;rcases zsL.1 hq with rfl|hq
  ·show B≠pn;omega
  ·exact hK q hq
 have hKs:∀ q∈K,q∈K0:=fun q hq=>by rw [hK0];simp [hq]
 have hm:(B,Obj.cells s2.c 104 (0,0))∈K0:=by rw [hK0];simp
 have KS:Hid (∀ Z,Rvx w g ((pn,Obj.cells (imc g p.su H s (.slice A n c) u) 124 (0,0)) :: K0) d Z→Calls Tryz.prog 133 #[ptr pn,.agg #[.int .u64 s2.ix,.int .u64 s2.tm,.string s2.da]] Z fun x w'=>∃ A' n' c' K2,x=.returned (.slice A' n' c')∧Rvx w g (K2++((pn,Obj.cells (imc g p.su H s (.slice A n c) u) 124 (0,0)) :: K0)) d w'∧Lg w.heap.size K2 A' n' c' (stL s s2 es)∧∀ q∈K2,Z.heap.size≤q.1) :=
  fun Z hZ=>zl7 hZ (hl.sub hKs) hn2
 have KL:Hid (∀ Z K2 A' n' c',Rvx w g (K2++((pn,Obj.cells (imc g p.su H s (.slice A n c) u) 124 (0,0)) :: K0)) d Z→Lg w.heap.size K2 A' n' c' (stL s s2 es)→(∀ q∈K2,W1.drew.heap.size≤q.1)→Calls Tryz.prog 67 #[ptr pn,.agg #[.int .u64 s2.ix,.int .u64 s2.tm,.string s2.da],.slice A' n' c'] Z fun x w'=>x=.returned (.int .i64 0)∧∃ A' n' c' K2,Rvx w g ((pn,Obj.cells (imc g p.turn.su H s2 (.slice A' n' c') ((rcS p.v (pS p.v) (pO p.v) lgs).size:Nat)) 124 (0,0)) :: (K2++K0)) d4 w'∧Lg w.heap.size (K2++K0) A' n' c' lgs∧∀ q∈K2,W.heap.size≤q.1):=fun Z K2 A' n' c' hZ hL hq2=>by
  have hZ2:Rvx w g ((pn,Obj.cells (imc g p.su H s (.slice A n c) u) 124 (0,0)) :: (K2++K0)) d Z:=hZ.drop fun q hq=>by
   simp only [zsP,zsL] at hq ⊢;rcases hq with h|h|h<;>simp [h]
  have hB9:B<Z.heap.size:=hZ.lt _ (zsJ _ (zsA _ hm));refine (zqi hZ2 ?_ ok sok hg ((hL.sub fun q hq=>zs6 _ hq).rd) hb (zsB (zqk _ _ _) hn2) (fun e he=>hok e (zqj he)) hj hll hlok hS hix hO e1 e2o e2 e3 e4).mono ?_
  ·intro q hq;rcases zsP.1 hq with h|h
   ·have:=hq2 q h;have e:W1.drew.heap.size=W1.heap.size:=rfl;omega
   ·exact hK0n q h
  ·rintro x w' ⟨rfl,A3,n3,c3,K3,y1,y2,y3⟩;refine ⟨rfl,A3,n3,c3,K3++K2,by rw [zsZ];exact y1,by rw [zsZ];exact y2,fun q hq=>?_⟩;rcases zsP.1 hq with h|h
   ·have:=y3 q h;omega
   ·have:=hq2 q h;have e:W1.drew.heap.size=W1.heap.size:=rfl;omega
 have KX:Hid (∀ w' A' n' c' K2,Rvx w g ((pn,Obj.cells (imc g p.turn.su H s2 (.slice A' n' c') ((rcS p.v (pS p.v) (pO p.v) lgs).size:Nat)) 124 (0,0)) :: (K2++K0)) d4 w'→Lg w.heap.size (K2++K0) A' n' c' lgs→(∀ q∈K2,W.heap.size≤q.1)→∃ A' n' c' K2,Rvx w g ((pn,Obj.cells (imc g p.turn.su H s2 (.slice A' n' c') ((rcS p.v (pS p.v) (pO p.v) lgs).size:Nat)) 124 (0,0)) :: (K2++K)) d4 w'∧Lg w.heap.size (K2++K) A' n' c' lgs∧∀ q∈K2,W.heap.size≤q.1):=fun w' A' n' c' K2 y1 y2 y3=>by
  refine ⟨A',n',c',K2++[(B,Obj.cells s2.c 104 (0,0))],?_,?_,fun q hq=>?_⟩
  ·rw [zsZ];rw [hK0] at y1;exact y1
  ·rw [zsZ];rw [hK0] at y2;exact y2
  ·rcases zsP.1 hq with h|h
   ·exact y3 q h
   ·rw [zs7] at h;rw [h];exact Nat.le_of_eq hB.symm
 have KC:Hid (∀ Z K9,(∀ q∈K0,q∈K9)→Rvx w g K9 d Z→Z.cell? ⟨B,0,none⟩=some (.int .u64 s2.ix)∧Z.cell? ⟨B,1,none⟩=some (.int .u64 s2.tm)∧Z.cell? ⟨B,2,none⟩=some (.string s2.da)):=fun Z K9 hs hZ=>zae (hZ.get (hs _ hm));have KC2:Hid (∀ Z K9,(∀ q∈K0,q∈K9)→Rvx w g K9 d4 Z→Z.cell? ⟨B,0,none⟩=some (.int .u64 s2.ix)∧Z.cell? ⟨B,1,none⟩=some (.int .u64 s2.tm)∧Z.cell? ⟨B,2,none⟩=some (.string s2.da)):=fun Z K9 hs hZ=>zae (hZ.get (hs _ hm));have H1:=zh h1;have HW1:=zh hW1;have HB:=zh hB;have hsz1:Hid (W1.heap.size=B+1):=hs1;obtain ⟨c0,c1,c2⟩:=KC.out _ _ (fun q hq=>zsA _ hq) h1.drew;clear hm hKs hK0n hs1 h1 hK0 hlp hB hW1 h hK ok sok hg hl hb hn2 hok hj hll hlok hS hix hO e1 e2o e2 e3 e4;unfold Ar.Sn.v ptr at *;go_enter Tryz.func66,Tryz.ntmps66
 go_upto_region 1 with fail
 refine zaf (w:=W1) HW1.out.symm ?_;rw [←HB.out]
 go_region_held3 (fun w'=>w'.cell? ⟨B,0,none⟩=some (.int .u64 s2.ix)∧w'.cell? ⟨B,1,none⟩=some (.int .u64 s2.tm)∧w'.cell? ⟨B,2,none⟩=some (.string s2.da)) (first|exact ⟨c0,c1,c2⟩|exact ⟨v0,v1,v2⟩|exact ⟨a0,a1,a2⟩) (first
  | (go_at_call 133;(with_reducible refine (KS.out _ (Rvx.drew H1.out)).mono ?_);rintro q w2 ⟨A',n',c',K2,rfl,H2,hLg,hK2⟩;obtain ⟨v0,v1,v2⟩:=KC.out _ _ (fun q hq=>zsJ _ (zsA _ hq)) H2)
  | (go_at_call 67;(with_reducible refine (KL.out _ _ _ _ _ H2 hLg hK2).mono ?_);rintro q w3 ⟨rfl,A3,n3,c3,K3,H3,hL3,hK3⟩;obtain ⟨a0,a1,a2⟩:=KC2.out _ _ (fun q hq=>zsA _ (zsJ _ hq)) H3))
 go_wp2;go_ret;exact ⟨rfl,KX.out _ _ _ _ _ H3 hL3 hK3⟩
end
end Go.Proofs.YtidndekacnmihaaGreat
