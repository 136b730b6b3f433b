/- Parts of a proof. -/
import Derived.Test.YtidndekacnmihaaGreatF39
set_option linter.unusedVariables false
set_option linter.unusedSimpArgs false
set_option maxHeartbeats 8000000
set_option maxRecDepth 100000
namespace Go.Proofs.YtidndekacnmihaaGreat
open Go.RowKit
section
open Dk
open Ar (Sn sn0 snS snO)
open J.Sl (Su Hd su0 hd0 sec rgt zbm hB hO)
open J (setS setH ldS ldH ldE Sts zfP wrD)
abbrev p8 (v:Int):Ip:=⟨v,8,40,0,0,0,0⟩
theorem zro (s:Sn):stL sn0 s []=[]:=by unfold stL;split<;>rfl
theorem zlO {w W:World} {K:List (Nat×Obj)} {v:Int} {H:Hd} {s:Sn} {es:List En} {A:Option Addr} {n c:Nat} (hb:Below w.heap.size w W) (hK:∀ q∈K,W.heap[q.1]?=some q.2∧w.heap.size≤q.1)
 (hv:v=1∨v=2) (hho:H.Ok) (hO':hO v H=true) (sok:s.Ok) (sO:snO v s=true) (sf:(snS v s).size≤8*64) (hix:s.ix≤1099511627776) (hm:zcI K A n es) (hg:∀ e∈es,zep v e)
 (hct:∀ i e,es[i]?=some e→e.index=((s.ix+i+1:Nat):Int)) (hln:es.length≤64) (hf:(rcA v (pS v) es).size≤2560) :
 Calls Tryz.prog 22 #[.int .i64 v,.agg #[.int .u64 H.tm,.int .i64 H.vo,.int .u64 H.cm],s.v,.slice A n c] W fun x w'=>∃ g pm pn d,x=.returned (.tuple #[ptr pm,ptr pn])∧One w g pm K ⟨d,⟨v,8,40,1,1,0,0⟩,H,s,es,2,2⟩ w'∧Ig 100 ⟨d,⟨v,8,40,1,1,0,0⟩,H,s,es,2,2⟩:=by
 have pok:(p8 v).Ok:=⟨hv,(by show (1:Nat)≤8∧(8:Nat)≤1000;decide),(by show (1:Nat)≤40∧(40:Nat)≤1000;decide),zsE _,zsE _⟩;obtain ⟨d0,hd0'⟩:∃ d0,d0=St.fresh 100 fun _=>zsec:=⟨_,rfl⟩;have a0:Alv d0 100:=by rw [hd0'];exact Alv.fresh _ _
 obtain ⟨d5,i0,f13,f14⟩:=zhI (d:=d0) (n:=100) (v:=v) (S:=8) (L:=40) a0 pok (by decide) (by rw [hd0'];exact (J.zdO 100 0 (by decide)).2.1) (by rw [hd0'];exact (J.zdO 100 2 (by decide)).2.1);obtain ⟨M0,hM0⟩:∃ M:Mi,M=⟨d5,p8 v,hd0,sn0,[],1,1⟩:=⟨_,rfl⟩;rw [←hM0] at i0;obtain ⟨d6,i1,u1,r1⟩:=i0.compact (s2:=s) sok (by rw [hM0];exact sO) (by rw [hM0];exact sf) (by rw [hM0];exact zsE _) hix (by rw [hM0];show (1:Nat)<1000;decide);obtain ⟨M1,hM1⟩:∃ M:Mi,M=⟨d6,M0.p.turn,M0.H,s,stL M0.s s M0.es,M0.k+1,M0.j⟩:=⟨_,rfl⟩;rw [←hM1] at i1 u1 r1;have e1:M1=⟨d6,⟨v,8,40,1,1,0,0⟩,hd0,s,[],2,1⟩:=by rw [hM1,hM0];show Mi.mk _ _ _ _ (stL sn0 s []) _ _=_;rw [zro];rfl
 obtain ⟨d7,i2,u2,r2⟩:=i1.hard (hh:=H) (by rw [e1];exact hO') hho (by rw [e1];show (1:Nat)<1000;decide);obtain ⟨M2,hM2⟩:∃ M:Mi,M=⟨d7,M1.p,H,M1.s,M1.es,M1.k,M1.j+1⟩:=⟨_,rfl⟩;rw [←hM2] at i2 u2 r2;have e2:M2=⟨d7,⟨v,8,40,1,1,0,0⟩,H,s,[],2,2⟩:=by rw [hM2,e1]
 obtain ⟨d8,h8⟩:∃ d8,M2.d.Ok→(Ig 100 ⟨d8,M2.p,M2.H,M2.s,M2.es++es,M2.k,M2.j⟩∧(∀ w g pm K A2 n2 c2,zcI K A2 n2 es→UpP w g pm 23 #[ptr pm,.slice A2 n2 c2] (.returned (.int .i64 0)) K M2 ⟨d8,M2.p,M2.H,M2.s,M2.es++es,M2.k,M2.j⟩) ∧
  ∀ w g pm K A2 n2 c2,zcI K A2 n2 es→UpR w g pm 71 #[ptr pm,.slice A2 n2 c2] (.returned (.int .i64 0)) K M2 ⟨d8,M2.p,M2.H,M2.s,M2.es++es,M2.k,M2.j⟩):=by
  by_cases ok:M2.d.Ok
  ·obtain ⟨d8,x⟩:=i2.append (more:=es) ok (by rw [e2];exact hg) (by rw [e2];intro i e he;rw [hct i e he];show ((s.ix+i+1:Nat):Int)=((s.ix+0+i+1:Nat):Int);omega) (by rw [e2];show 0+es.length≤64;omega) (by rw [e2];show (rcA v (pS v) []).size+(rcA v (pS v) es).size≤40*64;have:(rcA v (pS v) []).size=0:=rfl;omega);exact ⟨d8,fun _=>x⟩
  ·exact ⟨d0,fun h=>absurd h ok⟩
 obtain ⟨M3,hM3⟩:∃ M:Mi,M=⟨d8,M2.p,M2.H,M2.s,M2.es++es,M2.k,M2.j⟩:=⟨_,rfl⟩;rw [←hM3] at h8;have e3:M3=⟨d8,⟨v,8,40,1,1,0,0⟩,H,s,es,2,2⟩:=by rw [hM3,e2];rfl
 have em:M0.es=[]:=by rw [hM0]
 obtain ⟨W1,hW1⟩:∃ W1,W1=(W.alloc (.cells #[.int .u64 H.tm,.int .i64 H.vo,.int .u64 H.cm] 41)).alloc (.cells #[.int .u64 s.ix,.int .u64 s.tm,.string s.da] 43):=⟨_,rfl⟩;obtain ⟨K',hK'⟩:∃ K':List (Nat×Obj),K'=(W.heap.size+1,.cells #[.int .u64 s.ix,.int .u64 s.tm,.string s.da] 43 (0,0)) :: (W.heap.size,.cells #[.int .u64 H.tm,.int .i64 H.vo,.int .u64 H.cm] 41 (0,0)) :: K:=⟨_,rfl⟩;have hB1:Below w.heap.size w W1:=by rw [hW1];exact (hb.alloc hb.size _).alloc (by rw [zsI];have:=hb.size;omega) _
 have hk1:∀ q∈K',W1.heap[q.1]?=some q.2∧w.heap.size≤q.1:=fun q hq=>by
  have hs:=hb.size;rw [hK'] at hq;rcases zsL.1 hq with rfl|hq
  ·refine ⟨?_,by show _≤W.heap.size+1;omega⟩;rw [hW1];exact heap_alloc2_new W _ _
  ·rcases zsL.1 hq with rfl|hq
   ·refine ⟨?_,hs⟩;rw [hW1];exact (zsG _ _ _ (by rw [zsI];exact Nat.lt_succ_self _)).trans (zsz W _)
   ·obtain ⟨x1,x2⟩:=hK q hq;have hlt:=(zgx x1);refine ⟨?_,x2⟩;rw [hW1];exact (zsG _ _ _ (by rw [zsI];omega)).trans ((zsG _ _ _ hlt).trans x1)
 have hmK:zcI K' A n es:=hm.sub fun q hq=>by rw [hK'];simp [hq]
 have m5:(W.heap.size,Obj.cells #[.int .u64 H.tm,.int .i64 H.vo,.int .u64 H.cm] 41 (0,0))∈K':=by rw [hK'];simp
 have m6:(W.heap.size+1,Obj.cells #[.int .u64 s.ix,.int .u64 s.tm,.string s.da] 43 (0,0))∈K':=by rw [hK'];simp
 have FC:Hid (∀ Z,Bk K' Z→Z.cell? ⟨W.heap.size,0,none⟩=some (.int .u64 H.tm)∧Z.cell? ⟨W.heap.size,1,none⟩=some (.int .i64 H.vo)∧Z.cell? ⟨W.heap.size,2,none⟩=some (.int .u64 H.cm)∧Z.cell? ⟨W.heap.size+1,0,none⟩=some (.int .u64 s.ix)∧Z.cell? ⟨W.heap.size+1,1,none⟩=some (.int .u64 s.tm)∧Z.cell? ⟨W.heap.size+1,2,none⟩=some (.string s.da)):=fun Z hz =>
  ⟨zcr _ _ 0 _ 41 (0,0) (hz _ m5),zcr _ _ 1 _ 41 (0,0) (hz _ m5),zcr _ _ 2 _ 41 (0,0) (hz _ m5),zcr _ _ 0 _ 43 (0,0) (hz _ m6),zcr _ _ 1 _ 43 (0,0) (hz _ m6),zcr _ _ 2 _ 43 (0,0) (hz _ m6)⟩
 have K11:Hid (∀ Z,Below W1.heap.size W1 Z→Calls Tryz.prog 11 #[.int .i64 100] Z fun x w'=>∃ g,x=.returned (.tuple #[ptr g,.int .i64 0])∧Dvx w g K' d0 w'):=fun Z hz=>by
  rw [hd0'];exact Dvx.new 100 (by decide) (by decide) (hB1.trans (hz.mono hB1.size)) fun q hq=>⟨(hz.block _ (Array.getElem?_eq_some_iff.1 (hk1 q hq).1).1).trans (hk1 q hq).1,(hk1 q hq).2⟩
 have K12:Hid (∀ g Z,Dvx w g K' d0 Z→Calls Tryz.prog 12 #[.int .i64 100] Z fun x w'=>∃ gr,x=.returned (ptr gr)∧Pw w g gr K' d0 d0 w'):=fun g Z h=>by
  have:=Pw.new2 100 (by decide) (by decide) h
  rw [←hd0'] at this;exact this
 have K13:Hid (∀ g gr Z,Pw w g gr K' d0 d0 Z→Calls Tryz.prog 13 #[ptr g,.int .i64 v,.int .i64 8,.int .i64 40] Z fun x w'=>x=.returned (.int .i64 0)∧Pw w g gr K' M0.d d0 w'):=fun g gr Z h=>by
  rw [hM0];exact h.c1 fun K1 hD=>f13 w Z g K1 hD
 have K14:Hid (∀ g gr Z,Pw w g gr K' M0.d d0 Z→Calls Tryz.prog 14 #[ptr gr,.int .i64 v,.int .i64 8,.int .i64 40] Z fun x w'=>x=.returned (.int .i64 0)∧Pw w g gr K' M0.d M0.d w'):=fun g gr Z h=>by
  rw [hM0] at h ⊢;exact h.c2 fun K1 hD=>f14 w Z gr K1 hD
 have K15:Hid (∀ g gr Z,Pw w g gr K' M0.d M0.d Z→Calls Tryz.prog 15 #[ptr g] Z fun x w'=>∃ pm,x=.returned (.tuple #[ptr pm,.int .i64 0])∧zrk w g gr pm K' M0 w'):=fun g gr Z h=>zn2 h i0 em;have K16:Hid (∀ g gr pm Z,zrk w g gr pm K' M0 Z→Calls Tryz.prog 16 #[ptr gr] Z fun x w'=>∃ pn,x=.returned (.tuple #[ptr pn,.int .i64 0])∧Two w g gr pm pn K' M0 M0 w'):=fun g gr pm Z h=>h.two i0 em;have K30:Hid (∀ g gr pm pn Z,Two w g gr pm pn K' M0 M0 Z→Calls Tryz.prog 30 #[ptr pm,.agg #[.int .u64 s.ix,.int .u64 s.tm,.string s.da]] Z fun x w'=>x=.returned (.int .i64 0)∧Two w g gr pm pn K' M1 M0 w'):=fun g gr pm pn Z h=>h.m (u1 w g pm K');have K29:Hid (∀ g gr pm pn Z,Two w g gr pm pn K' M1 M0 Z→Calls Tryz.prog 29 #[ptr pm,.agg #[.int .u64 H.tm,.int .i64 H.vo,.int .u64 H.cm]] Z fun x w'=>x=.returned (.int .i64 0)∧Two w g gr pm pn K' M2 M0 w'):=fun g gr pm pn Z h=>h.m (u2 w g pm K')
 have K23:Hid (∀ g gr pm pn Z,Two w g gr pm pn K' M2 M0 Z→Calls Tryz.prog 23 #[ptr pm,.slice A n c] Z fun x w'=>x=.returned (.int .i64 0)∧(Two w g gr pm pn K' M3 M0 w'∧Ig 100 M3)):=fun g gr pm pn Z h =>
  (h.m ((h8 h.dok.1).2.1 w g pm K' A n c hmK)).mono fun x w' ⟨a,b⟩=>⟨a,b,(h8 h.dok.1).1⟩
 have K66:Hid (∀ g gr pm pn Z,Two w g gr pm pn K' M3 M0 Z→Calls Tryz.prog 66 #[ptr pn,.agg #[.int .u64 s.ix,.int .u64 s.tm,.string s.da]] Z fun x w'=>x=.returned (.int .i64 0)∧Two w g gr pm pn K' M3 M1 w'):=fun g gr pm pn Z h=>h.n (r1 w gr pn K');have K65:Hid (∀ g gr pm pn Z,Two w g gr pm pn K' M3 M1 Z→Calls Tryz.prog 65 #[ptr pn,.agg #[.int .u64 H.tm,.int .i64 H.vo,.int .u64 H.cm]] Z fun x w'=>x=.returned (.int .i64 0)∧Two w g gr pm pn K' M3 M2 w'):=fun g gr pm pn Z h=>h.n (r2 w gr pn K');have K71:Hid (∀ g gr pm pn Z,Two w g gr pm pn K' M3 M2 Z→Calls Tryz.prog 71 #[ptr pn,.slice A n c] Z fun x w'=>x=.returned (.int .i64 0)∧Two w g gr pm pn K' M3 M3 w'):=fun g gr pm pn Z h=>h.n ((h8 h.dok.2).2.2 w gr pn K' A n c hmK)
 have HE:Hid (∀ g gr pm pn Z,Two w g gr pm pn K' M3 M3 Z→One w g pm K ⟨d8,⟨v,8,40,1,1,0,0⟩,H,s,es,2,2⟩ Z):=fun g gr pm pn Z h=>by
  rw [←e3];exact h.one.drop fun q hq=>by rw [hK'];simp [hq]
 have HI:Hid (Ig 100 M3→Ig 100 ⟨d8,⟨v,8,40,1,1,0,0⟩,H,s,es,2,2⟩):=fun h=>by rw [←e3];exact h
 have HW:=zh hW1
 have HBK:Hid (∀ g gr pm pn M N Z,Two w g gr pm pn K' M N Z→Bk K' Z):=fun g gr pm pn M N Z h=>by
  obtain ⟨A,n,c,K2,A',n',c',K3,h1,_⟩:=h;exact fun q hq=>h1.bk q (by simp [hq])
 have HDR:Hid (∀ g gr pm pn M N Z,Two w g gr pm pn K' M N Z→Two w g gr pm pn K' M N Z.drew):=fun g gr pm pn M N Z h=>h.below (Below.refl _ _).drew;clear hb hK hv hho hO' sok sO sf hix hm hg hct hln hf pok hd0' a0 i0 f13 f14 hM0 i1 u1 r1 hM1 e1 i2 u2 r2 hM2 e2 h8 hM3 e3 em hW1 hK' hB1 hk1 hmK m5 m6;unfold ptr at *;go_enter Tryz.func22,Tryz.ntmps22
 go_upto_region 1 with fail
 refine zaf (w:=W1) HW.out.symm ?_
 go_upto_region 8 with (first
  | (go_at_call 11;(with_reducible first|refine (K11.out _ (Below.refl _ _)).mono ?_|refine (K11.out _ (Below.refl _ _).drew).mono ?_);rintro q w1 ⟨g,rfl,D1⟩;have D1:=zh D1)
  | (go_at_call 12;(with_reducible first|refine (K12.out _ _ D1.out).mono ?_|refine (K12.out _ _ D1.out.drew).mono ?_);rintro q w2 ⟨gr,rfl,D2⟩;have D2:=zh D2;clear D1)
  | (go_at_call 13;(with_reducible first|refine (K13.out _ _ _ D2.out).mono ?_|refine (K13.out _ _ _ D2.out.drew).mono ?_);rintro q w3 ⟨rfl,D3⟩;have D3:=zh D3;clear D2)
  | (go_at_call 14;(with_reducible first|refine (K14.out _ _ _ D3.out).mono ?_|refine (K14.out _ _ _ D3.out.drew).mono ?_);rintro q w4 ⟨rfl,D4⟩;have D4:=zh D4;clear D3)
  | (go_at_call 15;(with_reducible first|refine (K15.out _ _ _ D4.out).mono ?_|refine (K15.out _ _ _ D4.out.drew).mono ?_);rintro q w5 ⟨pm,rfl,D5⟩;have D5:=zh D5;clear D4)
  | (go_at_call 16;(with_reducible first|refine (K16.out _ _ _ _ D5.out).mono ?_|refine (K16.out _ _ _ _ D5.out.drew).mono ?_);rintro q w6 ⟨pn,rfl,D6⟩;have D6:=zh D6;clear D5))
 obtain ⟨e0,e1,e2,e3,e4,e5⟩:=FC.out _ (HBK.out _ _ _ _ _ _ _ D6.out);obtain ⟨e0',e1',e2',e3',e4',e5'⟩:=FC.out _ (HBK.out _ _ _ _ _ _ _ (HDR.out _ _ _ _ _ _ _ D6.out))
 go_wp2_with (first
  | (go_at_call 30;(with_reducible first|refine (K30.out _ _ _ _ _ D6.out).mono ?_|refine (K30.out _ _ _ _ _ (HDR.out _ _ _ _ _ _ _ D6.out)).mono ?_);rintro q w7 ⟨rfl,D7⟩;obtain ⟨f0,f1,f2,f3,f4,f5⟩:=FC.out _ (HBK.out _ _ _ _ _ _ _ D7);have D7:=zh D7;clear D6)
  | (go_at_call 29;(with_reducible refine (K29.out _ _ _ _ _ D7.out).mono ?_);rintro q w8 ⟨rfl,D8⟩;have D8:=zh D8;clear D7)
  | (go_at_call 23;(with_reducible refine (K23.out _ _ _ _ _ D8.out).mono ?_);rintro q w9 ⟨rfl,D9,I9⟩;obtain ⟨g0,g1,g2,g3,g4,g5⟩:=FC.out _ (HBK.out _ _ _ _ _ _ _ D9);obtain ⟨g0',g1',g2',g3',g4',g5'⟩:=FC.out _ (HBK.out _ _ _ _ _ _ _ (HDR.out _ _ _ _ _ _ _ D9));have I9:=zh I9;have D9:=zh D9;clear D8)
  | (go_at_call 66;(with_reducible first|refine (K66.out _ _ _ _ _ D9.out).mono ?_|refine (K66.out _ _ _ _ _ (HDR.out _ _ _ _ _ _ _ D9.out)).mono ?_);rintro q w10 ⟨rfl,D10⟩;obtain ⟨h0,h1,h2,h3,h4,h5⟩:=FC.out _ (HBK.out _ _ _ _ _ _ _ D10);obtain ⟨h0',h1',h2',h3',h4',h5'⟩:=FC.out _ (HBK.out _ _ _ _ _ _ _ (HDR.out _ _ _ _ _ _ _ D10));have D10:=zh D10;clear D9)
  | (go_at_call 65;(with_reducible first|refine (K65.out _ _ _ _ _ D10.out).mono ?_|refine (K65.out _ _ _ _ _ (HDR.out _ _ _ _ _ _ _ D10.out)).mono ?_);rintro q w11 ⟨rfl,D11⟩;have D11:=zh D11;clear D10)
  | (go_at_call 71;(with_reducible first|refine (K71.out _ _ _ _ _ D11.out).mono ?_|refine (K71.out _ _ _ _ _ (HDR.out _ _ _ _ _ _ _ D11.out)).mono ?_);rintro q w12 ⟨rfl,D12⟩;have D12:=zh D12;clear D11))
 go_ret2;exact ⟨g,pm,pn,d8,rfl,HE.out _ _ _ _ _ D12.out,HI.out I9.out⟩
end
section
open Dk
def fx:ByteArray:=zz 63++⟨#[120]⟩
theorem zp4:fx.size=64:=by decide +kernel
def zfn (i:Nat):En:=⟨1,(i:Int),1,1,0,0,0,0,0,fx,⟨#[]⟩⟩
def zhG (i:Nat):En:=⟨1,(i:Int),0,0,0,0,0,0,0,⟨#[]⟩,⟨#[]⟩⟩
theorem zlH:∀ i,i<62→zaJ (zfn (i+1))=true∧zdq (zfn (i+1))=true∧64≤(D.ePv 2 (zfn (i+1))).size∧(hdF 2 (D.ePv 2 (zfn (i+1))).size).size+(D.ePv 2 (zfn (i+1))).size≤100:=by decide +kernel
theorem zp5:∀ i,i<62→zaJ (zhG (i+1))=true∧zdq (zhG (i+1))=true∧(hdF 2 (D.ePv 2 (zhG (i+1))).size).size+(D.ePv 2 (zhG (i+1))).size≤20:=by decide +kernel
theorem zgL:(⟨#[]⟩:ByteArray).size=0:=rfl
theorem zrg {i:Nat} (hi:i<63):(zfn i).Ok:=by constructor<;>simp [zfn,zp4,zgL]<;>omega
theorem zrh {i:Nat} (hi:i<63):(zhG i).Ok:=by constructor<;>simp [zhG,zgL]<;>omega
def one (v:Int) (e:En):Nat:=(rcA v (pS v) [e]).size
theorem zr7 {e:En} (h:zep 1 e) (hm:zdq e=true):one 1 e=128:=by
 have:=zh5 [e] fun x hx=>by simp at hx;rw [hx];exact ⟨h,hm⟩
 unfold one
 simpa using this
theorem zsj {e:En} (h:zep 2 e):one 2 e=(hdF 2 (D.ePv 2 e).size).size+4+(D.ePv 2 e).size:=by
 unfold one;have e1:rcA 2 (pS 2) [e]=padv 2 (rcA 2 (pS 2) []++pS 2 e):=zdW 2 (pS 2) [] e;have e0:(rcA 2 (pS 2) []).size=0:=rfl;rw [e1,zdV,zsH,h.s,e0];unfold bgn pack;rw [if_neg (by decide),zsH,zsH,zbg];omega
theorem zp6 {v:Int} (hv:v=1∨v=2) (es:List En) (e:En):(rcA v (pS v) (es++[e])).size=(rcA v (pS v) es).size+one v e:=by
 rw [ziP es [e] (by
  rcases hv with hv|hv
  ·right;rw [hv];exact zeP _
  ·left;omega),zsH]
 rfl
theorem ziz {v:Int} (hv:v=1∨v=2) {i:Nat} (hi:i<62):zep v (zfn (i+1))∧65≤one v (zfn (i+1))∧one v (zfn (i+1))≤128:=by
 obtain ⟨a1,a2,a3,a4⟩:=zlH i hi;have hg:=ziT hv (zrg (by omega)) a1 fun _=>a2;refine ⟨hg,?_⟩;rcases hv with rfl|rfl
 ·rw [zr7 hg a2];exact ⟨by decide,by decide⟩
 ·rw [zsj hg];omega
theorem zlI {v:Int} (hv:v=1∨v=2) {i:Nat} (hi:i<62):zep v (zhG (i+1))∧one v (zhG (i+1))≤one v (zfn 1):=by
 obtain ⟨a1,a2,a3⟩:=zp5 i hi;have hg:=ziT hv (zrh (by omega)) a1 fun _=>a2;refine ⟨hg,?_⟩;have hf:=ziz hv (i:=0) (by decide);rcases hv with rfl|rfl
 ·rw [zr7 hg a2,zr7 hf.1 (zlH 0 (by decide)).2.1];exact zsy _
 ·have:65≤one 2 (zfn 1):=hf.2.1
  rw [zsj hg];omega
def zde (k:Nat):List En:=(List.range k).map fun i=>zfn (i+1)
theorem zbN (k:Nat):(zde k).length=k:=by unfold zde;simp
theorem zhH (k:Nat):zde (k+1)=zde k++[zfn (k+1)]:=by
 unfold zde;rw [List.range_succ,List.map_append];rfl
theorem zfo {v:Int} (hv:v=1∨v=2):∀ k,k≤60→65*k≤(rcA v (pS v) (zde k)).size∧(rcA v (pS v) (zde k)).size≤128*k
 | 0,_=>⟨zsE _,zsE _⟩
 | k+1,h=>by
   obtain ⟨i1,i2⟩:=zfo hv k (by omega);obtain ⟨_,h1,h2⟩:=ziz hv (i:=k) (by omega);rw [zhH,zp6 hv];omega
theorem zlJ {v:Int} (hv:v=1∨v=2) {m k i:Nat} (hk:1≤k) (hkm:k≤m) (hm:m≤60) (hi:i<62):(rcA v (pS v) ((zde m).drop k)).size+one v (zhG (i+1))≤(rcA v (pS v) (zde m)).size:=by
 have h1:=zfp (es:=zde m) hv k;have h2:=zfp (es:=(zde m).take k) hv 1
 have h3:((zde m).take k).take 1=[zfn 1]:=by
  obtain ⟨m,rfl⟩:∃ x,m=x+1:=⟨m-1,by omega⟩;obtain ⟨k,rfl⟩:∃ x,k=x+1:=⟨k-1,by omega⟩;unfold zde;rw [List.range_succ_eq_map];rfl
 rw [h3] at h2;have h4:=(zlI hv hi).2;unfold one at h4 ⊢;omega
theorem zn0 {m k:Nat} (hk:1≤k) (hkm:k≤m) (t:Ar.Sn) (h1:t.ix=k) (h2:t.tm=1):(zde m).any (smE t)=true:=by
 rw [List.any_eq_true];refine ⟨zfn k,?_,?_⟩
 ·unfold zde;rw [List.mem_map];exact ⟨k-1,by rw [List.mem_range];omega,by rw [Nat.sub_add_cancel hk]⟩
 ·unfold smE;rw [h1,h2];simp [zfn]
end
section
open Dk
open Ar (Sn sn0 snS snO)
open J.Sl (Su Hd su0 hd0 sec rgt zbm hB hO)
abbrev snj (j:Nat):Sn:=⟨j,1,⟨#[]⟩⟩
theorem znW:∀ j,j<42→(snO 1 (snj j)=true∧(snS 1 (snj j)).size≤512)∧(snO 2 (snj j)=true∧(snS 2 (snj j)).size≤512):=by decide +kernel
theorem zre {j:Nat} (hj:j<42):(snj j).Ok:=by constructor<;>simp [snj,zgL]<;>omega
def zhE (v:Int) (d:St) (k:Nat):Mi:=⟨d,⟨v,8,40,1,1,0,0⟩,hd0,sn0,zde k,2,2⟩
def zfl (w:World) (v:Int) (g pm k:Nat) (W:World):Prop:=∃ d,One w g pm [] (zhE v d k) W∧Ig 100 (zhE v d k)
def zrT (v:Int) (d:St) (k j:Nat) (es:List En):Mi:=⟨d,⟨v,8,40,0,0,0,0⟩,hd0,snj j,(zde k).drop j++es,3,2⟩
def zkL (w:World) (v:Int) (g pm k j:Nat) (es:List En) (W:World):Prop:=∃ d,One w g pm [] (zrT v d k j es) W∧Ig 100 (zrT v d k j es)
section
variable {w W W':World} {v:Int} {g pm k j:Nat} {es:List En}
theorem zfl.below (h:zfl w v g pm k W) (hb:Below W.heap.size W W'):zfl w v g pm k W':=by obtain ⟨d,h1,h2⟩:=h;exact ⟨d,h1.below hb,h2⟩
theorem zfl.app (hv:v=1∨v=2) (h:zfl w v g pm k W) (hk:k≤40) :
 Calls Tryz.prog 23 #[ptr pm,.slice (some ⟨W.heap.size,0,none⟩) 1 1] (W.alloc (.cells (ec (zfn (k+1))) 69)) fun x w'=>(x=.returned (.int .i64 0)∧zfl w v g pm (k+1) w'∧k+1≤39)∨(x=.returned (.int .i64 4)∧zfl w v g pm k w'∧20≤k∧k≤39):=by
 obtain ⟨d,h1,h2⟩:=h;obtain ⟨b1,b2⟩:=zfo hv k (by omega);obtain ⟨o1,o2,o3⟩:=ziz hv (i:=k) (by omega);have hef:(rcA v (pS v) (zde k)).size≤40*64:=h2.im.ef;have hg:∀ e∈[zfn (k+1)],zep (zhE v d k).p.v e:=fun e he=>by simp at he;rw [he];exact o1
 have hct:∀ i e,[zfn (k+1)][i]?=some e→e.index=(((zhE v d k).s.ix+(zhE v d k).es.length+i+1:Nat):Int):=fun i e he=>by
  have hi:i=0:=by have:=(List.getElem?_eq_some_iff.1 he).1;simpa using this
  subst hi;simp at he;rw [←he];show ((k+1:Nat):Int)=((0+(zde k).length+0+1:Nat):Int);rw [zbN];omega
 by_cases hf:(rcA v (pS v) (zde k)).size+one v (zfn (k+1))≤40*64
 ·obtain ⟨d2,i2,u2,_⟩:=h2.append (more:=[zfn (k+1)]) h1.dok hg hct (by show (zde k).length+1≤64;rw [zbN];omega) hf;refine (h1.app1 u2).mono ?_;rintro x w' ⟨rfl,b⟩
  have e:(⟨d2,(zhE v d k).p,(zhE v d k).H,(zhE v d k).s,(zhE v d k).es++[zfn (k+1)],(zhE v d k).k,(zhE v d k).j⟩:Mi)=zhE v d2 (k+1):=by
   unfold zhE;rw [zhH]
  rw [e] at b i2;exact .inl ⟨rfl,⟨d2,b,i2⟩,by omega⟩
 ·refine (h1.app1 (h2.full hg hct (by simp) (zoM hv hg hf))).mono ?_;rintro x w' ⟨rfl,b⟩;exact .inr ⟨rfl,⟨d,b,h2⟩,by omega,by omega⟩
theorem zfl.compact (hv:v=1∨v=2) (h:zfl w v g pm k W) (h1j:1≤j) (hj:j≤k) (hk:k≤40) :
 Calls Tryz.prog 30 #[ptr pm,(snj j).v] W fun x w'=>x=.returned (.int .i64 0)∧zkL w v g pm k j [] w':=by
 obtain ⟨d,h1,h2⟩:=h;have hs:=znW j (by omega)
 have hs2:snO v (snj j)=true∧(snS v (snj j)).size≤512:=by
  rcases hv with rfl|rfl
  ·exact hs.1
  ·exact hs.2
 obtain ⟨d4,i4,u4,_⟩:=h2.compact (s2:=snj j) (zre (by omega)) hs2.1 hs2.2 (zsE _) (by show j≤1099511627776;omega) (by show (2:Nat)<1000;decide)
 have e:stL (zhE v d k).s (snj j) (zhE v d k).es=(zde k).drop j++[]:=by
  rw [zjs h2.ct (zsE _),if_pos,zth]
  ·rfl
  ·unfold smB;rw [show (zhE v d k).es.any (smE (snj j))=true from zn0 h1j hj (snj j) rfl rfl,ztg]
 rw [e] at i4 u4;exact (h1.m (u4 w g pm [])).mono fun x w' ⟨a,b⟩=>⟨a,d4,b,i4⟩
theorem zkL.app (hv:v=1∨v=2) (h:zkL w v g pm k j [] W) (h1j:1≤j) (hj:j≤k) (hk:k≤40) (hef:(rcA v (pS v) (zde k)).size≤40*64) :
 Calls Tryz.prog 23 #[ptr pm,.slice (some ⟨W.heap.size,0,none⟩) 1 1] (W.alloc (.cells (ec (zhG (k+1))) 69)) fun x w'=>x=.returned (.int .i64 0)∧zkL w v g pm k j [zhG (k+1)] w':=by
 obtain ⟨d,h1,h2⟩:=h;obtain ⟨o1,o2⟩:=zlI hv (i:=k) (by omega);have hr:=zlJ hv h1j hj (show k≤60 by omega) (i:=k) (by omega);have hl:((zde k).drop j++[]).length=k-j:=by rw [zth,zs4,zbN]
 obtain ⟨d2,i2,u2,_⟩:=h2.append (more:=[zhG (k+1)]) h1.dok (fun e he=>by simp at he;rw [he];exact o1) (fun i e he=>by
  have hi:i=0:=by have:=(List.getElem?_eq_some_iff.1 he).1;simpa using this
  subst hi;simp at he;rw [←he];show ((k+1:Nat):Int)=((j+((zde k).drop j++[]).length+0+1:Nat):Int);rw [hl]
  omega) (by show ((zde k).drop j++[]).length+1≤64;rw [hl];omega) (by
  show (rcA v (pS v) ((zde k).drop j++[])).size+one v (zhG (k+1))≤40*64;rw [zth]
  omega)
 have e:(zrT v d k j []).es++[zhG (k+1)]=(zde k).drop j++[zhG (k+1)]:=by
  show ((zde k).drop j++[])++_=_;rw [zth]
 rw [e] at i2 u2;exact (h1.app1 u2).mono fun x w' ⟨a,b⟩=>⟨a,d2,b,i2⟩
theorem zfl.state (h:zfl w v g pm k W):Calls Tryz.prog 25 #[ptr pm] W fun x w'=>∃ A c,x=.returned (.agg #[.int .u64 0,.int .i64 0,.int .u64 0,.int .u64 0,.int .u64 0,.string ⟨#[]⟩,.slice A k c])∧zfl w v g pm k w':=by
 obtain ⟨d,h1,h2⟩:=h;refine (h1.state h2.ln).mono ?_;rintro x w' ⟨A,c,K4,rfl,x2,x3⟩;refine ⟨A,c,?_,d,x2.drop fun q hq=>by simp at hq,h2⟩;show _=Ending.returned (.agg (stc hd0 sn0 (.slice A k c)));rw [show (zhE v d k).es.length=k from zbN k];rfl
theorem zkL.state (h:zkL w v g pm k j es W) (hes:es.length=1):Calls Tryz.prog 25 #[ptr pm] W fun x w'=>∃ A c,x=.returned (.agg #[.int .u64 0,.int .i64 0,.int .u64 0,.int .u64 j,.int .u64 1,.string ⟨#[]⟩,.slice A (k-j+1) c])∧zkL w v g pm k j es w':=by
 obtain ⟨d,h1,h2⟩:=h;refine (h1.state h2.ln).mono ?_;rintro x w' ⟨A,c,K4,rfl,x2,x3⟩;refine ⟨A,c,?_,d,x2.drop fun q hq=>by simp at hq,h2⟩
 have hl:(zrT v d k j es).es.length=k-j+1:=by
  show ((zde k).drop j++es).length=_;rw [zsS,zs4,zbN,hes]
 rw [hl];rfl
end
theorem lfulI_any (two:Bool) (n:Nat) (w:World) (hn:n<256):Calls Tryz.prog 7 #[.bool two,.int .u8 n] w fun e w'=>e=.returned (.bool true)∧Below w.heap.size w w':=by
 obtain ⟨v,hvd⟩:∃ v:Int,v=if two then 2 else 1:=⟨_,rfl⟩
 have hv:v=1∨v=2:=by rw [hvd];cases two<;>simp
 have hkk:(two=true∧v=2)∨(two=false∧v=1):=by cases two<;>simp [hvd]
 obtain ⟨X,hX⟩:∃ X,X=fx:=⟨_,rfl⟩;have K10:=zh (zhJ w)
 have K22:Hid (∀ Z,Below w.heap.size w Z→Calls Tryz.prog 22 #[.int .i64 v,.agg #[.int .u64 0,.int .i64 0,.int .u64 0],.agg #[.int .u64 0,.int .u64 0,.string ⟨#[]⟩],.slice none 0 0] Z fun x w'=>∃ g pm pn,x=.returned (.tuple #[ptr pm,ptr pn])∧zfl w v g pm 0 w'):=fun Z hz=>by
  refine (zlO (w:=w) (K:=[]) (H:=hd0) (s:=sn0) (es:=[]) hz (fun q hq=>by cases hq) hv zja ((J.Sl.zdc _ _).2 ⟨hv,by decide,by decide⟩) zi9 (zgK v hv).1 (zsB (zgK v hv).2 (by decide)) (by decide) (zcI.nil _) (fun e he=>by cases he) (fun i e he=>by simp at he) (by decide) (zsE _)).mono ?_;rintro x w' ⟨g,pm,pn,d,rfl,h1,h2⟩;exact ⟨g,pm,pn,rfl,d,h1,h2⟩
 have K23:Hid (∀ g pm k W,zfl w v g pm k W→k≤40→Calls Tryz.prog 23 #[ptr pm,.slice (some ⟨W.heap.size,0,none⟩) 1 1] (W.alloc (.cells #[.int .u64 1,.int .u64 ((k:Int)+1),.int .i64 1,.int .u64 1,.int .u64 0,.int .u64 0,.int .u64 0,.int .i64 0,.int .i64 0,.string X,.string ⟨#[]⟩] 69)) fun x w'=>∃ z:Int,x=.returned (.int .i64 z)∧((z=0∧zfl w v g pm (k+1) w'∧k+1≤39)∨(z=4∧zfl w v g pm k w'∧20≤k∧k≤39))):=fun g pm k W h hk=>by
  rw [hX,show ((k:Int)+1)=((k+1:Nat):Int) from by omega];refine (h.app hv hk).mono ?_;rintro x w' (⟨h1,h2⟩|⟨h1,h2⟩)
  ·exact ⟨0,h1,.inl ⟨rfl,h2⟩⟩
  ·exact ⟨4,h1,.inr ⟨rfl,h2⟩⟩
 have K30:Hid (∀ g pm k j W,zfl w v g pm k W→1≤j→j≤k→k≤40→Calls Tryz.prog 30 #[ptr pm,.agg #[.int .u64 (j:Int),.int .u64 1,.string ⟨#[]⟩]] W fun x w'=>x=.returned (.int .i64 0)∧zkL w v g pm k j [] w'):=fun g pm k j W h h1 h2 h3=>h.compact hv h1 h2 h3
 have K24:Hid (∀ g pm k j W,zkL w v g pm k j [] W→1≤j→j≤k→k≤40→(rcA v (pS v) (zde k)).size≤40*64→Calls Tryz.prog 23 #[ptr pm,.slice (some ⟨W.heap.size,0,none⟩) 1 1] (W.alloc (.cells #[.int .u64 1,.int .u64 ((k:Int)+1),.int .i64 0,.int .u64 0,.int .u64 0,.int .u64 0,.int .u64 0,.int .i64 0,.int .i64 0,.string ⟨#[]⟩,.string ⟨#[]⟩] 69)) fun x w'=>x=.returned (.int .i64 0)∧zkL w v g pm k j [zhG (k+1)] w'):=fun g pm k j W h h1 h2 h3 h4=>by
  rw [show ((k:Int)+1)=((k+1:Nat):Int) from by omega];exact h.app hv h1 h2 h3 h4
 have K25:=zh (fun g pm k W (h:zfl w v g pm k W)=>h.state);have K26:=zh (fun g pm k j W (h:zkL w v g pm k j [zhG (k+1)] W)=>h.state rfl);have HEF:Hid (∀ g pm k W,zfl w v g pm k W→(rcA v (pS v) (zde k)).size≤40*64):=fun g pm k W ⟨d,h1,h2⟩=>h2.im.ef;have HBE:Hid (∀ g pm k j es W,zkL w v g pm k j es W→Below w.heap.size w W):=fun g pm k j es W ⟨d,h1,h2⟩=>h1.be;have HBS:Hid (∀ g pm k W,zfl w v g pm k W→Below w.heap.size w W):=fun g pm k W ⟨d,h1,h2⟩=>h1.be;have hfx:zz 63++⟨#[120]⟩=X:=hX.symm;have hls:¬ 9223372036854775807<(zz 63).size+ByteArray.size ⟨#[120]⟩:=by rw [zz_size];decide
 have HFX:=zh hfx;have HLS:=zh hls;clear hv hvd hX hfx hls;unfold ptr at *;go_enter Tryz.func7,Tryz.ntmps7
 go_upto_region 4 with (go_at_call 10;(with_reducible refine K10.out.mono ?_);rintro q w1 ⟨rfl,b1⟩;have b1:=zh b1)
 rcases hkk with ⟨rfl,hvv2⟩|⟨rfl,hvv2⟩
 case' inl =>
  go_upto_region 7 with fail
  rw [←hvv2]
 case' inr =>
  go_upto_region 7 with fail
  rw [←hvv2]
 all_goals
  clear hvv2
  go_upto_region 10 with (go_at_call 22;(with_reducible first|refine (K22.out _ b1.out).mono ?_|refine (K22.out _ b1.out.drew).mono ?_);rintro q w2 ⟨g,pm,pn,rfl,S2⟩;have S2:=zh S2)
  have hls:=HLS.out;have hmk:(Instr.makeSlice 78 (.int .i64 63) (.int .i64 63)).run Tryz.prog w2=.ok (.slice (some ⟨w2.heap.size,0,none⟩) 63 63) (w2.alloc (.cells (Lib.byteCells (zeros 63)).toArray 5)):=zgY w2 63 (by omega);have hcv:(convert 78 9 (.slice (some ⟨w2.heap.size,0,none⟩) 63 63)).run Tryz.prog (w2.alloc (.cells (Lib.byteCells (zeros 63)).toArray 5))=.ok (.string (zz 63)) (w2.alloc (.cells (Lib.byteCells (zeros 63)).toArray 5)):=zgZ _ w2.heap.size 63 (zsz w2 _)
  go_upto_region 11 with fail
  rw [HFX.out];obtain ⟨W3,hW3⟩:∃ W3,W3=w2.alloc (Obj.cells (Lib.byteCells (zeros 63)).toArray 5):=⟨_,rfl⟩;have S3:Hid (zfl w v g pm 0 W3):=by show zfl _ _ _ _ _ _;rw [hW3];exact S2.out.below zba
  refine zaf (w:=W3) hW3.symm ?_;clear hW3 hmk hcv hls S2 b1 K22 K10 HFX HLS
  go_upto_region 13 with fail
  go_loopw [10,11] (fun f i wr=>∃ k:Nat,Hid (zfl w v g pm k wr)∧((f=.int .i64 0∧i=.int .u64 ((k+1:Nat):Int)∧k≤39)∨(f=.int .i64 ((k+1:Nat):Int)∧i=.int .u64 ((k+2:Nat):Int)∧20≤k∧k≤39))) (fun _ i _=>61-(Go.RowKit.intOf i).toNat)
  case atStart=>exact ⟨0,S3,.inl ⟨rfl,rfl,zsE _⟩⟩
  case round =>
   obtain ⟨k,S4,hfi⟩:=hrel;rcases hfi with ⟨rfl,rfl,hk⟩|⟨rfl,rfl,h20,hk⟩
   ·have t1:decide (((k+1:Nat):Int)≤60)=true:=zsD (by omega);have t2:decide (k+1≤60)=true:=zsD (by omega)
    go_upto_region 16 with (go_at_call 23;(with_reducible first|refine (K23.out _ _ _ _ S4.out (by omega)).mono ?_|refine (K23.out _ _ _ _ S4.out.drew (by omega)).mono ?_);rintro q w5 ⟨z,rfl,hz⟩)
    rcases hz with ⟨rfl,S5,h5⟩|⟨rfl,S5,h20,h39⟩
    ·have S5:=zh S5;clear S4 t1 t2;go_wp2
     go_roundw
     case rel=>exact ⟨k+1,S5,.inl ⟨rfl,by congr 1,h5⟩⟩
     case measure=>simp [Go.RowKit.intOf];omega
    ·have S5:=zh S5;clear S4 t1 t2;go_wp2
     go_roundw
     case rel=>exact ⟨k,S5,.inr ⟨by congr 1,by congr 1,h20,h39⟩⟩
     case measure=>simp [Go.RowKit.intOf];omega
   ·have t1:decide (((k:Int)+2)≤60)=true:=zsD (by omega);have t2:decide (k+2≤60)=true:=zsD (by omega);have q1:(((k:Int)+1)==0)=false:=by simp;omega
    have hef:=HEF.out _ _ _ _ S4.out;have HEF1:=zh hef;clear hef HEF;have hfl:=zrm
    go_upto_region 21 with (go_at_call 25;(with_reducible first|refine (K25.out _ _ _ _ S4.out).mono ?_|refine (K25.out _ _ _ _ S4.out.drew).mono ?_);rintro q w6 ⟨A6,c6,rfl,S6⟩;have S6:=zh S6)
    clear S4 t1 t2 q1;have hmx:max (k:Int) 1=(k:Int):=by omega
    obtain ⟨j,hj⟩:∃ j,j=n % k+1:=⟨_,rfl⟩;have hlt:n % k<k:=Nat.mod_lt _ (by omega)
    have ej:(n:Int) % (k:Int)+1=(j:Int):=by
     have e1:(n:Int) % (k:Int)=((n % k:Nat):Int):=rfl;rw [e1];omega
    have EJ:=zh ej;clear ej;have h1j:1≤j:=by omega
    have hjk:j≤k:=by omega
    obtain ⟨m,hm⟩:∃ m,m=k-j+1:=⟨_,rfl⟩;have KS:=zh (fun W h=>K26.out g pm k j W h);rw [←hm] at KS;have hmI:(m:Int)=(k:Int)-(j:Int)+1:=by omega
    have HMI:=zh hmI;clear hmI
    go_upto_region 22 with fail
    rw [EJ.out];clear hmx EJ hlt hj hm K26
    go_upto_region 24 with (first
     | (go_at_call 30;(with_reducible first|refine (K30.out _ _ _ _ _ S6.out h1j hjk (by omega)).mono ?_|refine (K30.out _ _ _ _ _ S6.out.drew h1j hjk (by omega)).mono ?_);rintro q w7 ⟨rfl,S7⟩;have S7:=zh S7)
     | (go_at_call 23;(with_reducible first|refine (K24.out _ _ _ _ _ S7.out h1j hjk (by omega) HEF1.out).mono ?_|refine (K24.out _ _ _ _ _ S7.out.drew h1j hjk (by omega) HEF1.out).mono ?_);rintro q w8 ⟨rfl,S8⟩;have S8:=zh S8))
    have u1:decide ((20:Int)≤(k:Int))=true:=zsD (by omega);have u2:decide (20≤k)=true:=zsD (by omega);have u3:decide ((k:Int)≤40)=true:=zsD (by omega);have u4':decide (k≤40)=true:=zsD (by omega);have u5:((m:Int)==(k:Int)-(j:Int)+1)=true:=by rw [HMI.out];simp
    clear HMI S6 S7
    go_wp2_with (go_at_call 25;(with_reducible first|refine (KS.out _ S8.out).mono ?_|refine (KS.out _ S8.out.drew).mono ?_);rintro q w9 ⟨A9,c9,rfl,S9⟩;have S9:=zh S9)
    go_ret;exact ⟨rfl,HBE.out _ _ _ _ _ _ S9.out⟩
end
end Go.Proofs.YtidndekacnmihaaGreat
