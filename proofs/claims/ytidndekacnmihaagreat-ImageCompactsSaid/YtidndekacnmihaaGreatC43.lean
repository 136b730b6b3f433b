/- Parts of a proof. -/
import Derived.Test.YtidndekacnmihaaGreatC42
set_option linter.all false
set_option maxHeartbeats 8000000
set_option maxRecDepth 100000
namespace Go.Proofs.YtidndekacnmihaaGreat
open Bool renaming true→qi
open Ending renaming returned→R
open Go renaming Calls→T,World→qe,Value→qg
open Go.RowKit renaming Below→qd
open Go.RowKit.Below renaming refl→qh
open IntKind renaming i64→C,u64→D
open Obj renaming cells→I
open Option renaming some→F,none→G
open Tryz renaming prog→O
open Value renaming int→z,slice→U,string→Y,agg→qc,tuple→qf,pointer→qj
open Tryz
variable {B c g ix k n:Nat} {K:List (Nat×Obj)} {W w:qe} {v:Int} {A:Option Addr}
open Go.RowKit
section
open Dk
open Ar (Sn sn0 snS snO)
open J.Sl (Su Hd su0 hd0 sec rgt zbn hB hO)
open J (setS setH ldS ldH ldE Sts zfT wrD)
theorem zsr {e:En} (h:(k,I (ec e) 69 (0,0))∈K):zcO K (F ⟨k,0,G⟩) 1 [e]:=fun Z hz=>zpM (es:=[e]) (hz _ h) (by unfold flat;simp)
section
variable {w W W':qe} {g gr pm pn f:Nat} {K:List (Nat×Obj)} {M M' N N':Mi} {xs:Array qg} {r:Ending}
theorem One.drew (h:One w g pm K M W):One w g pm K M W.drew:=h.below (qh _ W).drew
theorem One.app1 {e:En} {y:Ending} (h:One w g pm K M W) (hu:∀ w g pm K A2 n2 c2,zcO K A2 n2 [e]→UpP w g pm 23 #[ptr pm,U A2 n2 c2] y K M M') :
 T O 23 #[ptr pm,U (F ⟨W.heap.size,0,G⟩) 1 1] (W.alloc (I (ec e) 69)) fun x w'=>x=y∧One w g pm K M' w':=by
 have h1:=h.add ((qh _ _).alloc (ztI _) (I (ec e) 69)) (ztI _) (ztJ _ _);exact (h1.m (hu w g pm _ (F ⟨W.heap.size,0,G⟩) 1 1 (zsr (by simp)))).mono fun x w' ⟨a,b⟩=>⟨a,b.drop fun q hq=>by simp [hq]⟩
theorem zq6 (h:Dvx w g K M.d W) (hi:Ig n M) (he:M.es=[]):T O 15 #[ptr g] W fun x w'=>∃ pm,x=R (qf #[ptr pm,z C 0])∧One w g pm K M w':=by
 refine (zjq h (hi.mnt0 he g)).mono ?_;rintro x w' ⟨pm,A,n,c,K2,rfl,b1,b2,b3,b4,b5⟩;refine ⟨pm,rfl,A,n,c,K2++K,b1.drop fun q hq=>?_,b2,fun q hq=>?_⟩
 ·simp only [ztT,zt1] at hq ⊢;rcases hq with hq|(hq|hq)|hq<;>simp [hq]
 ·simp only [zt1] at hq;rcases hq with (hq|hq)|hq
  ·exact b3 q (by simp [hq])
  ·exact b3 q (by simp [hq])
  ·exact b3 q (by simp [hq])
theorem One.hd (h:One w g pm K M W):∃ lg,W.heap[pm]?=F (I (imc g M.p.su M.H M.s lg (M.u:Nat)) 113 (0,0)):=by
 obtain ⟨A,n,c,K2,h1,h2,h3⟩:=h;exact ⟨U A n c,h1.hd⟩
end
theorem zkC (tmps:Array qg) (w:qe) (b:Nat) (c:Array qg) (hc:c.size=7) (hp:tmps.getD 2 undef=qj (F ⟨b,0,G⟩)) (hg:w.heap[b]?=F (I c 65 (0,0))) :
 (results f27 tmps).run O w=.ok (.agg c) w:=by
 rw [zdL results27,hp];simp [asAddr,run_loadVar_row w b 65 65 c (0,0) _ hg underlying65 rfl (by rw [ip7,hc])]
theorem zfs {pm:Nat} {p:Ip} {H:Hd} {s:Sn} {lg:qg} {u:Int} (h:W.heap[pm]?=F (I (imc g p.su H s lg u) 113 (0,0))) :
 T O 27 #[ptr pm] W fun x w'=>x=R p.val∧qd W.heap.size W w':=by
 obtain ⟨W1,hW⟩:∃ W1,W1=W.alloc (I #[z C 0,z C 0,z C 0,z C 0,z C 0,z C 0,z C 0] 65):=⟨_,rfl⟩;have hlt:=(zgx h);have hc:W1.heap[pm]?=F (I (imc g p.su H s lg u) 113 (0,0)):=by rw [hW];exact (ztQ W _ _ hlt).trans h
 have hd:W1.heap[W.heap.size]?=F (I #[z C 0,z C 0,z C 0,z C 0,z C 0,z C 0,z C 0] 65 (0,0)):=by rw [hW];exact ztJ _ _
 have hB:qd W.heap.size W W1:=by rw [hW];exact zba
 obtain ⟨c0,c1,c2,c3,c4,c5,c6,c7,_⟩:=zdM (w:=W1) hc;have HW:=zh hW;have HB:=zh hB;have HD:=zh hd;have f0:=frozen_of_row W1 W.heap.size 0 _ 65 hd;have f1:=frozen_of_row W1 W.heap.size 1 _ 65 hd;have f2:=frozen_of_row W1 W.heap.size 2 _ 65 hd;have f3:=frozen_of_row W1 W.heap.size 3 _ 65 hd;have f4:=frozen_of_row W1 W.heap.size 4 _ 65 hd;have f5:=frozen_of_row W1 W.heap.size 5 _ 65 hd;have f6:=frozen_of_row W1 W.heap.size 6 _ 65 hd;have g0:=zcr W1 W.heap.size 0 _ 65 (0,0) hd;have g1:=zcr W1 W.heap.size 1 _ 65 (0,0) hd;have g2:=zcr W1 W.heap.size 2 _ 65 (0,0) hd;have g3:=zcr W1 W.heap.size 3 _ 65 (0,0) hd;have g4:=zcr W1 W.heap.size 4 _ 65 (0,0) hd;have g5:=zcr W1 W.heap.size 5 _ 65 (0,0) hd;have g6:=zcr W1 W.heap.size 6 _ 65 (0,0) hd;clear h hlt hW hc hd hB;unfold Ip.val ptr at *;go_enter func27,ntmps27
 go_upto_region 1 with fail
 refine zaf (w:=W1) HW.out.symm ?_;obtain ⟨x1,x2,x3⟩:=zbt W.heap.size 65 [(0,z C p.v),(1,z C p.S),(2,z C p.L),(3,z C p.a),(4,z C p.h),(5,z C p.gl),(6,z C p.sp)] W1 _ HD.out
 have e:setc [(0,z C p.v),(1,z C p.S),(2,z C p.L),(3,z C p.a),(4,z C p.h),(5,z C p.gl),(6,z C p.sp)] #[z C 0,z C 0,z C 0,z C 0,z C 0,z C 0,z C 0]=p.c:=by
  simp only [setc,zA,zB,zC]
 rw [e] at x1;have x4:=x3 W.heap.size W HB.out (ztI _);go_wp2;exact ztP (v:=_) (zkC _ _ W.heap.size p.c rfl rfl x1) rfl ⟨rfl,x4⟩
theorem zte (a b c d e f x:qg) (w:qe):(Instr.field 61 (qc #[a,b,c,d,e,f,x]) 2).run O w=.ok x w:=by kernel_rfl
theorem zme (n:Nat) (h:4≤n):ldE (St.fresh n fun _=>zsec)=6:=by
 have h0:=(J.zdX n 0 (by omega)).1;have h0':J.rdE (St.fresh n fun _=>zsec) 0=6:=h0;unfold J.ldE J.lSe;rw [h0']
 simp
abbrev pE:Ip:=⟨1,2,3,0,0,0,0⟩
abbrev e13:En:=⟨1,3,0,0,0,0,0,0,0,⟨#[]⟩,⟨#[]⟩⟩
theorem zss:e13.Ok:=⟨by decide,by decide,by decide,by decide,by decide,by decide,by decide,by decide,by decide,by decide,by decide,by decide,by decide,by decide,by decide,by decide,by decide,by decide,by decide,by decide⟩
theorem zhX (w:qe):T O 10 #[] w fun x w'=>x=R (.bool qi)∧qd w.heap.size w w':=by
 have pok:pE.Ok:=⟨.inl rfl,by decide,by decide,by decide,by decide⟩;obtain ⟨d0,hd0'⟩:∃ d0,d0=St.fresh 30 fun _=>zsec:=⟨_,rfl⟩;have a0:Alv d0 30:=by rw [hd0'];exact Alv.fresh _ _
 have l0:ldE d0=6:=by rw [hd0'];exact zme 30 (by decide)
 obtain ⟨d5,i0,f13,_⟩:=zhW (d:=d0) (n:=30) (v:=1) (S:=2) (L:=3) a0 pok (by decide) (by rw [hd0'];exact (J.zdX 30 0 (by decide)).2.1) (by rw [hd0'];exact (J.zdX 30 2 (by decide)).2.1);obtain ⟨M0,hM0⟩:∃ M:Mi,M=⟨d5,pE,hd0,sn0,[],1,1⟩:=⟨_,rfl⟩;have i0':Ig 30 M0:=by rw [hM0];exact i0
 have c1:∀ i e,[e11][i]?=F e→e.index=((M0.s.ix+M0.es.length+i+1:Nat):Int):=fun i e he=>by
  rw [hM0]
  have:i=0:=by have:=(List.getElem?_eq_some_iff.1 he).1;simpa using this
  subst this;simp at he;rw [←he];rfl
 have g1:∀ e∈[e11],zfK M0.p.v e:=fun e he=>by rw [hM0];simp at he;rw [he];exact zqp
 have z1:M0.u+(rcA M0.p.v (pS M0.p.v) [e11]).size≤M0.p.L*64:=by
  rw [hM0];have h1:=znD [e11] fun x hx=>by simp at hx;rw [hx];exact ⟨zqp,by decide +kernel⟩
  show (rcA 1 (pS 1) []).size+(rcA 1 (pS 1) [e11]).size≤3*64;rw [h1]
  decide
 obtain ⟨d6,h6⟩:∃ d6,M0.d.Ok→(Ig 30 ⟨d6,M0.p,M0.H,M0.s,M0.es++[e11],M0.k,M0.j⟩∧∀ w g pm K A2 n2 c2,zcO K A2 n2 [e11]→UpP w g pm 23 #[ptr pm,U A2 n2 c2] (R (z C 0)) K M0 ⟨d6,M0.p,M0.H,M0.s,M0.es++[e11],M0.k,M0.j⟩):=by
  by_cases ok:M0.d.Ok
  ·obtain ⟨d6,x1,x2,_⟩:=i0'.append (more:=[e11]) ok g1 c1 (by rw [hM0];show (0:Nat)+1≤64;decide) z1;exact ⟨d6,fun _=>⟨x1,x2⟩⟩
  ·exact ⟨d0,fun h=>absurd h ok⟩
 obtain ⟨M1,hM1⟩:∃ M:Mi,M=⟨d6,M0.p,M0.H,M0.s,M0.es++[e11],M0.k,M0.j⟩:=⟨_,rfl⟩;rw [←hM1] at h6;have e1:M1=⟨d6,pE,hd0,sn0,[e11],1,1⟩:=by rw [hM1,hM0];rfl
 have K11:Hid (∀ Z,qd w.heap.size w Z→T O 11 #[z C 30] Z fun x w'=>∃ g,x=R (qf #[ptr g,z C 0])∧Dvx w g [] d0 w'):=fun Z hb=>by
  rw [hd0'];exact Dvx.new 30 (by decide) (by decide) hb (fun p hp=>by cases hp)
 have K15:Hid (∀ g Z,Dvx w g [] d0 Z→T O 15 #[ptr g] Z fun x w'=>x=R (qf #[qj G,z C 6])∧Dvx w g [] d0 w'):=fun g Z h=>by
  have:=zoh h (by rw [l0];decide)
  rw [l0] at this;exact this
 have K13:Hid (∀ g Z,Dvx w g [] d0 Z→T O 13 #[ptr g,z C 1,z C 2,z C 3] Z fun x w'=>x=R (z C 0)∧Dvx w g [] M0.d w'):=fun g Z h=>by rw [hM0];exact f13 w Z g [] h
 have K16:Hid (∀ g Z,Dvx w g [] M0.d Z→T O 15 #[ptr g] Z fun x w'=>∃ pm,x=R (qf #[ptr pm,z C 0])∧One w g pm [] M0 w'):=fun g Z h=>zq6 h i0' (by rw [hM0]);have K23:Hid (∀ g pm Z,One w g pm [] M0 Z→T O 23 #[ptr pm,U (F ⟨Z.heap.size,0,G⟩) 1 1] (Z.alloc (I (ec e11) 69)) fun x w'=>x=R (z C 0)∧One w g pm [] M1 w'):=fun g pm Z h=>h.app1 (h6 h.dok).2
 have K24:Hid (∀ g pm Z,Ig 30 M1→One w g pm [] M1 Z→T O 23 #[ptr pm,U (F ⟨Z.heap.size,0,G⟩) 1 1] (Z.alloc (I (ec e13) 69)) fun x w'=>x=R (z C 1)∧One w g pm [] M1 w'):=fun g pm Z hi h=>by
  refine h.app1 (hi.wrong (fun e he=>by simp at he;rw [he];exact zss) ?_ (by decide));rw [e1];show jn 0 [e11] [e13]=G
  rw [zsS 0 [e11] [e13] (fun i e he=>by
   have:i=0:=by have:=(List.getElem?_eq_some_iff.1 he).1;simpa using this
   subst this;simp at he;rw [←he]
   rfl),if_neg (by simp)]
 have K27:Hid (∀ g pm Z,One w g pm [] M1 Z→T O 27 #[ptr pm] Z fun x w'=>x=R pE.val∧One w g pm [] M1 w'):=fun g pm Z h=>by
  obtain ⟨lg,hh⟩:=h.hd;refine (zfs hh).mono fun x w' ⟨x1,x2⟩=>⟨?_,h.below x2⟩;rw [x1,e1]
 have K25:Hid (∀ g pm K Z,One w g pm K M1 Z→T O 25 #[ptr pm] Z fun x w'=>∃ A c,x=R (qc #[z D 0,z C 0,z D 0,z D 0,z D 0,Y ⟨#[]⟩,U A 1 c])∧One w g pm K M1 w'):=fun g pm K Z h=>by
  refine (h.state (by rw [e1];show (1:Nat)≤64;decide)).mono ?_;rintro x w' ⟨A,c,K4,rfl,x2,x3⟩;refine ⟨A,c,?_,x2.drop fun q hq=>by simp [hq]⟩;rw [e1];rfl
 have K35:Hid (∀ W,T O 35 #[qc #[z C 1,z C 2,z C 3,z C 0,z C 0,z C 0,z C 0],z C 1] W fun e w'=>e=R (z C 6)∧qd W.heap.size W w'):=fun W=>zef pE pok 1 (by decide) W;have K36:Hid (∀ W,T O 36 #[qc #[z C 1,z C 2,z C 3,z C 0,z C 0,z C 0,z C 0],z C 1] W fun e w'=>e=R (z C 11)∧qd W.heap.size W w'):=fun W=>zga pE pok 1 (by decide) W;have HI:Hid (M0.d.Ok→Ig 30 M1):=fun ok=>(h6 ok).1;have hB:=zh (qh w.heap.size w);clear hd0' a0 l0 i0 f13 hM0 i0' c1 g1 z1 h6 hM1 e1;unfold Ip.val ptr at *;go_enter func10,ntmps10
 go_upto_region 9 with (first
  | (go_at_call 11;(with_reducible first|refine (K11.out _ hB.out).mono ?_|refine (K11.out _ hB.out.drew).mono ?_);rintro q w1 ⟨g,rfl,D1⟩;have D1:=zh D1)
  | (go_at_call 15;(with_reducible first|refine (K15.out _ _ D1.out).mono ?_|refine (K15.out _ _ D1.out.drew).mono ?_);rintro q w2 ⟨rfl,D2⟩;have D2:=zh D2;clear D1)
  | (go_at_call 13;(with_reducible first|refine (K13.out _ _ D2.out).mono ?_|refine (K13.out _ _ D2.out.drew).mono ?_);rintro q w3 ⟨rfl,D3⟩;have D3:=zh D3;clear D2)
  | (go_at_call 15;(with_reducible first|refine (K16.out _ _ D3.out).mono ?_|refine (K16.out _ _ D3.out.drew).mono ?_);rintro q w4 ⟨pm,rfl,O4⟩;have O4:=zh O4;have HI:=zh (HI.out O4.out.dok)))
 go_upto_region 12 with (first
  | (go_at_call 23;(with_reducible first|refine (K23.out _ _ _ O4.out).mono ?_|refine (K23.out _ _ _ O4.out.drew).mono ?_);rintro q w5 ⟨rfl,O5⟩;have O5:=zh O5;clear O4)
  | (go_at_call 23;(with_reducible first|refine (K24.out _ _ _ HI.out O5.out).mono ?_|refine (K24.out _ _ _ HI.out O5.out.drew).mono ?_);rintro q w6 ⟨rfl,O6⟩;have O6:=zh O6)
  | (go_at_call 27;(with_reducible first|refine (K27.out _ _ _ O6.out).mono ?_|refine (K27.out _ _ _ O6.out.drew).mono ?_);rintro q w7 ⟨rfl,O7⟩;have O7:=zh O7))
 obtain ⟨W8,hW8⟩:∃ W8,W8=w7.alloc (I #[z C 1,z C 2,z C 3,z C 0,z C 0,z C 0,z C 0] 65):=⟨_,rfl⟩
 have O8:Hid (One w g pm [(w7.heap.size,I pE.c 65 (0,0))] M1 W8):=by
  show One _ _ _ _ _ _;rw [hW8];exact O7.out.add zba (ztI _) (ztJ _ _)
 refine zaf (w:=W8) hW8.symm ?_;have KC:Hid (∀ Z,One w g pm [(w7.heap.size,I pE.c 65 (0,0))] M1 Z→Z.cell? ⟨w7.heap.size,0,G⟩=F (z C 1)∧Z.cell? ⟨w7.heap.size,1,G⟩=F (z C 2)∧Z.cell? ⟨w7.heap.size,2,G⟩=F (z C 3)∧Z.cell? ⟨w7.heap.size,3,G⟩=F (z C 0)∧Z.cell? ⟨w7.heap.size,4,G⟩=F (z C 0)∧Z.cell? ⟨w7.heap.size,5,G⟩=F (z C 0)∧Z.cell? ⟨w7.heap.size,6,G⟩=F (z C 0)):=fun Z hZ=>zao (p:=pE) (hZ.bk (w7.heap.size,I pE.c 65 (0,0)) (by simp));clear hW8 O4 O5 O6 O7;have hfl:=zte
 go_wp2_with (first
  | (go_at_call 25;(with_reducible first|refine (K25.out _ _ _ _ O8.out).mono ?_|refine (K25.out _ _ _ _ O8.out.drew).mono ?_);rintro q w9 ⟨A9,c9,rfl,O9⟩;obtain ⟨e0,e1,e2,e3,e4,e5,e6⟩:=KC.out _ O9;have O9:=zh O9)
  | (go_at_call 35;(with_reducible refine (K35.out _).mono ?_);rintro q w10 ⟨rfl,b10⟩;have O10:=O9.out.below b10;obtain ⟨f0,f1,f2,f3,f4,f5,f6⟩:=KC.out _ O10;have O10:=zh O10;clear b10)
  | (go_at_call 36;(with_reducible refine (K36.out _).mono ?_);rintro q w11 ⟨rfl,b11⟩;have O11:=zh (O10.out.below b11);clear b11))
 go_ret;exact ⟨rfl,O11.out.be⟩
end
section
open Dk
open Ar (Sn sn0 snS snO)
open J.Sl (Su Hd su0 hd0 sec rgt zbn hB hO)
open J (setS setH ldS ldH ldE Sts zfT wrD)
abbrev p8 (v:Int):Ip:=⟨v,8,40,0,0,0,0⟩
theorem zst (s:Sn):stL sn0 s []=[]:=by unfold stL;split<;>rfl
theorem zmf {H:Hd} {s:Sn} {es:List En} (hb:qd w.heap.size w W) (hK:∀ q∈K,W.heap[q.1]?=F q.2∧w.heap.size≤q.1)
 (hv:v=1∨v=2) (hho:H.Ok) (hO':hO v H=qi) (sok:s.Ok) (sO:snO v s=qi) (sf:(snS v s).size≤8*64) (hix:s.ix≤1099511627776) (hm:zcO K A n es) (hg:∀ e∈es,zfK v e)
 (hct:∀ i e,es[i]?=F e→e.index=((s.ix+i+1:Nat):Int)) (hln:es.length≤64) (hf:(rcA v (pS v) es).size≤2560) :
 T O 22 #[z C v,qc #[z D H.tm,z C H.vo,z D H.cm],s.v,U A n c] W fun x w'=>∃ g pm pn d,x=R (qf #[ptr pm,ptr pn])∧One w g pm K ⟨d,⟨v,8,40,1,1,0,0⟩,H,s,es,2,2⟩ w'∧Ig 100 ⟨d,⟨v,8,40,1,1,0,0⟩,H,s,es,2,2⟩:=by
 have pok:(p8 v).Ok:=⟨hv,(by show (1:Nat)≤8∧(8:Nat)≤1000;decide),(by show (1:Nat)≤40∧(40:Nat)≤1000;decide),ztO _,ztO _⟩;obtain ⟨d0,hd0'⟩:∃ d0,d0=St.fresh 100 fun _=>zsec:=⟨_,rfl⟩;have a0:Alv d0 100:=by rw [hd0'];exact Alv.fresh _ _
 obtain ⟨d5,i0,f13,f14⟩:=zhW (d:=d0) (n:=100) (v:=v) (S:=8) (L:=40) a0 pok (by decide) (by rw [hd0'];exact (J.zdX 100 0 (by decide)).2.1) (by rw [hd0'];exact (J.zdX 100 2 (by decide)).2.1);obtain ⟨M0,hM0⟩:∃ M:Mi,M=⟨d5,p8 v,hd0,sn0,[],1,1⟩:=⟨_,rfl⟩;rw [←hM0] at i0;obtain ⟨d6,i1,u1,r1⟩:=i0.compact (s2:=s) sok (by rw [hM0];exact sO) (by rw [hM0];exact sf) (by rw [hM0];exact ztO _) hix (by rw [hM0];show (1:Nat)<1000;decide);obtain ⟨M1,hM1⟩:∃ M:Mi,M=⟨d6,M0.p.turn,M0.H,s,stL M0.s s M0.es,M0.k+1,M0.j⟩:=⟨_,rfl⟩;rw [←hM1] at i1 u1 r1;have e1:M1=⟨d6,⟨v,8,40,1,1,0,0⟩,hd0,s,[],2,1⟩:=by rw [hM1,hM0];show Mi.mk _ _ _ _ (stL sn0 s []) _ _=_;rw [zst];rfl
 obtain ⟨d7,i2,u2,r2⟩:=i1.hard (hh:=H) (by rw [e1];exact hO') hho (by rw [e1];show (1:Nat)<1000;decide);obtain ⟨M2,hM2⟩:∃ M:Mi,M=⟨d7,M1.p,H,M1.s,M1.es,M1.k,M1.j+1⟩:=⟨_,rfl⟩;rw [←hM2] at i2 u2 r2;have e2:M2=⟨d7,⟨v,8,40,1,1,0,0⟩,H,s,[],2,2⟩:=by rw [hM2,e1]
 obtain ⟨d8,h8⟩:∃ d8,M2.d.Ok→(Ig 100 ⟨d8,M2.p,M2.H,M2.s,M2.es++es,M2.k,M2.j⟩∧(∀ w g pm K A2 n2 c2,zcO K A2 n2 es→UpP w g pm 23 #[ptr pm,U A2 n2 c2] (R (z C 0)) K M2 ⟨d8,M2.p,M2.H,M2.s,M2.es++es,M2.k,M2.j⟩) ∧
  ∀ w g pm K A2 n2 c2,zcO K A2 n2 es→UpR w g pm 71 #[ptr pm,U A2 n2 c2] (R (z C 0)) K M2 ⟨d8,M2.p,M2.H,M2.s,M2.es++es,M2.k,M2.j⟩):=by
  by_cases ok:M2.d.Ok
  ·obtain ⟨d8,x⟩:=i2.append (more:=es) ok (by rw [e2];exact hg) (by rw [e2];intro i e he;rw [hct i e he];show ((s.ix+i+1:Nat):Int)=((s.ix+0+i+1:Nat):Int);omega) (by rw [e2];show 0+es.length≤64;omega) (by rw [e2];show (rcA v (pS v) []).size+(rcA v (pS v) es).size≤40*64;have:(rcA v (pS v) []).size=0:=rfl;omega);exact ⟨d8,fun _=>x⟩
  ·exact ⟨d0,fun h=>absurd h ok⟩
 obtain ⟨M3,hM3⟩:∃ M:Mi,M=⟨d8,M2.p,M2.H,M2.s,M2.es++es,M2.k,M2.j⟩:=⟨_,rfl⟩;rw [←hM3] at h8;have e3:M3=⟨d8,⟨v,8,40,1,1,0,0⟩,H,s,es,2,2⟩:=by rw [hM3,e2];rfl
 have em:M0.es=[]:=by rw [hM0]
 obtain ⟨W1,hW1⟩:∃ W1,W1=(W.alloc (I #[z D H.tm,z C H.vo,z D H.cm] 41)).alloc (I #[z D s.ix,z D s.tm,Y s.da] 43):=⟨_,rfl⟩;obtain ⟨K',hK'⟩:∃ K':List (Nat×Obj),K'=(W.heap.size+1,I #[z D s.ix,z D s.tm,Y s.da] 43 (0,0)) :: (W.heap.size,I #[z D H.tm,z C H.vo,z D H.cm] 41 (0,0)) :: K:=⟨_,rfl⟩;have hB1:qd w.heap.size w W1:=by rw [hW1];exact (hb.alloc hb.size _).alloc (by rw [ztR];have:=hb.size;omega) _
 have hk1:∀ q∈K',W1.heap[q.1]?=F q.2∧w.heap.size≤q.1:=fun q hq=>by
  have hs:=hb.size;rw [hK'] at hq;rcases ztT.1 hq with rfl|hq
  ·refine ⟨?_,by show _≤W.heap.size+1;omega⟩;rw [hW1];exact heap_alloc2_new W _ _
  ·rcases ztT.1 hq with rfl|hq
   ·refine ⟨?_,hs⟩;rw [hW1];exact (ztQ _ _ _ (by rw [ztR];exact Nat.lt_succ_self _)).trans (ztJ W _)
   ·obtain ⟨x1,x2⟩:=hK q hq;have hlt:=(zgx x1);refine ⟨?_,x2⟩;rw [hW1];exact (ztQ _ _ _ (by rw [ztR];omega)).trans ((ztQ _ _ _ hlt).trans x1)
 have hmK:zcO K' A n es:=hm.sub fun q hq=>by rw [hK'];simp [hq]
 have m5:(W.heap.size,I #[z D H.tm,z C H.vo,z D H.cm] 41 (0,0))∈K':=by rw [hK'];simp
 have m6:(W.heap.size+1,I #[z D s.ix,z D s.tm,Y s.da] 43 (0,0))∈K':=by rw [hK'];simp
 have FC:Hid (∀ Z,Bk K' Z→Z.cell? ⟨W.heap.size,0,G⟩=F (z D H.tm)∧Z.cell? ⟨W.heap.size,1,G⟩=F (z C H.vo)∧Z.cell? ⟨W.heap.size,2,G⟩=F (z D H.cm)∧Z.cell? ⟨W.heap.size+1,0,G⟩=F (z D s.ix)∧Z.cell? ⟨W.heap.size+1,1,G⟩=F (z D s.tm)∧Z.cell? ⟨W.heap.size+1,2,G⟩=F (Y s.da)):=fun Z hz =>
  ⟨zcr _ _ 0 _ 41 (0,0) (hz _ m5),zcr _ _ 1 _ 41 (0,0) (hz _ m5),zcr _ _ 2 _ 41 (0,0) (hz _ m5),zcr _ _ 0 _ 43 (0,0) (hz _ m6),zcr _ _ 1 _ 43 (0,0) (hz _ m6),zcr _ _ 2 _ 43 (0,0) (hz _ m6)⟩
 have K11:Hid (∀ Z,qd W1.heap.size W1 Z→T O 11 #[z C 100] Z fun x w'=>∃ g,x=R (qf #[ptr g,z C 0])∧Dvx w g K' d0 w'):=fun Z hz=>by
  rw [hd0'];exact Dvx.new 100 (by decide) (by decide) (hB1.trans (hz.mono hB1.size)) fun q hq=>⟨(hz.block _ (Array.getElem?_eq_some_iff.1 (hk1 q hq).1).1).trans (hk1 q hq).1,(hk1 q hq).2⟩
 have K12:Hid (∀ g Z,Dvx w g K' d0 Z→T O 12 #[z C 100] Z fun x w'=>∃ gr,x=R (ptr gr)∧Pw w g gr K' d0 d0 w'):=fun g Z h=>by
  have:=Pw.new2 100 (by decide) (by decide) h
  rw [←hd0'] at this;exact this
 have K13:Hid (∀ g gr Z,Pw w g gr K' d0 d0 Z→T O 13 #[ptr g,z C v,z C 8,z C 40] Z fun x w'=>x=R (z C 0)∧Pw w g gr K' M0.d d0 w'):=fun g gr Z h=>by
  rw [hM0];exact h.c1 fun K1 hD=>f13 w Z g K1 hD
 have K14:Hid (∀ g gr Z,Pw w g gr K' M0.d d0 Z→T O 14 #[ptr gr,z C v,z C 8,z C 40] Z fun x w'=>x=R (z C 0)∧Pw w g gr K' M0.d M0.d w'):=fun g gr Z h=>by
  rw [hM0] at h ⊢;exact h.c2 fun K1 hD=>f14 w Z gr K1 hD
 have K15:Hid (∀ g gr Z,Pw w g gr K' M0.d M0.d Z→T O 15 #[ptr g] Z fun x w'=>∃ pm,x=R (qf #[ptr pm,z C 0])∧zsq w g gr pm K' M0 w'):=fun g gr Z h=>zoN h i0 em;have K16:Hid (∀ g gr pm Z,zsq w g gr pm K' M0 Z→T O 16 #[ptr gr] Z fun x w'=>∃ pn,x=R (qf #[ptr pn,z C 0])∧Two w g gr pm pn K' M0 M0 w'):=fun g gr pm Z h=>h.two i0 em;have K30:Hid (∀ g gr pm pn Z,Two w g gr pm pn K' M0 M0 Z→T O 30 #[ptr pm,qc #[z D s.ix,z D s.tm,Y s.da]] Z fun x w'=>x=R (z C 0)∧Two w g gr pm pn K' M1 M0 w'):=fun g gr pm pn Z h=>h.m (u1 w g pm K');have K29:Hid (∀ g gr pm pn Z,Two w g gr pm pn K' M1 M0 Z→T O 29 #[ptr pm,qc #[z D H.tm,z C H.vo,z D H.cm]] Z fun x w'=>x=R (z C 0)∧Two w g gr pm pn K' M2 M0 w'):=fun g gr pm pn Z h=>h.m (u2 w g pm K')
 have K23:Hid (∀ g gr pm pn Z,Two w g gr pm pn K' M2 M0 Z→T O 23 #[ptr pm,U A n c] Z fun x w'=>x=R (z C 0)∧(Two w g gr pm pn K' M3 M0 w'∧Ig 100 M3)):=fun g gr pm pn Z h =>
  (h.m ((h8 h.dok.1).2.1 w g pm K' A n c hmK)).mono fun x w' ⟨a,b⟩=>⟨a,b,(h8 h.dok.1).1⟩
 have K66:Hid (∀ g gr pm pn Z,Two w g gr pm pn K' M3 M0 Z→T O 66 #[ptr pn,qc #[z D s.ix,z D s.tm,Y s.da]] Z fun x w'=>x=R (z C 0)∧Two w g gr pm pn K' M3 M1 w'):=fun g gr pm pn Z h=>h.n (r1 w gr pn K');have K65:Hid (∀ g gr pm pn Z,Two w g gr pm pn K' M3 M1 Z→T O 65 #[ptr pn,qc #[z D H.tm,z C H.vo,z D H.cm]] Z fun x w'=>x=R (z C 0)∧Two w g gr pm pn K' M3 M2 w'):=fun g gr pm pn Z h=>h.n (r2 w gr pn K');have K71:Hid (∀ g gr pm pn Z,Two w g gr pm pn K' M3 M2 Z→T O 71 #[ptr pn,U A n c] Z fun x w'=>x=R (z C 0)∧Two w g gr pm pn K' M3 M3 w'):=fun g gr pm pn Z h=>h.n ((h8 h.dok.2).2.2 w gr pn K' A n c hmK)
 have HE:Hid (∀ g gr pm pn Z,Two w g gr pm pn K' M3 M3 Z→One w g pm K ⟨d8,⟨v,8,40,1,1,0,0⟩,H,s,es,2,2⟩ Z):=fun g gr pm pn Z h=>by
  rw [←e3];exact h.one.drop fun q hq=>by rw [hK'];simp [hq]
 have HI:Hid (Ig 100 M3→Ig 100 ⟨d8,⟨v,8,40,1,1,0,0⟩,H,s,es,2,2⟩):=fun h=>by rw [←e3];exact h
 have HW:=zh hW1
 have HBK:Hid (∀ g gr pm pn M N Z,Two w g gr pm pn K' M N Z→Bk K' Z):=fun g gr pm pn M N Z h=>by
  obtain ⟨A,n,c,K2,A',n',c',K3,h1,_⟩:=h;exact fun q hq=>h1.bk q (by simp [hq])
 have HDR:Hid (∀ g gr pm pn M N Z,Two w g gr pm pn K' M N Z→Two w g gr pm pn K' M N Z.drew):=fun g gr pm pn M N Z h=>h.below (qh _ _).drew;clear hb hK hv hho hO' sok sO sf hix hm hg hct hln hf pok hd0' a0 i0 f13 f14 hM0 i1 u1 r1 hM1 e1 i2 u2 r2 hM2 e2 h8 hM3 e3 em hW1 hK' hB1 hk1 hmK m5 m6;unfold ptr at *;go_enter func22,ntmps22
 go_upto_region 1 with fail
 refine zaf (w:=W1) HW.out.symm ?_
 go_upto_region 8 with (first
  | (go_at_call 11;(with_reducible first|refine (K11.out _ (qh _ _)).mono ?_|refine (K11.out _ (qh _ _).drew).mono ?_);rintro q w1 ⟨g,rfl,D1⟩;have D1:=zh D1)
  | (go_at_call 12;(with_reducible first|refine (K12.out _ _ D1.out).mono ?_|refine (K12.out _ _ D1.out.drew).mono ?_);rintro q w2 ⟨gr,rfl,D2⟩;have D2:=zh D2;clear D1)
  | (go_at_call 13;(with_reducible first|refine (K13.out _ _ _ D2.out).mono ?_|refine (K13.out _ _ _ D2.out.drew).mono ?_);rintro q w3 ⟨rfl,D3⟩;have D3:=zh D3;clear D2)
  | (go_at_call 14;(with_reducible first|refine (K14.out _ _ _ D3.out).mono ?_|refine (K14.out _ _ _ D3.out.drew).mono ?_);rintro q w4 ⟨rfl,D4⟩;have D4:=zh D4;clear D3)
  | (go_at_call 15;(with_reducible first|refine (K15.out _ _ _ D4.out).mono ?_|refine (K15.out _ _ _ D4.out.drew).mono ?_);rintro q w5 ⟨pm,rfl,D5⟩;have D5:=zh D5;clear D4)
  | (go_at_call 16;(with_reducible first|refine (K16.out _ _ _ _ D5.out).mono ?_|refine (K16.out _ _ _ _ D5.out.drew).mono ?_);rintro q w6 ⟨pn,rfl,D6⟩;have D6:=zh D6;clear D5))
 obtain ⟨e0,e1,e2,e3,e4,e5⟩:=FC.out _ (HBK.out _ _ _ _ _ _ _ D6.out);obtain ⟨e0',e1',e2',e3',e4',e5'⟩:=FC.out _ (HBK.out _ _ _ _ _ _ _ (HDR.out _ _ _ _ _ _ _ D6.out))
 go_wp2_with (first
  | (go_at_call 30;(with_reducible first|refine (K30.out _ _ _ _ _ D6.out).mono ?_|refine (K30.out _ _ _ _ _ (HDR.out _ _ _ _ _ _ _ D6.out)).mono ?_);rintro q w7 ⟨rfl,D7⟩;obtain ⟨f0,f1,f2,f3,f4,f5⟩:=FC.out _ (HBK.out _ _ _ _ _ _ _ D7);have D7:=zh D7;clear D6)
  | (go_at_call 29;(with_reducible refine (K29.out _ _ _ _ _ D7.out).mono ?_);rintro q w8 ⟨rfl,D8⟩;have D8:=zh D8;clear D7)
  | (go_at_call 23;(with_reducible refine (K23.out _ _ _ _ _ D8.out).mono ?_);rintro q w9 ⟨rfl,D9,I9⟩;obtain ⟨g0,g1,g2,g3,g4,g5⟩:=FC.out _ (HBK.out _ _ _ _ _ _ _ D9);obtain ⟨g0',g1',g2',g3',g4',g5'⟩:=FC.out _ (HBK.out _ _ _ _ _ _ _ (HDR.out _ _ _ _ _ _ _ D9));have I9:=zh I9;have D9:=zh D9;clear D8)
  | (go_at_call 66;(with_reducible first|refine (K66.out _ _ _ _ _ D9.out).mono ?_|refine (K66.out _ _ _ _ _ (HDR.out _ _ _ _ _ _ _ D9.out)).mono ?_);rintro q w10 ⟨rfl,D10⟩;obtain ⟨h0,h1,h2,h3,h4,h5⟩:=FC.out _ (HBK.out _ _ _ _ _ _ _ D10);obtain ⟨h0',h1',h2',h3',h4',h5'⟩:=FC.out _ (HBK.out _ _ _ _ _ _ _ (HDR.out _ _ _ _ _ _ _ D10));have D10:=zh D10;clear D9)
  | (go_at_call 65;(with_reducible first|refine (K65.out _ _ _ _ _ D10.out).mono ?_|refine (K65.out _ _ _ _ _ (HDR.out _ _ _ _ _ _ _ D10.out)).mono ?_);rintro q w11 ⟨rfl,D11⟩;have D11:=zh D11;clear D10)
  | (go_at_call 71;(with_reducible first|refine (K71.out _ _ _ _ _ D11.out).mono ?_|refine (K71.out _ _ _ _ _ (HDR.out _ _ _ _ _ _ _ D11.out)).mono ?_);rintro q w12 ⟨rfl,D12⟩;have D12:=zh D12;clear D11))
 go_ret2;exact ⟨g,pm,pn,d8,rfl,HE.out _ _ _ _ _ D12.out,HI.out I9.out⟩
end
section
open Dk
open Ar (Sn sn0)
open J.Sl (Su Hd su0 hd0)
def tdS (s:Sn):Sn:=⟨s.ix % 1000,s.tm,s.da.extract 0 (min s.da.size 200)⟩
theorem zgW {fn:Func} {p q:Tmp} {ty ty2:TypeId} (h:fn.results=#[.cell p ty,.cell q ty2]) (tmps:Array qg) (P:Program) (w:qe) :
 (results fn tmps).run P w =
   ((asAddr (tmps.getD p undef)).run P w).andThen fun a w₁=>((loadVar ty a).run P w₁).andThen fun x w₂=>((asAddr (tmps.getD q undef)).run P w₂).andThen fun b w₃=>((loadVar ty2 b).run P w₃).andThen fun y w₄=>.ok (qf #[x,y]) w₄:=by
 simp only [results,h];simp [Sem.run_bind,Result.andThen]
theorem zsu (tmps:Array qg) (w:qe) (p q:Nat) (c d:Array qg) (hc:c.size=3) (hd:d.size=3) (hp:tmps.getD 4 undef=qj (F ⟨p,0,G⟩)) (hq:tmps.getD 5 undef=qj (F ⟨q,0,G⟩)) (h1:w.heap[p]?=F (I c 41 (0,0))) (h2:w.heap[q]?=F (I d 43 (0,0))) :
 (results f20 tmps).run O w=.ok (qf #[.agg c,.agg d]) w:=by
 rw [zgW results20,hp,hq];simp [asAddr,run_loadVar_row w p 41 41 c (0,0) _ h1 underlying41 rfl (by rw [J.hd3,hc]),run_loadVar_row w q 43 43 d (0,0) _ h2 underlying43 rfl (by rw [Ar.sn24,hd])]
theorem zmg (s:Sn) (ok:s.Ok) (w:qe):T O 20 #[qc #[z D 0,z C 0,z D 0],qc #[z D s.ix,z D s.tm,Y s.da]] w fun x w'=>x=R (qf #[qc #[z D 0,z C 0,z D 0],qc #[z D (tdS s).ix,z D (tdS s).tm,Y (tdS s).da]])∧qd w.heap.size w w':=by
 go_enter func20,ntmps20
 go_upto_region 1 with fail
 go_wp2_with fail
 have e1:((min (s.da.size:Int) 200).toNat)=min s.da.size 200:=by omega
 have e2:(s.ix:Int) % 1000=((s.ix % 1000:Nat):Int):=by omega
 rw [e1,e2];generalize hW:(((w.alloc (I #[z D 0,z C 0,z D 0] 41)).alloc (I #[z D ((s.ix % 1000:Nat):Int),z D s.tm,Value.string (s.da.extract 0 (min s.da.size 200))] 43)).alloc (I #[z D 0,z C 0,z D 0] 41)).alloc (I #[z D 0,z D 0,Value.string { data:=#[] }] 43)=W;have hs1:(w.alloc (I #[z D 0,z C 0,z D 0] 41)).heap.size=w.heap.size+1:=ztR _ _
 obtain ⟨V,h1,h2,h3,h4⟩:∃ V:qe,W.heap[w.heap.size]?=F (I #[z D 0,z C 0,z D 0] 41 (0,0))∧W.heap[w.heap.size+1]?=F (I #[z D ((s.ix % 1000:Nat):Int),z D s.tm,Y (s.da.extract 0 (min s.da.size 200))] 43 (0,0))∧W.heap[w.heap.size+1+1]?=F (I #[z D 0,z C 0,z D 0] 41 (0,0))∧W.heap[w.heap.size+1+1+1]?=F (I #[z D 0,z D 0,Y ⟨#[]⟩] 43 (0,0)):=by
  subst hW;refine ⟨w,?_,?_,?_,?_⟩
  ·exact (ztQ _ _ _ (by simp only [ztR];omega)).trans ((ztQ _ _ _ (by simp only [ztR];omega)).trans ((ztQ _ _ _ (by simp only [ztR];omega)).trans (ztJ w _)))
  ·refine (ztQ _ _ _ (by simp only [ztR];omega)).trans ((ztQ _ _ _ (by simp only [ztR];omega)).trans ?_)
   have:=ztJ (w.alloc (I #[z D 0,z C 0,z D 0] 41)) (I #[z D ((s.ix % 1000:Nat):Int),z D s.tm,Value.string (s.da.extract 0 (min s.da.size 200))] 43)
   rwa [ztR] at this
  ·refine (ztQ _ _ _ (by simp only [ztR];omega)).trans ?_
   have:=ztJ ((w.alloc (I #[z D 0,z C 0,z D 0] 41)).alloc (I #[z D ((s.ix % 1000:Nat):Int),z D s.tm,Value.string (s.da.extract 0 (min s.da.size 200))] 43)) (I #[z D 0,z C 0,z D 0] 41)
   rwa [ztR,ztR] at this
  ·have:=ztJ (((w.alloc (I #[z D 0,z C 0,z D 0] 41)).alloc (I #[z D ((s.ix % 1000:Nat):Int),z D s.tm,Value.string (s.da.extract 0 (min s.da.size 200))] 43)).alloc (I #[z D 0,z C 0,z D 0] 41)) (I #[z D 0,z D 0,Value.string { data:=#[] }] 43)
   rwa [ztR,ztR,ztR] at this
 have hB:qd w.heap.size w W:=by
  subst hW;exact ((((qh _ w).alloc (ztI _) _).alloc (by simp only [ztR];omega) _).alloc (by simp only [ztR];omega) _).alloc (by simp only [ztR];omega) _
 have E2:=zh e2;clear hs1 hW e1 e2;have a0:W.drew.cell? ⟨w.heap.size,0,G⟩=F (z D 0):=zcr W.drew _ 0 _ 41 (0,0) h1;have a0':W.cell? ⟨w.heap.size,0,G⟩=F (z D 0):=zcr W _ 0 _ 41 (0,0) h1;have a1:W.drew.cell? ⟨w.heap.size,1,G⟩=F (z C 0):=zcr W.drew _ 1 _ 41 (0,0) h1;have a1':W.cell? ⟨w.heap.size,1,G⟩=F (z C 0):=zcr W _ 1 _ 41 (0,0) h1;have a2:W.drew.cell? ⟨w.heap.size,2,G⟩=F (z D 0):=zcr W.drew _ 2 _ 41 (0,0) h1;have a2':W.cell? ⟨w.heap.size,2,G⟩=F (z D 0):=zcr W _ 2 _ 41 (0,0) h1;have b0:W.drew.cell? ⟨w.heap.size+1,0,G⟩=F (z D ((s.ix % 1000:Nat):Int)):=zcr W.drew _ 0 _ 43 (0,0) h2;have b0':W.cell? ⟨w.heap.size+1,0,G⟩=F (z D ((s.ix % 1000:Nat):Int)):=zcr W _ 0 _ 43 (0,0) h2;have b1:W.drew.cell? ⟨w.heap.size+1,1,G⟩=F (z D s.tm):=zcr W.drew _ 1 _ 43 (0,0) h2;have b1':W.cell? ⟨w.heap.size+1,1,G⟩=F (z D s.tm):=zcr W _ 1 _ 43 (0,0) h2;have b2:W.drew.cell? ⟨w.heap.size+1,2,G⟩=F (Y (s.da.extract 0 (min s.da.size 200))):=zcr W.drew _ 2 _ 43 (0,0) h2;have b2':W.cell? ⟨w.heap.size+1,2,G⟩=F (Y (s.da.extract 0 (min s.da.size 200))):=zcr W _ 2 _ 43 (0,0) h2;have c0:W.drew.cell? ⟨w.heap.size+1+1,0,G⟩=F (z D 0):=zcr W.drew _ 0 _ 41 (0,0) h3;have c0':W.cell? ⟨w.heap.size+1+1,0,G⟩=F (z D 0):=zcr W _ 0 _ 41 (0,0) h3;have c1:W.drew.cell? ⟨w.heap.size+1+1,1,G⟩=F (z C 0):=zcr W.drew _ 1 _ 41 (0,0) h3;have c1':W.cell? ⟨w.heap.size+1+1,1,G⟩=F (z C 0):=zcr W _ 1 _ 41 (0,0) h3;have c2:W.drew.cell? ⟨w.heap.size+1+1,2,G⟩=F (z D 0):=zcr W.drew _ 2 _ 41 (0,0) h3;have c2':W.cell? ⟨w.heap.size+1+1,2,G⟩=F (z D 0):=zcr W _ 2 _ 41 (0,0) h3;have d0:W.drew.cell? ⟨w.heap.size+1+1+1,0,G⟩=F (z D 0):=zcr W.drew _ 0 _ 43 (0,0) h4;have d0':W.cell? ⟨w.heap.size+1+1+1,0,G⟩=F (z D 0):=zcr W _ 0 _ 43 (0,0) h4;have d1:W.drew.cell? ⟨w.heap.size+1+1+1,1,G⟩=F (z D 0):=zcr W.drew _ 1 _ 43 (0,0) h4;have d1':W.cell? ⟨w.heap.size+1+1+1,1,G⟩=F (z D 0):=zcr W _ 1 _ 43 (0,0) h4;have d2:W.drew.cell? ⟨w.heap.size+1+1+1,2,G⟩=F (Y ⟨#[]⟩):=zcr W.drew _ 2 _ 43 (0,0) h4;have d2':W.cell? ⟨w.heap.size+1+1+1,2,G⟩=F (Y ⟨#[]⟩):=zcr W _ 2 _ 43 (0,0) h4;obtain ⟨f0,f1,f2⟩:=zhs (w:=W.drew) h3;obtain ⟨f0',f1',f2'⟩:=zhs (w:=W) h3;obtain ⟨g0,g1,g2⟩:=zhs (w:=W.drew) h4;obtain ⟨g0',g1',g2'⟩:=zhs (w:=W) h4;have H3:=zh h3;have H4:=zh h4;have HB:=zh hB;clear h1 h2 h3 h4 hB
 go_region
 obtain ⟨x1,x2,x3⟩:=zbt (w.heap.size+1+1) 41 [(0,z D 0),(1,z C 0),(2,z D 0)] W _ H3.out;obtain ⟨y1,y2,y3⟩:=zbt (w.heap.size+1+1+1) 43 [(0,z D ((s.ix:Int) % 1000)),(1,z D s.tm),(2,Y (s.da.extract 0 (min s.da.size 200)))] (setl (w.heap.size+1+1) [(0,z D 0),(1,z C 0),(2,z D 0)] W) _ ((x2 _ (by omega)).trans H4.out);simp only [setc,zA,zB,zC] at x1 y1;have hx:=(y2 (w.heap.size+1+1) (by omega)).trans x1;have hbb:=(y3 w.heap.size w (x3 _ _ HB.out (by omega)) (by omega)).drew;generalize hX:((((((W.setCell ⟨w.heap.size+1+1,0,G⟩ (z D 0)).setCell ⟨w.heap.size+1+1,1,G⟩ (z C 0)).setCell ⟨w.heap.size+1+1,2,G⟩ (z D 0)).setCell ⟨w.heap.size+1+1+1,0,G⟩ (z D ((s.ix:Int) % 1000))).setCell ⟨w.heap.size+1+1+1,1,G⟩ (z D s.tm)).setCell ⟨w.heap.size+1+1+1,2,G⟩ (Y (s.da.extract 0 (min s.da.size 200))))=X
 have hset:setl (w.heap.size+1+1+1) [(0,z D ((s.ix:Int) % 1000)),(1,z D s.tm),(2,Y (s.da.extract 0 (min s.da.size 200)))] (setl (w.heap.size+1+1) [(0,z D 0),(1,z C 0),(2,z D 0)] W)=X:=by
  rw [←hX];simp only [setl]
 rw [hset] at hx y1 hbb;have hx':X.drew.heap[w.heap.size+1+1]?=F (I #[z D 0,z C 0,z D 0] 41 (0,0)):=hx;have hy':X.drew.heap[w.heap.size+1+1+1]?=F (I #[z D ((s.ix:Int) % 1000),z D s.tm,Y (s.da.extract 0 (min s.da.size 200))] 43 (0,0)):=y1;have hb':qd w.heap.size w X.drew:=hbb;clear hx hbb y1 y2 y3 x1 x2 x3 hX;go_wp2;refine ztP (v:=qf #[qc #[z D 0,z C 0,z D 0],qc #[z D ((s.ix:Int) % 1000),z D s.tm,Y (s.da.extract 0 (min s.da.size 200))]]) (zsu _ _ (w.heap.size+1+1) (w.heap.size+1+1+1) #[z D 0,z C 0,z D 0] #[z D ((s.ix:Int) % 1000),z D s.tm,Y (s.da.extract 0 (min s.da.size 200))] rfl rfl rfl rfl hx' hy') rfl ⟨?_,hb'⟩;have e:(tdS s).ix=s.ix % 1000:=rfl;rw [e,←E2.out];rfl
end
def zck (L:List (En×Bool)):List qg:=L.flatMap fun p=>(mdc p.1 p.2).toList
theorem zew (L:List (En×Bool)):(zck L).length=L.length*12:=by
 induction L with
 | nil=>rfl
 | cons e es ih =>
   show ((mdc e.1 e.2).toList++zck es).length=_;rw [zt4,ih];show 12+es.length*12=(es.length+1)*12;omega
theorem zhY (L:List (En×Bool)) (i:Nat) (p:En×Bool) (h:L[i]?=F p) (j:Nat) (hj:j<12):(zck L)[i*12+j]?=(mdc p.1 p.2)[j]?:=by
 induction L generalizing i with
 | nil=>cases h
 | cons a es ih =>
   have e1:zck (a :: es)=(mdc a.1 a.2).toList++zck es:=rfl;rw [e1]
   cases i with
   | zero =>
     have:a=p:=Option.some.inj h
     subst this;rw [zuR (by show 0*12+j<12;omega),Nat.zero_mul,zub];rw [zuv]
   | succ i =>
     have h':es[i]?=F p:=h;rw [List.getElem?_append_right (by show 12≤(i+1)*12+j;omega)];rw [show (i+1)*12+j-(mdc a.1 a.2).toList.length=i*12+j by show (i+1)*12+j-12=_;omega];exact ih i h'
theorem zmh (L:List (En×Bool)):∀ u∈zck L,u.oneCell'=qi:=fun u hu=>by
 unfold zck at hu;obtain ⟨e,_,he⟩:=List.mem_flatMap.1 hu;simp at he;rcases he with rfl|rfl|rfl|rfl|rfl|rfl|rfl|rfl|rfl|rfl|rfl|rfl<;>rfl
theorem info76m:(prog.info? 76).map (fun i=>(i.zero,i.size,i.bytes))=F (F (mdv ezz false),12,112):=by kernel_rfl
theorem zmi {L:List (En×Bool)} (h:w.ownsRow B 76 12 (U (F ⟨g,0,G⟩) n c) n (zck L)) (hl:L.length=n):zdr w.heap.size (F ⟨g,0,G⟩) n L w:=by
 refine ⟨hl,fun i p hp=>⟨_,rfl,(h.lt g rfl).2,fun j hj=>?_⟩⟩;have hi:i<L.length:=(List.getElem?_eq_some_iff.1 hp).1;rw [Addr.add_mid,Addr.add_mid,zub,h.cellAt (i*12+j) (by omega)];exact zhY L i p hp j hj
theorem zfW (A:Option Addr) (n c:Nat) (ty:TypeId) (w:qe) (hn:n≤c) (hA:A=G→n=0∧c=0):(Builtin.append_ #[38,38] ty #[U A n c,U G 0 0]).run O w=.ok (U A n c) w:=by
 obtain ⟨i0,hi,hz0,hz1,hz2⟩:=info_parts info76m;have hu:=underlying38
 cases A with
 | none =>
   obtain ⟨rfl,rfl⟩:=hA rfl;simp [Builtin.append_,underlying,sizeOf,typeInfo,hu,hi,Builtin.lenOf,Builtin.firstCells]
 | some a =>
   simp [Builtin.append_,underlying,sizeOf,typeInfo,hu,hi,Builtin.lenOf,Builtin.firstCells,hn,storeCells,List.foldlM]
theorem zeD {ops:Array Oper} {rest:List Oper} {o:Oper} {a:Act} {Q:Exit→Act→qe→Prop} (hgd:o.guard=G) (s x:Operand)
 (ho:o.op=.call { callee:=.builtin .append,args:=#[s,x],argTypes:=#[38,38] }) (w:qe) (B g0:Nat) (p:En×Bool) (A:Option Addr) (n c:Nat) (L:List (En×Bool))
 (hs:a.eval s=U (F ⟨g0,0,G⟩) 1 1) (hx:a.eval x=U A n c) (hown:w.ownsRow B 76 12 (U (F ⟨g0,0,G⟩) 1 1) 1 (zck [p])) (hM:zdr w.heap.size A n L w) (hA:A=G→n=0∧c=0) (hn:(n+1)*112≤140737488355328) (hB:B≤w.heap.size)
 (h:∀ g c2 w',w'.ownsRow B 76 12 (U (F ⟨g,0,G⟩) (n+1) c2) (n+1) (zck (p :: L))→qd B w w'→wpList O ops Q rest (a.put o.dst (U (F ⟨g,0,G⟩) (n+1) c2)) w'):wpList O ops Q (o :: rest) a w:=by
 cases A with
 | none =>
   obtain ⟨rfl,rfl⟩:=hA rfl;obtain rfl:L=[]:=List.length_eq_zero_iff.1 hM.len;have hr:=zfW (F ⟨g0,0,G⟩) 1 1 o.type w (ztI _) (fun e=>by cases e);refine wpList_plain hgd fun K hK=>?_;unfold Oper.wp execOp;simp only [ho,resolve,invoke,builtin,Sem.run_bind,Sem.run_pure,Result.andThen_ok,List.map_toArray,List.map_cons,List.map_nil,hs,hx,hr];exact hK _ _ (h g0 1 w hown (qh B w))
 | some ad =>
   obtain ⟨i0,hi,hz0,hz1,hz2⟩:=info_parts info76m
   have hcell:∀ j u,(zck L)[j]?=F u→w.cell? (ad.add j)=F u:=fun j u hu=>by
    have hj:j<(zck L).length:=(List.getElem?_eq_some_iff.1 hu).1;rw [zew] at hj;have hi:j / 12<L.length:=by omega
    obtain ⟨a',ha,hb,hc⟩:=hM.at_ (j / 12) _ (zt2 hi)
    cases ha
    have h1:=hc (j % 12) (by omega);have h2:=zhY L (j / 12) _ (zt2 hi) (j % 12) (by omega);rw [Addr.add_add,show j / 12*12+j % 12=j by omega] at h1;rw [show j / 12*12+j % 12=j by omega,hu] at h2;rw [h1,←h2]
   refine wpList_append_own_at w hgd s x 38 ho B 76 i0 (mdv ezz false) 12 112 underlying38 hi hz0 hz1 hz2 rfl (by omega) (U (F ⟨g0,0,G⟩) 1 1) 1 (zck [p]) hs hown ad n c (zck L) hx (by rw [zew,hM.len]) hcell (zmh L) (by unfold maxLen;omega) (by omega) hB ?_;intro v' w' hown' hgrow hnil hat;have hb:qd B w w':=(qh B w).grown hgrow hB (fun k hk=>(hown.lt k hk).1)
   have e:zck [p]++zck L=zck (p :: L):=by
    show ((mdc p.1 p.2).toList++[])++zck L=(mdc p.1 p.2).toList++zck L;rw [zuG]
   rw [e,Nat.add_comm 1 n] at hown';rcases hown'.2 with ⟨hv,h0⟩|⟨g',cap,cur,hv,_⟩
   ·omega
   ·subst hv;exact h g' cap w' hown' hb
section
open Dk Vi
abbrev KM (A:Option Addr) (n:Nat) (L:List (En×Bool)) (w:qe):Prop:=zdr w.heap.size A n L w∧(∀ p∈L,p.1.Ok)∧(n:Int)≤9223372036854775807
theorem zdr.mr {B':Nat} {L:List (En×Bool)} (h:zdr B A n L w) (hB:B≤B'):zdr B' A n L w :=
 ⟨h.len,fun i e he=>by
  obtain ⟨a,hA,h1,hc⟩:=h.at_ i e he;exact ⟨a,hA,zuk h1 hB,hc⟩⟩
theorem zq2 {base most:Nat} {L:List (En×Bool)} (hok:∀ p∈L,p.1.Ok) (hb:base≤4611686018427387904) (hm:most≤64):∀ e∈lgd 1 base most L,e.old.size=0:=fun e he=>by
 obtain ⟨h1,h2,h3⟩:=znm hok (.inl rfl) hb hm he;rw [zqq h1 (h3 rfl)];rfl
end
section
open Dk
open Ar (Sn sn0 snS snO snB)
open J.Sl (Su Hd su0 hd0 sec rgt zbn hB hO)
theorem ztf:ezz.Ok:=by constructor<;>decide
def cmE (ix:Nat) (L:List (En×Bool)):List En:=lgd 1 ix 6 ((ezz,false) :: L)
theorem zmj {L:List (En×Bool)} (hok:∀ p∈L,p.1.Ok):∀ p∈(ezz,false) :: L,p.1.Ok:=fun p hp=>by
 rcases ztT.1 hp with rfl|hp
 ·exact ztf
 ·exact hok p hp
theorem zml {L:List (En×Bool)}:1≤(cmE ix L).length∧(cmE ix L).length≤6:=by
 unfold cmE;rw [zkU,zud];omega
theorem zjG {L:List (En×Bool)} (hv:v=1∨v=2) (hok:∀ p∈L,p.1.Ok) (hix:ix<1000):∀ e∈cmE ix L,zfK v e :=
 zpH (zmj hok) hv (.inl rfl) (fun _=>rfl) (by omega) (by omega)
theorem zsv {L:List (En×Bool)}:∀ i e,(cmE ix L)[i]?=F e→e.index=((ix+i+1:Nat):Int):=fun i e he=>znn 1 ix 6 _ i e he
theorem zoO {L:List (En×Bool)} (hok:∀ p∈L,p.1.Ok) (hix:ix<1000):(rcA 2 (pS 2) (cmE ix L)).size≤2560:=by
 have okL:=zmj hok;have hg:=zjG (v:=2) (.inr rfl) hok hix;have hs:=znv (lev:=1) (base:=ix) (most:=6) okL (.inl rfl) (by omega) (by omega);have ho:=zq2 (base:=ix) (most:=6) okL (by omega) (by omega);have h:=znw (cmE ix L) fun e he=>ztL (zsV (hg e he) (hs e he) (ho e he)) (by omega)
 have:=(zml (ix:=ix) (L:=L)).2
 omega
theorem zoP {L:List (En×Bool)} {i:Nat} {e:En} (he:(cmE ix L)[i]?=F e):1≤e.term∧e.term≤1000:=by
 obtain ⟨h1,h2⟩:=zg9 _ _ _ _ _ _ he;rw [h2]
 have h3:∀ E:En,(lgE 1 (ix+i+1) E).term=E.term:=fun E=>by
  unfold lgE lg1
  split<;>rfl
 rw [h3];unfold mk part;dsimp only;omega
theorem zq7 {s t:Sn} {es:List En} {e:En} (hc:∀ i e,es[i]?=F e→e.index=((s.ix+i+1:Nat):Int)) (hk:es[k]?=F e) (h1:t.ix=s.ix+k+1) (h2:(t.tm:Int)=e.term):stL s t es=es.drop (k+1):=by
 rw [zjF hc (by omega),if_pos,h1]
 ·congr 1;omega
 ·unfold smB;rw [show es.any (smE t)=qi from List.any_eq_true.2 ⟨e,zuy hk,?_⟩,zus];unfold smE;rw [hc k e hk,h1,h2]
  simp
theorem zoQ {s t:Sn} {es:List En} {e:En} (hc:∀ i e,es[i]?=F e→e.index=((s.ix+i+1:Nat):Int)) (hk:es[k]?=F e) (h1:t.ix=s.ix+k+1) (h2:(t.tm:Int)≠e.term):stL s t es=[]:=by
 unfold stL;rw [if_neg];unfold smB;rw [zuD,ztZ,List.any_eq_true];rintro (⟨h,_⟩|⟨x,hx,hs⟩)
 ·have:=of_decide_eq_true h
  omega
 ·obtain ⟨i,hi⟩:=List.getElem?_of_mem hx;unfold smE at hs;rw [ztZ] at hs;have a:=of_decide_eq_true hs.1;have b:=of_decide_eq_true hs.2;rw [hc i x hi,h1] at a;obtain rfl:i=k:=by omega
  rw [hk] at hi
  cases hi
  exact h2 b.symm
theorem zmm {s:Sn} (h:s.da.size≤200) (hi:s.ix<18446744073709551616) (ht:s.tm<18446744073709551616):snO 2 s=qi∧(snS 2 s).size≤8*64:=by
 have ho:snO 2 s=qi:=by
  unfold snO;rw [ztN (show s.da.size≤16384 by omega)];rfl
 refine ⟨ho,?_⟩;unfold snS;rw [if_pos ho];have h1:=Go.Proofs.YtidndekacnmihaaGreat.zaW s.ix hi;have h2:=Go.Proofs.YtidndekacnmihaaGreat.zaW s.tm ht
 have hb:(snB 2 s).size≤220:=by
  unfold snB;rw [if_neg (by decide),ztS,ztS];omega
 have:=zgp (b:=snB 2 s) (by omega)
 omega
theorem zgk (es:List En):ze0 es.length es.length es es=qi:=by
 unfold ze0 zkc;rw [ztN rfl,zt8,List.take_length,List.all_eq_true];intro b hb
 have:∀ l:List En,∀ b∈List.zipWith zhg l l,b=qi:=by
  intro l;induction l with
  | nil=>intro b hb;cases hb
  | cons a l ih =>
    intro b hb;rcases ztT.1 hb with rfl|hb
    ·unfold zhg
     simp
    ·exact ih b hb
 exact this es b hb
end
end Go.Proofs.YtidndekacnmihaaGreat
