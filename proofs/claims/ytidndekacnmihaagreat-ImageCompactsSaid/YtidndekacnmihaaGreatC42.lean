/- Parts of a proof. -/
import Derived.Test.YtidndekacnmihaaGreatC39
import Derived.Test.YtidndekacnmihaaGreatC40
import Derived.Test.YtidndekacnmihaaGreatC41
set_option linter.all false
set_option maxHeartbeats 8000000
set_option maxRecDepth 100000
namespace Go.Proofs.YtidndekacnmihaaGreat
open Bool renaming true→P,false→Y
open Ending renaming returned→Q
open Go renaming Calls→G,World→V
open Go.RowKit renaming Below→X
open IntKind renaming i64→E
open List renaming replicate→qd
open Obj renaming cells→U
open Option renaming some→O
open Tryz renaming prog→I
open Value renaming int→C,slice→R,tuple→qc
variable {at_ f g gr pm:Nat} {v:Int} {W w:V} {q:Nat×Obj} {xs:Array Value} {r:Ending} {o':Option Addr→Nat→Nat→Obj} {K:List (Nat×Obj)}
open Go.RowKit
section
open Dk
open Ar (Sn sn0 snS snO)
open J.Sl (Su Hd su0 hd0 sec rgt zbn hB hO)
open J (setS setH ldS ldH ldE Sts zfT wrD)
abbrev rcL (v:Int) (es:List En):List UInt8:=(rcA v (pS v) es).data.toList
theorem zfr (v:Int) (es:List En):(rcL v es).length=(rcA v (pS v) es).size:=by rw [zug];rfl
theorem zoI (T:List UInt8) (r i:Nat):sx (T++qd r 0) i=sx T i:=ze2 T r (i*64)
theorem zhV {d:St} {n m:Nat} {es:List En} (h:Alv d n) (hv:v=1∨v=2) (hg:∀ e∈es,zfK v e) (hf:(rcA v (pS v) es).size≤m*64) (hm:1≤m) (hn:at_+m≤n) :
 ∃ d',zdB d at_ m v es=(d',0)∧Alv d' n∧zg5 d' at_ m (rcL v es)∧∀ j,j<at_∨at_+m≤j→d'.now j=d.now j:=by
 obtain ⟨r1,r2⟩:=znh (m:=m) (u:=0) hv hg (by omega)
 have hon:onB d.n at_ m v=P:=by
  unfold onB;rw [ztN hm,show knB v=P from ztN hv,h.n,ztN (by omega)];rfl
 obtain ⟨T,hT⟩:∃ T,T=rcL v es++qd (m*64-(rcA v (pS v) es).size) (0:UInt8):=⟨_,rfl⟩;have hl:T.length=m*64:=by rw [hT,zt4,zuu,zfr];omega
 have hq:(T.length+63) / 64=m:=by rw [hl];omega
 obtain ⟨w1,w2⟩:=zqn h at_ T (by rw [hq];exact hn);have wn:=zna h at_ T (by rw [hq];exact hn);refine ⟨(wrS d at_ T).1,?_,w2,fun i hi=>?_,fun j hj=>?_⟩
 ·unfold zdB;rw [if_pos hon,r1,r2,if_neg (by simp),←hT,←w1]
 ·rw [wn,hq,if_pos (by omega),show at_+i-at_=i by omega,hT,zoI]
 ·rw [wn,hq,if_neg (by omega)]
structure Im (d:St) (n:Nat) (p:Ip) (H:Hd) (s:Sn) (es:List En) (k j:Nat):Prop where
 alv:Alv d n
 sts:Sts d n p.su H k j
 pok:p.Ok
 gl:p.gl=0
 sp:p.sp=0
 nn:4+2*(p.S+p.L)≤n
 sok:s.Ok
 sO:snO p.v s=P
 sf:(snS p.v s).size≤p.S*64
 ar:∀ i,i<p.S→d.now (p.aA p.a+i)=sx (snS p.v s).data.toList i
 hf:zg5 d (p.hA p.h) p.L (rcL p.v es)
 ef:(rcA p.v (pS p.v) es).size≤p.L*64
 eg:∀ e∈es,zfK p.v e
theorem Alv.well {d:St} {n:Nat} (h:Alv d n):zfT d:=⟨h.x,by rw [h.l];decide⟩
theorem Im.same {d d':St} {n:Nat} {p:Ip} {H:Hd} {s:Sn} {es:List En} {k j:Nat} (h:Im d n p H s es k j) (a:Alv d' n) (e:∀ i,d'.now i=d.now i):Im d' n p H s es k j :=
 ⟨a,h.sts.same a.well (a.n.trans h.alv.n.symm) (fun i _=>e i),h.pok,h.gl,h.sp,h.nn,h.sok,h.sO,h.sf,fun i hi=>by rw [e];exact h.ar i hi,fun i hi=>by rw [e];exact h.hf i hi,h.ef,h.eg⟩
theorem zgU {d:St} {n a:Nat} {s:ByteArray} (h:Alv d n):Alv (wrD d a s) n:=⟨h.n,h.l,h.x⟩
theorem zsm (p:Ip) (k:Nat):4≤p.aA k:=by unfold Ip.aA;omega
theorem zq3 {p:Ip} (ok:p.Ok) {k:Nat} (hk:k≤1):p.aA k+p.S≤4+2*p.S:=by unfold Ip.aA;rcases (show k=0∨k=1 by omega) with rfl|rfl<;>omega
theorem zq4 (p:Ip) (k:Nat):4+2*p.S≤p.hA k:=by unfold Ip.hA;omega
theorem zoJ {p:Ip} (ok:p.Ok) {k:Nat} (hk:k≤1):p.hA k+p.L≤4+2*(p.S+p.L):=by unfold Ip.hA;rcases (show k=0∨k=1 by omega) with rfl|rfl<;>omega
theorem zq5 {p:Ip} (ok:p.Ok) {k n:Nat} (hk:k≤1) (hn:4+2*(p.S+p.L)≤n):onB n (p.hA k) p.L p.v=P:=by
 have:=zoJ ok hk
 unfold onB;rw [ztN ok.L.1,show knB p.v=P from ztN ok.v,ztN (by omega)];rfl
theorem zoK (v:Int) (hv:v=1∨v=2):snO v sn0=P∧(snS v sn0).size≤64:=by
 rcases hv with rfl|rfl<;>exact ⟨by decide +kernel,by decide +kernel⟩
theorem zl9 {d:St} {n:Nat} {p:Ip} (h:Alv d n) (ok:p.Ok) (hp:p=⟨p.v,p.S,p.L,0,0,0,0⟩) (hn:4+2*(p.S+p.L)≤n) (g0:J.rdG d ((0:Nat):Int)<1000) (g2:J.rdG d ((2:Nat):Int)<1000) :
 ∃ d1 d2 d3 d4 d5,Ar.arW d (p.aA 0:Nat) (p.S:Nat) p.v sn0=(d1,0)∧zdB d1 (p.hA 0) p.L p.v []=(d2,0)∧onB d1.n (p.hA 0) p.L p.v=P∧d2.flush=(d3,0)∧setH d3 p.v hd0=(d4,0)∧setS d4 p.su=(d5,0)∧foS d p=(d5,0)∧Im d5 n p hd0 sn0 [] (J.rdG d ((0:Nat):Int)+1) (J.rdG d ((2:Nat):Int)+1):=by
 have hv:=ok.v;have hS:=ok.S;have hL:=ok.L;have ha0:p.a=0:=by rw [hp]
 have hh0:p.h=0:=by rw [hp]
 have hgl:p.gl=0:=by rw [hp]
 have hsp:p.sp=0:=by rw [hp]
 have ea:p.aA 0=4:=by unfold Ip.aA;omega
 have eh:p.hA 0=4+2*p.S:=by unfold Ip.hA;omega
 obtain ⟨sO,sf⟩:=zoK p.v hv;have hs1:p.S*64≥64:=by omega
 obtain ⟨a1,a2,a3,a4,_,_⟩:=Ar.zmC (d:=d) (n:=n) (a:=p.aA 0) (M:=p.S) (v:=p.v) (s:=sn0) h sO (by omega) hS.1 (by rw [ea];omega);obtain ⟨d1,hd1⟩:∃ x,x=(Ar.arW d (p.aA 0:Nat) (p.S:Nat) p.v sn0).1:=⟨_,rfl⟩;rw [←hd1] at a2 a3 a4;obtain ⟨d2,b1,b2,b3,b4⟩:=zhV (d:=d1) (n:=n) (at_:=p.hA 0) (m:=p.L) (v:=p.v) (es:=[]) a2 hv (by simp) (by show 0≤_;omega) hL.1 (by rw [eh];omega);obtain ⟨c1,c2,c3⟩:=zfB b2;obtain ⟨d3,hd3⟩:∃ x,x=d2.flush.1:=⟨_,rfl⟩;rw [←hd3] at c2 c3;have hnow:∀ i,i<4→d3.now i=d.now i:=fun i hi=>by rw [c3,b4 i (by rw [eh];omega),a4 i (by rw [ea];omega)]
 have hnn:d3.n=d.n:=by rw [c2.n,h.n]
 have hdd:d3.dead=d.dead:=by rw [c2.x,h.x]
 obtain ⟨_,_,r0⟩:=J.zfp (a:=((0:Nat):Int)) hnn hdd (hnow 0 (by omega)) (hnow 1 (by omega));obtain ⟨_,_,r2⟩:=J.zfp (a:=((2:Nat):Int)) hnn hdd (hnow 2 (by omega)) (hnow 3 (by omega));have hr:rgt p.su=P:=zhr ok hgl hsp;have hho:hO p.v hd0=P:=(J.Sl.zdm _ _).2 ⟨hv,by decide,by decide⟩;obtain ⟨e1,e2,e3⟩:=J.zoH (d:=d3) (n:=n) (s:=p.su) (h:=hd0) (v:=p.v) c2.well c2.n (by omega) hr (by have:=J.zl7 hr;omega) hho zjn (by rw [r0];exact g0) (by rw [r2];exact g2);rw [r0,r2] at e3;have E1:Ar.arW d (p.aA 0:Nat) (p.S:Nat) p.v sn0=(d1,0):=by rw [hd1,←a1]
 have E3:d2.flush=(d3,0):=by rw [hd3,←c1]
 refine ⟨d1,d2,d3,_,_,E1,b1,by rw [a2.n];exact zq5 ok (by omega) hn,E3,e1,e2,?_,⟨zgU (zgU c2),e3,ok,hgl,hsp,hn,zlC,sO,by omega,fun i hi=>?_,fun i hi=>?_,by show 0≤_;omega,by simp⟩⟩
 ·have F:fiS d p sn0 []=(d3,0):=by
   unfold fiS;rw [ha0,hh0,E1];simp only [ne_eq,not_true_eq_false,if_false,b1,E3]
  unfold foS;rw [F];simp only [ne_eq,not_true_eq_false,if_false,e1,e2]
 ·rw [ha0]
  have:p.aA 0+i<4+2*p.S:=by rw [ea];omega
  rw [J.zcT (by omega),J.zcT (by rw [ea];omega),c3,b4 _ (by rw [eh];exact .inl this),a3 i hi]
 ·rw [hh0,J.zcT (by rw [eh];omega),J.zcT (by rw [eh];omega),c3];exact b3 i hi
theorem Im.hard {d:St} {n:Nat} {p:Ip} {H hh:Hd} {s:Sn} {es:List En} {k j:Nat} (h:Im d n p H s es k j) (hO':hO p.v hh=P) (ho:hh.Ok) (hj:j<1000):∃ d',setH d p.v hh=(d',0)∧Im d' n p hh s es k (j+1):=by
 obtain ⟨e1,e2⟩:=h.sts.setH hO' ho hj;refine ⟨_,e1,zgU h.alv,e2,h.pok,h.gl,h.sp,h.nn,h.sok,h.sO,h.sf,fun i hi=>?_,fun i hi=>?_,h.ef,h.eg⟩
 ·rw [J.zcT (by have:=zsm p p.a;omega)];exact h.ar i hi
 ·rw [J.zcT (by have:=zq4 p p.h;omega)];exact h.hf i hi
theorem Im.app {d:St} {n:Nat} {p:Ip} {H:Hd} {s:Sn} {es more:List En} {k j:Nat} (h:Im d n p H s es k j) (ok:d.Ok) (hg:∀ e∈more,zfK p.v e) (hf:(rcA p.v (pS p.v) es).size+(rcA p.v (pS p.v) more).size≤p.L*64) :
 ∃ d1 d2,zbI d (p.hA p.h) p.L p.v (rcA p.v (pS p.v) es).size more=(d1,(((rcA p.v (pS p.v) (es++more)).size:Nat):Int),0)∧d1.flush=(d2,0)∧Im d2 n p H s (es++more) k j:=by
 have hi:=zoJ h.pok h.pok.h;have lo:=zq4 p p.h;have nn:=h.nn;obtain ⟨d1,a1,a2,a3,a4⟩:=znb (at_:=p.hA p.h) (m:=p.L) h.alv ok h.pok.v hg (by rw [zfr];exact hf) (by omega) h.hf;obtain ⟨c1,c2,c3⟩:=zfB a2
 have hap:rcA p.v (pS p.v) (es++more)=rcA p.v (pS p.v) es++rcA p.v (pS p.v) more:=znd _ _ (by
  rcases h.pok.v with hv|hv
  ·right;rw [hv];exact zg6 es
  ·left;omega)
 rw [zfr] at a1;have hz:(rcA p.v (pS p.v) (es++more)).size=(rcA p.v (pS p.v) es).size+(rcA p.v (pS p.v) more).size:=by rw [hap,ztS]
 refine ⟨d1,d1.flush.1,by rw [hz];exact a1,by rw [←c1],c2,h.sts.same c2.well (c2.n.trans h.alv.n.symm) (fun i hi=>by rw [c3,a4 i (by omega)]),h.pok,h.gl,h.sp,h.nn,h.sok,h.sO,h.sf,fun i hi2=>?_,fun i hi2=>?_,by rw [hz];exact hf,fun e he=>(zt1.1 he).elim (h.eg e) (hg e)⟩
 ·have:=zq3 h.pok h.pok.a
  rw [c3,a4 _ (by omega)];exact h.ar i hi2
 ·rw [c3,a3 i hi2];unfold rcL;rw [hap,zup,zuC]
theorem Im.lay {d:St} {n:Nat} {p:Ip} {H:Hd} {s s2:Sn} {es more:List En} {k j:Nat} (h:Im d n p H s es k j) (sok:s2.Ok) (sO:snO p.v s2=P) (sf:(snS p.v s2).size≤p.S*64) (hg:∀ e∈more,zfK p.v e) (hf:(rcA p.v (pS p.v) more).size≤p.L*64) (hk:k<1000) :
 ∃ d1 d2 d3 d4,Ar.arW d (p.aA p.turn.a:Nat) (p.S:Nat) p.v s2=(d1,0)∧onB d1.n (p.hA p.turn.h) p.L p.v=P∧zdB d1 (p.hA p.turn.h) p.L p.v more=(d2,0)∧d2.flush=(d3,0)∧setS d3 p.turn.su=(d4,0)∧fiS d p.turn s2 more=(d3,0)∧Im d4 n p.turn H s2 more (k+1) j:=by
 have okt:=h.pok.turn;have hS:=h.pok.S;have hL:=h.pok.L;have nn:=h.nn;have ai:=zq3 h.pok okt.a;have al:=zsm p p.turn.a;have hi:=zoJ h.pok okt.h;have hl:=zq4 p p.turn.h;obtain ⟨a1,a2,a3,a4,_,_⟩:=Ar.zmC (d:=d) (n:=n) (a:=p.aA p.turn.a) (M:=p.S) (v:=p.v) (s:=s2) h.alv sO sf hS.1 (by omega);obtain ⟨d1,hd1⟩:∃ x,x=(Ar.arW d (p.aA p.turn.a:Nat) (p.S:Nat) p.v s2).1:=⟨_,rfl⟩;rw [←hd1] at a2 a3 a4;obtain ⟨d2,b1,b2,b3,b4⟩:=zhV (d:=d1) (n:=n) (at_:=p.hA p.turn.h) (m:=p.L) (v:=p.v) (es:=more) a2 h.pok.v hg hf hL.1 (by omega);obtain ⟨c1,c2,c3⟩:=zfB b2;obtain ⟨d3,hd3⟩:∃ x,x=d2.flush.1:=⟨_,rfl⟩;rw [←hd3] at c2 c3;have t3:Sts d3 n p.su H k j:=h.sts.same c2.well (c2.n.trans h.alv.n.symm) fun i hi=>by rw [c3,b4 i (by omega),a4 i (by omega)]
 have hr:rgt p.turn.su=P:=zhr okt h.gl h.sp;obtain ⟨e1,e2⟩:=t3.setS hr hk (by have:=J.zl7 hr;omega);have E1:Ar.arW d (p.aA p.turn.a:Nat) (p.S:Nat) p.v s2=(d1,0):=by rw [hd1,←a1]
 have E3:d2.flush=(d3,0):=by rw [hd3,←c1]
 refine ⟨d1,d2,d3,_,E1,by rw [a2.n];exact zq5 h.pok okt.h nn,b1,E3,e1,?_,zgU c2,e2,okt,h.gl,h.sp,nn,sok,sO,sf,fun i hi2=>?_,fun i hi2=>?_,hf,hg⟩
 ·unfold fiS;rw [show Ar.arW d (p.turn.aA p.turn.a:Nat) (p.turn.S:Nat) p.turn.v s2=(d1,0) from E1];simp only [ne_eq,not_true_eq_false,if_false];rw [show zdB d1 (p.turn.hA p.turn.h) p.turn.L p.turn.v more=(d2,0) from b1];simp only [not_true_eq_false,if_false,E3]
 ·show (wrD d3 0 _).now (p.aA p.turn.a+i)=_;rw [J.zcT (by omega),c3,b4 _ (by have:i<p.S:=hi2;omega)];exact a3 i hi2
 ·show (wrD d3 0 _).now (p.hA p.turn.h+i)=_;rw [J.zcT (by omega),c3];exact b3 i hi2
end
section
open Dk
open Ar (Sn sn0 snS snO)
open J.Sl (Su Hd su0 hd0 sec rgt zbn hB hO)
open J (setS setH ldS ldH ldE Sts zfT wrD)
theorem zoL {l:List UInt8} {k:Nat} (hl:l.length≤k) (hk:k≤64):(pad l).drop k=qd (64-k) 0:=by
 unfold pad;rw [List.drop_append,zut hl,zuK,List.drop_replicate]
 congr 1
 omega
theorem zjE {d:St} {n at_ m:Nat} {T:List UInt8} (h:Alv d n) (hn:at_+m≤n) (hH:zg5 d at_ m T):∀ (r k:Nat),k+r=m→T.length / 64≤k→wiL at_ T.length r k d Y=(d,0,Y)
 | 0,_,_,_=>rfl
 | r+1,k,hr,hk=>by
   have e:zaU d at_ T.length k=(d,0,Y):=by
    unfold zaU;rw [h.refuses (show at_+k<n by omega),if_neg (by simp),hH k (by omega),if_pos];unfold sx;refine zoL ?_ ?_
    ·rw [zt5,zuh];omega
    ·omega
   rw [wiL,e];simp only [if_true,Bool.or_self];exact zjE h hn hH r (k+1) (by omega) (by omega)
theorem zma {d:St} {n m:Nat} {T:List UInt8} (h:Alv d n) (hn:at_+m≤n) (hT:T.length≤m*64) (hH:zg5 d at_ m T):wipG d at_ m T.length=(d,0):=by
 unfold wipG;rw [zjE h hn hH (m-T.length / 64) (T.length / 64) (by omega) (ztI _),if_pos (.inr rfl)]
theorem Im.wipG {d:St} {n:Nat} {p:Ip} {H:Hd} {s:Sn} {es:List En} {k j:Nat} (h:Im d n p H s es k j):Go.Proofs.YtidndekacnmihaaGreat.wipG d (p.hA p.h) p.L (rcA p.v (pS p.v) es).size=(d,0):=by
 have:=zoJ h.pok h.pok.h
 have:=h.nn
 have e:=zma (T:=rcL p.v es) h.alv (show p.hA p.h+p.L≤n by omega) (by rw [zfr];exact h.ef) h.hf;rw [zfr] at e;exact e
theorem Im.on {d:St} {n:Nat} {p:Ip} {H:Hd} {s:Sn} {es:List En} {k j:Nat} (h:Im d n p H s es k j):onB d.n (p.hA p.h) p.L p.v=P:=by rw [h.alv.n];exact zq5 h.pok h.pok.h h.nn
theorem Im.has {d:St} {n:Nat} {p:Ip} {H:Hd} {s:Sn} {es:List En} {k j:Nat} (h:Im d n p H s es k j):zbC p.L ((rcA p.v (pS p.v) es).size:Nat)=P:=by
 have:=h.ef
 unfold zbC;exact ztN ⟨by omega,by omega⟩
theorem Im.bgn {d:St} {n:Nat} {p:Ip} {H:Hd} {s:Sn} {es:List En} {k j:Nat} (h:Im d n p H s es k j):bgn p.v (rcA p.v (pS p.v) es).size=(rcA p.v (pS p.v) es).size∧¬ (p.v=1∧(rcA p.v (pS p.v) es).size % 64≠0):=by
 rcases h.pok.v with hv|hv
 ·rw [hv]
  have:=zg6 es
  refine ⟨?_,fun h=>h.2 this⟩;unfold Go.Proofs.YtidndekacnmihaaGreat.bgn;rw [if_pos rfl];omega
 ·refine ⟨?_,fun h=>by omega⟩;unfold Go.Proofs.YtidndekacnmihaaGreat.bgn;rw [if_neg (by omega)]
theorem Im.area {d:St} {n:Nat} {p:Ip} {H:Hd} {s:Sn} {es:List En} {k j:Nat} (h:Im d n p H s es k j):Ar.arR d (p.aA p.a:Nat) (p.S:Nat)=(s,p.v,0):=by
 have:=zq3 h.pok h.pok.a
 have:=h.nn
 exact Ar.zmB h.sok h.sO h.sf h.pok.S.1 (by rw [h.alv.n];omega) h.alv.x h.ar
theorem Im.load {d:St} {n:Nat} {p:Ip} {H:Hd} {s:Sn} {es:List En} {k j:Nat} (h:Im d n p H s es k j):ldE d=0∧ldS d=p.su∧ldH d=H:=by
 refine h.sts.load ?_;unfold sec;rw [if_pos (zhr h.pok h.gl h.sp)]
 have:=h.nn
 show 4+2*((p.S:Int)+p.L)≤n;omega
theorem Im.mnt {d:St} {n:Nat} {p:Ip} {H:Hd} {s:Sn} {es:List En} {k j:Nat} (g:Nat) (h:Im d n p H s es k j) (hix:s.ix≤1099511627776) (hlen:es.length≤64) (hj:jn s.ix [] es=O es)
 (hr:∀ L Z,Dv Z g L d→G I 123 #[ptr g,RG (p.hA p.h:Nat) p.L p.v] Z fun x w'=>∃ A n c,x=Q (qc #[R A n c,C E ((rcA p.v (pS p.v) es).size:Nat),C E 0])∧Le Z.heap.size A n c es w'∧X Z.heap.size Z w') :
 Mnt d g p H s es es (rcA p.v (pS p.v) es).size d:=by
 obtain ⟨l1,l2,l3⟩:=h.load;refine ⟨h.pok,l1,l2,l3,h.area,hix,hlen,fun e he=>(h.eg e he).ok,hr,hj,?_⟩;unfold znz;rw [if_pos ⟨h.on,h.has⟩,ztV];exact h.wipG
theorem Im.rmnt {d:St} {n:Nat} {p:Ip} {H:Hd} {s:Sn} {es:List En} {k j:Nat} (g:Nat) (h:Im d n p H s es k j) (hix:s.ix≤1099511627776) (hlen:es.length≤64) (hj:jn s.ix [] es=O es)
 (hr:∀ B L Z,Rf Z B g L d→G I 61 #[ptr g,RG (p.hA p.h:Nat) p.L p.v] Z fun x w'=>∃ A n c,x=Q (qc #[R A n c,C E ((rcA p.v (pS p.v) es).size:Nat),C E 0])∧Le Z.heap.size A n c es w'∧X Z.heap.size Z w') :
 zs3 d g p H s es es (rcA p.v (pS p.v) es).size d:=by
 obtain ⟨l1,l2,l3⟩:=h.load;refine ⟨h.pok,l1,l2,l3,h.area,hr,fun A n c Z hE=>?_,h.on,h.ef,h.wipG⟩;refine (zh4 s.ix none A 0 0 n c [] es Z (Le.nil 0 Z).ents hE hix (by omega) (by rw [←hE.len];exact hlen) (by simp) (fun e he=>(h.eg e he).ok)).mono ?_;rintro x w' ⟨hjr,hb⟩;rcases hjr with ⟨r,A',n',c',h1,rfl,h3⟩|⟨h1,_⟩
 ·rw [hj] at h1;cases h1;exact ⟨A',n',c',rfl,h3,hb⟩
 ·rw [hj] at h1;cases h1
end
section
open Dk
def snap (W:V) (L:List Nat):List (Nat×Obj):=L.filterMap fun k=>(W.heap[k]?).map fun o=>(k,o)
theorem zc9 {L:List Nat}:q∈snap W L↔q.1∈L∧W.heap[q.1]?=O q.2:=by
 unfold snap;rw [List.mem_filterMap];constructor
 ·rintro ⟨k,hk,hq⟩
  cases ho:W.heap[k]? with
  | none=>rw [ho] at hq;cases hq
  | some o=>rw [ho] at hq;cases hq;exact ⟨hk,ho⟩
 ·rintro ⟨h1,h2⟩;exact ⟨q.1,h1,by rw [h2];rfl⟩
def Pw (w:V) (g gr:Nat) (K:List (Nat×Obj)) (d e:St) (W:V):Prop :=
 ∃ L Lr,Dv W g L d∧Rf W w.heap.size gr Lr e∧(∀ x∈L,w.heap.size≤x)∧(∀ x∈Lr,w.heap.size≤x)∧X w.heap.size w W∧∀ p∈K,W.heap[p.1]?=O p.2∧p.1∉L∧p.1∉Lr∧w.heap.size≤p.1
section
variable {w W W':V} {g gr:Nat} {K K':List (Nat×Obj)} {d e d' e':St}
theorem Pw.be (h:Pw w g gr K d e W):X w.heap.size w W:=by obtain ⟨L,Lr,h1,h2,h3,h3r,h4,h5⟩:=h;exact h4
theorem Pw.below (h:Pw w g gr K d e W) (hb:X W.heap.size W W'):Pw w g gr K d e W':=by
 obtain ⟨L,Lr,h1,h2,h3,h3r,h4,h5⟩:=h;exact ⟨L,Lr,h1.below hb,h2.below hb,h3,h3r,h4.trans (hb.mono h4.size),fun p hp=>⟨(hb.block _ (Array.getElem?_eq_some_iff.1 (h5 p hp).1).1).trans (h5 p hp).1,(h5 p hp).2⟩⟩
theorem Pw.drew (h:Pw w g gr K d e W):Pw w g gr K d e W.drew:=h.below (Below.refl _ W).drew
theorem Pw.get (h:Pw w g gr K d e W) {k:Nat} {o:Obj} (hm:(k,o)∈K):W.heap[k]?=O o:=by obtain ⟨L,Lr,h1,h2,h3,h3r,h4,h5⟩:=h;exact (h5 _ hm).1
theorem Pw.low (h:Pw w g gr K d e W) {k:Nat} {o:Obj} (hm:(k,o)∈K):w.heap.size≤k:=by obtain ⟨L,Lr,h1,h2,h3,h3r,h4,h5⟩:=h;exact (h5 _ hm).2.2.2
theorem Pw.bk (h:Pw w g gr K d e W):Bk K W:=by obtain ⟨L,Lr,h1,h2,h3,h3r,h4,h5⟩:=h;exact fun q hq=>(h5 q hq).1
theorem Pw.lt (h:Pw w g gr K d e W):∀ q∈K,q.1<W.heap.size:=fun q hq=>(Array.getElem?_eq_some_iff.1 (h.bk q hq)).1
theorem Pw.drop (h:Pw w g gr K d e W) (hs:∀ q∈K',q∈K):Pw w g gr K' d e W:=by obtain ⟨L,Lr,h1,h2,h3,h3r,h4,h5⟩:=h;exact ⟨L,Lr,h1,h2,h3,h3r,h4,fun q hq=>h5 q (hs q hq)⟩
theorem Pw.add (h:Pw w g gr K d e W) (hb:X W.heap.size W W') {k:Nat} {o:Obj} (hk:W.heap.size≤k) (ho:W'.heap[k]?=O o):Pw w g gr ((k,o) :: K) d e W':=by
 have hs:=h.be.size;obtain ⟨L,Lr,h1,h2,h3,h3r,h4,h5⟩:=h;refine ⟨L,Lr,h1.below hb,h2.below hb,h3,h3r,h4.trans (hb.mono h4.size),fun p hp=>?_⟩;rcases ztT.1 hp with rfl|hp
 ·exact ⟨ho,fun hm=>by have:=h1.lt _ hm;simp at this;omega,fun hm=>by have:=h2.lt _ hm;simp at this;omega,ztL hs hk⟩
 ·exact ⟨(hb.block _ (Array.getElem?_eq_some_iff.1 (h5 p hp).1).1).trans (h5 p hp).1,(h5 p hp).2⟩
theorem Pw.of (h:Dvx w g K d W) (hr:∀ L,Dv W g L d→∃ Lr,Rf W w.heap.size gr Lr e∧(∀ x∈Lr,w.heap.size≤x)∧∀ q∈K,q.1∉Lr):Pw w g gr K d e W:=by
 obtain ⟨L,h1,h3,h4,h5⟩:=h;obtain ⟨Lr,r1,r2,r3⟩:=hr L h1;exact ⟨L,Lr,h1,r1,h3,r2,h4,fun q hq=>⟨(h5 q hq).1,(h5 q hq).2.1,r3 q hq,(h5 q hq).2.2⟩⟩
theorem Pw.dv (h:Pw w g gr K d e W):∃ Kr,Dvx w g (Kr++K) d W∧(∀ q∈Kr,∀ p∈K,q.1≠p.1) ∧
 ∀ d' K' W',Dvx w g (Kr++K') d' W'→(∀ q∈K',(∃ o,(q.1,o)∈K)∨W.heap.size≤q.1)→Pw w g gr K' d' e W':=by
 obtain ⟨L,Lr,h1,h2,h3,h3r,h4,h5⟩:=h;refine ⟨snap W Lr,⟨L,h1,h3,h4,fun p hp=>?_⟩,fun q hq p hp e=>?_,fun d' K' W' hx hK=>?_⟩
 ·rcases zt1.1 hp with hp|hp
  ·obtain ⟨a1,a2⟩:=zc9.1 hp;exact ⟨a2,zju h2 h1 _ a1,h3r _ a1⟩
  ·exact ⟨(h5 p hp).1,(h5 p hp).2.1,(h5 p hp).2.2.2⟩
 ·exact (h5 p hp).2.2.1 (e▸(zc9.1 hq).1)
 ·obtain ⟨L',b1,b3,b4,b5⟩:=hx;refine ⟨L',Lr,b1,h2.of_heap fun k hk=>?_,b3,h3r,b4,fun p hp=>?_⟩
  ·have hlt:=h2.lt k hk;have ho:W.heap[k]?=O W.heap[k]:=Array.getElem?_eq_getElem hlt;rw [ho];exact (b5 (k,W.heap[k]) (zui _ (zc9.2 ⟨hk,ho⟩))).1
  ·obtain ⟨c1,c2,c3⟩:=b5 p (ztU _ hp);refine ⟨c1,c2,?_,c3⟩;rcases hK p hp with ⟨o,ho⟩|hl
   ·exact (h5 _ ho).2.2.1
   ·exact fun hm=>by have:=h2.lt _ hm;omega
theorem Pw.rf (h:Pw w g gr K d e W):∃ Kd,Rvx w gr (Kd++K) e W∧(∀ q∈Kd,∀ p∈K,q.1≠p.1) ∧
 ∀ e' K' W',Rvx w gr (Kd++K') e' W'→(∀ q∈K',(∃ o,(q.1,o)∈K)∨W.heap.size≤q.1)→Pw w g gr K' d e' W':=by
 obtain ⟨L,Lr,h1,h2,h3,h3r,h4,h5⟩:=h;refine ⟨snap W L,⟨Lr,h2,h3r,h4,fun p hp=>?_⟩,fun q hq p hp e=>?_,fun e' K' W' hx hK=>?_⟩
 ·rcases zt1.1 hp with hp|hp
  ·obtain ⟨a1,a2⟩:=zc9.1 hp;exact ⟨a2,fun hm=>zju h2 h1 _ hm a1,h3 _ a1⟩
  ·exact ⟨(h5 p hp).1,(h5 p hp).2.2.1,(h5 p hp).2.2.2⟩
 ·exact (h5 p hp).2.1 (e▸(zc9.1 hq).1)
 ·obtain ⟨L',b1,b3,b4,b5⟩:=hx;refine ⟨L,L',h1.of_heap fun k hk=>?_,b1,h3,b3,b4,fun p hp=>?_⟩
  ·have hlt:=h1.lt k hk;have ho:W.heap[k]?=O W.heap[k]:=Array.getElem?_eq_getElem hlt;rw [ho];exact (b5 (k,W.heap[k]) (zui _ (zc9.2 ⟨hk,ho⟩))).1
  ·obtain ⟨c1,c2,c3⟩:=b5 p (ztU _ hp);refine ⟨c1,?_,c2,c3⟩;rcases hK p hp with ⟨o,ho⟩|hl
   ·exact (h5 _ ho).2.1
   ·exact fun hm=>by have:=h1.lt _ hm;omega
theorem Pw.row {B:Nat} {A:Option Addr} {n c:Nat} {es:List En} (h:Pw w g gr K d e W) (hl:Le B A n c es W) (hB:w.heap.size≤B) :
 ∃ K2,Pw w g gr (K2++K) d e W∧Lg B K2 A n c es∧∀ q∈K2,B≤q.1∧∃ cur,q.2=U cur 69 (0,0):=by
 rcases hl.own.2 with ⟨hv,h0⟩|⟨gb,cap,cur,hv,h1,h2,h3⟩
 ·exact ⟨[],h,fun Z _=>⟨⟨hl.own.1,.inl ⟨hv,h0⟩⟩,hl.len⟩,fun q hq=>by cases hq⟩
 ·refine ⟨[(gb,U cur 69 (0,0))],?_,fun Z hz=>⟨⟨hl.own.1,.inr ⟨gb,cap,cur,hv,h1,hz (gb,U cur 69 (0,0)) (by simp),h3⟩⟩,hl.len⟩,fun q hq=>?_⟩
  ·obtain ⟨L,Lr,a1,a2,a3,a3r,a4,a5⟩:=h;refine ⟨L,Lr,a1,a2,a3,a3r,a4,fun p hp=>?_⟩;rcases ztT.1 hp with rfl|hp
   ·refine ⟨h2,fun hm=>?_,fun hm=>?_,by show _≤gb;omega⟩
    ·obtain ⟨_,fb,mb,cap',rfl,hA⟩:=a1;simp at hm;rcases hm with rfl|rfl|rfl
     ·have:=h2.symm.trans hA.blk;simp at this
     ·obtain ⟨cur',x1,_⟩:=hA.row
      have:=h2.symm.trans x1;simp at this
     ·obtain ⟨D,⟨es',clock,hb,_⟩,_⟩:=hA.map
      have:=h2.symm.trans hb;simp at this
    ·obtain ⟨cur',t,hh,ht⟩:=a2.types _ hm;rcases ht with rfl|rfl|rfl<;>(have:=h2.symm.trans hh;simp at this)
   ·exact a5 p hp
  ·simp at hq;rw [hq];exact ⟨by show _≤gb;omega,cur,rfl⟩
theorem Pw.img {o:Obj} {es:List En} (h:Pw w g gr ((pm,o) :: K) d e W) (hK:∀ q∈K,q.1≠pm) (hp:∀ A n c cur,(o' A n c)≠U cur 69 (0,0))
 (hc:∀ K1,(∀ q∈K,q∈K1)→(∀ q∈K1,q.1≠pm)→Dvx w g ((pm,o) :: K1) d W→G I f xs W fun x w'=>x=r∧∃ A n c K2,Dvx w g ((pm,o' A n c) :: (K2++K1)) d' w'∧Lg w.heap.size (K2++K1) A n c es∧∀ q∈K2,W.heap.size≤q.1) :
 G I f xs W fun x w'=>x=r∧∃ A n c K2,Pw w g gr ((pm,o' A n c) :: (K2++K)) d' e w'∧Lg w.heap.size K2 A n c es∧∀ q∈K2,q.1≠pm∧∃ cur,q.2=U cur 69 (0,0):=by
 have h0:=h;obtain ⟨Kr,hx,hn,back⟩:=h.dv;refine (hc (Kr++K) (fun q hq=>by simp [hq]) (fun q hq=>?_) (hx.drop fun q hq=>?_)).mono ?_
 ·rcases zt1.1 hq with hq|hq
  ·exact hn q hq (pm,o) (by simp)
  ·exact hK q hq
 ·rcases ztT.1 hq with rfl|hq
  ·simp
  ·rcases zt1.1 hq with hq|hq<;>simp [hq]
 ·rintro x w' ⟨rfl,A,n,c,K2,b1,b2,b3⟩;have hle:Le w.heap.size A n c es w':=b2 w' fun q hq=>b1.bk q (ztK _ hq)
  have p1:=back d' ((pm,o' A n c) :: K) w' (b1.drop fun q hq=>by
   rcases zt1.1 hq with hq|hq
   ·simp [hq]
   ·rcases ztT.1 hq with rfl|hq
    ·simp
    ·simp [hq]) (fun q hq=>by
   rcases ztT.1 hq with rfl|hq
   ·exact .inl ⟨o,by simp⟩
   ·exact .inl ⟨q.2,by simp [hq]⟩)
  obtain ⟨K3,p2,p3,p4⟩:=p1.row hle (ztI _);refine ⟨rfl,A,n,c,K3,p2.drop fun q hq=>?_,p3,fun q hq=>⟨fun e=>?_,(p4 q hq).2⟩⟩
  ·rcases ztT.1 hq with rfl|hq
   ·simp
   ·rcases zt1.1 hq with hq|hq<;>simp [hq]
  ·obtain ⟨cur,hcur⟩:=(p4 q hq).2;have e1:=p2.bk q (by simp [hq]);have e2:=p2.bk (pm,o' A n c) (by simp);rw [e,hcur] at e1;exact hp A n c cur (Option.some.inj (e2.symm.trans e1))
theorem Pw.rimg {o:Obj} {es:List En} (h:Pw w g gr ((pm,o) :: K) d e W) (hK:∀ q∈K,q.1≠pm) (hp:∀ A n c cur,(o' A n c)≠U cur 69 (0,0))
 (hc:∀ K1,(∀ q∈K,q∈K1)→(∀ q∈K1,q.1≠pm)→Rvx w gr ((pm,o) :: K1) e W→G I f xs W fun x w'=>x=r∧∃ A n c K2,Rvx w gr ((pm,o' A n c) :: (K2++K1)) e' w'∧Lg w.heap.size (K2++K1) A n c es∧∀ q∈K2,W.heap.size≤q.1) :
 G I f xs W fun x w'=>x=r∧∃ A n c K2,Pw w g gr ((pm,o' A n c) :: (K2++K)) d e' w'∧Lg w.heap.size K2 A n c es∧∀ q∈K2,q.1≠pm∧∃ cur,q.2=U cur 69 (0,0):=by
 have h0:=h;obtain ⟨Kr,hx,hn,back⟩:=h.rf;refine (hc (Kr++K) (fun q hq=>by simp [hq]) (fun q hq=>?_) (hx.drop fun q hq=>?_)).mono ?_
 ·rcases zt1.1 hq with hq|hq
  ·exact hn q hq (pm,o) (by simp)
  ·exact hK q hq
 ·rcases ztT.1 hq with rfl|hq
  ·simp
  ·rcases zt1.1 hq with hq|hq<;>simp [hq]
 ·rintro x w' ⟨rfl,A,n,c,K2,b1,b2,b3⟩;have hle:Le w.heap.size A n c es w':=b2 w' fun q hq=>b1.bk q (ztK _ hq)
  have p1:=back e' ((pm,o' A n c) :: K) w' (b1.drop fun q hq=>by
   rcases zt1.1 hq with hq|hq
   ·simp [hq]
   ·rcases ztT.1 hq with rfl|hq
    ·simp
    ·simp [hq]) (fun q hq=>by
   rcases ztT.1 hq with rfl|hq
   ·exact .inl ⟨o,by simp⟩
   ·exact .inl ⟨q.2,by simp [hq]⟩)
  obtain ⟨K3,p2,p3,p4⟩:=p1.row hle (ztI _);refine ⟨rfl,A,n,c,K3,p2.drop fun q hq=>?_,p3,fun q hq=>⟨fun e=>?_,(p4 q hq).2⟩⟩
  ·rcases ztT.1 hq with rfl|hq
   ·simp
   ·rcases zt1.1 hq with hq|hq<;>simp [hq]
  ·obtain ⟨cur,hcur⟩:=(p4 q hq).2;have e1:=p2.bk q (by simp [hq]);have e2:=p2.bk (pm,o' A n c) (by simp);rw [e,hcur] at e1;exact hp A n c cur (Option.some.inj (e2.symm.trans e1))
end
end
section
open Dk
open Ar (Sn sn0 snS snO)
open J.Sl (Su Hd su0 hd0 sec rgt zbn hB hO)
open J (setS setH ldS ldH ldE Sts zfT wrD)
structure Mi where
 d:St
 p:Ip
 H:Hd
 s:Sn
 es:List En
 k:Nat
 j:Nat
abbrev Mi.u (M:Mi):Nat:=(rcA M.p.v (pS M.p.v) M.es).size
abbrev Mi.o (M:Mi) (g t:Nat) (A:Option Addr) (n c:Nat):Obj:=U (imc g M.p.su M.H M.s (R A n c) (M.u:Nat)) t (0,0)
structure Ig (n:Nat) (M:Mi):Prop where
 im:Im M.d n M.p M.H M.s M.es M.k M.j
 ct:∀ i e,M.es[i]?=O e→e.index=((M.s.ix+i+1:Nat):Int)
 ln:M.es.length≤64
 bs:M.s.ix≤1099511627776
def UpP (w:V) (g pm f:Nat) (xs:Array Value) (r:Ending) (K:List (Nat×Obj)) (M M':Mi):Prop :=
 ∀ K1 A n c W,(∀ q∈K,q∈K1)→(∀ q∈K1,q.1≠pm)→Dvx w g ((pm,M.o g 113 A n c) :: K1) M.d W→Lg w.heap.size K1 A n c M.es →
  G I f xs W fun x w'=>x=r∧∃ A' n' c' K2,Dvx w g ((pm,M'.o g 113 A' n' c') :: (K2++K1)) M'.d w'∧Lg w.heap.size (K2++K1) A' n' c' M'.es∧∀ q∈K2,W.heap.size≤q.1
def UpR (w:V) (g pm f:Nat) (xs:Array Value) (r:Ending) (K:List (Nat×Obj)) (M M':Mi):Prop :=
 ∀ K1 A n c W,(∀ q∈K,q∈K1)→(∀ q∈K1,q.1≠pm)→Rvx w g ((pm,M.o g 124 A n c) :: K1) M.d W→Lg w.heap.size K1 A n c M.es →
  G I f xs W fun x w'=>x=r∧∃ A' n' c' K2,Rvx w g ((pm,M'.o g 124 A' n' c') :: (K2++K1)) M'.d w'∧Lg w.heap.size (K2++K1) A' n' c' M'.es∧∀ q∈K2,W.heap.size≤q.1
theorem zgV {es:List En} (hv:v=1∨v=2) (hg:∀ e∈es,zfK v e):rcO v (pO v) es=P:=by
 unfold rcO;rw [show knB v=P from ztN hv,zt8,List.all_eq_true];exact fun e he=>(hg e he).o
theorem zoM {es:List En} (hv:v=1∨v=2) (hg:∀ e∈es,zfK v e):rcS v (pS v) (pO v) es=rcA v (pS v) es:=by
 have:=zgV hv hg
 unfold rcO at this;unfold rcS;rw [if_pos this]
theorem Ig.hard {n:Nat} {M:Mi} {hh:Hd} (h:Ig n M) (hO':hO M.p.v hh=P) (ho:hh.Ok) (hj:M.j<1000):∃ d',Ig n ⟨d',M.p,hh,M.s,M.es,M.k,M.j+1⟩ ∧
 (∀ w g pm K,UpP w g pm 29 #[ptr pm,hh.val] (Q (C E 0)) K M ⟨d',M.p,hh,M.s,M.es,M.k,M.j+1⟩) ∧
 ∀ w g pm K,UpR w g pm 65 #[ptr pm,hh.val] (Q (C E 0)) K M ⟨d',M.p,hh,M.s,M.es,M.k,M.j+1⟩:=by
 obtain ⟨d',e1,e2⟩:=h.im.hard hO' ho hj;refine ⟨d',⟨e2,h.ct,h.ln,h.bs⟩,?_,?_⟩
 ·intro w g pm K K1 A n c W _ hK hD hL;refine (zku hD hK h.im.gl ho e1).mono ?_;rintro x w' ⟨rfl,b⟩;exact ⟨rfl,A,n,c,[],b,hL,fun q hq=>by cases hq⟩
 ·intro w g pm K K1 A n c W _ hK hD hL;refine (ziT hD hK h.im.gl ho e1).mono ?_;rintro x w' ⟨rfl,b⟩;exact ⟨rfl,A,n,c,[],b,hL,fun q hq=>by cases hq⟩
theorem zsn {b:Nat} {es more:List En} (h:∀ i e,more[i]?=O e→e.index=((b+es.length+i+1:Nat):Int)):jn b es more=O (es++more):=by
 rw [ztp b es.length es more (ztI _) h,List.take_length]
 split
 ·rename_i h;rw [h,zuG]
 ·rfl
theorem Ig.append {n:Nat} {M:Mi} {more:List En} (h:Ig n M) (ok:M.d.Ok) (hg:∀ e∈more,zfK M.p.v e) (hct:∀ i e,more[i]?=O e→e.index=((M.s.ix+M.es.length+i+1:Nat):Int))
 (hln:M.es.length+more.length≤64) (hf:M.u+(rcA M.p.v (pS M.p.v) more).size≤M.p.L*64):∃ d2,Ig n ⟨d2,M.p,M.H,M.s,M.es++more,M.k,M.j⟩ ∧
 (∀ w g pm K A2 n2 c2,zcO K A2 n2 more→UpP w g pm 23 #[ptr pm,R A2 n2 c2] (Q (C E 0)) K M ⟨d2,M.p,M.H,M.s,M.es++more,M.k,M.j⟩) ∧
 ∀ w g pm K A2 n2 c2,zcO K A2 n2 more→UpR w g pm 71 #[ptr pm,R A2 n2 c2] (Q (C E 0)) K M ⟨d2,M.p,M.H,M.s,M.es++more,M.k,M.j⟩:=by
 obtain ⟨d1,d2,a1,a2,a3⟩:=h.im.app ok hg hf;have hj:=zsn hct;refine ⟨d2,⟨a3,fun i e he=>?_,by rw [zt4];exact hln,h.bs⟩,?_,?_⟩
 ·show e.index=((M.s.ix+i+1:Nat):Int);have he:(M.es++more)[i]?=O e:=he;rcases zum i M.es.length with hi|hi
  ·rw [zuR hi] at he;exact h.ct i e he
  ·rw [List.getElem?_append_right hi] at he;rw [hct _ e he];omega
 ·intro w g pm K A2 n2 c2 hm K1 A n c W hs hK hD hL;have key:=zht (c2:=c2) hD hK h.im.pok h.im.gl hL (hm.sub hs) h.bs h.ln (by omega) h.ct (fun e he=>(hg e he).ok) h.im.on h.im.has h.im.bgn.1;rw [hj,a1] at key
  have z:apZ (O (M.es++more)) (d1,((((rcA M.p.v (pS M.p.v) (M.es++more)).size:Nat):Int),(0:Int)))=0:=by
   unfold apZ;simp [a2]
  refine key.mono ?_;rintro x w' ⟨hx,h1,_⟩;rw [z] at hx;obtain ⟨A',n',c',K2,b1,b2,b3⟩:=h1 z;refine ⟨hx,A',n',c',K2,?_,b2,b3⟩;have e9:d2=d1.flush.1:=by rw [a2]
  rw [e9];exact b1
 ·intro w g pm K A2 n2 c2 hm K1 A n c W hs hK hD hL;refine (zkL (c2:=c2) hD hK h.im.pok h.im.gl hL (hm.sub hs) h.bs h.ln (by omega) h.ct (fun e he=>(hg e he).ok) hj h.im.on h.im.ef h.im.bgn.2 (zgV h.im.pok.v hg) a1 a2).mono ?_;rintro x w' ⟨rfl,A',n',c',K2,b1,b2,b3⟩;exact ⟨rfl,A',n',c',K2,b1,b2,b3⟩
theorem zmb (t:Sn):∀ (es:List En) (b:Nat),(∀ i e,es[i]?=O e→e.index=((b+i+1:Nat):Int))→b≤t.ix→es.filter (bhE t)=es.drop (t.ix-b)
 | [],b,_,_=>by simp
 | e :: es,b,hc,hb=>by
   rcases Nat.eq_or_lt_of_le hb with hb|hb
   ·rw [show t.ix-b=0 by omega,List.drop_zero,List.filter_eq_self];intro a ha;obtain ⟨i,hi⟩:=List.mem_iff_getElem?.1 ha;unfold bhE;rw [hc i a hi];exact ztN (by omega)
   ·have h0:bhE t e=Y:=by
     unfold bhE;rw [hc 0 e rfl];exact ztM (by omega)
    rw [List.filter_cons_of_neg (by rw [h0];decide),zmb t es (b+1) (fun i a ha=>by rw [hc (i+1) a ha];omega) (by omega),show t.ix-b=(t.ix-(b+1))+1 by omega,List.drop_succ_cons]
theorem zjF {s t:Sn} {es:List En} (hc:∀ i e,es[i]?=O e→e.index=((s.ix+i+1:Nat):Int)) (hb:s.ix≤t.ix):stL s t es=if smB s t es then es.drop (t.ix-s.ix) else []:=by
 unfold stL;rw [zmb t es s.ix hc hb]
theorem zmc {es:List En} (hv:v=1∨v=2) (k:Nat):(rcA v (pS v) es).size=(rcA v (pS v) (es.take k)).size+(rcA v (pS v) (es.drop k)).size:=by
 have h:=znd (v:=v) (S:=pS v) (es.take k) (es.drop k) (by
  rcases hv with hv|hv
  ·right;rw [hv];exact zg6 _
  ·left;omega)
 rw [List.take_append_drop] at h;rw [h,ztS]
theorem zmd {s t:Sn} {es:List En} (hv:v=1∨v=2) (hc:∀ i e,es[i]?=O e→e.index=((s.ix+i+1:Nat):Int)) (hb:s.ix≤t.ix) :
 (∀ i e,(stL s t es)[i]?=O e→e.index=((t.ix+i+1:Nat):Int))∧(stL s t es).length≤es.length∧(∀ e∈stL s t es,e∈es)∧(rcA v (pS v) (stL s t es)).size≤(rcA v (pS v) es).size:=by
 rw [zjF hc hb]
 split
 ·refine ⟨fun i e he=>?_,?_,fun e he=>List.mem_of_mem_drop he,?_⟩
  ·rw [List.getElem?_drop] at he;rw [hc _ e he];omega
  ·rw [zuh];omega
  ·have:=zmc (es:=es) hv (t.ix-s.ix);omega
 ·exact ⟨fun i e he=>(by simp at he),ztO _,fun e he=>(by cases he),ztO _⟩
theorem Ig.compact {n:Nat} {M:Mi} {s2:Sn} (h:Ig n M) (sok:s2.Ok) (sO:snO M.p.v s2=P) (sf:(snS M.p.v s2).size≤M.p.S*64) (hix:M.s.ix≤s2.ix) (hb:s2.ix≤1099511627776) (hk:M.k<1000) :
 ∃ d4,Ig n ⟨d4,M.p.turn,M.H,s2,stL M.s s2 M.es,M.k+1,M.j⟩ ∧
 (∀ w g pm K,UpP w g pm 30 #[ptr pm,s2.v] (Q (C E 0)) K M ⟨d4,M.p.turn,M.H,s2,stL M.s s2 M.es,M.k+1,M.j⟩) ∧
 ∀ w g pm K,UpR w g pm 66 #[ptr pm,s2.v] (Q (C E 0)) K M ⟨d4,M.p.turn,M.H,s2,stL M.s s2 M.es,M.k+1,M.j⟩:=by
 have hv:=h.im.pok.v;obtain ⟨c1,c2,c3,c4⟩:=zmd hv h.ct hix;have hln:=h.ln;have hef:=h.im.ef;have hgm:∀ e∈stL M.s s2 M.es,zfK M.p.v e:=fun e he=>h.im.eg e (c3 e he);obtain ⟨d1,d2,d3,d4,e1,e2o,e2,e3,e4,F,im4⟩:=h.im.lay sok sO sf hgm (by omega) hk
 have hj:jn s2.ix [] (stL M.s s2 M.es)=O (stL M.s s2 M.es):=by
  rw [zno s2.ix _ [] (fun i e he=>by rw [c1 i e he];simp)];rfl
 have hS:=zoM hv hgm;refine ⟨d4,⟨im4,c1,ztL c2 hln,hb⟩,?_,?_⟩
 ·intro w g pm K K1 A n c W _ hK hD hL
  have z:(0:Int)=lyZ (lyC M.s.ix s2.ix (jn s2.ix [] (stL M.s s2 M.es)) (stL M.s s2 M.es).length) (fiS M.d M.p.turn s2 (stL M.s s2 M.es)) (setS (fiS M.d M.p.turn s2 (stL M.s s2 M.es)).1 M.p.turn.su):=by
   rw [hj,F];unfold lyC lyZ;simp [hix,e4]
  have z4:d4=(setS (fiS M.d M.p.turn s2 (stL M.s s2 M.es)).1 M.p.turn.su).1:=by rw [F];simp only [e4]
  refine (zge hD hK h.im.pok sok h.im.gl hL hb hln (fun e he=>(h.im.eg e he).ok) rfl z rfl z4).mono ?_;rintro x w' ⟨rfl,h1,_⟩;obtain ⟨A',n',c',K2,b1,b2,b3⟩:=h1 rfl;rw [hj] at b2;rw [hS] at b1;exact ⟨rfl,A',n',c',K2,b1,b2,b3⟩
 ·intro w g pm K K1 A n c W _ hK hD hL;refine (ziU hD hK h.im.pok sok h.im.gl hL hb hln (fun e he=>(h.im.eg e he).ok) hj rfl (fun e he=>(hgm e he).ok) sO hix (zgV hv hgm) e1 e2o e2 e3 e4).mono ?_;rintro x w' ⟨rfl,A',n',c',K2,b1,b2,b3⟩;rw [hS] at b1;exact ⟨rfl,A',n',c',K2,b1,b2,b3⟩
theorem Ig.back {n:Nat} {M:Mi} {s2:Sn} (h:Ig n M) (sok:s2.Ok) (hix:s2.ix<M.s.ix):∀ w g pm K,UpP w g pm 30 #[ptr pm,s2.v] (Q (C E 1)) K M M:=by
 have hbs:=h.bs;intro w g pm K K1 A n c W _ hK hD hL
 have hc:lyC M.s.ix s2.ix (jn s2.ix [] (stL M.s s2 M.es)) (stL M.s s2 M.es).length=Y:=by
  unfold lyC;rw [ztM (by omega),zun]
 have z:(1:Int)=lyZ (lyC M.s.ix s2.ix (jn s2.ix [] (stL M.s s2 M.es)) (stL M.s s2 M.es).length) (fiS M.d M.p.turn s2 (stL M.s s2 M.es)) (setS (fiS M.d M.p.turn s2 (stL M.s s2 M.es)).1 M.p.turn.su):=by
  rw [hc];unfold lyZ;rw [if_pos rfl]
 have y:M.d=lyD (lyC M.s.ix s2.ix (jn s2.ix [] (stL M.s s2 M.es)) (stL M.s s2 M.es).length) M.d (fiS M.d M.p.turn s2 (stL M.s s2 M.es)) (setS (fiS M.d M.p.turn s2 (stL M.s s2 M.es)).1 M.p.turn.su):=by
  rw [hc];unfold lyD;rw [if_pos rfl]
 refine (zge hD hK h.im.pok sok h.im.gl hL (by omega) h.ln (fun e he=>(h.im.eg e he).ok) rfl z y rfl).mono ?_;rintro x w' ⟨rfl,_,h1⟩;obtain ⟨K2,b1,b2⟩:=h1 (by decide);exact ⟨rfl,A,n,c,K2,b1,hL.sub fun q hq=>by simp [hq],b2⟩
theorem Ig.wrong {n:Nat} {M:Mi} {more:List En} (h:Ig n M) (hok:∀ e∈more,e.Ok) (hj:jn M.s.ix M.es more=none) (hln:more.length≤64) :
 ∀ w g pm K A2 n2 c2,zcO K A2 n2 more→UpP w g pm 23 #[ptr pm,R A2 n2 c2] (Q (C E 1)) K M M:=by
 intro w g pm K A2 n2 c2 hm K1 A n c W hs hK hD hL;have key:=zht (c2:=c2) hD hK h.im.pok h.im.gl hL (hm.sub hs) h.bs h.ln hln h.ct hok h.im.on h.im.has h.im.bgn.1;rw [hj] at key;refine key.mono ?_;rintro x w' ⟨hx,_,h1⟩;have z:∀ a,apZ none a=1:=fun a=>by unfold apZ;simp
 have y:∀ a,apD none M.d a=M.d:=fun a=>by unfold apD;simp
 rw [z] at hx;have h2:=h1 (by rw [z];decide);rw [y] at h2;exact ⟨hx,A,n,c,[],h2,hL,fun q hq=>by cases hq⟩
end
section
open Dk
open Ar (Sn sn0 snS snO)
open J.Sl (Su Hd su0 hd0 sec rgt zbn hB hO)
def One (w:V) (g pm:Nat) (K:List (Nat×Obj)) (M:Mi) (W:V):Prop :=
 ∃ A n c K2,Dvx w g ((pm,M.o g 113 A n c) :: (K2++K)) M.d W∧Lg w.heap.size K2 A n c M.es∧∀ q∈K2++K,q.1≠pm
def Two (w:V) (g gr pm pn:Nat) (K:List (Nat×Obj)) (M N:Mi) (W:V):Prop :=
 ∃ A n c K2 A' n' c' K3,Pw w g gr ((pm,M.o g 113 A n c) :: (pn,N.o gr 124 A' n' c') :: (K2++(K3++K))) M.d N.d W∧Lg w.heap.size K2 A n c M.es∧Lg w.heap.size K3 A' n' c' N.es∧(∀ q∈K2++(K3++K),q.1≠pm∧q.1≠pn)∧pm≠pn
section
variable {w W W':V} {g gr pm pn f:Nat} {K:List (Nat×Obj)} {M M' N N':Mi} {xs:Array Value} {r:Ending}
theorem One.below (h:One w g pm K M W) (hb:X W.heap.size W W'):One w g pm K M W':=by
 obtain ⟨A,n,c,K2,h1,h2,h3⟩:=h;exact ⟨A,n,c,K2,h1.below hb,h2,h3⟩
theorem One.be (h:One w g pm K M W):X w.heap.size w W:=by obtain ⟨A,n,c,K2,h1,h2,h3⟩:=h;exact h1.be
theorem One.dok (h:One w g pm K M W):M.d.Ok:=by obtain ⟨A,n,c,K2,h1,h2,h3⟩:=h;exact h1.dok
theorem One.bk (h:One w g pm K M W):Bk K W:=by obtain ⟨A,n,c,K2,h1,h2,h3⟩:=h;exact fun q hq=>h1.bk q (by simp [hq])
theorem One.m (h:One w g pm K M W) (hu:UpP w g pm f xs r K M M'):G I f xs W fun x w'=>x=r∧One w g pm K M' w':=by
 obtain ⟨A,n,c,K2,h1,h2,h3⟩:=h;have hlt:=h1.lt;refine (hu (K2++K) A n c W (fun q hq=>by simp [hq]) h3 h1 (h2.sub fun q hq=>by simp [hq])).mono ?_;rintro x w' ⟨rfl,A',n',c',K4,b1,b2,b3⟩;refine ⟨rfl,A',n',c',K4++(K2++K),b1.drop fun q hq=>?_,b2,fun q hq=>?_⟩
 ·rcases ztT.1 hq with rfl|hq
  ·simp
  ·rcases zt1.1 hq with hq|hq
   ·exact ztK _ hq
   ·simp [hq]
 ·rcases zt1.1 hq with hq|hq
  ·rcases zt1.1 hq with hq|hq
   ·have:=b3 q hq
    have:=hlt (pm,M.o g 113 A n c) (by simp)
    simp at this;omega
   ·exact h3 q hq
  ·exact h3 q (by simp [hq])
theorem Two.below (h:Two w g gr pm pn K M N W) (hb:X W.heap.size W W'):Two w g gr pm pn K M N W':=by
 obtain ⟨A,n,c,K2,A',n',c',K3,h1,h2,h3,h4,h5⟩:=h;exact ⟨A,n,c,K2,A',n',c',K3,h1.below hb,h2,h3,h4,h5⟩
theorem Pw.ne {d e:St} {k t:Nat} {cs cur:Array Value} (h:Pw w g gr K d e W) (h1:(k,U cs t (0,0))∈K) (ht:t≠69) (h2:q∈K) (hq:q.2=U cur 69 (0,0)):q.1≠k:=fun e=>by
 have e1:=h.bk q h2;have e2:=h.bk _ h1;rw [e,hq] at e1
 have:=e2.symm.trans e1
 simp at this;exact ht this.2
theorem Two.m (h:Two w g gr pm pn K M N W) (hu:UpP w g pm f xs r K M M'):G I f xs W fun x w'=>x=r∧Two w g gr pm pn K M' N w':=by
 obtain ⟨A,n,c,K2,A',n',c',K3,h1,h2,h3,h4,h5⟩:=h;refine (h1.img (o':=fun A n c=>M'.o g 113 A n c) (es:=M'.es) (fun q hq=>?_) (fun A n c cur=>by simp) fun K1 hs hK hD=>hu K1 A n c W (fun q hq=>hs q (by simp [hq])) hK hD (h2.sub fun q hq=>hs q (by simp [hq]))).mono ?_
 ·rcases ztT.1 hq with rfl|hq
  ·exact fun e=>h5 e.symm
  ·exact (h4 q hq).1
 ·rintro x w' ⟨rfl,A1,n1,c1,K4,b1,b2,b3⟩;refine ⟨rfl,A1,n1,c1,K4,A',n',c',K3,b1.drop fun q hq=>?_,b2,h3,fun q hq=>?_,h5⟩
  ·simp only [ztT,zt1] at hq ⊢;rcases hq with hq|hq|hq|hq|hq<;>simp [hq]
  ·rcases zt1.1 hq with hq|hq
   ·obtain ⟨x1,cur,x2⟩:=b3 q hq;exact ⟨x1,b1.ne (cs:=imc gr N.p.su N.H N.s (R A' n' c') (N.u:Nat)) (t:=124) (by simp) (by decide) (by simp [hq]) x2⟩
   ·exact h4 q (ztU _ hq)
theorem Two.n (h:Two w g gr pm pn K M N W) (hu:UpR w gr pn f xs r K N N'):G I f xs W fun x w'=>x=r∧Two w g gr pm pn K M N' w':=by
 obtain ⟨A,n,c,K2,A',n',c',K3,h1,h2,h3,h4,h5⟩:=h
 have h1':Pw w g gr ((pn,N.o gr 124 A' n' c') :: (pm,M.o g 113 A n c) :: (K2++(K3++K))) M.d N.d W:=h1.drop fun q hq=>by
  simp only [ztT] at hq ⊢;rcases hq with hq|hq|hq<;>simp [hq]
 refine (h1'.rimg (o':=fun A n c=>N'.o gr 124 A n c) (es:=N'.es) (fun q hq=>?_) (fun A n c cur=>by simp) fun K1 hs hK hD=>hu K1 A' n' c' W (fun q hq=>hs q (by simp [hq])) hK hD (h3.sub fun q hq=>hs q (by simp [hq]))).mono ?_
 ·rcases ztT.1 hq with rfl|hq
  ·exact h5
  ·exact (h4 q hq).2
 ·rintro x w' ⟨rfl,A1,n1,c1,K4,b1,b2,b3⟩;refine ⟨rfl,A,n,c,K2,A1,n1,c1,K4,b1.drop fun q hq=>?_,h2,b2,fun q hq=>?_,h5⟩
  ·simp only [ztT,zt1] at hq ⊢;rcases hq with hq|hq|hq|hq|hq<;>simp [hq]
  ·rcases zt1.1 hq with hq|hq
   ·exact h4 q (zui _ hq)
   ·rcases zt1.1 hq with hq|hq
    ·obtain ⟨x1,cur,x2⟩:=b3 q hq;exact ⟨b1.ne (cs:=imc g M.p.su M.H M.s (R A n c) (M.u:Nat)) (t:=113) (by simp) (by decide) (by simp [hq]) x2,x1⟩
    ·exact h4 q (by simp [hq])
theorem Two.one (h:Two w g gr pm pn K M N W):One w g pm K M W:=by
 obtain ⟨A,n,c,K2,A',n',c',K3,h1,h2,h3,h4,h5⟩:=h;obtain ⟨Kr,x1,x2,x3⟩:=h1.dv;refine ⟨A,n,c,K2,x1.drop fun q hq=>?_,h2,fun q hq=>(h4 q ?_).1⟩
 ·simp only [ztT,zt1] at hq ⊢;rcases hq with hq|hq|hq<;>simp [hq]
 ·simp only [zt1] at hq ⊢;rcases hq with hq|hq<;>simp [hq]
theorem Two.dok (h:Two w g gr pm pn K M N W):M.d.Ok∧N.d.Ok:=by
 obtain ⟨A,n,c,K2,A',n',c',K3,⟨L,Lr,h1,h2,_⟩,_⟩:=h;exact ⟨h1.1,h2.1⟩
theorem One.state (h:One w g pm K M W) (hn:M.es.length≤64):G I 25 #[ptr pm] W fun x w'=>∃ A' c' K4,x=Q (.agg (stc M.H M.s (R A' M.es.length c')))∧One w g pm (K4++K) M w'∧Lg w.heap.size K4 A' M.es.length c' M.es:=by
 obtain ⟨A,n,c,K2,h1,h2,h3⟩:=h;have hlen:M.es.length=n:=(h2 W fun q hq=>h1.bk q (by simp [hq])).len;have hlt:=h1.lt (pm,M.o g 113 A n c) (by simp);refine (zou h1 (h2.sub fun q hq=>by simp [hq]) hn).mono ?_;rintro x w' ⟨A',c',K4,rfl,b1,b2,b3⟩;rw [hlen];refine ⟨A',c',K4,rfl,⟨A,n,c,K2,b1.drop fun q hq=>?_,h2,fun q hq=>?_⟩,b2⟩
 ·simp only [ztT,zt1] at hq ⊢;rcases hq with hq|hq|hq|hq<;>simp [hq]
 ·simp only [zt1] at hq;rcases hq with hq|hq|hq
  ·exact h3 q (by simp [hq])
  ·have:=b3 q hq
   simp at hlt;omega
  ·exact h3 q (by simp [hq])
theorem One.drop {K':List (Nat×Obj)} (h:One w g pm K M W) (hs:∀ q∈K',q∈K):One w g pm K' M W:=by
 obtain ⟨A,n,c,K2,h1,h2,h3⟩:=h;refine ⟨A,n,c,K2,h1.drop fun q hq=>?_,h2,fun q hq=>h3 q ?_⟩
 ·simp only [ztT,zt1] at hq ⊢;rcases hq with hq|hq|hq
  ·simp [hq]
  ·simp [hq]
  ·simp [hs q hq]
 ·simp only [zt1] at hq ⊢;rcases hq with hq|hq
  ·simp [hq]
  ·simp [hs q hq]
theorem One.add (h:One w g pm K M W) (hb:X W.heap.size W W') {k:Nat} {o:Obj} (hk:W.heap.size≤k) (ho:W'.heap[k]?=O o):One w g pm ((k,o) :: K) M W':=by
 obtain ⟨A,n,c,K2,h1,h2,h3⟩:=h;have hlt:=h1.lt (pm,M.o g 113 A n c) (by simp);refine ⟨A,n,c,K2,(h1.add hb hk ho).drop fun q hq=>?_,h2,fun q hq=>?_⟩
 ·simp only [ztT,zt1] at hq ⊢;rcases hq with hq|hq|hq|hq<;>simp [hq]
 ·simp only [zt1,ztT] at hq;rcases hq with hq|hq|hq
  ·exact h3 q (by simp [hq])
  ·rw [hq];simp at hlt ⊢;omega
  ·exact h3 q (by simp [hq])
end
end
section
open Dk
open Ar (Sn sn0 snS snO)
open J.Sl (Su Hd su0 hd0 sec rgt zbn hB hO)
open J (setS setH ldS ldH ldE Sts zfT wrD)
section
variable {w W W':V} {g gr:Nat} {K K':List (Nat×Obj)} {d e d' e':St}
theorem Pw.new2 (n:Nat) (h1:1≤n) (h2:n≤4096) (h:Dvx w g K d W):G I 12 #[C E n] W fun x w'=>∃ gr,x=Q (ptr gr)∧Pw w g gr K d (St.fresh n fun _=>zsec) w':=by
 have hlt:=h.lt;obtain ⟨L,a1,a3,a4,a5⟩:=h;refine (zka n W h1 h2).mono ?_;rintro x w' ⟨gr,Lr,rfl,D2,b2⟩;refine ⟨gr,rfl,L,Lr,a1.below b2,D2.base a4.size,a3,fun x hx=>ztL a4.size (D2.low x hx),a4.trans (b2.mono a4.size),fun p hp=>?_⟩;obtain ⟨c1,c2,c3⟩:=a5 p hp;exact ⟨(b2.block _ (hlt p hp)).trans c1,c2,fun hm=>by have:=D2.low _ hm;have:=hlt p hp;omega,c3⟩
theorem Pw.c1 (h:Pw w g gr K d e W) (hc:∀ K1,Dvx w g K1 d W→G I f xs W fun x w'=>x=r∧Dvx w g K1 d' w'):G I f xs W fun x w'=>x=r∧Pw w g gr K d' e w':=by
 obtain ⟨Kr,hx,hn,back⟩:=h.dv;exact (hc _ hx).mono fun x w' ⟨h1,h2⟩=>⟨h1,back d' K w' h2 fun q hq=>.inl ⟨q.2,hq⟩⟩
theorem Pw.c2 (h:Pw w g gr K d e W) (hc:∀ K1,Rvx w gr K1 e W→G I f xs W fun x w'=>x=r∧Rvx w gr K1 e' w'):G I f xs W fun x w'=>x=r∧Pw w g gr K d e' w':=by
 obtain ⟨Kr,hx,hn,back⟩:=h.rf;exact (hc _ hx).mono fun x w' ⟨h1,h2⟩=>⟨h1,back e' K w' h2 fun q hq=>.inl ⟨q.2,hq⟩⟩
theorem Pw.mnt {p:Ip} {H:Hd} {s:Sn} {es lgs:List En} {u:Nat} (h:Pw w g gr K d e W) (hm:Mnt d g p H s es lgs u d') :
 G I 15 #[ptr g] W fun x w'=>∃ pm A n c K2,x=Q (qc #[ptr pm,C E 0])∧Pw w g gr ((pm,U (imc g p.su H s (R A n c) u) 113 (0,0)) :: (K2++K)) d' e w'∧Lg w.heap.size K2 A n c lgs∧(∀ q∈K2++K,q.1≠pm)∧∀ q∈K2,∃ cur,q.2=U cur 69 (0,0):=by
 obtain ⟨Kr,hx,hn,back⟩:=h.dv;refine (zjq hx hm).mono ?_;rintro x w' ⟨pm,A,n,c,K2,rfl,b1,b2,b3,b4,b5⟩;have hle:=b2 w' fun q hq=>b1.bk q (ztK _ hq)
 have p1:=back d' ((pm,U (imc g p.su H s (R A n c) u) 113 (0,0)) :: K) w' (b1.drop fun q hq=>by
  simp only [ztT,zt1] at hq ⊢;rcases hq with hq|hq|hq<;>simp [hq]) (fun q hq=>by
  rcases ztT.1 hq with rfl|hq
  ·exact .inr b4
  ·exact .inl ⟨q.2,hq⟩)
 obtain ⟨K3,p2,p3,p4⟩:=p1.row hle (ztI _);refine ⟨pm,A,n,c,K3,rfl,p2.drop fun q hq=>?_,p3,fun q hq=>?_,fun q hq=>(p4 q hq).2⟩
 ·simp only [ztT,zt1] at hq ⊢;rcases hq with hq|hq|hq<;>simp [hq]
 ·rcases zt1.1 hq with hq|hq
  ·obtain ⟨x1,cur,x2⟩:=p4 q hq;exact p2.ne (cs:=imc g p.su H s (R A n c) u) (t:=113) (by simp) (by decide) (by simp [hq]) x2
  ·exact b3 q (by simp [hq])
theorem Pw.rmnt {p:Ip} {H:Hd} {s:Sn} {es lgs:List En} {u:Nat} (h:Pw w g gr K d e W) (hm:zs3 e gr p H s es lgs u e') :
 G I 16 #[ptr gr] W fun x w'=>∃ pm A n c K2,x=Q (qc #[ptr pm,C E 0])∧Pw w g gr ((pm,U (imc gr p.su H s (R A n c) u) 124 (0,0)) :: (K2++K)) d e' w'∧Lg w.heap.size K2 A n c lgs∧(∀ q∈K2++K,q.1≠pm)∧∀ q∈K2,∃ cur,q.2=U cur 69 (0,0):=by
 obtain ⟨Kr,hx,hn,back⟩:=h.rf;refine (zmF hx hm).mono ?_;rintro x w' ⟨pm,A,n,c,K2,rfl,b1,b2,b3,b4,b5⟩;have hle:=b2 w' fun q hq=>b1.bk q (ztK _ hq)
 have p1:=back e' ((pm,U (imc gr p.su H s (R A n c) u) 124 (0,0)) :: K) w' (b1.drop fun q hq=>by
  simp only [ztT,zt1] at hq ⊢;rcases hq with hq|hq|hq<;>simp [hq]) (fun q hq=>by
  rcases ztT.1 hq with rfl|hq
  ·exact .inr b4
  ·exact .inl ⟨q.2,hq⟩)
 obtain ⟨K3,p2,p3,p4⟩:=p1.row hle (ztI _);refine ⟨pm,A,n,c,K3,rfl,p2.drop fun q hq=>?_,p3,fun q hq=>?_,fun q hq=>(p4 q hq).2⟩
 ·simp only [ztT,zt1] at hq ⊢;rcases hq with hq|hq|hq<;>simp [hq]
 ·rcases zt1.1 hq with hq|hq
  ·obtain ⟨x1,cur,x2⟩:=p4 q hq;exact p2.ne (cs:=imc gr p.su H s (R A n c) u) (t:=124) (by simp) (by decide) (by simp [hq]) x2
  ·exact b3 q (by simp [hq])
end
theorem zso (n k:Nat):tlB (zz n) k=zz (n-k):=by
 unfold tlB;apply ByteArray.ext;apply Array.toList_inj.1;rw [zz_list,zuB,zuJ,zz_list,zz_size];simp [List.extract]
theorem Im.zeros {d:St} {n:Nat} {p:Ip} {H:Hd} {s:Sn} {k j:Nat} (h:Im d n p H s [] k j) (i:Nat):nOk (tlB (rdB d (p.hA p.h) p.L) i)=Y:=by
 have hf:=h.hf;rw [show rcL p.v []=[] from rfl] at hf;rw [znc (T:=[]) (ztO _) hf]
 have e:txt []++zz (p.L*64-([]:List UInt8).length)=zz (p.L*64):=by
  apply ByteArray.ext;apply Array.toList_inj.1;rw [zup,zuC,zal];rfl
 rw [e,zso];exact zsP _
theorem zsp {p:Ip} (ok:p.Ok) {k:Nat} (hk:k≤1):p.hA k≤4000:=by
 have hS:=ok.S;have hL:=ok.L;unfold Ip.hA;rcases (show k=0∨k=1 by omega) with rfl|rfl<;>omega
theorem Ig.mnt0 {n:Nat} {M:Mi} (h:Ig n M) (he:M.es=[]) (g:Nat):Mnt M.d g M.p M.H M.s M.es M.es M.u M.d:=by
 obtain ⟨d,p,H,s,es,k,j⟩:=M;obtain rfl:es=[]:=he;have hL:=h.im.pok.L;have hh:=zsp h.im.pok h.im.pok.h;exact h.im.mnt g h.bs (ztO _) rfl fun L Z hD=>zsU g L d _ _ _ Z hD (by omega) (by omega) h.im.on h.im.alv.x h.im.zeros
theorem Ig.rmnt0 {n:Nat} {M:Mi} (h:Ig n M) (he:M.es=[]) (g:Nat):zs3 M.d g M.p M.H M.s M.es M.es M.u M.d:=by
 obtain ⟨d,p,H,s,es,k,j⟩:=M;obtain rfl:es=[]:=he;exact h.im.rmnt g h.bs (ztO _) rfl fun B L Z hD=>znE B g L d _ _ _ Z hD h.im.on h.im.alv.x h.im.zeros
def zsq (w:V) (g gr pm:Nat) (K:List (Nat×Obj)) (M:Mi) (W:V):Prop :=
 ∃ A n c K2,Pw w g gr ((pm,M.o g 113 A n c) :: (K2++K)) M.d M.d W∧Lg w.heap.size K2 A n c M.es∧∀ q∈K2++K,q.1≠pm
theorem zoN {n:Nat} {M:Mi} (h:Pw w g gr K M.d M.d W) (hi:Ig n M) (he:M.es=[]):G I 15 #[ptr g] W fun x w'=>∃ pm,x=Q (qc #[ptr pm,C E 0])∧zsq w g gr pm K M w':=by
 refine (h.mnt (hi.mnt0 he g)).mono ?_;rintro x w' ⟨pm,A,n,c,K2,rfl,b1,b2,b3,_⟩;exact ⟨pm,rfl,A,n,c,K2,b1,b2,b3⟩
theorem zsq.two {n:Nat} {M:Mi} (h:zsq w g gr pm K M W) (hi:Ig n M) (he:M.es=[]):G I 16 #[ptr gr] W fun x w'=>∃ pn,x=Q (qc #[ptr pn,C E 0])∧Two w g gr pm pn K M M w':=by
 obtain ⟨A,n,c,K2,h1,h2,h3⟩:=h;refine (h1.rmnt (hi.rmnt0 he gr)).mono ?_;rintro x w' ⟨pn,A',n',c',K3,rfl,b1,b2,b3,b4⟩;have hne:pm≠pn:=b3 (pm,M.o g 113 A n c) (by simp);refine ⟨pn,rfl,A,n,c,K2,A',n',c',K3,b1.drop fun q hq=>?_,h2,b2,fun q hq=>?_,hne⟩
 ·simp only [ztT,zt1] at hq ⊢;rcases hq with hq|hq|hq|hq|hq<;>simp [hq]
 ·rcases zt1.1 hq with hq|hq
  ·exact ⟨h3 q (by simp [hq]),b3 q (by simp [hq])⟩
  ·rcases zt1.1 hq with hq|hq
   ·obtain ⟨cur,hc⟩:=b4 q hq;exact ⟨b1.ne (cs:=imc g M.p.su M.H M.s (R A n c) (M.u:Nat)) (t:=113) (by simp) (by decide) (by simp [hq]) hc,b3 q (by simp [hq])⟩
   ·exact ⟨h3 q (by simp [hq]),b3 q (by simp [hq])⟩
theorem zhW {d:St} {n:Nat} {S L:Nat} (h:Alv d n) (ok:(Ip.mk v S L 0 0 0 0).Ok) (hn:4+2*(S+L)≤n) (g0:J.rdG d ((0:Nat):Int)=0) (g2:J.rdG d ((2:Nat):Int)=0) :
 ∃ d5,Ig n ⟨d5,⟨v,S,L,0,0,0,0⟩,hd0,sn0,[],1,1⟩ ∧
 (∀ w W g K1,Dvx w g K1 d W→G I 13 #[ptr g,C E v,C E S,C E L] W fun x w'=>x=Q (C E 0)∧Dvx w g K1 d5 w') ∧
 ∀ w W g K1,Rvx w g K1 d W→G I 14 #[ptr g,C E v,C E S,C E L] W fun x w'=>x=Q (C E 0)∧Rvx w g K1 d5 w':=by
 obtain ⟨d1,d2,d3,d4,d5,e1,e2,e2o,e3,e4,e5,F,im⟩:=zl9 (p:=⟨v,S,L,0,0,0,0⟩) h ok rfl hn (by rw [g0];decide) (by rw [g2];decide);rw [g0,g2] at im;refine ⟨d5,⟨im,fun i e he=>(by simp at he),ztO _,ztO _⟩,fun w W g K1 hD=>?_,fun w W g K1 hD=>?_⟩
 ·have:=zlD (v:=v) (S:=S) (L:=L) hD ok (by rw [h.n];exact hn)
  rw [F] at this;exact this
 ·exact zkK hD ok (by rw [h.n];exact hn) e1 e2 e2o e3 e4 e5
end
end Go.Proofs.YtidndekacnmihaaGreat
