/- Parts of a proof. -/
import Derived.Test.YtidndekacnmihaaGreatF03
import Derived.Test.YtidndekacnmihaaGreatF11
set_option linter.unusedVariables false
set_option linter.unusedSimpArgs false
set_option maxHeartbeats 8000000
set_option maxRecDepth 100000
namespace Go.Proofs.YtidndekacnmihaaGreat
open Go.RowKit
section
open Dk
theorem zjh {w:World} {B gr:Nat} {L:List Nat} {d:St} {K:List Nat} {gd:Nat} {e:St} (h:Rf w B gr L d) (hD:Dv w gd K e):∀ k∈L,k∉K:=by
 intro k hk hm;obtain ⟨cur,t,hh,ht⟩:=h.types k hk;obtain ⟨_,fb,mb,cap,rfl,hA⟩:=hD;simp at hm;rcases hm with rfl|rfl|rfl
 ·rcases ht with rfl|rfl|rfl<;>(have:=hh.symm.trans hA.blk;simp at this)
 ·obtain ⟨cur',h1,_⟩:=hA.row;rcases ht with rfl|rfl|rfl<;>(have:=hh.symm.trans h1;simp at this)
 ·obtain ⟨D,⟨es,clock,hb,_⟩,_⟩:=hA.map
  have:=hh.symm.trans hb;simp at this
def Dvx (w:World) (g:Nat) (K:List (Nat×Obj)) (d:St) (W:World):Prop :=
 ∃ L,Dv W g L d∧(∀ x∈L,w.heap.size≤x)∧Below w.heap.size w W∧∀ p∈K,W.heap[p.1]?=some p.2∧p.1∉L∧w.heap.size≤p.1
section
variable {w W W':World} {g:Nat} {K:List (Nat×Obj)} {d d':St}
theorem Dvx.be (h:Dvx w g K d W):Below w.heap.size w W:=by obtain ⟨L,h1,h3,h4,h5⟩:=h;exact h4
theorem Dvx.below (h:Dvx w g K d W) (hb:Below W.heap.size W W'):Dvx w g K d W':=by
 obtain ⟨L,h1,h3,h4,h5⟩:=h;exact ⟨L,h1.below hb,h3,h4.trans (hb.mono h4.size),fun p hp=>⟨(hb.block _ (Array.getElem?_eq_some_iff.1 (h5 p hp).1).1).trans (h5 p hp).1,(h5 p hp).2⟩⟩
theorem Dvx.drew (h:Dvx w g K d W):Dvx w g K d W.drew:=h.below (Below.refl _ W).drew
theorem Dvx.get (h:Dvx w g K d W) {k:Nat} {o:Obj} (hm:(k,o)∈K):W.heap[k]?=some o:=by obtain ⟨L,h1,h3,h4,h5⟩:=h;exact (h5 _ hm).1
theorem Dvx.low (h:Dvx w g K d W) {k:Nat} {o:Obj} (hm:(k,o)∈K):w.heap.size≤k:=by obtain ⟨L,h1,h3,h4,h5⟩:=h;exact (h5 _ hm).2.2
theorem Dvx.dok (h:Dvx w g K d W):d.Ok:=by obtain ⟨L,h1,h3,h4,h5⟩:=h;exact h1.1
theorem Dvx.add (h:Dvx w g K d W) (hb:Below W.heap.size W W') {k:Nat} {o:Obj} (hk:W.heap.size≤k) (ho:W'.heap[k]?=some o):Dvx w g ((k,o) :: K) d W':=by
 have hs:=h.be.size;obtain ⟨L,h1,h3,h4,h5⟩:=h;refine ⟨L,h1.below hb,h3,h4.trans (hb.mono h4.size),fun p hp=>?_⟩;rcases zsL.1 hp with rfl|hp
 ·exact ⟨ho,fun hm=>by have:=h1.lt _ hm;simp at this;omega,zsB hs hk⟩
 ·exact ⟨(hb.block _ (Array.getElem?_eq_some_iff.1 (h5 p hp).1).1).trans (h5 p hp).1,(h5 p hp).2⟩
theorem Dvx.c1 {f:Nat} {xs:Array Value} {r:Ending} (h:Dvx w g K d W) (hc:∀ L,Dv W g L d→Calls Tryz.prog f xs W fun x w'=>x=r∧zav g L d' W w') :
 Calls Tryz.prog f xs W fun x w'=>x=r∧Dvx w g K d' w':=by
 obtain ⟨L,h1,h3,h4,h5⟩:=h;refine (hc L h1).mono fun x w' ⟨hx,hm⟩=>⟨hx,?_⟩;obtain ⟨L',a1,a2,a3,a4,a5,a6⟩:=hm.below h4 h4.size h3;refine ⟨L',a1,a2,a3,fun p hp=>?_⟩;obtain ⟨b1,b2,b3⟩:=h5 p hp;have hlt:=(zgx b1);exact ⟨(a5.block _ hlt b2).trans b1,fun hx=>(a6 _ hx).elim b2 (fun h=>by omega),b3⟩
theorem Dvx.q1 {f:Nat} {xs:Array Value} {r:Ending} (h:Dvx w g K d W) (hc:∀ L,Dv W g L d→Calls Tryz.prog f xs W fun x w'=>x=r∧Below W.heap.size W w') :
 Calls Tryz.prog f xs W fun x w'=>x=r∧Dvx w g K d w'∧Below W.heap.size W w':=by
 have h0:=h;obtain ⟨L,h1,h3,h4,h5⟩:=h;exact (hc L h1).mono fun x w' ⟨hx,hm⟩=>⟨hx,h0.below hm,hm⟩
end
theorem Dvx.new {w W:World} {K:List (Nat×Obj)} (n:Nat) (h1:1≤n) (h2:n≤4096) (hb:Below w.heap.size w W) (hK:∀ p∈K,W.heap[p.1]?=some p.2∧w.heap.size≤p.1) :
 Calls Tryz.prog 11 #[.int .i64 n] W fun x w'=>∃ g,x=.returned (.tuple #[ptr g,.int .i64 0])∧Dvx w g K (St.fresh n fun _=>zsec) w':=by
 refine (zqL n W h1 h2).mono ?_;rintro e w2 ⟨g,L,rfl,D2,l2,b2⟩;refine ⟨g,rfl,L,D2,fun x hx=>zsB hb.size (l2 x hx),hb.trans (b2.mono hb.size),fun p hp=>?_⟩;have hlt:=(Array.getElem?_eq_some_iff.1 (hK p hp).1).1;exact ⟨(b2.block _ hlt).trans (hK p hp).1,fun hm=>by have:=l2 _ hm;omega,(hK p hp).2⟩
section
variable {w W W':World} {g gr:Nat} {K:List (Nat×Obj)} {d e d' e':St}
end
theorem Dk.Rf.base {w:World} {B B' gr:Nat} {L:List Nat} {d:St} (h:Rf w B gr L d) (hB:B'≤B):Rf w B' gr L d:=by
 obtain ⟨ho,v1,v2,v3,rfl,hA⟩:=h
 have lo:∀ {e n:Nat} {v:Value} {xs:List Value},w.ownsRow B e 1 v n xs→w.ownsRow B' e 1 v n xs:=by
  intro e n v xs h;obtain ⟨hl,h⟩:=h;refine ⟨hl,?_⟩;rcases h with h|⟨gb,c,cur,rfl,hb,r⟩
  ·exact .inl h
  ·exact .inr ⟨gb,c,cur,rfl,by omega,r⟩
 exact ⟨ho,v1,v2,v3,rfl,⟨hA.blk,lo hA.r1,lo hA.r2,lo hA.r3,hA.ap,by have:=hA.hB;omega⟩⟩
section
variable {w W W':World} {g gr:Nat} {K:List (Nat×Obj)} {d e d' e':St}
end
def Bk (K:List (Nat×Obj)) (Z:World):Prop:=∀ q∈K,Z.heap[q.1]?=some q.2
section
variable {w W W':World} {g gr:Nat} {K K':List (Nat×Obj)} {d e d' e':St}
theorem Dvx.bk (h:Dvx w g K d W):Bk K W:=by obtain ⟨L,h1,h3,h4,h5⟩:=h;exact fun q hq=>(h5 q hq).1
theorem Dvx.drop (h:Dvx w g K d W) (hs:∀ q∈K',q∈K):Dvx w g K' d W:=by obtain ⟨L,h1,h3,h4,h5⟩:=h;exact ⟨L,h1,h3,h4,fun q hq=>h5 q (hs q hq)⟩
theorem Dvx.put {k:Nat} {o o':Obj} (h:Dvx w g ((k,o) :: K) d W) (hn:∀ p∈K,p.1≠k) (h1:W'.heap[k]?=some o') (h2:∀ j,j≠k→W'.heap[j]?=W.heap[j]?) (h3:Below w.heap.size w W'):Dvx w g ((k,o') :: K) d W':=by
 obtain ⟨L,a1,a3,a4,a5⟩:=h;have hk5:=(a5 (k,o) (by simp)).2;refine ⟨L,a1.of_heap fun j hj=>h2 j (fun e=>hk5.1 (by subst e;exact hj)),a3,h3,fun p hp=>?_⟩;rcases zsL.1 hp with rfl|hp
 ·exact ⟨h1,hk5⟩
 ·have:=a5 p (by simp [hp]);exact ⟨(h2 _ (hn p hp)).trans this.1,this.2⟩
theorem Dvx.adds (h:Dvx w g K d W) (hb:Below W.heap.size W W') (K2:List (Nat×Obj)) (h2:∀ q∈K2,W.heap.size≤q.1∧W'.heap[q.1]?=some q.2):Dvx w g (K2++K) d W':=by
 have hs:=h.be.size;obtain ⟨L,h1,h3,h4,h5⟩:=h;refine ⟨L,h1.below hb,h3,h4.trans (hb.mono h4.size),fun p hp=>?_⟩;rcases zsP.1 hp with hp|hp
 ·exact ⟨(h2 p hp).2,fun hm=>by have:=h1.lt _ hm;have:=(h2 p hp).1;omega,zsB hs (h2 p hp).1⟩
 ·exact ⟨(hb.block _ (Array.getElem?_eq_some_iff.1 (h5 p hp).1).1).trans (h5 p hp).1,(h5 p hp).2⟩
def zcI (K:List (Nat×Obj)) (A:Option Addr) (n:Nat) (es:List En):Prop:=∀ Z,Bk K Z→zcJ Z.heap.size A n es Z
def Lg (B:Nat) (K:List (Nat×Obj)) (A:Option Addr) (n c:Nat) (es:List En):Prop:=∀ Z,Bk K Z→Le B A n c es Z
theorem Lg.rd {B:Nat} {A:Option Addr} {n c:Nat} {es:List En} (h:Lg B K A n c es):zcI K A n es:=fun Z hz=>(h Z hz).ents
theorem Lg.sub {B:Nat} {A:Option Addr} {n c:Nat} {es:List En} (h:Lg B K A n c es) (hs:∀ q∈K,q∈K'):Lg B K' A n c es:=fun Z hz=>h Z fun q hq=>hz q (hs q hq)
theorem zcI.sub {A:Option Addr} {n:Nat} {es:List En} (h:zcI K A n es) (hs:∀ q∈K,q∈K'):zcI K' A n es:=fun Z hz=>h Z fun q hq=>hz q (hs q hq)
theorem Lg.nil (B:Nat) (K:List (Nat×Obj)):Lg B K none 0 0 []:=fun Z _=>Le.nil B Z
theorem zcI.nil (K:List (Nat×Obj)):zcI K none 0 []:=fun Z _=>(Le.nil 0 Z).ents
theorem Lg.low {B B':Nat} {A:Option Addr} {n c:Nat} {es:List En} (h:Lg B K A n c es) (hB:B'≤B):Lg B' K A n c es:=fun Z hz=>⟨zbv hB (h Z hz).own,(h Z hz).len⟩
theorem Dvx.addLe {B:Nat} {A:Option Addr} {n c:Nat} {es:List En} (h:Dvx w g K d W) (hb:Below W.heap.size W W') (hl:Le B A n c es W') (hB:W.heap.size≤B):∃ K2,Dvx w g (K2++K) d W'∧Lg B K2 A n c es∧∀ q∈K2,W.heap.size≤q.1:=by
 rcases hl.own.2 with ⟨hv,h0⟩|⟨gb,cap,cur,hv,h1,h2,h3⟩
 ·refine ⟨[],h.below hb,fun Z _=>⟨⟨hl.own.1,.inl ⟨hv,h0⟩⟩,hl.len⟩,fun q hq=>by cases hq⟩
 ·refine ⟨[(gb,.cells cur 69 (0,0))],h.add hb (by omega) h2,fun Z hz=>⟨⟨hl.own.1,.inr ⟨gb,cap,cur,hv,h1,hz (gb,.cells cur 69 (0,0)) (by simp),h3⟩⟩,hl.len⟩,fun q hq=>?_⟩;simp at hq;rw [hq];omega
end
end
def Ent (F:Nat):Prop:=∀ (xs:Array Value) (w:World),(callFunc F xs).run Tryz.prog w=.ok (.enter F xs) w
theorem zjg (b:Nat) (fs:List Value) (n:Nat) (hn:fs.length=n) (hn2:n≤100) (I:Nat→World→Prop) (R:Int→World→Prop) (w:World) (hI:∀ k w1,I k w1→w1.heap[b]?=some (.cells fs.toArray 96 (0,0))) (h0:I 0 w)
 (hf:∀ k,k<n→∃ F xs ys,fs[k]?=some (.func (.func F) xs ys)∧Ent F∧∀ w1,I k w1→Calls Tryz.prog F (xs++ys) w1 fun e w'=>∃ z:Int,e=.returned (.int .i64 z)∧(z=0→I (k+1) w')∧(z≠0→R z w')) :
 Calls Tryz.prog 40 #[.slice (some ⟨b,0,none⟩) n n] w fun e w'=>∃ z:Int,e=.returned (.int .i64 z)∧(z=0→I n w')∧(z≠0→R z w'):=by
 have H0:=zh h0;have HI:=zh hI;have HF:=zh hf;clear h0 hI hf hn;go_enter Tryz.func40,Tryz.ntmps40;go_wp2
 go_loopw [8] (fun i wr=>∃ k:Nat,i=.int .i64 k∧k≤n∧Hid (I k wr)) (fun i _=>n-(Go.RowKit.intOf i).toNat)
 case atStart=>exact ⟨0,rfl,zsE _,H0⟩
 case round =>
  obtain ⟨k,rfl,hk2,hP⟩:=hrel
  by_cases hlt:k<n
  ·have t1:decide ((k:Int)<(n:Int))=true:=zsD (by omega);obtain ⟨F,xs,ys,hF,hE,hs⟩:=HF.out k hlt;have hb:=HI.out k wr hP.out;have c1:wr.cell? ⟨b,k,none⟩=some (.func (.func F) xs ys):=(zcr wr b k _ 96 (0,0) hb).trans (by simpa using hF);have K:=zh (hs wr hP.out);have HE:Hid (Ent F):=hE;clear hF hE hs
   go_upto_region 5 with fail
   rw [HE.out,Oper.upon_enter];refine K.out.mono ?_;rintro q w1 ⟨z,rfl,hz0,hz1⟩;clear K hP hb c1
   by_cases hz:z=0
   ·have Z0:Hid (I (k+1) w1):=hz0 hz;clear hz0 hz1;subst hz;go_wp2
    go_roundw
    case rel=>exact ⟨k+1,by go_num,by omega,Z0⟩
    case measure=>simp [Go.RowKit.intOf];omega
   ·have Z1:=zh (hz1 hz);clear hz0 hz1;have e1:(z==0)=false:=by simpa using hz
    have e2:(z != 0)=true:=by unfold bne;rw [e1];rfl
    go_wp2;go_ret;exact ⟨z,rfl,fun h=>absurd h hz,fun _=>Z1.out⟩
  ·have hkt:k=n:=by omega
   subst hkt;have t1:decide ((k:Int)<(k:Int))=false:=zsC (by omega);go_wp2;go_ret;exact ⟨0,rfl,fun _=>hP.out,fun h=>absurd rfl h⟩
section
open Dk
def Stp (F:Nat) (xs:Array Value) (I J:World→Prop) (R:Int→World→Prop):Prop:=∀ Z,I Z→Calls Tryz.prog F xs Z fun e w'=>∃ z:Int,e=.returned (.int .i64 z)∧(z=0→J w')∧(z≠0→R z w')
theorem zle {K:List (Nat×Obj)} {W:World} {b F0 F1 F2:Nat} {x0 y0 x1 y1 x2 y2:Array Value} (hb:(b,Obj.cells #[.func (.func F0) x0 y0,.func (.func F1) x1 y1,.func (.func F2) x2 y2] 96 (0,0))∈K)
 (e0:Ent F0) (e1:Ent F1) (e2:Ent F2) (I0 I1 I2 I3:World→Prop) (R:Int→World→Prop) (k0:∀ Z,I0 Z→Bk K Z) (k1:∀ Z,I1 Z→Bk K Z) (k2:∀ Z,I2 Z→Bk K Z) (k3:∀ Z,I3 Z→Z.heap[b]?=some (.cells #[.func (.func F0) x0 y0,.func (.func F1) x1 y1,.func (.func F2) x2 y2] 96 (0,0))) (h0:I0 W)
 (s0:Stp F0 (x0++y0) I0 I1 R) (s1:Stp F1 (x1++y1) I1 I2 R) (s2:Stp F2 (x2++y2) I2 I3 R) :
 Calls Tryz.prog 40 #[.slice (some ⟨b,0,none⟩) 3 3] W fun e w'=>∃ z:Int,e=.returned (.int .i64 z)∧(z=0→I3 w')∧(z≠0→R z w'):=by
 refine zjg b [.func (.func F0) x0 y0,.func (.func F1) x1 y1,.func (.func F2) x2 y2] 3 rfl (by omega) (fun k=>match k with|0=>I0|1=>I1|2=>I2|_=>I3) R W ?_ h0 ?_
 ·intro k Z hk
  match k,hk with
  | 0,hk=>exact k0 _ hk _ hb
  | 1,hk=>exact k1 _ hk _ hb
  | 2,hk=>exact k2 _ hk _ hb
  | _+3,hk=>exact k3 _ hk
 ·intro k hk
  match k,hk with
  | 0,_=>exact ⟨F0,x0,y0,rfl,e0,s0⟩
  | 1,_=>exact ⟨F1,x1,y1,rfl,e1,s1⟩
  | 2,_=>exact ⟨F2,x2,y2,rfl,e2,s2⟩
  | _+3,h=>omega
theorem zq1 {K:List (Nat×Obj)} {W:World} {b F0 F1 F2 F3 F4:Nat} {x0 y0 x1 y1 x2 y2 x3 y3 x4 y4:Array Value}
 (hb:(b,Obj.cells #[.func (.func F0) x0 y0,.func (.func F1) x1 y1,.func (.func F2) x2 y2,.func (.func F3) x3 y3,.func (.func F4) x4 y4] 96 (0,0))∈K)
 (e0:Ent F0) (e1:Ent F1) (e2:Ent F2) (e3:Ent F3) (e4:Ent F4) (I0 I1 I2 I3 I4 I5:World→Prop) (R:Int→World→Prop)
 (k0:∀ Z,I0 Z→Bk K Z) (k1:∀ Z,I1 Z→Bk K Z) (k2:∀ Z,I2 Z→Bk K Z) (k3:∀ Z,I3 Z→Bk K Z) (k4:∀ Z,I4 Z→Bk K Z) (k5:∀ Z,I5 Z→Z.heap[b]?=some (.cells #[.func (.func F0) x0 y0,.func (.func F1) x1 y1,.func (.func F2) x2 y2,.func (.func F3) x3 y3,.func (.func F4) x4 y4] 96 (0,0))) (h0:I0 W)
 (s0:Stp F0 (x0++y0) I0 I1 R) (s1:Stp F1 (x1++y1) I1 I2 R) (s2:Stp F2 (x2++y2) I2 I3 R) (s3:Stp F3 (x3++y3) I3 I4 R) (s4:Stp F4 (x4++y4) I4 I5 R) :
 Calls Tryz.prog 40 #[.slice (some ⟨b,0,none⟩) 5 5] W fun e w'=>∃ z:Int,e=.returned (.int .i64 z)∧(z=0→I5 w')∧(z≠0→R z w'):=by
 refine zjg b [.func (.func F0) x0 y0,.func (.func F1) x1 y1,.func (.func F2) x2 y2,.func (.func F3) x3 y3,.func (.func F4) x4 y4] 5 rfl (by omega) (fun k=>match k with|0=>I0|1=>I1|2=>I2|3=>I3|4=>I4|_=>I5) R W ?_ h0 ?_
 ·intro k Z hk
  match k,hk with
  | 0,hk=>exact k0 _ hk _ hb
  | 1,hk=>exact k1 _ hk _ hb
  | 2,hk=>exact k2 _ hk _ hb
  | 3,hk=>exact k3 _ hk _ hb
  | 4,hk=>exact k4 _ hk _ hb
  | _+5,hk=>exact k5 _ hk
 ·intro k hk
  match k,hk with
  | 0,_=>exact ⟨F0,x0,y0,rfl,e0,s0⟩
  | 1,_=>exact ⟨F1,x1,y1,rfl,e1,s1⟩
  | 2,_=>exact ⟨F2,x2,y2,rfl,e2,s2⟩
  | 3,_=>exact ⟨F3,x3,y3,rfl,e3,s3⟩
  | 4,_=>exact ⟨F4,x4,y4,rfl,e4,s4⟩
  | _+5,h=>omega
theorem Stp.of {F:Nat} {xs:Array Value} {I J:World→Prop} {R:Int→World→Prop} {r:Int} {P:World→Prop} (h:∀ Z,I Z→Calls Tryz.prog F xs Z fun e w'=>e=.returned (.int .i64 r)∧P w')
 (hJ:∀ Z,r=0→P Z→J Z) (hR:∀ Z,r≠0→P Z→R r Z):Stp F xs I J R:=fun Z hZ=>(h Z hZ).mono fun e w' ⟨h1,h2⟩=>⟨r,h1,fun hz=>hJ _ hz h2,fun hz=>hR _ hz h2⟩
end
theorem zdB {fn:Func} {p:Tmp} {ty:TypeId} (h:fn.results=#[.cell p ty]) (tmps:Array Value) (P:Program) (w:World) :
 (results fn tmps).run P w=((asAddr (tmps.getD p undef)).run P w).andThen fun a w₁=>(loadVar ty a).run P w₁:=by
 simp only [results,h];simp [Sem.run_bind,Result.andThen]
theorem Tryz.ip7:(Tryz.prog.info? 65).map (fun i=>i.size)=some 7:=by kernel_rfl
theorem zr2 (tmps:Array Value) (w:World) (b:Nat) (c:Array Value) (hc:c.size=7) (hp:tmps.getD 2 undef=.pointer (some ⟨b,0,none⟩)) (hg:w.heap[b]?=some (.cells c 65 (0,0))) :
 (results Tryz.f97 tmps).run Tryz.prog w=.ok (.agg c) w:=by
 rw [zdB Tryz.results97,hp];simp [asAddr,run_loadVar_row w b 65 65 c (0,0) _ hg Tryz.underlying65 rfl (by rw [Tryz.ip7,hc])]
structure Ip where
 v:Int
 S:Nat
 L:Nat
 a:Nat
 h:Nat
 gl:Int
 sp:Int
structure Ip.Ok (p:Ip):Prop where
 v:p.v=1∨p.v=2
 S:1≤p.S∧p.S≤1000
 L:1≤p.L∧p.L≤1000
 a:p.a≤1
 h:p.h≤1
abbrev Ip.c (p:Ip):Array Value:=#[.int .i64 p.v,.int .i64 p.S,.int .i64 p.L,.int .i64 p.a,.int .i64 p.h,.int .i64 p.gl,.int .i64 p.sp]
abbrev Ip.val (p:Ip):Value:=.agg p.c
def Ip.aA (p:Ip) (k:Nat):Nat:=4+k*p.S
def Ip.hA (p:Ip) (k:Nat):Nat:=4+2*p.S+k*p.L
theorem zaK (n hi:Int) (w:World):Calls Tryz.prog 155 #[.int .i64 n,.int .i64 hi] w fun e w'=>e=.returned (.bool (decide (0≤n)&&decide (n≤hi)))∧w=w':=by
 by_cases h0:0≤n
 ·have t0:decide (0≤n)=true:=zsD h0;rw [t0];go_enter Tryz.func155,Tryz.ntmps155;go_wp2;go_ret;exact ⟨by simp,rfl⟩
 ·have t0:decide (0≤n)=false:=zsC h0;rw [t0];go_enter Tryz.func155,Tryz.ntmps155;go_wp2;go_ret;exact ⟨by simp,rfl⟩
theorem zao {w:World} {b:Nat} {p:Ip} {t:Nat} (h:w.heap[b]?=some (.cells p.c t (0,0))) :
 w.cell? ⟨b,0,none⟩=some (.int .i64 p.v)∧w.cell? ⟨b,1,none⟩=some (.int .i64 p.S)∧w.cell? ⟨b,2,none⟩=some (.int .i64 p.L)∧w.cell? ⟨b,3,none⟩=some (.int .i64 p.a)∧w.cell? ⟨b,4,none⟩=some (.int .i64 p.h)∧w.cell? ⟨b,5,none⟩=some (.int .i64 p.gl)∧w.cell? ⟨b,6,none⟩=some (.int .i64 p.sp) :=
 ⟨zcr _ _ 0 _ t (0,0) h,zcr _ _ 1 _ t (0,0) h,zcr _ _ 2 _ t (0,0) h,zcr _ _ 3 _ t (0,0) h,zcr _ _ 4 _ t (0,0) h,zcr _ _ 5 _ t (0,0) h,zcr _ _ 6 _ t (0,0) h⟩
theorem zf2 (p:Ip) (ok:p.Ok) (k:Nat) (hk:k≤1) (w:World):Calls Tryz.prog 103 #[p.val,.int .i64 k] w fun e w'=>e=.returned (.bool true)∧Below w.heap.size w w':=by
 have hB:=(Below.refl w.heap.size w).alloc (zsy _) (.cells p.c 65);have hc:=zsz w (.cells p.c 65);obtain ⟨c0,c1,c2,c3,c4,c5,c6⟩:=zao hc;have K:=zh (fun n hi W=>zaK n hi W)
 have K1:Hid (∀ W,Calls Tryz.prog 155 #[.int .i64 k,.int .i64 1] W fun e w'=>e=.returned (.bool true)∧W=w'):=fun W=>by
  have:=K.out k 1 W;rwa [zsD (by omega),zsD (by omega)] at this
 have K2:Hid (∀ W,Calls Tryz.prog 155 #[.int .i64 p.S,.int .i64 4096] W fun e w'=>e=.returned (.bool true)∧W=w'):=fun W=>by
  have:=ok.S;have:=K.out p.S 4096 W;rwa [zsD (by omega),zsD (by omega)] at this
 have K3:Hid (∀ W,Calls Tryz.prog 155 #[.int .i64 p.L,.int .i64 4096] W fun e w'=>e=.returned (.bool true)∧W=w'):=fun W=>by
  have:=ok.L;have:=K.out p.L 4096 W;rwa [zsD (by omega),zsD (by omega)] at this
 have HB:=zh hB;clear hB hc K;unfold Ip.val;go_enter Tryz.func103,Tryz.ntmps103
 go_wp2_with (go_at_call 155;(with_reducible first|refine (K1.out _).mono ?_|refine (K2.out _).mono ?_|refine (K3.out _).mono ?_);rintro q w1 ⟨rfl,rfl⟩)
 go_ret;exact ⟨rfl,HB.out⟩
theorem zd9 (p:Ip) (ok:p.Ok) (k:Nat) (hk:k≤1) (w:World):Calls Tryz.prog 35 #[p.val,.int .i64 k] w fun e w'=>e=.returned (.int .i64 (p.aA k:Nat))∧Below w.heap.size w w':=by
 have hB:=(Below.refl w.heap.size w).alloc (zsy _) (.cells p.c 65);have hc:=zsz w (.cells p.c 65);have HB:=zh hB;have HC:=zh hc;have K:=zh (fun W=>zf2 p ok k hk W);have hS:=ok.S
 have u1:wrap64 ((k:Int)*(p.S:Int))=(k:Int)*(p.S:Int):=by
  unfold wrap64;rcases (show k=0∨k=1 by omega) with rfl|rfl<;>omega
 have u2:wrap64 (4+(k:Int)*(p.S:Int))=4+(k:Int)*(p.S:Int):=by
  unfold wrap64;rcases (show k=0∨k=1 by omega) with rfl|rfl<;>omega
 have e1:((p.aA k:Nat):Int)=4+(k:Int)*(p.S:Int):=by
  unfold Ip.aA;push_cast;rfl
 obtain ⟨c0,c1,c2,c3,c4,c5,c6⟩:=zao hc;rw [e1];clear hB hc e1 ok;unfold Ip.val at *;go_enter Tryz.func35,Tryz.ntmps35
 go_wp2_with (go_at_call 103;(with_reducible refine (K.out _).mono ?_);rintro q w1 ⟨rfl,b1⟩;have HC1:=(b1.block _ (zgx HC.out)).trans HC.out;obtain ⟨d0,d1,d2,d3,d4,d5,d6⟩:=zao HC1)
 go_ret;refine ⟨?_,HB.out.trans (b1.mono HB.out.size)⟩;show Ending.returned (.int .i64 (wrap64 (4+(k:Int)*(p.S:Int))))=_;rw [u2]
theorem zf3 (p:Ip) (ok:p.Ok) (k:Nat) (hk:k≤1) (w:World):Calls Tryz.prog 36 #[p.val,.int .i64 k] w fun e w'=>e=.returned (.int .i64 (p.hA k:Nat))∧Below w.heap.size w w':=by
 have hB:=(Below.refl w.heap.size w).alloc (zsy _) (.cells p.c 65);have hc:=zsz w (.cells p.c 65);have HB:=zh hB;have HC:=zh hc;have K:=zh (fun W=>zf2 p ok k hk W);have hS:=ok.S;have hL:=ok.L
 have u1:wrap64 ((k:Int)*(p.L:Int))=(k:Int)*(p.L:Int):=by
  unfold wrap64;rcases (show k=0∨k=1 by omega) with rfl|rfl<;>omega
 have u2:wrap64 (2*(p.S:Int))=2*(p.S:Int):=by unfold wrap64;omega
 have u3:wrap64 (4+2*(p.S:Int))=4+2*(p.S:Int):=by unfold wrap64;omega
 have u4:wrap64 (4+2*(p.S:Int)+(k:Int)*(p.L:Int))=4+2*(p.S:Int)+(k:Int)*(p.L:Int):=by
  unfold wrap64;rcases (show k=0∨k=1 by omega) with rfl|rfl<;>omega
 have e1:((p.hA k:Nat):Int)=4+2*(p.S:Int)+(k:Int)*(p.L:Int):=by
  unfold Ip.hA;push_cast;rfl
 obtain ⟨c0,c1,c2,c3,c4,c5,c6⟩:=zao hc;rw [e1];clear hB hc e1 ok;unfold Ip.val at *;go_enter Tryz.func36,Tryz.ntmps36
 go_wp2_with (go_at_call 103;(with_reducible refine (K.out _).mono ?_);rintro q w1 ⟨rfl,b1⟩;have HC1:=(b1.block _ (zgx HC.out)).trans HC.out;obtain ⟨d0,d1,d2,d3,d4,d5,d6⟩:=zao HC1)
 go_ret;refine ⟨?_,HB.out.trans (b1.mono HB.out.size)⟩;show Ending.returned (.int .i64 (wrap64 (4+2*(p.S:Int)+(k:Int)*(p.L:Int))))=_;rw [u4]
theorem zhb (b:Bool) (w:World):Calls Tryz.prog 78 #[.bool b] w fun e w'=>e=.returned (.int .i64 (if b then 0 else 1))∧w=w':=by
 cases b <;>
 ·go_enter Tryz.func78,Tryz.ntmps78;go_wp2;go_ret;exact ⟨rfl,rfl⟩
def Ip.turn (p:Ip):Ip:={ p with a:=1-p.a,h:=1-p.h }
theorem Ip.Ok.turn {p:Ip} (ok:p.Ok):p.turn.Ok:=⟨ok.v,ok.S,ok.L,by show 1-p.a≤1;omega,by show 1-p.h≤1;omega⟩
theorem zka (p:Ip) (ok:p.Ok) (w:World):Calls Tryz.prog 97 #[p.val] w fun e w'=>e=.returned p.turn.val∧Below w.heap.size w w':=by
 have ha:=ok.a;have hh:=ok.h;have e1:((1-p.a:Nat):Int)=1-(p.a:Int):=by omega
 have e2:((1-p.h:Nat):Int)=1-(p.h:Int):=by omega
 have u1:wrap64 (1-(p.a:Int))=1-(p.a:Int):=by unfold wrap64;omega
 have u2:wrap64 (1-(p.h:Int))=1-(p.h:Int):=by unfold wrap64;omega
 have hr:p.turn.val=.agg #[.int .i64 p.v,.int .i64 p.S,.int .i64 p.L,.int .i64 (1-(p.a:Int)),.int .i64 (1-(p.h:Int)),.int .i64 p.gl,.int .i64 p.sp]:=by
  show Value.agg #[_,_,_,.int .i64 ((1-p.a:Nat):Int),.int .i64 ((1-p.h:Nat):Int),_,_]=_;rw [e1,e2];rfl
 rw [hr];clear e1 e2 hr;unfold Ip.val Ip.c;go_enter Tryz.func97,Tryz.ntmps97;go_wp2;refine zsF (v:=_) (zr2 _ _ (w.heap.size+1) _ rfl rfl (heap_alloc2_new w _ _)) rfl ⟨rfl,?_⟩;exact ((Below.refl _ w).alloc (zsy _) _).alloc (by simp) _
theorem Tryz.rg3:(Tryz.prog.info? 138).map (fun i=>i.size)=some 3:=by kernel_rfl
theorem zr3 (tmps:Array Value) (w:World) (b:Nat) (c:Array Value) (hc:c.size=3) (hp:tmps.getD 2 undef=.pointer (some ⟨b,0,none⟩)) (hg:w.heap[b]?=some (.cells c 138 (0,0))) :
 (results Tryz.f81 tmps).run Tryz.prog w=.ok (.agg c) w:=by
 rw [zdB Tryz.results81,hp];simp [asAddr,run_loadVar_row w b 138 138 c (0,0) _ hg Tryz.underlying138 rfl (by rw [Tryz.rg3,hc])]
theorem sc3 {w w':World} {b j:Nat} {x y z:Value} (h:w'=((w.setCell ⟨b+1,0,none⟩ x).setCell ⟨b+1,1,none⟩ y).setCell ⟨b+1,2,none⟩ z):w'.cell? ⟨b,j,none⟩=w.cell? ⟨b,j,none⟩:=by
 subst h;exact ztp ((zsQ _ _ _ _ (by simp)).trans ((zsQ _ _ _ _ (by simp)).trans (zsQ _ _ _ _ (by simp))))
theorem zeD (p:Ip) (ok:p.Ok) (w:World):Calls Tryz.prog 81 #[p.val] w fun e w'=>e=.returned (.agg #[.int .i64 (p.hA p.h:Nat),.int .i64 p.L,.int .i64 p.v])∧Below w.heap.size w w':=by
 obtain ⟨W,hW⟩:∃ W,W=(w.alloc (.cells p.c 65)).alloc (.cells #[.int .i64 0,.int .i64 0,.int .i64 0] 138):=⟨_,rfl⟩;have hB:Below w.heap.size w W:=by rw [hW];exact ((Below.refl _ w).alloc (zsy _) _).alloc (by simp) _
 have hc:W.heap[w.heap.size]?=some (.cells p.c 65 (0,0)):=by rw [hW];exact (zsG _ _ _ (by simp)).trans (zsz w _)
 have hd:W.heap[w.heap.size+1]?=some (.cells #[.int .i64 0,.int .i64 0,.int .i64 0] 138 (0,0)):=by rw [hW];exact heap_alloc2_new w _ _
 have HB:=zh hB;have HC:=zh hc;have HD:=zh hd;have HW:=zh hW;have K:=zh (fun W=>zf3 p ok p.h ok.h W);obtain ⟨x,hx⟩:∃ x:Int,x=((p.hA p.h:Nat):Int):=⟨_,rfl⟩;rw [←hx] at K ⊢;have hcd:W.drew.heap[w.heap.size]?=some (.cells p.c 65 (0,0)):=hc;obtain ⟨c0,c1,c2,c3,c4,c5,c6⟩:=zao hcd;clear hB hc hd hW hx ok;unfold Ip.val at *;go_enter Tryz.func81,Tryz.ntmps81
 go_upto_region 1 with fail
 refine zaf (w:=W) HW.out.symm ?_;have hdd:W.drew.heap[w.heap.size+1]?=some (.cells #[.int .i64 0,.int .i64 0,.int .i64 0] 138 (0,0)):=HD.out;have g0:=zcr W.drew (w.heap.size+1) 0 _ 138 (0,0) hdd;have g1:=zcr W.drew (w.heap.size+1) 1 _ 138 (0,0) hdd;have g2:=zcr W.drew (w.heap.size+1) 2 _ 138 (0,0) hdd;have f0:=frozen_of_row W.drew (w.heap.size+1) 0 _ 138 hdd;have f1:=frozen_of_row W.drew (w.heap.size+1) 1 _ 138 hdd;have f2:=frozen_of_row W.drew (w.heap.size+1) 2 _ 138 hdd
 go_region_held3 (fun w'=>w'.cell? ⟨w.heap.size,0,none⟩=some (.int .i64 p.v)∧w'.cell? ⟨w.heap.size,1,none⟩=some (.int .i64 p.S)∧w'.cell? ⟨w.heap.size,2,none⟩=some (.int .i64 p.L)∧w'.cell? ⟨w.heap.size,3,none⟩=some (.int .i64 p.a)∧w'.cell? ⟨w.heap.size,4,none⟩=some (.int .i64 p.h)∧w'.cell? ⟨w.heap.size,5,none⟩=some (.int .i64 p.gl)∧w'.cell? ⟨w.heap.size,6,none⟩=some (.int .i64 p.sp)) (first|exact ⟨c0,c1,c2,c3,c4,c5,c6⟩|exact ⟨d0,d1,d2,d3,d4,d5,d6⟩|exact ⟨(sc3 rfl).trans d0,(sc3 rfl).trans d1,(sc3 rfl).trans d2,(sc3 rfl).trans d3,(sc3 rfl).trans d4,(sc3 rfl).trans d5,(sc3 rfl).trans d6⟩) (first
  | (go_at_call 36;(with_reducible refine (K.out _).mono ?_);rintro q w1 ⟨rfl,b1⟩;have HC1:w1.heap[w.heap.size]?=some (.cells p.c 65 (0,0)):=(b1.block _ (zgx HC.out)).trans HC.out;obtain ⟨d0,d1,d2,d3,d4,d5,d6⟩:=zao HC1;have HD1:w1.heap[w.heap.size+1]?=some (.cells #[.int .i64 0,.int .i64 0,.int .i64 0] 138 (0,0)):=(b1.block _ (zgx HD.out)).trans HD.out;have HB1:=HB.out.drew.trans (b1.mono HB.out.size);have k0:=zcr w1 (w.heap.size+1) 0 _ 138 (0,0) HD1;have k1:=zcr w1 (w.heap.size+1) 1 _ 138 (0,0) HD1;have k2:=zcr w1 (w.heap.size+1) 2 _ 138 (0,0) HD1;have l0:=frozen_of_row w1 (w.heap.size+1) 0 _ 138 HD1;have l1:=frozen_of_row w1 (w.heap.size+1) 1 _ 138 HD1;have l2:=frozen_of_row w1 (w.heap.size+1) 2 _ 138 HD1))
 have H9:((((w1.setCell ⟨w.heap.size+1,0,none⟩ (.int .i64 x)).setCell ⟨w.heap.size+1,1,none⟩ (.int .i64 p.L)).setCell ⟨w.heap.size+1,2,none⟩ (.int .i64 p.v))).heap[w.heap.size+1]?=some (.cells #[.int .i64 x,.int .i64 p.L,.int .i64 p.v] 138 (0,0)) :=
  (heap_setCell_same _ _ 2 _ 138 _ ((heap_setCell_same _ _ 1 _ 138 _ ((heap_setCell_same _ _ 0 _ 138 _ HD1).trans rfl)).trans rfl)).trans rfl
 have HB9:Below w.heap.size w ((((w1.setCell ⟨w.heap.size+1,0,none⟩ (.int .i64 x)).setCell ⟨w.heap.size+1,1,none⟩ (.int .i64 p.L)).setCell ⟨w.heap.size+1,2,none⟩ (.int .i64 p.v))) :=
  ((HB1.setCell (by show _≤w.heap.size+1;omega) _).setCell (by show _≤w.heap.size+1;omega) _).setCell (by show _≤w.heap.size+1;omega) _
 go_wp2;exact zsF (v:=_) (zr3 _ _ (w.heap.size+1) _ rfl rfl H9) rfl ⟨rfl,HB9⟩
end Go.Proofs.YtidndekacnmihaaGreat
