/- Parts of a proof. -/
import Derived.Test.YtidndekacnmihaaGreatC04
import Derived.Test.YtidndekacnmihaaGreatC11
set_option linter.all false
set_option maxHeartbeats 8000000
set_option maxRecDepth 100000
namespace Go.Proofs.YtidndekacnmihaaGreat
open Bool renaming true→U
open Ending renaming returned→O
open Go renaming World→G,Calls→N,Value→T
open Go.RowKit renaming Below→Q,intOf→Y
open Go.RowKit.Below renaming refl→V
open IntKind renaming i64→s
open Obj renaming cells→M
open Option renaming some→C,none→E
open Tryz renaming prog→H
open Value renaming int→l,bool→X
open Tryz
variable {W w:G} {B B' F0 F1 F2 b f gr k n:Nat} {K:List (Nat×Obj)} {o:Obj} {x0 x1 x2 xs y0 y1 y2:Array T} {r:Ending} {A:Option Addr}
open Go.RowKit
section
open Dk
theorem zju {L:List Nat} {d:St} {K:List Nat} {gd:Nat} {e:St} (h:Rf w B gr L d) (hD:Dv w gd K e):∀ k∈L,k∉K:=by
 intro k hk hm;obtain ⟨cur,t,hh,ht⟩:=h.types k hk;obtain ⟨_,fb,mb,cap,rfl,hA⟩:=hD;simp at hm;rcases hm with rfl|rfl|rfl
 ·rcases ht with rfl|rfl|rfl<;>(have:=hh.symm.trans hA.blk;simp at this)
 ·obtain ⟨cur',h1,_⟩:=hA.row;rcases ht with rfl|rfl|rfl<;>(have:=hh.symm.trans h1;simp at this)
 ·obtain ⟨D,⟨es,clock,hb,_⟩,_⟩:=hA.map
  have:=hh.symm.trans hb;simp at this
def Dvx (w:G) (g:Nat) (K:List (Nat×Obj)) (d:St) (W:G):Prop :=
 ∃ L,Dv W g L d∧(∀ x∈L,w.heap.size≤x)∧Q w.heap.size w W∧∀ p∈K,W.heap[p.1]?=C p.2∧p.1∉L∧w.heap.size≤p.1
section
variable {w W W':G} {g:Nat} {K:List (Nat×Obj)} {d d':St}
theorem Dvx.be (h:Dvx w g K d W):Q w.heap.size w W:=by obtain ⟨L,h1,h3,h4,h5⟩:=h;exact h4
theorem Dvx.below (h:Dvx w g K d W) (hb:Q W.heap.size W W'):Dvx w g K d W':=by
 obtain ⟨L,h1,h3,h4,h5⟩:=h;exact ⟨L,h1.below hb,h3,h4.trans (hb.mono h4.size),fun p hp=>⟨(hb.block _ (Array.getElem?_eq_some_iff.1 (h5 p hp).1).1).trans (h5 p hp).1,(h5 p hp).2⟩⟩
theorem Dvx.drew (h:Dvx w g K d W):Dvx w g K d W.drew:=h.below (V _ W).drew
theorem Dvx.get (h:Dvx w g K d W) (hm:(k,o)∈K):W.heap[k]?=C o:=by obtain ⟨L,h1,h3,h4,h5⟩:=h;exact (h5 _ hm).1
theorem Dvx.low (h:Dvx w g K d W) (hm:(k,o)∈K):w.heap.size≤k:=by obtain ⟨L,h1,h3,h4,h5⟩:=h;exact (h5 _ hm).2.2
theorem Dvx.dok (h:Dvx w g K d W):d.Ok:=by obtain ⟨L,h1,h3,h4,h5⟩:=h;exact h1.1
theorem Dvx.add (h:Dvx w g K d W) (hb:Q W.heap.size W W') (hk:W.heap.size≤k) (ho:W'.heap[k]?=C o):Dvx w g ((k,o) :: K) d W':=by
 have hs:=h.be.size;obtain ⟨L,h1,h3,h4,h5⟩:=h;refine ⟨L,h1.below hb,h3,h4.trans (hb.mono h4.size),fun p hp=>?_⟩;rcases ztT.1 hp with rfl|hp
 ·exact ⟨ho,fun hm=>by have:=h1.lt _ hm;simp at this;omega,ztL hs hk⟩
 ·exact ⟨(hb.block _ (Array.getElem?_eq_some_iff.1 (h5 p hp).1).1).trans (h5 p hp).1,(h5 p hp).2⟩
theorem Dvx.c1 (h:Dvx w g K d W) (hc:∀ L,Dv W g L d→N H f xs W fun x w'=>x=r∧zav g L d' W w') :
 N H f xs W fun x w'=>x=r∧Dvx w g K d' w':=by
 obtain ⟨L,h1,h3,h4,h5⟩:=h;refine (hc L h1).mono fun x w' ⟨hx,hm⟩=>⟨hx,?_⟩;obtain ⟨L',a1,a2,a3,a4,a5,a6⟩:=hm.below h4 h4.size h3;refine ⟨L',a1,a2,a3,fun p hp=>?_⟩;obtain ⟨b1,b2,b3⟩:=h5 p hp;have hlt:=(zgx b1);exact ⟨(a5.block _ hlt b2).trans b1,fun hx=>(a6 _ hx).elim b2 (fun h=>by omega),b3⟩
theorem Dvx.q1 (h:Dvx w g K d W) (hc:∀ L,Dv W g L d→N H f xs W fun x w'=>x=r∧Q W.heap.size W w') :
 N H f xs W fun x w'=>x=r∧Dvx w g K d w'∧Q W.heap.size W w':=by
 have h0:=h;obtain ⟨L,h1,h3,h4,h5⟩:=h;exact (hc L h1).mono fun x w' ⟨hx,hm⟩=>⟨hx,h0.below hm,hm⟩
theorem Dvx.a1 {f:Nat} {xs:Array T} (h:Dvx w g K d W) (hc:∀ L,Dv W g L d→N H f xs W fun x w'=>∃ g' L',x=O (ptr g')∧Dv w' g' L' d'∧(∀ k∈L',W.heap.size≤k)∧Q W.heap.size W w') :
 N H f xs W fun x w'=>∃ g',x=O (ptr g')∧Dvx w g' K d' w':=by
 obtain ⟨L,h1,h3,h4,h5⟩:=h;refine (hc L h1).mono fun x w' ⟨g',L',hx,a1,a2,a3⟩=>⟨g',hx,L',a1,fun k hk=>ztL h4.size (a2 k hk),h4.trans (a3.mono h4.size),fun p hp=>?_⟩;have hlt:=(Array.getElem?_eq_some_iff.1 (h5 p hp).1).1;exact ⟨(a3.block _ hlt).trans (h5 p hp).1,fun hm=>by have:=a2 _ hm;omega,(h5 p hp).2.2⟩
end
theorem Dvx.new (n:Nat) (h1:1≤n) (h2:n≤4096) (hb:Q w.heap.size w W) (hK:∀ p∈K,W.heap[p.1]?=C p.2∧w.heap.size≤p.1) :
 N H 11 #[l s n] W fun x w'=>∃ g,x=O (.tuple #[ptr g,l s 0])∧Dvx w g K (St.fresh n fun _=>zsec) w':=by
 refine (zrR n W h1 h2).mono ?_;rintro e w2 ⟨g,L,rfl,D2,l2,b2⟩;refine ⟨g,rfl,L,D2,fun x hx=>ztL hb.size (l2 x hx),hb.trans (b2.mono hb.size),fun p hp=>?_⟩;have hlt:=(Array.getElem?_eq_some_iff.1 (hK p hp).1).1;exact ⟨(b2.block _ hlt).trans (hK p hp).1,fun hm=>by have:=l2 _ hm;omega,(hK p hp).2⟩
section
variable {w W W':G} {g gr:Nat} {K:List (Nat×Obj)} {d e d' e':St}
end
theorem Dk.Rf.base {L:List Nat} {d:St} (h:Rf w B gr L d) (hB:B'≤B):Rf w B' gr L d:=by
 obtain ⟨ho,v1,v2,v3,rfl,hA⟩:=h
 have lo:∀ {e n:Nat} {v:T} {xs:List T},w.ownsRow B e 1 v n xs→w.ownsRow B' e 1 v n xs:=by
  intro e n v xs h;obtain ⟨hl,h⟩:=h;refine ⟨hl,?_⟩;rcases h with h|⟨gb,c,cur,rfl,hb,r⟩
  ·exact .inl h
  ·exact .inr ⟨gb,c,cur,rfl,by omega,r⟩
 exact ⟨ho,v1,v2,v3,rfl,⟨hA.blk,lo hA.r1,lo hA.r2,lo hA.r3,hA.ap,by have:=hA.hB;omega⟩⟩
section
variable {w W W':G} {g gr:Nat} {K:List (Nat×Obj)} {d e d' e':St}
end
def Bk (K:List (Nat×Obj)) (Z:G):Prop:=∀ q∈K,Z.heap[q.1]?=C q.2
section
variable {w W W':G} {g gr:Nat} {K K':List (Nat×Obj)} {d e d' e':St}
theorem Dvx.bk (h:Dvx w g K d W):Bk K W:=by obtain ⟨L,h1,h3,h4,h5⟩:=h;exact fun q hq=>(h5 q hq).1
theorem Dvx.drop (h:Dvx w g K d W) (hs:∀ q∈K',q∈K):Dvx w g K' d W:=by obtain ⟨L,h1,h3,h4,h5⟩:=h;exact ⟨L,h1,h3,h4,fun q hq=>h5 q (hs q hq)⟩
theorem Dvx.put {o':Obj} (h:Dvx w g ((k,o) :: K) d W) (hn:∀ p∈K,p.1≠k) (h1:W'.heap[k]?=C o') (h2:∀ j,j≠k→W'.heap[j]?=W.heap[j]?) (h3:Q w.heap.size w W'):Dvx w g ((k,o') :: K) d W':=by
 obtain ⟨L,a1,a3,a4,a5⟩:=h;have hk5:=(a5 (k,o) (by simp)).2;refine ⟨L,a1.of_heap fun j hj=>h2 j (fun e=>hk5.1 (by subst e;exact hj)),a3,h3,fun p hp=>?_⟩;rcases ztT.1 hp with rfl|hp
 ·exact ⟨h1,hk5⟩
 ·have:=a5 p (by simp [hp]);exact ⟨(h2 _ (hn p hp)).trans this.1,this.2⟩
theorem Dvx.adds (h:Dvx w g K d W) (hb:Q W.heap.size W W') (K2:List (Nat×Obj)) (h2:∀ q∈K2,W.heap.size≤q.1∧W'.heap[q.1]?=C q.2):Dvx w g (K2++K) d W':=by
 have hs:=h.be.size;obtain ⟨L,h1,h3,h4,h5⟩:=h;refine ⟨L,h1.below hb,h3,h4.trans (hb.mono h4.size),fun p hp=>?_⟩;rcases zt1.1 hp with hp|hp
 ·exact ⟨(h2 p hp).2,fun hm=>by have:=h1.lt _ hm;have:=(h2 p hp).1;omega,ztL hs (h2 p hp).1⟩
 ·exact ⟨(hb.block _ (Array.getElem?_eq_some_iff.1 (h5 p hp).1).1).trans (h5 p hp).1,(h5 p hp).2⟩
def zcO (K:List (Nat×Obj)) (A:Option Addr) (n:Nat) (es:List En):Prop:=∀ Z,Bk K Z→zcx Z.heap.size A n es Z
def Lg (B:Nat) (K:List (Nat×Obj)) (A:Option Addr) (n c:Nat) (es:List En):Prop:=∀ Z,Bk K Z→Le B A n c es Z
theorem Lg.rd {c:Nat} {es:List En} (h:Lg B K A n c es):zcO K A n es:=fun Z hz=>(h Z hz).ents
theorem Lg.sub {c:Nat} {es:List En} (h:Lg B K A n c es) (hs:∀ q∈K,q∈K'):Lg B K' A n c es:=fun Z hz=>h Z fun q hq=>hz q (hs q hq)
theorem zcO.sub {es:List En} (h:zcO K A n es) (hs:∀ q∈K,q∈K'):zcO K' A n es:=fun Z hz=>h Z fun q hq=>hz q (hs q hq)
theorem Lg.nil (B:Nat) (K:List (Nat×Obj)):Lg B K E 0 0 []:=fun Z _=>Le.nil B Z
theorem zcO.nil (K:List (Nat×Obj)):zcO K E 0 []:=fun Z _=>(Le.nil 0 Z).ents
theorem Lg.low {c:Nat} {es:List En} (h:Lg B K A n c es) (hB:B'≤B):Lg B' K A n c es:=fun Z hz=>⟨zbA hB (h Z hz).own,(h Z hz).len⟩
theorem Dvx.addLe {c:Nat} {es:List En} (h:Dvx w g K d W) (hb:Q W.heap.size W W') (hl:Le B A n c es W') (hB:W.heap.size≤B):∃ K2,Dvx w g (K2++K) d W'∧Lg B K2 A n c es∧∀ q∈K2,W.heap.size≤q.1:=by
 rcases hl.own.2 with ⟨hv,h0⟩|⟨gb,cap,cur,hv,h1,h2,h3⟩
 ·refine ⟨[],h.below hb,fun Z _=>⟨⟨hl.own.1,.inl ⟨hv,h0⟩⟩,hl.len⟩,fun q hq=>by cases hq⟩
 ·refine ⟨[(gb,M cur 69 (0,0))],h.add hb (by omega) h2,fun Z hz=>⟨⟨hl.own.1,.inr ⟨gb,cap,cur,hv,h1,hz (gb,M cur 69 (0,0)) (by simp),h3⟩⟩,hl.len⟩,fun q hq=>?_⟩;simp at hq;rw [hq];omega
end
end
def Ent (F:Nat):Prop:=∀ (xs:Array T) (w:G),(callFunc F xs).run H w=.ok (.enter F xs) w
theorem zjt (b:Nat) (fs:List T) (n:Nat) (hn:fs.length=n) (hn2:n≤100) (I:Nat→G→Prop) (R:Int→G→Prop) (w:G) (hI:∀ k w1,I k w1→w1.heap[b]?=C (M fs.toArray 96 (0,0))) (h0:I 0 w)
 (hf:∀ k,k<n→∃ F xs ys,fs[k]?=C (.func (.func F) xs ys)∧Ent F∧∀ w1,I k w1→N H F (xs++ys) w1 fun e w'=>∃ z:Int,e=O (l s z)∧(z=0→I (k+1) w')∧(z≠0→R z w')) :
 N H 40 #[.slice (C ⟨b,0,E⟩) n n] w fun e w'=>∃ z:Int,e=O (l s z)∧(z=0→I n w')∧(z≠0→R z w'):=by
 have H0:=zh h0;have HI:=zh hI;have HF:=zh hf;clear h0 hI hf hn;go_enter func40,ntmps40;go_wp2
 go_loopw [8] (fun i wr=>∃ k:Nat,i=l s k∧k≤n∧Hid (I k wr)) (fun i _=>n-(Y i).toNat)
 case atStart=>exact ⟨0,rfl,ztO _,H0⟩
 case round =>
  obtain ⟨k,rfl,hk2,hP⟩:=hrel
  by_cases hlt:k<n
  ·have t1:decide ((k:Int)<(n:Int))=U:=ztN (by omega);obtain ⟨F,xs,ys,hF,hE,hs⟩:=HF.out k hlt;have hb:=HI.out k wr hP.out;have c1:wr.cell? ⟨b,k,E⟩=C (.func (.func F) xs ys):=(zcr wr b k _ 96 (0,0) hb).trans (by simpa using hF);have K:=zh (hs wr hP.out);have HE:Hid (Ent F):=hE;clear hF hE hs
   go_upto_region 5 with fail
   rw [HE.out,Oper.upon_enter];refine K.out.mono ?_;rintro q w1 ⟨z,rfl,hz0,hz1⟩;clear K hP hb c1
   by_cases hz:z=0
   ·have Z0:Hid (I (k+1) w1):=hz0 hz;clear hz0 hz1;subst hz;go_wp2
    go_roundw
    case rel=>exact ⟨k+1,by go_num,by omega,Z0⟩
    case measure=>simp [Y];omega
   ·have Z1:=zh (hz1 hz);clear hz0 hz1;have e1:(z==0)=false:=by simpa using hz
    have e2:(z != 0)=U:=by unfold bne;rw [e1];rfl
    go_wp2;go_ret;exact ⟨z,rfl,fun h=>absurd h hz,fun _=>Z1.out⟩
  ·have hkt:k=n:=by omega
   subst hkt;have t1:decide ((k:Int)<(k:Int))=false:=ztM (by omega);go_wp2;go_ret;exact ⟨0,rfl,fun _=>hP.out,fun h=>absurd rfl h⟩
section
open Dk
def Stp (F:Nat) (xs:Array T) (I J:G→Prop) (R:Int→G→Prop):Prop:=∀ Z,I Z→N H F xs Z fun e w'=>∃ z:Int,e=O (l s z)∧(z=0→J w')∧(z≠0→R z w')
theorem zlH (hb:(b,M #[.func (.func F0) x0 y0,.func (.func F1) x1 y1,.func (.func F2) x2 y2] 96 (0,0))∈K)
 (e0:Ent F0) (e1:Ent F1) (e2:Ent F2) (I0 I1 I2 I3:G→Prop) (R:Int→G→Prop) (k0:∀ Z,I0 Z→Bk K Z) (k1:∀ Z,I1 Z→Bk K Z) (k2:∀ Z,I2 Z→Bk K Z) (k3:∀ Z,I3 Z→Z.heap[b]?=C (M #[.func (.func F0) x0 y0,.func (.func F1) x1 y1,.func (.func F2) x2 y2] 96 (0,0))) (h0:I0 W)
 (s0:Stp F0 (x0++y0) I0 I1 R) (s1:Stp F1 (x1++y1) I1 I2 R) (s2:Stp F2 (x2++y2) I2 I3 R) :
 N H 40 #[.slice (C ⟨b,0,E⟩) 3 3] W fun e w'=>∃ z:Int,e=O (l s z)∧(z=0→I3 w')∧(z≠0→R z w'):=by
 refine zjt b [.func (.func F0) x0 y0,.func (.func F1) x1 y1,.func (.func F2) x2 y2] 3 rfl (by omega) (fun k=>match k with|0=>I0|1=>I1|2=>I2|_=>I3) R W ?_ h0 ?_
 ·intro k Z hk
  match k,hk with
  | 0,hk=>exact k0 _ hk _ hb
  | 1,hk=>exact k1 _ hk _ hb
  | 2,hk=>exact k2 _ hk _ hb
  | _+3,hk=>exact k3 _ hk
 ·intro k hk
  match k,hk with
  | 0,_=>exact ⟨F0,x0,y0,rfl,e0,s0⟩
  | 1,_=>exact ⟨F1,x1,y1,rfl,e1,s1⟩
  | 2,_=>exact ⟨F2,x2,y2,rfl,e2,s2⟩
  | _+3,h=>omega
theorem zr7 {F3 F4:Nat} {x3 y3 x4 y4:Array T}
 (hb:(b,M #[.func (.func F0) x0 y0,.func (.func F1) x1 y1,.func (.func F2) x2 y2,.func (.func F3) x3 y3,.func (.func F4) x4 y4] 96 (0,0))∈K)
 (e0:Ent F0) (e1:Ent F1) (e2:Ent F2) (e3:Ent F3) (e4:Ent F4) (I0 I1 I2 I3 I4 I5:G→Prop) (R:Int→G→Prop)
 (k0:∀ Z,I0 Z→Bk K Z) (k1:∀ Z,I1 Z→Bk K Z) (k2:∀ Z,I2 Z→Bk K Z) (k3:∀ Z,I3 Z→Bk K Z) (k4:∀ Z,I4 Z→Bk K Z) (k5:∀ Z,I5 Z→Z.heap[b]?=C (M #[.func (.func F0) x0 y0,.func (.func F1) x1 y1,.func (.func F2) x2 y2,.func (.func F3) x3 y3,.func (.func F4) x4 y4] 96 (0,0))) (h0:I0 W)
 (s0:Stp F0 (x0++y0) I0 I1 R) (s1:Stp F1 (x1++y1) I1 I2 R) (s2:Stp F2 (x2++y2) I2 I3 R) (s3:Stp F3 (x3++y3) I3 I4 R) (s4:Stp F4 (x4++y4) I4 I5 R) :
 N H 40 #[.slice (C ⟨b,0,E⟩) 5 5] W fun e w'=>∃ z:Int,e=O (l s z)∧(z=0→I5 w')∧(z≠0→R z w'):=by
 refine zjt b [.func (.func F0) x0 y0,.func (.func F1) x1 y1,.func (.func F2) x2 y2,.func (.func F3) x3 y3,.func (.func F4) x4 y4] 5 rfl (by omega) (fun k=>match k with|0=>I0|1=>I1|2=>I2|3=>I3|4=>I4|_=>I5) R W ?_ h0 ?_
 ·intro k Z hk
  match k,hk with
  | 0,hk=>exact k0 _ hk _ hb
  | 1,hk=>exact k1 _ hk _ hb
  | 2,hk=>exact k2 _ hk _ hb
  | 3,hk=>exact k3 _ hk _ hb
  | 4,hk=>exact k4 _ hk _ hb
  | _+5,hk=>exact k5 _ hk
 ·intro k hk
  match k,hk with
  | 0,_=>exact ⟨F0,x0,y0,rfl,e0,s0⟩
  | 1,_=>exact ⟨F1,x1,y1,rfl,e1,s1⟩
  | 2,_=>exact ⟨F2,x2,y2,rfl,e2,s2⟩
  | 3,_=>exact ⟨F3,x3,y3,rfl,e3,s3⟩
  | 4,_=>exact ⟨F4,x4,y4,rfl,e4,s4⟩
  | _+5,h=>omega
theorem Stp.of {F:Nat} {I J:G→Prop} {R:Int→G→Prop} {r:Int} {P:G→Prop} (h:∀ Z,I Z→N H F xs Z fun e w'=>e=O (l s r)∧P w')
 (hJ:∀ Z,r=0→P Z→J Z) (hR:∀ Z,r≠0→P Z→R r Z):Stp F xs I J R:=fun Z hZ=>(h Z hZ).mono fun e w' ⟨h1,h2⟩=>⟨r,h1,fun hz=>hJ _ hz h2,fun hz=>hR _ hz h2⟩
end
theorem zdL {fn:Func} {p:Tmp} {ty:TypeId} (h:fn.results=#[.cell p ty]) (tmps:Array T) (P:Program) (w:G) :
 (results fn tmps).run P w=((asAddr (tmps.getD p undef)).run P w).andThen fun a w₁=>(loadVar ty a).run P w₁:=by
 simp only [results,h];simp [Sem.run_bind,Result.andThen]
theorem ip7:(prog.info? 65).map (fun i=>i.size)=C 7:=by kernel_rfl
theorem zs9 (tmps:Array T) (w:G) (b:Nat) (c:Array T) (hc:c.size=7) (hp:tmps.getD 2 undef=.pointer (C ⟨b,0,E⟩)) (hg:w.heap[b]?=C (M c 65 (0,0))) :
 (results f97 tmps).run H w=.ok (.agg c) w:=by
 rw [zdL results97,hp];simp [asAddr,run_loadVar_row w b 65 65 c (0,0) _ hg underlying65 rfl (by rw [ip7,hc])]
structure Ip where
 v:Int
 S:Nat
 L:Nat
 a:Nat
 h:Nat
 gl:Int
 sp:Int
structure Ip.Ok (p:Ip):Prop where
 v:p.v=1∨p.v=2
 S:1≤p.S∧p.S≤1000
 L:1≤p.L∧p.L≤1000
 a:p.a≤1
 h:p.h≤1
abbrev Ip.c (p:Ip):Array T:=#[l s p.v,l s p.S,l s p.L,l s p.a,l s p.h,l s p.gl,l s p.sp]
abbrev Ip.val (p:Ip):T:=.agg p.c
def Ip.aA (p:Ip) (k:Nat):Nat:=4+k*p.S
def Ip.hA (p:Ip) (k:Nat):Nat:=4+2*p.S+k*p.L
theorem zaL (n hi:Int) (w:G):N H 155 #[l s n,l s hi] w fun e w'=>e=O (X (decide (0≤n)&&decide (n≤hi)))∧w=w':=by
 by_cases h0:0≤n
 ·have t0:decide (0≤n)=U:=ztN h0;rw [t0];go_enter func155,ntmps155;go_wp2;go_ret;exact ⟨by simp,rfl⟩
 ·have t0:decide (0≤n)=false:=ztM h0;rw [t0];go_enter func155,ntmps155;go_wp2;go_ret;exact ⟨by simp,rfl⟩
theorem zao {p:Ip} {t:Nat} (h:w.heap[b]?=C (M p.c t (0,0))) :
 w.cell? ⟨b,0,E⟩=C (l s p.v)∧w.cell? ⟨b,1,E⟩=C (l s p.S)∧w.cell? ⟨b,2,E⟩=C (l s p.L)∧w.cell? ⟨b,3,E⟩=C (l s p.a)∧w.cell? ⟨b,4,E⟩=C (l s p.h)∧w.cell? ⟨b,5,E⟩=C (l s p.gl)∧w.cell? ⟨b,6,E⟩=C (l s p.sp) :=
 ⟨zcr _ _ 0 _ t (0,0) h,zcr _ _ 1 _ t (0,0) h,zcr _ _ 2 _ t (0,0) h,zcr _ _ 3 _ t (0,0) h,zcr _ _ 4 _ t (0,0) h,zcr _ _ 5 _ t (0,0) h,zcr _ _ 6 _ t (0,0) h⟩
theorem zf9 (p:Ip) (ok:p.Ok) (k:Nat) (hk:k≤1) (w:G):N H 103 #[p.val,l s k] w fun e w'=>e=O (X U)∧Q w.heap.size w w':=by
 have hB:=(V w.heap.size w).alloc (ztI _) (M p.c 65);have hc:=ztJ w (M p.c 65);obtain ⟨c0,c1,c2,c3,c4,c5,c6⟩:=zao hc;have K:=zh (fun n hi W=>zaL n hi W)
 have K1:Hid (∀ W,N H 155 #[l s k,l s 1] W fun e w'=>e=O (X U)∧W=w'):=fun W=>by
  have:=K.out k 1 W;rwa [ztN (by omega),ztN (by omega)] at this
 have K2:Hid (∀ W,N H 155 #[l s p.S,l s 4096] W fun e w'=>e=O (X U)∧W=w'):=fun W=>by
  have:=ok.S;have:=K.out p.S 4096 W;rwa [ztN (by omega),ztN (by omega)] at this
 have K3:Hid (∀ W,N H 155 #[l s p.L,l s 4096] W fun e w'=>e=O (X U)∧W=w'):=fun W=>by
  have:=ok.L;have:=K.out p.L 4096 W;rwa [ztN (by omega),ztN (by omega)] at this
 have HB:=zh hB;clear hB hc K;unfold Ip.val;go_enter func103,ntmps103
 go_wp2_with (go_at_call 155;(with_reducible first|refine (K1.out _).mono ?_|refine (K2.out _).mono ?_|refine (K3.out _).mono ?_);rintro q w1 ⟨rfl,rfl⟩)
 go_ret;exact ⟨rfl,HB.out⟩
theorem zef (p:Ip) (ok:p.Ok) (k:Nat) (hk:k≤1) (w:G):N H 35 #[p.val,l s k] w fun e w'=>e=O (l s (p.aA k:Nat))∧Q w.heap.size w w':=by
 have hB:=(V w.heap.size w).alloc (ztI _) (M p.c 65);have hc:=ztJ w (M p.c 65);have HB:=zh hB;have HC:=zh hc;have K:=zh (fun W=>zf9 p ok k hk W);have hS:=ok.S
 have u1:wrap64 ((k:Int)*(p.S:Int))=(k:Int)*(p.S:Int):=by
  unfold wrap64;rcases (show k=0∨k=1 by omega) with rfl|rfl<;>omega
 have u2:wrap64 (4+(k:Int)*(p.S:Int))=4+(k:Int)*(p.S:Int):=by
  unfold wrap64;rcases (show k=0∨k=1 by omega) with rfl|rfl<;>omega
 have e1:((p.aA k:Nat):Int)=4+(k:Int)*(p.S:Int):=by
  unfold Ip.aA;push_cast;rfl
 obtain ⟨c0,c1,c2,c3,c4,c5,c6⟩:=zao hc;rw [e1];clear hB hc e1 ok;unfold Ip.val at *;go_enter func35,ntmps35
 go_wp2_with (go_at_call 103;(with_reducible refine (K.out _).mono ?_);rintro q w1 ⟨rfl,b1⟩;have HC1:=(b1.block _ (zgx HC.out)).trans HC.out;obtain ⟨d0,d1,d2,d3,d4,d5,d6⟩:=zao HC1)
 go_ret;refine ⟨?_,HB.out.trans (b1.mono HB.out.size)⟩;show O (l s (wrap64 (4+(k:Int)*(p.S:Int))))=_;rw [u2]
theorem zga (p:Ip) (ok:p.Ok) (k:Nat) (hk:k≤1) (w:G):N H 36 #[p.val,l s k] w fun e w'=>e=O (l s (p.hA k:Nat))∧Q w.heap.size w w':=by
 have hB:=(V w.heap.size w).alloc (ztI _) (M p.c 65);have hc:=ztJ w (M p.c 65);have HB:=zh hB;have HC:=zh hc;have K:=zh (fun W=>zf9 p ok k hk W);have hS:=ok.S;have hL:=ok.L
 have u1:wrap64 ((k:Int)*(p.L:Int))=(k:Int)*(p.L:Int):=by
  unfold wrap64;rcases (show k=0∨k=1 by omega) with rfl|rfl<;>omega
 have u2:wrap64 (2*(p.S:Int))=2*(p.S:Int):=by unfold wrap64;omega
 have u3:wrap64 (4+2*(p.S:Int))=4+2*(p.S:Int):=by unfold wrap64;omega
 have u4:wrap64 (4+2*(p.S:Int)+(k:Int)*(p.L:Int))=4+2*(p.S:Int)+(k:Int)*(p.L:Int):=by
  unfold wrap64;rcases (show k=0∨k=1 by omega) with rfl|rfl<;>omega
 have e1:((p.hA k:Nat):Int)=4+2*(p.S:Int)+(k:Int)*(p.L:Int):=by
  unfold Ip.hA;push_cast;rfl
 obtain ⟨c0,c1,c2,c3,c4,c5,c6⟩:=zao hc;rw [e1];clear hB hc e1 ok;unfold Ip.val at *;go_enter func36,ntmps36
 go_wp2_with (go_at_call 103;(with_reducible refine (K.out _).mono ?_);rintro q w1 ⟨rfl,b1⟩;have HC1:=(b1.block _ (zgx HC.out)).trans HC.out;obtain ⟨d0,d1,d2,d3,d4,d5,d6⟩:=zao HC1)
 go_ret;refine ⟨?_,HB.out.trans (b1.mono HB.out.size)⟩;show O (l s (wrap64 (4+2*(p.S:Int)+(k:Int)*(p.L:Int))))=_;rw [u4]
theorem zhq (b:Bool) (w:G):N H 78 #[X b] w fun e w'=>e=O (l s (if b then 0 else 1))∧w=w':=by
 cases b <;>
 ·go_enter func78,ntmps78;go_wp2;go_ret;exact ⟨rfl,rfl⟩
def Ip.turn (p:Ip):Ip:={ p with a:=1-p.a,h:=1-p.h }
theorem Ip.Ok.turn {p:Ip} (ok:p.Ok):p.turn.Ok:=⟨ok.v,ok.S,ok.L,by show 1-p.a≤1;omega,by show 1-p.h≤1;omega⟩
theorem zkt (p:Ip) (ok:p.Ok) (w:G):N H 97 #[p.val] w fun e w'=>e=O p.turn.val∧Q w.heap.size w w':=by
 have ha:=ok.a;have hh:=ok.h;have e1:((1-p.a:Nat):Int)=1-(p.a:Int):=by omega
 have e2:((1-p.h:Nat):Int)=1-(p.h:Int):=by omega
 have u1:wrap64 (1-(p.a:Int))=1-(p.a:Int):=by unfold wrap64;omega
 have u2:wrap64 (1-(p.h:Int))=1-(p.h:Int):=by unfold wrap64;omega
 have hr:p.turn.val=.agg #[l s p.v,l s p.S,l s p.L,l s (1-(p.a:Int)),l s (1-(p.h:Int)),l s p.gl,l s p.sp]:=by
  show Value.agg #[_,_,_,l s ((1-p.a:Nat):Int),l s ((1-p.h:Nat):Int),_,_]=_;rw [e1,e2];rfl
 rw [hr];clear e1 e2 hr;unfold Ip.val Ip.c;go_enter func97,ntmps97;go_wp2;refine ztP (v:=_) (zs9 _ _ (w.heap.size+1) _ rfl rfl (heap_alloc2_new w _ _)) rfl ⟨rfl,?_⟩;exact ((V _ w).alloc (ztI _) _).alloc (by simp) _
theorem rg3:(prog.info? 138).map (fun i=>i.size)=C 3:=by kernel_rfl
theorem zta (tmps:Array T) (w:G) (b:Nat) (c:Array T) (hc:c.size=3) (hp:tmps.getD 2 undef=.pointer (C ⟨b,0,E⟩)) (hg:w.heap[b]?=C (M c 138 (0,0))) :
 (results f81 tmps).run H w=.ok (.agg c) w:=by
 rw [zdL results81,hp];simp [asAddr,run_loadVar_row w b 138 138 c (0,0) _ hg underlying138 rfl (by rw [rg3,hc])]
theorem sc3 {w':G} {j:Nat} {x y z:T} (h:w'=((w.setCell ⟨b+1,0,E⟩ x).setCell ⟨b+1,1,E⟩ y).setCell ⟨b+1,2,E⟩ z):w'.cell? ⟨b,j,E⟩=w.cell? ⟨b,j,E⟩:=by
 subst h;exact zuE ((ztX _ _ _ _ (by simp)).trans ((ztX _ _ _ _ (by simp)).trans (ztX _ _ _ _ (by simp))))
theorem zeL (p:Ip) (ok:p.Ok) (w:G):N H 81 #[p.val] w fun e w'=>e=O (.agg #[l s (p.hA p.h:Nat),l s p.L,l s p.v])∧Q w.heap.size w w':=by
 obtain ⟨W,hW⟩:∃ W,W=(w.alloc (M p.c 65)).alloc (M #[l s 0,l s 0,l s 0] 138):=⟨_,rfl⟩;have hB:Q w.heap.size w W:=by rw [hW];exact ((V _ w).alloc (ztI _) _).alloc (by simp) _
 have hc:W.heap[w.heap.size]?=C (M p.c 65 (0,0)):=by rw [hW];exact (ztQ _ _ _ (by simp)).trans (ztJ w _)
 have hd:W.heap[w.heap.size+1]?=C (M #[l s 0,l s 0,l s 0] 138 (0,0)):=by rw [hW];exact heap_alloc2_new w _ _
 have HB:=zh hB;have HC:=zh hc;have HD:=zh hd;have HW:=zh hW;have K:=zh (fun W=>zga p ok p.h ok.h W);obtain ⟨x,hx⟩:∃ x:Int,x=((p.hA p.h:Nat):Int):=⟨_,rfl⟩;rw [←hx] at K ⊢;have hcd:W.drew.heap[w.heap.size]?=C (M p.c 65 (0,0)):=hc;obtain ⟨c0,c1,c2,c3,c4,c5,c6⟩:=zao hcd;clear hB hc hd hW hx ok;unfold Ip.val at *;go_enter func81,ntmps81
 go_upto_region 1 with fail
 refine zaf (w:=W) HW.out.symm ?_;have hdd:W.drew.heap[w.heap.size+1]?=C (M #[l s 0,l s 0,l s 0] 138 (0,0)):=HD.out;have g0:=zcr W.drew (w.heap.size+1) 0 _ 138 (0,0) hdd;have g1:=zcr W.drew (w.heap.size+1) 1 _ 138 (0,0) hdd;have g2:=zcr W.drew (w.heap.size+1) 2 _ 138 (0,0) hdd;have f0:=frozen_of_row W.drew (w.heap.size+1) 0 _ 138 hdd;have f1:=frozen_of_row W.drew (w.heap.size+1) 1 _ 138 hdd;have f2:=frozen_of_row W.drew (w.heap.size+1) 2 _ 138 hdd
 go_region_held3 (fun w'=>w'.cell? ⟨w.heap.size,0,E⟩=C (l s p.v)∧w'.cell? ⟨w.heap.size,1,E⟩=C (l s p.S)∧w'.cell? ⟨w.heap.size,2,E⟩=C (l s p.L)∧w'.cell? ⟨w.heap.size,3,E⟩=C (l s p.a)∧w'.cell? ⟨w.heap.size,4,E⟩=C (l s p.h)∧w'.cell? ⟨w.heap.size,5,E⟩=C (l s p.gl)∧w'.cell? ⟨w.heap.size,6,E⟩=C (l s p.sp)) (first|exact ⟨c0,c1,c2,c3,c4,c5,c6⟩|exact ⟨d0,d1,d2,d3,d4,d5,d6⟩|exact ⟨(sc3 rfl).trans d0,(sc3 rfl).trans d1,(sc3 rfl).trans d2,(sc3 rfl).trans d3,(sc3 rfl).trans d4,(sc3 rfl).trans d5,(sc3 rfl).trans d6⟩) (first
  | (go_at_call 36;(with_reducible refine (K.out _).mono ?_);rintro q w1 ⟨rfl,b1⟩;have HC1:w1.heap[w.heap.size]?=C (M p.c 65 (0,0)):=(b1.block _ (zgx HC.out)).trans HC.out;obtain ⟨d0,d1,d2,d3,d4,d5,d6⟩:=zao HC1;have HD1:w1.heap[w.heap.size+1]?=C (M #[l s 0,l s 0,l s 0] 138 (0,0)):=(b1.block _ (zgx HD.out)).trans HD.out;have HB1:=HB.out.drew.trans (b1.mono HB.out.size);have k0:=zcr w1 (w.heap.size+1) 0 _ 138 (0,0) HD1;have k1:=zcr w1 (w.heap.size+1) 1 _ 138 (0,0) HD1;have k2:=zcr w1 (w.heap.size+1) 2 _ 138 (0,0) HD1;have l0:=frozen_of_row w1 (w.heap.size+1) 0 _ 138 HD1;have l1:=frozen_of_row w1 (w.heap.size+1) 1 _ 138 HD1;have l2:=frozen_of_row w1 (w.heap.size+1) 2 _ 138 HD1))
 have H9:((((w1.setCell ⟨w.heap.size+1,0,E⟩ (l s x)).setCell ⟨w.heap.size+1,1,E⟩ (l s p.L)).setCell ⟨w.heap.size+1,2,E⟩ (l s p.v))).heap[w.heap.size+1]?=C (M #[l s x,l s p.L,l s p.v] 138 (0,0)) :=
  (heap_setCell_same _ _ 2 _ 138 _ ((heap_setCell_same _ _ 1 _ 138 _ ((heap_setCell_same _ _ 0 _ 138 _ HD1).trans rfl)).trans rfl)).trans rfl
 have HB9:Q w.heap.size w ((((w1.setCell ⟨w.heap.size+1,0,E⟩ (l s x)).setCell ⟨w.heap.size+1,1,E⟩ (l s p.L)).setCell ⟨w.heap.size+1,2,E⟩ (l s p.v))) :=
  ((HB1.setCell (by show _≤w.heap.size+1;omega) _).setCell (by show _≤w.heap.size+1;omega) _).setCell (by show _≤w.heap.size+1;omega) _
 go_wp2;exact ztP (v:=_) (zta _ _ (w.heap.size+1) _ rfl rfl H9) rfl ⟨rfl,HB9⟩
end Go.Proofs.YtidndekacnmihaaGreat
