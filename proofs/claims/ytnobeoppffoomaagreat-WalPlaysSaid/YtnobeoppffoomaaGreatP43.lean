/-
  WalPlays: WPx WZi.
  Conditions: named in each theorem.
-/
import Derived.Test.YtnobeoppffoomaaGreatP40
import Derived.Test.YtnobeoppffoomaaGreatP41
import Derived.Test.YtnobeoppffoomaaGreatP04
import Derived.Test.YtnobeoppffoomaaGreatP42
import Derived.Test.YtnobeoppffoomaaGreatP34
import Derived.Test.YtnobeoppffoomaaGreatP0
set_option linter.unusedVariables false
set_option linter.unusedSimpArgs false
set_option maxHeartbeats 8000000
set_option maxRecDepth 100000
namespace Go.Proofs.YtnobeoppffoomaaGreat
open Go.RowKit Dk
theorem Dk.Dv.keep {w w':World} {g:Nat} {L:List Nat} {d:St} {K:List Nat} (h:Dv w g L d) (hk:Keep K w w') (hd:∀ k∈L,k∉K):Dv w' g L d:=h.of_heap (fun k hm=>hk.block k (h.lt k hm) (hd k hm))
theorem Dk.Rf.keep {w w':World} {B gr:Nat} {L:List Nat} {d:St} {K:List Nat} (h:Rf w B gr L d) (hk:Keep K w w') (hd:∀ k∈L,k∉K):Rf w' B gr L d:=h.of_heap (fun k hm=>hk.block k (h.lt k hm) (hd k hm))
def Dvx (w:World) (g:Nat) (K:List (Nat×Obj)) (d:St) (W:World):Prop :=
 ∃ L,Dv W g L d∧(∀ x∈L,w.heap.size≤x)∧Below w.heap.size w W∧∀ p∈K,W.heap[p.1]?=some p.2∧p.1∉L∧w.heap.size≤p.1
section
variable {w W W':World} {g:Nat} {K:List (Nat×Obj)} {d d':St}
theorem Dvx.be (h:Dvx w g K d W):Below w.heap.size w W:=by obtain ⟨L,h1,h3,h4,h5⟩:=h;exact h4
theorem Dvx.below (h:Dvx w g K d W) (hb:Below W.heap.size W W'):Dvx w g K d W':=by
 obtain ⟨L,h1,h3,h4,h5⟩:=h
 exact ⟨L,h1.below hb,h3,h4.trans (hb.mono h4.size),fun p hp=>⟨(hb.block _ (Array.getElem?_eq_some_iff.1 (h5 p hp).1).1).trans (h5 p hp).1,(h5 p hp).2⟩⟩
theorem Dvx.drew (h:Dvx w g K d W):Dvx w g K d W.drew:=h.below (Below.refl _ W).drew
theorem Dvx.get (h:Dvx w g K d W) {k:Nat} {o:Obj} (hm:(k,o)∈K):W.heap[k]?=some o:=by obtain ⟨L,h1,h3,h4,h5⟩:=h;exact (h5 _ hm).1
theorem Dvx.low (h:Dvx w g K d W) {k:Nat} {o:Obj} (hm:(k,o)∈K):w.heap.size≤k:=by obtain ⟨L,h1,h3,h4,h5⟩:=h;exact (h5 _ hm).2.2
theorem Dvx.dok (h:Dvx w g K d W):d.Ok:=by obtain ⟨L,h1,h3,h4,h5⟩:=h;exact h1.1
theorem Dvx.add (h:Dvx w g K d W) (hb:Below W.heap.size W W') {k:Nat} {o:Obj} (hk:W.heap.size≤k) (ho:W'.heap[k]?=some o):Dvx w g ((k,o) :: K) d W':=by
 have hs:=h.be.size
 obtain ⟨L,h1,h3,h4,h5⟩:=h
 refine ⟨L,h1.below hb,h3,h4.trans (hb.mono h4.size),fun p hp=>?_⟩
 rcases List.mem_cons.1 hp with rfl|hp
 ·exact ⟨ho,fun hm=>by have:=h1.lt _ hm;simp at this;omega,Nat.le_trans hs hk⟩
 ·exact ⟨(hb.block _ (Array.getElem?_eq_some_iff.1 (h5 p hp).1).1).trans (h5 p hp).1,(h5 p hp).2⟩
theorem Dvx.c1 {f:Nat} {xs:Array Value} {r:Ending} (h:Dvx w g K d W) (hc:∀ L,Dv W g L d→Calls Tryz.prog f xs W fun x w'=>x=r∧Moves g L d' W w') :
 Calls Tryz.prog f xs W fun x w'=>x=r∧Dvx w g K d' w':=by
 obtain ⟨L,h1,h3,h4,h5⟩:=h
 refine (hc L h1).mono fun x w' ⟨hx,hm⟩=>⟨hx,?_⟩
 obtain ⟨L',a1,a2,a3,a4,a5,a6⟩:=hm.below h4 h4.size h3
 refine ⟨L',a1,a2,a3,fun p hp=>?_⟩
 obtain ⟨b1,b2,b3⟩:=h5 p hp
 have hlt:=(zgx b1)
 exact ⟨(a5.block _ hlt b2).trans b1,fun hx=>(a6 _ hx).elim b2 (fun h=>by omega),b3⟩
theorem Dvx.q1 {f:Nat} {xs:Array Value} {r:Ending} (h:Dvx w g K d W) (hc:∀ L,Dv W g L d→Calls Tryz.prog f xs W fun x w'=>x=r∧Below W.heap.size W w') :
 Calls Tryz.prog f xs W fun x w'=>x=r∧Dvx w g K d w'∧Below W.heap.size W w':=by
 have h0:=h
 obtain ⟨L,h1,h3,h4,h5⟩:=h
 exact (hc L h1).mono fun x w' ⟨hx,hm⟩=>⟨hx,h0.below hm,hm⟩
theorem Dvx.a1 {f:Nat} {xs:Array Value} (h:Dvx w g K d W) (hc:∀ L,Dv W g L d→Calls Tryz.prog f xs W fun x w'=>∃ g' L',x=.returned (ptr g')∧Dv w' g' L' d'∧(∀ k∈L',W.heap.size≤k)∧Below W.heap.size W w') :
 Calls Tryz.prog f xs W fun x w'=>∃ g',x=.returned (ptr g')∧Dvx w g' K d' w':=by
 obtain ⟨L,h1,h3,h4,h5⟩:=h
 refine (hc L h1).mono fun x w' ⟨g',L',hx,a1,a2,a3⟩=>⟨g',hx,L',a1,fun k hk=>Nat.le_trans h4.size (a2 k hk),h4.trans (a3.mono h4.size),fun p hp=>?_⟩
 have hlt:=(Array.getElem?_eq_some_iff.1 (h5 p hp).1).1
 exact ⟨(a3.block _ hlt).trans (h5 p hp).1,fun hm=>by have:=a2 _ hm;omega,(h5 p hp).2.2⟩
end
theorem Dvx.new {w W:World} {K:List (Nat×Obj)} (n:Nat) (h1:1≤n) (h2:n≤4096) (hb:Below w.heap.size w W) (hK:∀ p∈K,W.heap[p.1]?=some p.2∧w.heap.size≤p.1) :
 Calls Tryz.prog 18 #[.int .i64 n] W fun x w'=>∃ g,x=.returned (.tuple #[ptr g,.int .i64 0])∧Dvx w g K (St.fresh n fun _=>zsec) w':=by
 refine (new_yes n W h1 h2).mono ?_
 rintro e w2 ⟨g,L,rfl,D2,l2,b2⟩
 refine ⟨g,rfl,L,D2,fun x hx=>Nat.le_trans hb.size (l2 x hx),hb.trans (b2.mono hb.size),fun p hp=>?_⟩
 have hlt:=(Array.getElem?_eq_some_iff.1 (hK p hp).1).1
 exact ⟨(b2.block _ hlt).trans (hK p hp).1,fun hm=>by have:=l2 _ hm;omega,(hK p hp).2⟩
def Px (w:World) (g gr:Nat) (K:List (Nat×Obj)) (d e:St) (W:World):Prop :=
 ∃ L Lr,Dv W g L d∧Rf W w.heap.size gr Lr e∧(∀ x∈L,w.heap.size≤x)∧Below w.heap.size w W∧∀ p∈K,W.heap[p.1]?=some p.2∧p.1∉L∧p.1∉Lr
section
variable {w W W':World} {g gr:Nat} {K:List (Nat×Obj)} {d e d' e':St}
theorem Px.below (h:Px w g gr K d e W) (hb:Below W.heap.size W W'):Px w g gr K d e W':=by
 obtain ⟨L,Lr,h1,h2,h3,h4,h5⟩:=h
 exact ⟨L,Lr,h1.below hb,h2.below hb,h3,h4.trans (hb.mono h4.size),fun p hp=>⟨(hb.block _ (Array.getElem?_eq_some_iff.1 (h5 p hp).1).1).trans (h5 p hp).1,(h5 p hp).2⟩⟩
theorem Px.be (h:Px w g gr K d e W):Below w.heap.size w W:=by obtain ⟨L,Lr,h1,h2,h3,h4,h5⟩:=h;exact h4
theorem Px.drew (h:Px w g gr K d e W):Px w g gr K d e W.drew:=h.below (Below.refl _ W).drew
theorem Px.get (h:Px w g gr K d e W) {k:Nat} {o:Obj} (hm:(k,o)∈K):W.heap[k]?=some o:=by obtain ⟨L,Lr,h1,h2,h3,h4,h5⟩:=h;exact (h5 _ hm).1
theorem Px.add (h:Px w g gr K d e W) (hb:Below W.heap.size W W') {k:Nat} {o:Obj} (hk:W.heap.size≤k) (ho:W'.heap[k]?=some o):Px w g gr ((k,o) :: K) d e W':=by
 obtain ⟨L,Lr,h1,h2,h3,h4,h5⟩:=h
 refine ⟨L,Lr,h1.below hb,h2.below hb,h3,h4.trans (hb.mono h4.size),fun p hp=>?_⟩
 rcases List.mem_cons.1 hp with rfl|hp
 ·exact ⟨ho,fun hm=>by have:=h1.lt _ hm;simp at this;omega,fun hm=>by have:=h2.lt _ hm;simp at this;omega⟩
 ·exact ⟨(hb.block _ (Array.getElem?_eq_some_iff.1 (h5 p hp).1).1).trans (h5 p hp).1,(h5 p hp).2⟩
theorem Px.put {k:Nat} {o o':Obj} (h:Px w g gr ((k,o) :: K) d e W) (hn:∀ p∈K,p.1≠k) (hk:w.heap.size≤k) (h1:W'.heap[k]?=some o') (h2:∀ j,j≠k→W'.heap[j]?=W.heap[j]?) (h3:Below w.heap.size w W'):Px w g gr ((k,o') :: K) d e W':=by
 obtain ⟨L,Lr,a1,a2,a3,a4,a5⟩:=h
 have hk5:=(a5 (k,o) (by simp)).2
 refine ⟨L,Lr,a1.of_heap fun j hj=>h2 j (fun e=>hk5.1 (by subst e;exact hj)),a2.of_heap fun j hj=>h2 j (fun e=>hk5.2 (by subst e;exact hj)),a3,h3,fun p hp=>?_⟩
 rcases List.mem_cons.1 hp with rfl|hp
 ·exact ⟨h1,hk5⟩
 ·have:=a5 p (by simp [hp]);exact ⟨(h2 _ (hn p hp)).trans this.1,this.2⟩
theorem Px.m1 (h:Px w g gr K d e W) (hm:∀ L,Dv W g L d→Moves g L d' W W'):Px w g gr K d' e W':=by
 obtain ⟨L,Lr,h1,h2,h3,h4,h5⟩:=h
 obtain ⟨L',a1,a2,a3,a4,a5,a6⟩:=(hm L h1).below h4 h4.size h3
 refine ⟨L',Lr,a1,h2.keep a5 (rf_apart h2 h1),a2,a3,fun p hp=>?_⟩
 obtain ⟨b1,b2,b3⟩:=h5 p hp
 have hlt:=(zgx b1)
 exact ⟨(a5.block _ hlt b2).trans b1,fun hx=>(a6 _ hx).elim b2 (fun h=>by omega),b3⟩
theorem Px.m2 (h:Px w g gr K d e W) (hm:∀ L,Rf W w.heap.size gr L e→RMoves w.heap.size gr L e' W W'):Px w g gr K d e' W':=by
 obtain ⟨L,Lr,h1,h2,h3,h4,h5⟩:=h
 obtain ⟨a1,a2⟩:=hm Lr h2
 refine ⟨L,Lr,h1.keep a2 (fun j hj hx=>rf_apart h2 h1 j hx hj),a1,h3,Keep.below h4 a2 h4.size h2.low,fun p hp=>?_⟩
 obtain ⟨b1,b2,b3⟩:=h5 p hp
 exact ⟨(a2.block _ (zgx b1) b3).trans b1,b2,b3⟩
theorem Px.c1 {f:Nat} {xs:Array Value} {r:Ending} (h:Px w g gr K d e W) (hc:∀ L,Dv W g L d→Calls Tryz.prog f xs W fun x w'=>x=r∧Moves g L d' W w') :
 Calls Tryz.prog f xs W fun x w'=>x=r∧Px w g gr K d' e w':=by
 have h0:=h
 obtain ⟨L,Lr,h1,h2,h3,h4,h5⟩:=h
 refine (hc L h1).mono fun x w' ⟨hx,hm⟩=>⟨hx,?_⟩
 obtain ⟨L',a1,a2,a3,a4,a5,a6⟩:=hm.below h4 h4.size h3
 refine ⟨L',Lr,a1,h2.keep a5 (rf_apart h2 h1),a2,a3,fun p hp=>?_⟩
 obtain ⟨b1,b2,b3⟩:=h5 p hp
 have hlt:=(zgx b1)
 exact ⟨(a5.block _ hlt b2).trans b1,fun hx=>(a6 _ hx).elim b2 (fun h=>by omega),b3⟩
theorem Px.c2 {f:Nat} {xs:Array Value} {r:Ending} (h:Px w g gr K d e W) (hc:∀ L,Rf W w.heap.size gr L e→Calls Tryz.prog f xs W fun x w'=>x=r∧RMoves w.heap.size gr L e' W w') :
 Calls Tryz.prog f xs W fun x w'=>x=r∧Px w g gr K d e' w':=by
 obtain ⟨L,Lr,h1,h2,h3,h4,h5⟩:=h
 refine (hc Lr h2).mono fun x w' ⟨hx,a1,a2⟩=>⟨hx,?_⟩
 refine ⟨L,Lr,h1.keep a2 (fun j hj hx=>rf_apart h2 h1 j hx hj),a1,h3,Keep.below h4 a2 h4.size h2.low,fun p hp=>?_⟩
 obtain ⟨b1,b2,b3⟩:=h5 p hp
 exact ⟨(a2.block _ (zgx b1) b3).trans b1,b2,b3⟩
theorem Px.q1 {f:Nat} {xs:Array Value} {r:Ending} (h:Px w g gr K d e W) (hc:∀ L,Dv W g L d→Calls Tryz.prog f xs W fun x w'=>x=r∧Below W.heap.size W w') :
 Calls Tryz.prog f xs W fun x w'=>x=r∧Px w g gr K d e w'∧Below W.heap.size W w':=by
 have h0:=h
 obtain ⟨L,Lr,h1,h2,h3,h4,h5⟩:=h
 exact (hc L h1).mono fun x w' ⟨hx,hm⟩=>⟨hx,h0.below hm,hm⟩
theorem Px.q2 {f:Nat} {xs:Array Value} {r:Ending} (h:Px w g gr K d e W) (hc:∀ L,Rf W w.heap.size gr L e→Calls Tryz.prog f xs W fun x w'=>x=r∧Below W.heap.size W w') :
 Calls Tryz.prog f xs W fun x w'=>x=r∧Px w g gr K d e w'∧Below W.heap.size W w':=by
 have h0:=h
 obtain ⟨L,Lr,h1,h2,h3,h4,h5⟩:=h
 exact (hc Lr h2).mono fun x w' ⟨hx,hm⟩=>⟨hx,h0.below hm,hm⟩
end
theorem Dk.Rf.base {w:World} {B B' gr:Nat} {L:List Nat} {d:St} (h:Rf w B gr L d) (hB:B'≤B):Rf w B' gr L d:=by
 obtain ⟨ho,v1,v2,v3,rfl,hA⟩:=h
 have lo:∀ {e n:Nat} {v:Value} {xs:List Value},w.ownsRow B e 1 v n xs→w.ownsRow B' e 1 v n xs:=by
  intro e n v xs h
  obtain ⟨hl,h⟩:=h
  refine ⟨hl,?_⟩
  rcases h with h|⟨gb,c,cur,rfl,hb,r⟩
  ·exact .inl h
  ·exact .inr ⟨gb,c,cur,rfl,by omega,r⟩
 exact ⟨ho,v1,v2,v3,rfl,⟨hA.blk,lo hA.r1,lo hA.r2,lo hA.r3,hA.ap,by have:=hA.hB;omega⟩⟩
section
variable {w W W':World} {g gr:Nat} {K:List (Nat×Obj)} {d e d' e':St}
theorem Px.a1 {f:Nat} {xs:Array Value} (h:Px w g gr K d e W) (hc:∀ L,Dv W g L d→Calls Tryz.prog f xs W fun x w'=>∃ g' L',x=.returned (ptr g')∧Dv w' g' L' d'∧(∀ k∈L',W.heap.size≤k)∧Below W.heap.size W w') :
 Calls Tryz.prog f xs W fun x w'=>∃ g',x=.returned (ptr g')∧Px w g' gr K d' e w':=by
 obtain ⟨L,Lr,h1,h2,h3,h4,h5⟩:=h
 refine (hc L h1).mono fun x w' ⟨g',L',hx,a1,a2,a3⟩=>⟨g',hx,L',Lr,a1,h2.below a3,fun k hk=>Nat.le_trans h4.size (a2 k hk),h4.trans (a3.mono h4.size),fun p hp=>?_⟩
 obtain ⟨b1,b2,b3⟩:=h5 p hp
 have hlt:=(zgx b1)
 exact ⟨(a3.block _ hlt).trans b1,fun hm=>by have:=a2 _ hm;omega,b3⟩
theorem Px.a2 {f:Nat} {xs:Array Value} (h:Px w g gr K d e W) (hc:∀ L,Rf W w.heap.size gr L e→Calls Tryz.prog f xs W fun x w'=>∃ g' L',x=.returned (ptr g')∧Rf w' W.heap.size g' L' e'∧Below W.heap.size W w') :
 Calls Tryz.prog f xs W fun x w'=>∃ g',x=.returned (ptr g')∧Px w g g' K d e' w':=by
 obtain ⟨L,Lr,h1,h2,h3,h4,h5⟩:=h
 refine (hc Lr h2).mono fun x w' ⟨g',L',hx,a1,a3⟩=>⟨g',hx,L,L',h1.below a3,a1.base h4.size,h3,h4.trans (a3.mono h4.size),fun p hp=>?_⟩
 obtain ⟨b1,b2,b3⟩:=h5 p hp
 have hlt:=(zgx b1)
 exact ⟨(a3.block _ hlt).trans b1,b2,fun hm=>by have:=a1.low _ hm;omega⟩
theorem Px.new2 (h:Dvx w g K d W) (n:Nat) (h1:1≤n) (h2:n≤4096) :
 Calls Tryz.prog 19 #[.int .i64 n] W fun x w'=>∃ gr,x=.returned (ptr gr)∧Px w g gr K d (St.fresh n fun _=>zsec) w':=by
 obtain ⟨L,a1,a3,a4,a5⟩:=h
 refine (rnew_yes n W h1 h2).mono fun x w' ⟨gr,Lr,hx,r,b⟩=>⟨gr,hx,L,Lr,a1.below b,r.base a4.size,a3,a4.trans (b.mono a4.size),fun p hp=>?_⟩
 obtain ⟨b1,b2,b3⟩:=a5 p hp
 have hlt:=(zgx b1)
 exact ⟨(b.block _ hlt).trans b1,b2,fun hm=>by have:=r.low _ hm;omega⟩
end
theorem wrap64_in (x:Int):-9223372036854775808≤wrap64 x∧wrap64 x≤9223372036854775807:=by unfold wrap64;omega
end Go.Proofs.YtnobeoppffoomaaGreat
namespace Go.Proofs.YtnobeoppffoomaaGreat
open Go.RowKit
open Dk
def filX (d:St) (at_ m v:Int) (es:List En):St×Int:=if onI d.n at_ m v then filS d at_.toNat m.toNat v es else (d,1)
def wipX (d:St) (at_ m v u:Int):St×Int:=if onI d.n at_ m v then wipS d at_.toNat m.toNat v u else (d,1)
def addX (d:St) (at_ m v u:Int) (es:List En):St×Int×Int:=if onI d.n at_ m v then addS d at_.toNat m.toNat v u es else (d,0,1)
def rdXE (d:St) (at_ m v:Int):List En:=if onI d.n at_ m v then rdE d at_.toNat m.toNat v else []
def rdXU (d:St) (at_ m v:Int):Int:=if onI d.n at_ m v then (rdU d at_.toNat m.toNat v:Nat) else 0
def rdXZ (d:St) (at_ m v:Int):Int:=if onI d.n at_ m v then rdZ d at_.toNat m.toNat v else 1
section
variable {g B gr:Nat} {L:List Nat} {d:St} {at_ m v:Int} {w:World}
theorem Moves.same (h:Dv w g L d) {w':World} (hb:Below w.heap.size w w'):Moves g L d w w':=⟨L,h.below hb,Keep.of_below hb,Fresh.refl _ _⟩
theorem RMoves.same (h:Rf w B gr L d) {w':World} (hb:Below w.heap.size w w'):RMoves B gr L d w w':=⟨h.below hb,Keep.of_below hb⟩
theorem pfill (A:Option Addr) (n c:Nat) (es:List En) (h:Dv w g L d) (ha:at_≤9223372036854775807) (hE:Ents w.heap.size A n es w) (hn:n≤64) (ok:∀ e∈es,e.Ok) :
 Calls Tryz.prog 26 #[ptr g,RG at_ m v,.slice A n c] w fun e w'=>e=.returned (.int .i64 (filX d at_ m v es).2)∧Moves g L (filX d at_ m v es).1 w w':=by
 unfold filX
 cases hon:onI d.n at_ m v with
 | false=>exact (fill_off g L d at_ m v A n c w h ha hon).mono fun e w' ⟨h1,h2⟩=>⟨h1,Moves.same h h2⟩
 | true =>
   obtain ⟨a,k,rfl,rfl,h1,h2⟩:=onI_true hon
   have n2:=h.1.n2
   rw [if_pos rfl,Int.toNat_natCast,Int.toNat_natCast]
   exact rfill_any g L d a k v A n c es w h (by omega) (by omega) hE hn ok
theorem rfillX (A:Option Addr) (n c:Nat) (es:List En) (h:Rf w B gr L d) (ha:at_≤9223372036854775807) (hE:Ents w.heap.size A n es w) (hn:n≤64) (ok:∀ e∈es,e.Ok) :
 Calls Tryz.prog 51 #[ptr gr,RG at_ m v,.slice A n c] w fun e w'=>e=.returned (.int .i64 (filX d at_ m v es).2)∧RMoves B gr L (filX d at_ m v es).1 w w':=by
 unfold filX
 cases hon:onI d.n at_ m v with
 | false=>exact (rgfill_no B gr L d at_ m v A n c es w h ha hE hn ok (.inl hon)).mono fun e w' ⟨h1,h2⟩=>⟨h1,RMoves.same h h2⟩
 | true =>
   obtain ⟨a,k,rfl,rfl,h1,h2⟩:=onI_true hon
   rw [if_pos rfl,Int.toNat_natCast,Int.toNat_natCast]
   cases ho:rcO v (pO v) es with
   | false =>
     rw [filS_bad ho]
     exact (rgfill_no B gr L d a k v A n c es w h ha hE hn ok (.inr ho)).mono fun e w' ⟨h1,h2⟩=>⟨h1,RMoves.same h h2⟩
   | true=>exact rgfill_go B gr L d a k v A n c es w h hE hn ok h1 ho
theorem pwipe (u:Int) (h:Dv w g L d) (ha:at_≤9223372036854775807) :
 Calls Tryz.prog 30 #[ptr g,RG at_ m v,.int .i64 u] w fun e w'=>e=.returned (.int .i64 (wipX d at_ m v u).2)∧Moves g L (wipX d at_ m v u).1 w w':=by
 unfold wipX
 cases hon:onI d.n at_ m v with
 | false=>exact (wipe_off g L d at_ m v u w h ha hon).mono fun e w' ⟨h1,h2⟩=>⟨h1,Moves.same h h2⟩
 | true =>
   obtain ⟨a,k,rfl,rfl,h1,h2⟩:=onI_true hon
   have n2:=h.1.n2
   rw [if_pos rfl,Int.toNat_natCast,Int.toNat_natCast]
   exact rwipe_any g L d a k v u w h (by omega) (by omega)
theorem rwipeX (u:Int) (h:Rf w B gr L d) (ha:at_≤9223372036854775807) :
 Calls Tryz.prog 53 #[ptr gr,RG at_ m v,.int .i64 u] w fun e w'=>e=.returned (.int .i64 (wipX d at_ m v u).2)∧RMoves B gr L (wipX d at_ m v u).1 w w':=by
 unfold wipX
 cases hon:onI d.n at_ m v with
 | false=>exact (rgwipe_no B gr L d at_ m v u w h ha (.inl hon)).mono fun e w' ⟨h1,h2⟩=>⟨h1,RMoves.same h h2⟩
 | true =>
   obtain ⟨a,k,rfl,rfl,h1,h2⟩:=onI_true hon
   rw [if_pos rfl,Int.toNat_natCast,Int.toNat_natCast]
   unfold wipS
   by_cases hh:hasB k u=true
   ·have hh2:0≤u∧u≤((k*64:Nat):Int):=of_decide_eq_true hh
    obtain ⟨U,rfl⟩:=Int.eq_ofNat_of_zero_le hh2.1
    rw [if_pos ⟨h1,hh⟩,Int.toNat_natCast]
    exact rgwipe_go B gr L d a k U v w h h1 (by omega)
   ·have hh2:¬ (0≤u∧u≤((k*64:Nat):Int)):=fun h=>hh (decide_eq_true h)
    rw [if_neg (fun h=>hh h.2)]
    exact (rgwipe_no B gr L d a k v u w h ha (.inr (by omega))).mono fun e w' ⟨h1,h2⟩=>⟨h1,RMoves.same h h2⟩
theorem padd (u:Int) (A:Option Addr) (n c:Nat) (es:List En) (h:Dv w g L d) (ha:at_≤9223372036854775807) (hE:Ents w.heap.size A n es w) (hn:n≤64) (ok:∀ e∈es,e.Ok) :
 Calls Tryz.prog 27 #[ptr g,RG at_ m v,.int .i64 u,.slice A n c] w fun e w'=>e=.returned (.tuple #[.int .i64 (addX d at_ m v u es).2.1,.int .i64 (addX d at_ m v u es).2.2])∧Moves g L (addX d at_ m v u es).1 w w':=by
 unfold addX
 cases hon:onI d.n at_ m v with
 | false=>exact (add_off g L d at_ m v u A n c w h ha hon).mono fun e w' ⟨h1,h2⟩=>⟨h1,Moves.same h h2⟩
 | true =>
   obtain ⟨a,k,rfl,rfl,h1,h2⟩:=onI_true hon
   have n2:=h.1.n2
   rw [if_pos rfl,Int.toNat_natCast,Int.toNat_natCast]
   unfold addS
   by_cases hP:onB d.n a k v=true∧hasB k u=true∧bgn v u.toNat=u.toNat
   ·rw [if_pos hP]
    have hh2:0≤u∧u≤((k*64:Nat):Int):=of_decide_eq_true hP.2.1
    obtain ⟨U,rfl⟩:=Int.eq_ofNat_of_zero_le hh2.1
    rw [Int.toNat_natCast] at hP ⊢
    exact add_go g L d a k U v A n c es w h (by omega) (by omega) hP.1 hP.2.1 hP.2.2 hE hn ok
   ·rw [if_neg hP]
    exact (add_no g L d a k v u A n c w h (by omega) (by omega) hP).mono fun e w' ⟨h1,h2⟩=>⟨h1,Moves.same h h2⟩
theorem raddX (u:Int) (A:Option Addr) (n c:Nat) (es:List En) (h:Rf w B gr L d) (ha:at_≤9223372036854775807) (hE:Ents w.heap.size A n es w) (hn:n≤64) (ok:∀ e∈es,e.Ok)
 :
 Calls Tryz.prog 59 #[ptr gr,RG at_ m v,.int .i64 u,.slice A n c] w fun e w'=>e=.returned (.tuple #[.int .i64 (addX d at_ m v u es).2.1,.int .i64 (addX d at_ m v u es).2.2])∧RMoves B gr L (addX d at_ m v u es).1 w w':=by
 unfold addX
 cases hon:onI d.n at_ m v with
 | false=>exact (rgadd_no B gr L d at_ m v u A n c es w h ha hE hn ok (.inl hon)).mono fun e w' ⟨h1,h2⟩=>⟨h1,RMoves.same h h2⟩
 | true =>
   obtain ⟨a,k,rfl,rfl,h1,h2⟩:=onI_true hon
   rw [if_pos rfl,Int.toNat_natCast,Int.toNat_natCast]
   unfold addS
   by_cases hP:onB d.n a k v=true∧hasB k u=true∧bgn v u.toNat=u.toNat
   ·rw [if_pos hP]
    have hh2:0≤u∧u≤((k*64:Nat):Int):=of_decide_eq_true hP.2.1
    obtain ⟨U,rfl⟩:=Int.eq_ofNat_of_zero_le hh2.1
    rw [Int.toNat_natCast] at hP ⊢
    cases ho:rcO v (pO v) es with
    | false =>
      have hE1:rgE v k U es=1:=by unfold rgE;rw [ho];rfl
      have hG:addG d a k v U es=(d,0,1):=by unfold addG;rw [hE1,if_pos (by decide)]
      rw [hG]
      exact (rgadd_no B gr L d a k v U A n c es w h ha hE hn ok (.inr (.inl ho))).mono fun e w' ⟨h1,h2⟩=>⟨h1,RMoves.same h h2⟩
    | true =>
      refine rgadd_go B gr L d a k U v A n c es w h hE hn ok h1 (by omega) (fun hv=>?_) ho
      have:=hP.2.2
      rw [hv.1] at this
      unfold bgn at this
      rw [if_pos rfl] at this
      have:=hv.2
      omega
   ·rw [if_neg hP]
    refine (rgadd_no B gr L d a k v u A n c es w h ha hE hn ok (.inr (.inr ?_))).mono fun e w' ⟨h1,h2⟩=>⟨h1,RMoves.same h h2⟩
    by_cases h3:0≤u∧u≤((k*64:Nat):Int)
    ·right;right
     obtain ⟨U,rfl⟩:=Int.eq_ofNat_of_zero_le h3.1
     rw [Int.toNat_natCast] at hP
     have hne:bgn v U≠U:=fun e=>hP ⟨h1,decide_eq_true h3,e⟩
     unfold bgn at hne
     by_cases hv:v=1
     ·rw [if_pos hv] at hne
      exact ⟨hv,by omega⟩
     ·rw [if_neg hv] at hne
      exact absurd rfl hne
    ·omega
theorem pread (h:Dv w g L d) (ha:at_≤9223372036854775807) :
 Calls Tryz.prog 31 #[ptr g,RG at_ m v] w fun e w'=>(∃ A n c,e=.returned (.tuple #[.slice A n c,.int .i64 (rdXU d at_ m v),.int .i64 (rdXZ d at_ m v)])∧Le w.heap.size A n c (rdXE d at_ m v) w')∧Below w.heap.size w w':=by
 unfold rdXU rdXZ rdXE
 cases hon:onI d.n at_ m v with
 | false=>exact (read_off g L d at_ m v w h ha hon).mono fun e w' ⟨h1,h2⟩=>⟨⟨none,0,0,h1,Le.nil _ _⟩,h2⟩
 | true =>
   obtain ⟨a,k,rfl,rfl,h1,h2⟩:=onI_true hon
   have n2:=h.1.n2
   rw [if_pos rfl,if_pos rfl,if_pos rfl,Int.toNat_natCast,Int.toNat_natCast]
   exact (rrd_any g L d a k v w h (by omega) (by omega)).mono fun e w' ⟨A,n,c,h1,h2,h3⟩=>⟨⟨A,n,c,h1,h2⟩,h3⟩
theorem rreadX (h:Rf w B gr L d) (ha:at_≤9223372036854775807) :
 Calls Tryz.prog 54 #[ptr gr,RG at_ m v] w fun e w'=>(∃ A n c,e=.returned (.tuple #[.slice A n c,.int .i64 (rdXU d at_ m v),.int .i64 (rdXZ d at_ m v)])∧Le w.heap.size A n c (rdXE d at_ m v) w')∧Below w.heap.size w w':=by
 unfold rdXU rdXZ rdXE
 cases hon:onI d.n at_ m v with
 | false=>exact (rgread_off B gr L d at_ m v w h ha hon).mono fun e w' ⟨h1,h2⟩=>⟨⟨none,0,0,h1,Le.nil _ _⟩,h2⟩
 | true =>
   obtain ⟨a,k,rfl,rfl,h1,h2⟩:=onI_true hon
   rw [if_pos rfl,if_pos rfl,if_pos rfl,Int.toNat_natCast,Int.toNat_natCast]
   exact (rgread_any B gr L d a k v w h h1).mono fun e w' ⟨A,n,c,h1,h2,h3⟩=>⟨⟨A,n,c,h1,h2⟩,h3⟩
end
end Go.Proofs.YtnobeoppffoomaaGreat
