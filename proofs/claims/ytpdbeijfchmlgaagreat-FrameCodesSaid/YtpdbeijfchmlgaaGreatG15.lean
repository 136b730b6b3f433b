/-
  FrameCodes: part G15.
  Conditions: named in each theorem.
-/
import Derived.Deep.AppendLies
import Derived.Lib.SmallJoins
import Derived.OneCell
import Derived.WalkKit
import Derived.ProofKit
import Derived.OpenShut
import Derived.SizedLaws
import Derived.Carry
import Derived.ChangeSame
import Derived.Deep.Slices
import Derived.Test.YtpdbeijfchmlgaaGreatZ0
import Derived.Test.YtpdbeijfchmlgaaGreatG06
import Derived.Test.YtpdbeijfchmlgaaGreatG11
set_option linter.unusedVariables false
set_option linter.unusedSimpArgs false
set_option maxHeartbeats 16000000
set_option maxRecDepth 100000
namespace Go.Proofs.YtpdbeijfchmlgaaGreat
open Go.RowKit
structure Mades (B:Nat) (A:Option Addr) (n:Nat) (L:List (En×Bool)) (w:World):Prop where
 len:L.length=n
 at_:∀ i p,L[i]?=some p→∃ a,A=some a∧a.block<B∧∀ j,j<12→w.cell? ((a.add (i*12)).add j)=(mdc p.1 p.2)[j]?
theorem Mades.below {B:Nat} {A:Option Addr} {n:Nat} {L:List (En×Bool)} {w w1:World} (h:Mades B A n L w) (hb:Below B w w1):Mades B A n L w1 :=
 ⟨h.len,fun i e he=>by
  obtain ⟨a,hA,hB,hc⟩:=h.at_ i e he;exact ⟨a,hA,hB,fun j hj=>(hb.cell (by rw [block_of_add,block_of_add];exact hB)).trans (hc j hj)⟩⟩
abbrev nvv (m:Ms) (own:Bool) (LA:Option Addr) (ln lc:Nat):Value:=.agg #[.int .i64 m.kind,.int .i64 m.frm,.int .i64 m.dst,.int .u64 m.term,.int .u64 m.index,.int .u64 m.prev,.int .u64 m.commit,.int .u64 m.mark,.bool m.ok,.slice m.A m.n m.c,.string m.snap,.bool own,.slice LA ln lc]
abbrev nvc (m:Ms) (own:Bool) (LA:Option Addr) (ln lc:Nat):Array Value:=#[.int .i64 m.kind,.int .i64 m.frm,.int .i64 m.dst,.int .u64 m.term,.int .u64 m.index,.int .u64 m.prev,.int .u64 m.commit,.int .u64 m.mark,.bool m.ok,.slice m.A m.n m.c,.string m.snap,.bool own,.slice LA ln lc]
abbrev mzz:Ms:=⟨0,0,0,0,0,0,0,0,false,none,0,0,[],⟨#[]⟩⟩
theorem _root_.Go.Proofs.YtpdbeijfchmlgaaGreat.zmzl {w:World} {b:Nat} (h:w.heap[b]?=some (.cells (mc mzz) 29 (0,0))):w.cell? ⟨b,0,none⟩=some (.int .i64 0)∧w.cell? ⟨b,1,none⟩=some (.int .i64 0)∧w.cell? ⟨b,2,none⟩=some (.int .i64 0)∧w.cell? ⟨b,3,none⟩=some (.int .u64 0)∧w.cell? ⟨b,4,none⟩=some (.int .u64 0)∧w.cell? ⟨b,5,none⟩=some (.int .u64 0)∧w.cell? ⟨b,6,none⟩=some (.int .u64 0)∧w.cell? ⟨b,7,none⟩=some (.int .u64 0)∧w.cell? ⟨b,8,none⟩=some (.bool false)∧w.cell? ⟨b,9,none⟩=some (.slice none 0 0)∧w.cell? ⟨b,10,none⟩=some (.string ⟨#[]⟩):=⟨zcr w b 0 _ 29 (0,0) h,zcr w b 1 _ 29 (0,0) h,zcr w b 2 _ 29 (0,0) h,zcr w b 3 _ 29 (0,0) h,zcr w b 4 _ 29 (0,0) h,zcr w b 5 _ 29 (0,0) h,zcr w b 6 _ 29 (0,0) h,zcr w b 7 _ 29 (0,0) h,zcr w b 8 _ 29 (0,0) h,zcr w b 9 _ 29 (0,0) h,zcr w b 10 _ 29 (0,0) h⟩
theorem _root_.Go.Proofs.YtpdbeijfchmlgaaGreat.zmzlf {w:World} {b:Nat} (h:∀ i,w.cell? ⟨b,i,none⟩=(mc mzz)[i]?):w.cell? ⟨b,0,none⟩=some (.int .i64 0)∧w.cell? ⟨b,1,none⟩=some (.int .i64 0)∧w.cell? ⟨b,2,none⟩=some (.int .i64 0)∧w.cell? ⟨b,3,none⟩=some (.int .u64 0)∧w.cell? ⟨b,4,none⟩=some (.int .u64 0)∧w.cell? ⟨b,5,none⟩=some (.int .u64 0)∧w.cell? ⟨b,6,none⟩=some (.int .u64 0)∧w.cell? ⟨b,7,none⟩=some (.int .u64 0)∧w.cell? ⟨b,8,none⟩=some (.bool false)∧w.cell? ⟨b,9,none⟩=some (.slice none 0 0)∧w.cell? ⟨b,10,none⟩=some (.string ⟨#[]⟩):=⟨h 0,h 1,h 2,h 3,h 4,h 5,h 6,h 7,h 8,h 9,h 10⟩
def flat (es:List En):List Value:=es.flatMap fun e=>(ec e).toList
theorem flat_snoc (es:List En) (e:En):flat (es++[e])=flat es++(ec e).toList:=by
 unfold flat;rw [List.flatMap_append]
 simp
theorem flat_length (es:List En):(flat es).length=es.length*11:=by
 induction es with
 | nil=>rfl
 | cons e es ih =>
   show ((ec e).toList++flat es).length=_
   rw [List.length_append,ih]
   show 11+es.length*11=(es.length+1)*11
   omega
theorem flat_get (es:List En) (i:Nat) (e:En) (h:es[i]?=some e) (j:Nat) (hj:j<11):(flat es)[i*11+j]?=(ec e)[j]?:=by
 induction es generalizing i with
 | nil=>cases h
 | cons a es ih =>
   have e1:flat (a :: es)=(ec a).toList++flat es:=rfl;rw [e1]
   cases i with
   | zero =>
     have:a=e:=Option.some.inj h
     subst this;rw [List.getElem?_append_left (by show 0*11+j<11;omega),Nat.zero_mul,Nat.zero_add];rw [Array.getElem?_toList]
   | succ i =>
     have hl:(ec a).toList.length=11:=rfl;rw [List.getElem?_append_right (by rw [hl];omega),hl,show (i+1)*11+j-11=i*11+j by omega];exact ih i h
theorem own_of_heap {w w':World} {B e s n:Nat} {v:Value} {xs:List Value} (h:w.ownsRow B e s v n xs) (he:∀ k,v.ownBlock=some k→w'.heap[k]?=w.heap[k]?):w'.ownsRow B e s v n xs:=by
 obtain ⟨hl,h⟩:=h;refine ⟨hl,?_⟩
 rcases h with h|⟨gb,c,cur,rfl,hb,hh,r⟩
 ·exact .inl h
 ·exact .inr ⟨gb,c,cur,rfl,hb,(he gb (by simp [Value.ownBlock])).trans hh,r⟩
theorem ents_of_own {w:World} {B:Nat} {A:Option Addr} {n c:Nat} {es:List En} (h:w.ownsRow B 24 11 (.slice A n c) n (flat es)) (hl:es.length=n):Ents w.heap.size A n es w:=by
 refine ⟨hl,fun i e he=>?_⟩
 have hi:i<n:=by
  rw [←hl];exact (List.getElem?_eq_some_iff.1 he).1
 obtain ⟨g,cap,hv,hb,hg⟩:=h.form (by omega)
 have hA:A=some ⟨g,0,none⟩∧c=cap:=by
  simp at hv
  exact hv
 obtain ⟨rfl,rfl⟩:=hA;refine ⟨_,rfl,hg,fun j hj=>?_⟩;have h1:=h.cellAt (i*11+j) (by omega);rw [flat_get es i e he j hj] at h1;rw [←h1,Addr.add_mid,Addr.add_mid,Nat.zero_add]
structure Nd (w0:World) (m:Ms) (b:Array Value) (r:Int) (g:Nat) (l:List UInt8) (A:Option Addr) (c:Nat) (es:List En) (wr:World):Prop where
 box:wr.heap[w0.heap.size]?=some (.cells b 32 (0,0))
 res:wr.heap[w0.heap.size+1]?=some (.cells (mc mzz) 29 (0,0))
 src:wr.heap[w0.heap.size+1+1]?=some (.cells (mc m) 29 (0,0))
 out:wr.heap[g]?=some (.cells (mc (npart m r l A es.length c es)) 29 (0,0))
 own:wr.ownsRow (g+1) 24 11 (.slice A es.length c) es.length (flat es)
 be:Below w0.heap.size w0 wr
 lt:w0.heap.size+1+1<g
section
variable {w0:World} {m:Ms} {b:Array Value} {r:Int} {g:Nat} {l:List UInt8} {A:Option Addr} {c:Nat} {es:List En} {wr w1:World}
theorem Nd.gs (h:Nd w0 m b r g l A c es wr):g<wr.heap.size:=(zgx h.out)
theorem Nd.bc (h:Nd w0 m b r g l A c es wr) (i:Nat):wr.cell? ⟨w0.heap.size,i,none⟩=b[i]?:=zcr wr _ i _ 32 (0,0) h.box
theorem Nd.rc (h:Nd w0 m b r g l A c es wr) (i:Nat):wr.cell? ⟨w0.heap.size+1,i,none⟩=(mc mzz)[i]?:=zcr wr _ i _ 29 (0,0) h.res
theorem Nd.sc (h:Nd w0 m b r g l A c es wr) (i:Nat):wr.cell? ⟨w0.heap.size+1+1,i,none⟩=(mc m)[i]?:=zcr wr _ i _ 29 (0,0) h.src
theorem Nd.oc (h:Nd w0 m b r g l A c es wr) (i:Nat):wr.cell? ⟨g,i,none⟩=(mc (npart m r l A es.length c es))[i]?:=zcr wr _ i _ 29 (0,0) h.out
theorem Nd.call (h:Nd w0 m b r g l A c es wr) (hb:Below wr.heap.size wr w1):Nd w0 m b r g l A c es w1:=by
 have hg:=h.gs;have hl:=h.lt
 exact ⟨(hb.block _ (by omega)).trans h.box,(hb.block _ (by omega)).trans h.res,(hb.block _ (by omega)).trans h.src,(hb.block _ hg).trans h.out,
  own_of_heap h.own (fun k hk=>hb.block k (h.own.lt k hk).2),h.be.trans (hb.mono h.be.size),hl⟩
theorem Nd.set1 (h:Nd w0 m b r g l A c es wr) (l':List UInt8) (i:Nat) (u:Value) (hp:mc (npart m r l' A es.length c es)=(mc (npart m r l A es.length c es)).setIfInBounds i u):Nd w0 m b r g l' A c es (wr.setCell ⟨g,i,none⟩ u):=by
 have hl:=h.lt
 refine ⟨(Below.heap_setCell wr _ _ _ (by simp;omega)).trans h.box,(Below.heap_setCell wr _ _ _ (by simp;omega)).trans h.res,(Below.heap_setCell wr _ _ _ (by simp;omega)).trans h.src,by rw [hp];exact set_blk h.out i u,
  ownsRow_setCell_below h.own (by simp) u,h.be.setCell (p:=⟨g,i,none⟩) (by simp;omega) _,hl⟩
theorem Nd.same (h:Nd w0 m b r g l A c es wr) (l':List UInt8) (hp:mc (npart m r l' A es.length c es)=mc (npart m r l A es.length c es)):Nd w0 m b r g l' A c es wr :=
 ⟨h.box,h.res,h.src,by rw [hp];exact h.out,h.own,h.be,h.lt⟩
theorem Nd.app {w2 w4:World} {e:En} {n g4 cap:Nat} {v:Value} (h:Nd w0 m b r g l A c es w2) (hn:es.length=n) (hown:w4.ownsRow (g+1) 24 11 (.slice (some ⟨g4,0,none⟩) (n+1) cap) (n+1) (flat es++(ec e).toList)) (hv:v=.slice A n c) (hgrow:w2.grownBy w4 v.ownBlock) :
 Nd w0 m b r g l (some ⟨g4,0,none⟩) cap (es++[e]) (w4.setCell ⟨g,9,none⟩ (.slice (some ⟨g4,0,none⟩) (n+1) cap)):=by
 subst hv hn;have hg:=h.gs;have hl:=h.lt
 have hne:∀ k,k≤g→some k≠(Value.slice A es.length c).ownBlock:=fun k hk e=>by
  have:=(h.own.lt k e.symm).1
  omega
 have hbl:∀ k,k≤g→w4.heap[k]?=w2.heap[k]?:=fun k hk=>hgrow.block k (by omega) (hne k hk);have hbw:Below w0.heap.size w0 w4:=h.be.grown hgrow h.be.size (fun k hk=>by have:=(h.own.lt k hk).1;omega);refine ⟨(Below.heap_setCell w4 _ _ _ (by simp;omega)).trans ((hbl _ (by omega)).trans h.box),(Below.heap_setCell w4 _ _ _ (by simp;omega)).trans ((hbl _ (by omega)).trans h.res),(Below.heap_setCell w4 _ _ _ (by simp;omega)).trans ((hbl _ (by omega)).trans h.src),?_,?_,hbw.setCell (p:=⟨g,9,none⟩) (by simp;omega) _,hl⟩
 ·rw [npart_put m r l A _ es.length _ c cap es (es++[e]),List.length_append];exact set_blk ((hbl g (Nat.le_refl _)).trans h.out) 9 _
 ·rw [flat_snoc,List.length_append];exact ownsRow_setCell_below hown (by simp) _
end
theorem fill_allm (E:Ms):((((((((((((mc mzz).setIfInBounds 0 (.int .i64 E.kind)).setIfInBounds 1 (.int .i64 E.frm)).setIfInBounds 2 (.int .i64 E.dst)).setIfInBounds 3 (.int .u64 E.term)).setIfInBounds 4 (.int .u64 E.index)).setIfInBounds 5 (.int .u64 E.prev)).setIfInBounds 6 (.int .u64 E.commit)).setIfInBounds 7 (.int .u64 E.mark)).setIfInBounds 8 (.bool E.ok)).setIfInBounds 9 (.slice E.A E.n E.c)).setIfInBounds 10 (.string E.snap))=mc E:=by
 simp
abbrev wrm (wr:World) (g:Nat) (E:Ms):World:=(((((((((((wr.setCell ⟨g,0,none⟩ (.int .i64 E.kind)).setCell ⟨g,1,none⟩ (.int .i64 E.frm)).setCell ⟨g,2,none⟩ (.int .i64 E.dst)).setCell ⟨g,3,none⟩ (.int .u64 E.term)).setCell ⟨g,4,none⟩ (.int .u64 E.index)).setCell ⟨g,5,none⟩ (.int .u64 E.prev)).setCell ⟨g,6,none⟩ (.int .u64 E.commit)).setCell ⟨g,7,none⟩ (.int .u64 E.mark)).setCell ⟨g,8,none⟩ (.bool E.ok)).setCell ⟨g,9,none⟩ (.slice E.A E.n E.c)).setCell ⟨g,10,none⟩ (.string E.snap))
theorem store_allm {wr:World} {g:Nat} (E:Ms) (h:wr.heap[g]?=some (.cells (mc mzz) 29 (0,0))):(wrm wr g E).heap[g]?=some (.cells (mc E) 29 (0,0)):=by
 rw [←fill_allm E];exact (set_blk (set_blk (set_blk (set_blk (set_blk (set_blk (set_blk (set_blk (set_blk (set_blk (set_blk h 0 _) 1 _) 2 _) 3 _) 4 _) 5 _) 6 _) 7 _) 8 _) 9 _) 10 _)
theorem below_allm {B:Nat} {a wr:World} {g:Nat} (E:Ms) (h:Below B a wr) (hg:B≤g):Below B a (wrm wr g E) :=
 (((((((((((h.setCell (p:=⟨g,0,none⟩) hg _).setCell (p:=⟨g,1,none⟩) hg _).setCell (p:=⟨g,2,none⟩) hg _).setCell (p:=⟨g,3,none⟩) hg _).setCell (p:=⟨g,4,none⟩) hg _).setCell (p:=⟨g,5,none⟩) hg _).setCell (p:=⟨g,6,none⟩) hg _).setCell (p:=⟨g,7,none⟩) hg _).setCell (p:=⟨g,8,none⟩) hg _).setCell (p:=⟨g,9,none⟩) hg _).setCell (p:=⟨g,10,none⟩) hg _)
theorem own_allm {wr:World} {g B n c:Nat} {A:Option Addr} {xs:List Value} (E:Ms) (h:wr.ownsRow B 24 11 (.slice A n c) n xs) (hg:g<B):(wrm wr g E).ownsRow B 24 11 (.slice A n c) n xs :=
 own_of_heap h fun k hk=>by
  have hk2:=(h.lt k hk).1;have hs:∀ (w:World) (i:Nat) (u:Value),(w.setCell ⟨g,i,none⟩ u).heap[k]?=w.heap[k]?:=fun w i u=>Below.heap_setCell w _ _ k (by simp;omega)
  show (wrm wr g E).heap[k]?=_
  unfold wrm;rw [hs,hs,hs,hs,hs,hs,hs,hs,hs,hs,hs]
theorem mfl_once (r:Int):∀ k,k<(mfl r).data.toList.length→(mfl r).data.toList[k]?=some 101→hasT ((mfl r).data.toList.take k) 101=false:=by
 unfold mfl
 repeat' split
 all_goals decide +kernel
theorem mfl_size (r:Int):(mfl r).size≤5:=by
 unfold mfl
 repeat' split
 all_goals decide
structure Ms.Wide (m:Ms):Prop where
 k0:-9223372036854775808≤m.kind
 k1:m.kind≤9223372036854775807
 f0:-9223372036854775808≤m.frm
 f1:m.frm≤9223372036854775807
 o0:-9223372036854775808≤m.dst
 o1:m.dst≤9223372036854775807
 t0:0≤m.term
 t1:m.term≤18446744073709551615
 i0:0≤m.index
 i1:m.index≤18446744073709551615
 p0:0≤m.prev
 p1:m.prev≤18446744073709551615
 c0:0≤m.commit
 c1:m.commit≤18446744073709551615
 m0:0≤m.mark
 m1:m.mark≤18446744073709551615
 s1:m.snap.size≤140737488351232
 n1:(m.n:Int)≤9223372036854775807
 eo:∀ e∈m.es,e.Ok
structure NoteIn (w:World) (m:Ms) (LA:Option Addr) (ln:Nat) (L:List (En×Bool)):Prop where
 wd:m.Wide
 en:Ents w.heap.size m.A m.n m.es w
 md:Mades w.heap.size LA ln L w
 ok:∀ p∈L,p.1.Ok
 ll:(ln:Int)≤9223372036854775807
end Go.Proofs.YtpdbeijfchmlgaaGreat
namespace Go.Proofs.YtpdbeijfchmlgaaGreat
open Go.ChangeShapes Go.WideShapes Go.ChangeAt Go.RowKit
theorem cells22:Tryz.prog.cellsOf 22=1:=by kernel_rfl
theorem cells26:Tryz.prog.cellsOf 26=12:=by kernel_rfl
theorem cells24:Tryz.prog.cellsOf 24=11:=by kernel_rfl
theorem cells3:Tryz.prog.cellsOf 3=1:=by kernel_rfl
theorem cells4:Tryz.prog.cellsOf 4=1:=by kernel_rfl
theorem cells9:Tryz.prog.cellsOf 9=1:=by kernel_rfl
theorem seat_laidOut:laidOutB Tryz.prog=true:=by kernel_rfl
theorem DataW.weights_mem_agg {H:Type} {P:Program} {t:TypeId} {fs:Array Field} {ds:List (DataW H)} (hu:P.underlying t=some (.struct fs)) (j:Nat) {t':TypeId} {d:DataW H}
 (ht:(fs.toList.map (·.type))[j]?=some t') (hd:ds[j]?=some d):∀ n∈d.weights P t',n∈(DataW.agg ds).weights P t:=by
 intro n hn;simp only [DataW.weights,hu];exact DataW.weights_mem_each ht hd n hn
theorem open_entry {H:Type} {enc:TypeId×Value→H} {w:World} {base fuel:Nat} {sp:Nat→Bool} {held:Bool} {x:DataW H×List MemPlace} {c0 c1 c2 c3 c4 c5 c6 c7 c8 c9 c10:Value}
 (h:DataW.trod enc Tryz.prog w base sp held fuel 24 [c0,c1,c2,c3,c4,c5,c6,c7,c8,c9,c10]=some x) (hz:∀ n∈x.1.weights Tryz.prog 24,n≤reachBytes) :
 ∃ e:En,[c0,c1,c2,c3,c4,c5,c6,c7,c8,c9,c10]=(ec e).toList∧e.Ok:=by
 obtain ⟨xs,n,_,rfl,hl,hlen,hf⟩:=DataW.trod_struct Tryz.underlying24 h
 match xs,hlen with
 | [y0,y1,y2,y3,y4,y5,y6,y7,y8,y9,y10],_ =>
   have t0:=hf 0 _ rfl;have t1:=hf 1 _ rfl;have t2:=hf 2 _ rfl;have t3:=hf 3 _ rfl;have t4:=hf 4 _ rfl;have t5:=hf 5 _ rfl;have t6:=hf 6 _ rfl;have t7:=hf 7 _ rfl;have t8:=hf 8 _ rfl;have t9:=hf 9 _ rfl;have t10:=hf 10 _ rfl
   simp [cells22,cells3,cells9] at t0 t1 t2 t3 t4 t5 t6 t7 t8 t9 t10
   obtain ⟨u0,h0,_,k0⟩:=DataW.trod_int Tryz.underlying22 t0;obtain ⟨u1,h1,_,k1⟩:=DataW.trod_int Tryz.underlying22 t1;obtain ⟨u2,h2,_,k2⟩:=DataW.trod_int Tryz.underlying3 t2;obtain ⟨u3,h3,_,k3⟩:=DataW.trod_int Tryz.underlying22 t3;obtain ⟨u4,h4,_,k4⟩:=DataW.trod_int Tryz.underlying22 t4;obtain ⟨u5,h5,_,k5⟩:=DataW.trod_int Tryz.underlying22 t5;obtain ⟨u6,h6,_,k6⟩:=DataW.trod_int Tryz.underlying22 t6;obtain ⟨u7,h7,_,k7⟩:=DataW.trod_int Tryz.underlying3 t7;obtain ⟨u8,h8,_,k8⟩:=DataW.trod_int Tryz.underlying3 t8;obtain ⟨u9,h9,d9,_⟩:=DataW.trod_string Tryz.underlying9 t9;obtain ⟨u10,h10,d10,_⟩:=DataW.trod_string Tryz.underlying9 t10;have b0:=bounds_u64 k0;have b1:=bounds_u64 k1;have b2:=bounds_i64 k2;have b3:=bounds_u64 k3;have b4:=bounds_u64 k4;have b5:=bounds_u64 k5;have b6:=bounds_u64 k6;have b7:=bounds_i64 k7;have b8:=bounds_i64 k8
   simp at h0 h1 h2 h3 h4 h5 h6 h7 h8 h9 h10
   subst h0 h1 h2 h3 h4 h5 h6 h7 h8 h9 h10
   have e9:u9.size≤140737488351232:=by
    have hq:=hz u9.data.toList.length (DataW.weights_mem_agg Tryz.underlying24 9 rfl (by rw [d9];rfl) _ (by simp [DataW.weights]));simp only [reachBytes,Array.length_toList] at hq;exact hq
   have e10:u10.size≤140737488351232:=by
    have hq:=hz u10.data.toList.length (DataW.weights_mem_agg Tryz.underlying24 10 rfl (by rw [d10];rfl) _ (by simp [DataW.weights]));simp only [reachBytes,Array.length_toList] at hq;exact hq
   refine ⟨⟨u0,u1,u2,u3,u4,u5,u6,u7,u8,u9,u10⟩,rfl,?_⟩
   constructor<;>first|exact e9|exact e10|(dsimp only;omega)
theorem open_made {H:Type} {enc:TypeId×Value→H} {w:World} {base base0:Nat} {r:Reach} {sp:Nat→Bool} {held:Bool} {v:Value} {d:DataW H} {p:List MemPlace}
 (hv:Value.okWide Tryz.prog w r base0 26 v) (h:DataW.Trod enc Tryz.prog w base sp held 26 v d p) (hz:∀ n∈d.weights Tryz.prog 26,n≤reachBytes) :
 ∃ (e:En) (o:Bool),v=mdv e o∧e.Ok:=by
 obtain ⟨cs,rfl,hsz⟩:=okWide_struct Tryz.underlying26 hv;rw [cells26] at hsz;obtain ⟨fuel,hf⟩:=h;obtain ⟨y0,y1,m,hx,_,hy0,hy1⟩:=trod_struct2 Tryz.underlying26 hf;obtain ⟨l⟩:=cs
 match l,hsz with
 | [c0,c1,c2,c3,c4,c5,c6,c7,c8,c9,c10,c11],_ =>
   simp [Value.cells,cells24,cells4] at hy0 hy1
   simp only [Prod.mk.injEq] at hx;obtain ⟨rfl,_⟩:=hx;obtain ⟨e,he,ok⟩:=open_entry hy0 fun n hn=>hz n (DataW.weights_mem_agg Tryz.underlying26 0 rfl rfl n hn);obtain ⟨b,hb,_⟩:=DataW.trod_bool Tryz.underlying4 hy1
   simp at he hb
   obtain ⟨rfl,rfl,rfl,rfl,rfl,rfl,rfl,rfl,rfl,rfl,rfl⟩:=he;subst hb;exact ⟨e,b,rfl,ok⟩
end Go.Proofs.YtpdbeijfchmlgaaGreat
namespace Go.Proofs.YtpdbeijfchmlgaaGreat
open Go.ChangeShapes Go.WideShapes Go.ChangeAt Go.RowKit
theorem cells32:Tryz.prog.cellsOf 32=13:=by kernel_rfl
theorem cells29:Tryz.prog.cellsOf 29=11:=by kernel_rfl
theorem cells27:Tryz.prog.cellsOf 27=1:=by kernel_rfl
theorem cells30:Tryz.prog.cellsOf 30=1:=by kernel_rfl
theorem lt_of_cell {w:World} {a:Addr} {v:Value} (h:w.cell? a=some v):a.block<w.heap.size:=by
 rcases Nat.lt_or_ge a.block w.heap.size with h1|h1
 ·exact h1
 ·simp [World.cell?,Array.getElem?_eq_none h1] at h
theorem weights_mem_all {H:Type} {P:Program} {e:TypeId} {d:DataW H}:∀ {ds:List (DataW H)},d∈ds→∀ n∈d.weights P e,n∈DataW.weightsAll P e ds
 | x :: ds,h,n,hn=>by
   rw [DataW.weightsAll,List.mem_append]
   rcases List.mem_cons.1 h with rfl|h
   ·exact .inl hn
   ·exact .inr (weights_mem_all h n hn)
theorem weights_mem_slice {H:Type} {P:Program} {t e:TypeId} {elems spare:List (DataW H)} (hu:P.underlying t=some (.slice e)) {d:DataW H} (h:d∈elems):∀ n∈d.weights P e,n∈(DataW.slice elems spare).weights P t:=by
 intro n hn;simp only [DataW.weights,hu];exact List.mem_cons_of_mem _ (List.mem_append_left _ (weights_mem_all h n hn))
theorem open_ents {H:Type} {enc:TypeId×Value→H} {w:World} {base fuel:Nat} {A:Option Addr} {len cap:Nat} {held:Bool} {x:DataW H×List MemPlace}
 (h:DataW.trod enc Tryz.prog w base (fun _=>true) held fuel 27 [.slice A len cap]=some x) (hz:∀ n∈x.1.weights Tryz.prog 27,n≤reachBytes) :
 ∃ es:List En,Ents w.heap.size A len es w∧(∀ e∈es,e.Ok)∧(len:Int)≤9223372036854775807:=by
 rcases Deep.open_slice Tryz.underlying27 h with ⟨hcs,_⟩|⟨a,len',cap',m,n,D,Pl,hcs,_,hl,hm,hmm,hxx,hx⟩
 ·simp at hcs
  obtain ⟨rfl,rfl,rfl⟩:=hcs;exact ⟨[],⟨rfl,fun i e he=>(by cases i<;>cases he)⟩,fun e he=>(by cases he),by omega⟩
 ·simp at hcs
  obtain ⟨rfl,rfl,rfl⟩:=hcs;simp only [if_true] at hmm
  have each:∀ i,i<len→∃ e:En,(∀ j,j<11→w.cell? ((a.add (i*11)).add j)=(ec e)[j]?)∧e.Ok:=by
   intro i hi;obtain ⟨cs',g1,g2⟩:=hx i (by omega);rw [cells24] at g1;obtain ⟨_,hlen,hcell⟩:=World.cells?_some g1
   match cs',hlen with
   | [c0,c1,c2,c3,c4,c5,c6,c7,c8,c9,c10],_ =>
     obtain ⟨e,he,ok⟩:=open_entry g2 fun n hn=>hz n (by
      rw [hxx];exact weights_mem_slice Tryz.underlying27 (List.mem_map.2 ⟨i,List.mem_range.2 hi,rfl⟩) n hn)
     refine ⟨e,fun j hj=>?_,ok⟩;rw [hcell j (by omega),he,Array.getElem?_toList]
  haveI:Inhabited En:=⟨ezz⟩
  obtain ⟨q,hq⟩:=Deep.choose_lt each;refine ⟨(List.range len).map q,⟨by simp,fun i e he=>?_⟩,fun e he=>?_,by simp only [maxLen] at hm;omega⟩
  ·have hi:i<len:=by have:=(List.getElem?_eq_some_iff.1 he).1;simpa using this
   have hqe:q i=e:=by
    rw [List.getElem?_map,List.getElem?_range hi] at he;exact Option.some.inj he
   have hc:=(hq i hi).1;rw [hqe] at hc;refine ⟨a,rfl,?_,hc⟩;have h0:w.cell? ((a.add (i*11)).add 0)=some (.int .u64 e.term):=hc 0 (by omega)
   have:=lt_of_cell h0
   rwa [block_of_add,block_of_add] at this
  ·obtain ⟨i,hi,rfl⟩:=List.mem_map.1 he;exact (hq i (List.mem_range.1 hi)).2
theorem open_mades {H:Type} {enc:TypeId×Value→H} {w:World} {base fuel:Nat} {A:Option Addr} {len cap:Nat} {held:Bool} {x:DataW H×List MemPlace}
 (h:DataW.trod enc Tryz.prog w base (fun _=>true) held fuel 30 [.slice A len cap]=some x) (hz:∀ n∈x.1.weights Tryz.prog 30,n≤reachBytes) :
 ∃ L:List (En×Bool),Mades w.heap.size A len L w∧(∀ p∈L,p.1.Ok)∧(len:Int)≤9223372036854775807:=by
 rcases Deep.open_slice Tryz.underlying30 h with ⟨hcs,_⟩|⟨a,len',cap',m,n,D,Pl,hcs,_,hl,hm,hmm,hxx,hx⟩
 ·simp at hcs
  obtain ⟨rfl,rfl,rfl⟩:=hcs;exact ⟨[],⟨rfl,fun i e he=>(by cases i<;>cases he)⟩,fun e he=>(by cases he),by omega⟩
 ·simp at hcs
  obtain ⟨rfl,rfl,rfl⟩:=hcs;simp only [if_true] at hmm
  have each:∀ i,i<len→∃ p:En×Bool,(∀ j,j<12→w.cell? ((a.add (i*12)).add j)=(mdc p.1 p.2)[j]?)∧p.1.Ok:=by
   intro i hi;obtain ⟨cs',g1,g2⟩:=hx i (by omega);rw [cells26] at g1;obtain ⟨_,hlen,hcell⟩:=World.cells?_some g1
   match cs',hlen with
   | [c0,c1,c2,c3,c4,c5,c6,c7,c8,c9,c10,c11],_ =>
     obtain ⟨y0,y1,m,hy,_,hy0,hy1⟩:=trod_struct2 Tryz.underlying26 g2
     simp [cells24,cells4] at hy0 hy1
     simp only [Prod.mk.injEq] at hy;obtain ⟨hyD,_⟩:=hy
     obtain ⟨e,he,ok⟩:=open_entry hy0 fun n hn=>hz n (by
      rw [hxx];refine weights_mem_slice Tryz.underlying30 (d:=D i) (List.mem_map.2 ⟨i,List.mem_range.2 hi,rfl⟩) n ?_;rw [hyD];exact DataW.weights_mem_agg Tryz.underlying26 0 rfl rfl n hn)
     obtain ⟨b,hb,_⟩:=DataW.trod_bool Tryz.underlying4 hy1
     simp at he hb
     obtain ⟨rfl,rfl,rfl,rfl,rfl,rfl,rfl,rfl,rfl,rfl,rfl⟩:=he;subst hb;refine ⟨(e,b),fun j hj=>?_,ok⟩;rw [hcell j (by omega),←Array.getElem?_toList]
  haveI:Inhabited En:=⟨ezz⟩
  obtain ⟨q,hq⟩:=Deep.choose_lt each;refine ⟨(List.range len).map q,⟨by simp,fun i e he=>?_⟩,fun e he=>?_,by simp only [maxLen] at hm;omega⟩
  ·have hi:i<len:=by have:=(List.getElem?_eq_some_iff.1 he).1;simpa using this
   have hqe:q i=e:=by
    rw [List.getElem?_map,List.getElem?_range hi] at he;exact Option.some.inj he
   have hc:=(hq i hi).1;rw [hqe] at hc;refine ⟨a,rfl,?_,hc⟩;have h0:w.cell? ((a.add (i*12)).add 0)=some (.int .u64 e.1.term):=hc 0 (by omega)
   have:=lt_of_cell h0
   rwa [block_of_add,block_of_add] at this
  ·obtain ⟨i,hi,rfl⟩:=List.mem_map.1 he;exact (hq i (List.mem_range.1 hi)).2
theorem open_msg {H:Type} {enc:TypeId×Value→H} {w:World} {base fuel:Nat} {held:Bool} {x:DataW H×List MemPlace} {c0 c1 c2 c3 c4 c5 c6 c7 c8 c9 c10:Value}
 (h:DataW.trod enc Tryz.prog w base (fun _=>true) held fuel 29 [c0,c1,c2,c3,c4,c5,c6,c7,c8,c9,c10]=some x) (hz:∀ n∈x.1.weights Tryz.prog 29,n≤reachBytes)
 (h9:∃ A n c,c9=.slice A n c) :
 ∃ m:Ms,[c0,c1,c2,c3,c4,c5,c6,c7,c8,c9,c10]=(mc m).toList∧m.Wide∧Ents w.heap.size m.A m.n m.es w:=by
 obtain ⟨A,n9,cc,rfl⟩:=h9;obtain ⟨xs,n,_,rfl,hl,hlen,hf⟩:=DataW.trod_struct Tryz.underlying29 h
 match xs,hlen with
 | [y0,y1,y2,y3,y4,y5,y6,y7,y8,y9,y10],_ =>
   have t0:=hf 0 _ rfl;have t1:=hf 1 _ rfl;have t2:=hf 2 _ rfl;have t3:=hf 3 _ rfl;have t4:=hf 4 _ rfl;have t5:=hf 5 _ rfl;have t6:=hf 6 _ rfl;have t7:=hf 7 _ rfl;have t8:=hf 8 _ rfl;have t9:=hf 9 _ rfl;have t10:=hf 10 _ rfl
   simp [cells22,cells3,cells9,cells4,cells27] at t0 t1 t2 t3 t4 t5 t6 t7 t8 t9 t10
   obtain ⟨u0,h0,_,k0⟩:=DataW.trod_int Tryz.underlying3 t0;obtain ⟨u1,h1,_,k1⟩:=DataW.trod_int Tryz.underlying3 t1;obtain ⟨u2,h2,_,k2⟩:=DataW.trod_int Tryz.underlying3 t2;obtain ⟨u3,h3,_,k3⟩:=DataW.trod_int Tryz.underlying22 t3;obtain ⟨u4,h4,_,k4⟩:=DataW.trod_int Tryz.underlying22 t4;obtain ⟨u5,h5,_,k5⟩:=DataW.trod_int Tryz.underlying22 t5;obtain ⟨u6,h6,_,k6⟩:=DataW.trod_int Tryz.underlying22 t6;obtain ⟨u7,h7,_,k7⟩:=DataW.trod_int Tryz.underlying22 t7;obtain ⟨u8,h8,_⟩:=DataW.trod_bool Tryz.underlying4 t8;obtain ⟨es,hE,hO,hN⟩:=open_ents t9 fun n hn=>hz n (DataW.weights_mem_agg Tryz.underlying29 9 rfl rfl n hn);obtain ⟨u10,h10,d10,_⟩:=DataW.trod_string Tryz.underlying9 t10;have b0:=bounds_i64 k0;have b1:=bounds_i64 k1;have b2:=bounds_i64 k2;have b3:=bounds_u64 k3;have b4:=bounds_u64 k4;have b5:=bounds_u64 k5;have b6:=bounds_u64 k6;have b7:=bounds_u64 k7
   simp at h0 h1 h2 h3 h4 h5 h6 h7 h8 h10
   subst h0 h1 h2 h3 h4 h5 h6 h7 h8 h10
   have e10:u10.size≤140737488351232:=by
    have hq:=hz u10.data.toList.length (DataW.weights_mem_agg Tryz.underlying29 10 rfl (by rw [d10];rfl) _ (by simp [DataW.weights]));simp only [reachBytes,Array.length_toList] at hq;exact hq
   refine ⟨⟨u0,u1,u2,u3,u4,u5,u6,u7,u8,A,n9,cc,es,u10⟩,rfl,?_,hE⟩
   constructor<;>first|exact hO|exact e10|exact hN|(dsimp only;omega)
theorem open_note {H:Type} {enc:TypeId×Value→H} {w:World} {base base0:Nat} {r:Reach} {held:Bool} {v:Value} {d:DataW H} {p:List MemPlace}
 (hv:Value.okWide Tryz.prog w r base0 32 v) (h:DataW.Trod enc Tryz.prog w base (fun _=>true) held 32 v d p) (hz:∀ n∈d.weights Tryz.prog 32,n≤reachBytes) :
 ∃ (m:Ms) (o:Bool) (LA:Option Addr) (ln lc:Nat) (L:List (En×Bool)),v=nvv m o LA ln lc∧NoteIn w m LA ln L:=by
 obtain ⟨cs,rfl,hsz⟩:=okWide_struct Tryz.underlying32 hv;rw [cells32] at hsz;obtain ⟨fuel,hf⟩:=h;obtain ⟨xs,n,_,hxx,hl,hlen,hff⟩:=DataW.trod_struct Tryz.underlying32 hf;obtain ⟨l⟩:=cs
 match l,hsz,xs,hlen with
 | [c0,c1,c2,c3,c4,c5,c6,c7,c8,c9,c10,c11,c12],_,[y0,y1,y2],_ =>
   have t0:=hff 0 _ rfl;have t1:=hff 1 _ rfl;have t2:=hff 2 _ rfl
   simp [Value.cells,cells29,cells4,cells30] at t0 t1 t2
   simp only [Prod.mk.injEq] at hxx;obtain ⟨rfl,_⟩:=hxx
   have g9:∃ A n c,c9=.slice A n c:=by
    obtain ⟨xs2,n2,_,_,_,hlen2,hf2⟩:=DataW.trod_struct Tryz.underlying29 t0
    match xs2,hlen2 with
    | [z0,z1,z2,z3,z4,z5,z6,z7,z8,z9,z10],_ =>
      have q9:=hf2 9 _ rfl
      simp [cells27] at q9
      rcases Deep.open_slice Tryz.underlying27 q9 with ⟨hcs,_⟩|⟨a,len',cap',m,n,D,Pl,hcs,_⟩
      ·exact ⟨_,_,_,by simpa using hcs⟩
      ·exact ⟨_,_,_,by simpa using hcs⟩
   have g12:∃ A n c,c12=.slice A n c:=by
    rcases Deep.open_slice Tryz.underlying30 t2 with ⟨hcs,_⟩|⟨a,len',cap',m,n,D,Pl,hcs,_⟩
    ·exact ⟨_,_,_,by simpa using hcs⟩
    ·exact ⟨_,_,_,by simpa using hcs⟩
   obtain ⟨m,hm,mw,hE⟩:=open_msg t0 (fun n hn=>hz n (DataW.weights_mem_agg Tryz.underlying32 0 rfl rfl n hn)) g9;obtain ⟨b,hb,_⟩:=DataW.trod_bool Tryz.underlying4 t1;obtain ⟨LA,ln,lc,rfl⟩:=g12;obtain ⟨L,hL,hO,hN⟩:=open_mades t2 fun n hn=>hz n (DataW.weights_mem_agg Tryz.underlying32 2 rfl rfl n hn)
   simp at hm hb
   obtain ⟨rfl,rfl,rfl,rfl,rfl,rfl,rfl,rfl,rfl,rfl,rfl⟩:=hm;subst hb;exact ⟨m,b,LA,ln,lc,L,rfl,⟨mw,hE,hL,hO,hN⟩⟩
end Go.Proofs.YtpdbeijfchmlgaaGreat
