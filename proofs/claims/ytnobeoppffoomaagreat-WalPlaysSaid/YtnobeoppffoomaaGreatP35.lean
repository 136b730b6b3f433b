/-
  WalPlays: ZRf ZRn ZAf.
  Conditions: named in each theorem.
-/
import Derived.Test.YtnobeoppffoomaaGreatP04
import Derived.Test.YtnobeoppffoomaaGreatP02
import Derived.Deep.RegionLaw
import Derived.Deep.CutRange
import Derived.Test.YtnobeoppffoomaaGreatP0
set_option linter.unusedVariables false
set_option linter.unusedSimpArgs false
set_option maxHeartbeats 8000000
set_option maxRecDepth 100000
namespace Go.Proofs.YtnobeoppffoomaaGreat
open Go.RowKit Dk
theorem Tryz.info9:(Tryz.prog.info? 9).map (fun i=>(i.zero,i.size,i.bytes))=some (some (.string ⟨#[]⟩),1,16):=by kernel_rfl
theorem Tryz.info4:(Tryz.prog.info? 4).map (fun i=>(i.zero,i.size,i.bytes))=some (some (.bool false),1,1):=by kernel_rfl
namespace Dk
def rowV (f:Nat→Value) (n:Nat):List Value:=(List.range n).map f
theorem rowV_length (f:Nat→Value) (n:Nat):(rowV f n).length=n:=by simp [rowV]
theorem rowV_succ (f:Nat→Value) (n:Nat):rowV f (n+1)=rowV f n++[f n]:=by simp [rowV,List.range_succ]
theorem rowV_get (f:Nat→Value) (n i:Nat) (h:i<n):(rowV f n)[i]?=some (f i):=by simp [rowV,h]
theorem rowV_set (f g:Nat→Value) (n i:Nat) (h:∀ j,j<n→j≠i→g j=f j):(rowV f n).set i (g i)=rowV g n:=by
 apply List.ext_getElem?
 intro j
 rw [List.getElem?_set]
 by_cases e:i=j
 ·subst e
  rw [if_pos rfl,rowV_length]
  split
  ·rename_i hi;rw [rowV_get g n i hi]
  ·rename_i hi;rw [List.getElem?_eq_none (by rw [rowV_length];omega)]
 ·rw [if_neg e]
  by_cases hj:j<n
  ·rw [rowV_get f n j hj,rowV_get g n j hj,h j hj (fun e1=>e e1.symm)]
  ·rw [List.getElem?_eq_none (by rw [rowV_length];omega),List.getElem?_eq_none (by rw [rowV_length];omega)]
theorem rowV_congr (f g:Nat→Value) (n:Nat) (h:∀ j,j<n→f j=g j):rowV f n=rowV g n:=by
 unfold rowV
 exact List.map_congr_left (fun j hj=>h j (List.mem_range.1 hj))
def nowV (d:St) (i:Nat):Value:=.string (txt (d.now i))
def oldV (d:St) (i:Nat):Value:=.string (txt (d.fl i))
def wtV (d:St) (i:Nat):Value:=.bool (d.wt i).isSome
structure RfAt (w:World) (B gr:Nat) (v1 v2 v3:Value) (d:St):Prop where
 blk:w.heap[gr]?=some (.cells #[v1,v2,v3,.int .i64 (max d.left (-1)),.bool d.dead] 103 (0,0))
 r1:w.ownsRow B 9 1 v1 d.n (rowV (nowV d) d.n)
 r2:w.ownsRow B 9 1 v2 d.n (rowV (oldV d) d.n)
 r3:w.ownsRow B 4 1 v3 d.n (rowV (wtV d) d.n)
 ap:∀ k,v1.ownBlock=some k→v2.ownBlock≠some k
 hB:B≤gr
def blks (gr:Nat) (v1 v2 v3:Value):List Nat:=gr :: (v1.ownBlock.toList++v2.ownBlock.toList++v3.ownBlock.toList)
def Rf (w:World) (B gr:Nat) (L:List Nat) (d:St):Prop:=d.Ok∧∃ v1 v2 v3,L=blks gr v1 v2 v3∧RfAt w B gr v1 v2 v3 d
theorem mem_blks {gr k:Nat} {v1 v2 v3:Value}:k∈blks gr v1 v2 v3↔k=gr∨v1.ownBlock=some k∨v2.ownBlock=some k∨v3.ownBlock=some k:=by
 unfold blks
 simp [Option.mem_toList]
section
variable {w w':World} {B gr g:Nat} {v1 v2 v3:Value} {L L':List Nat} {d d':St}
theorem own_heap {e s n k:Nat} {v:Value} {xs:List Value} (h:w.ownsRow B e s v n xs) (hk:v.ownBlock=some k):∃ cur,w.heap[k]?=some (.cells cur e (0,0)):=by
 rcases h.2 with ⟨rfl,_⟩|⟨gb,c,cur,rfl,_,hh,_⟩
 ·simp [Value.ownBlock] at hk
 ·have:gb=k:=by simpa [Value.ownBlock] using hk
  subst this;exact ⟨cur,hh⟩
theorem row_of_heap {e s n:Nat} {v:Value} {xs:List Value} (h:w.ownsRow B e s v n xs) (he:∀ k,v.ownBlock=some k→w'.heap[k]?=w.heap[k]?):w'.ownsRow B e s v n xs:=by
 obtain ⟨hl,h⟩:=h
 refine ⟨hl,?_⟩
 rcases h with h|⟨gb,c,cur,rfl,hb,hh,r⟩
 ·exact .inl h
 ·exact .inr ⟨gb,c,cur,rfl,hb,(he gb (by simp [Value.ownBlock])).trans hh,r⟩
theorem RfAt.of_heap (h:RfAt w B gr v1 v2 v3 d) (he:∀ k∈blks gr v1 v2 v3,w'.heap[k]?=w.heap[k]?):RfAt w' B gr v1 v2 v3 d :=
 ⟨(he gr (mem_blks.2 (.inl rfl))).trans h.blk,row_of_heap h.r1 (fun k hk=>he k (mem_blks.2 (.inr (.inl hk)))),row_of_heap h.r2 (fun k hk=>he k (mem_blks.2 (.inr (.inr (.inl hk))))),row_of_heap h.r3 (fun k hk=>he k (mem_blks.2 (.inr (.inr (.inr hk))))),h.ap,h.hB⟩
theorem Rf.types (h:Rf w B gr L d):∀ k∈L,∃ cur t,w.heap[k]?=some (.cells cur t (0,0))∧(t=103∨t=9∨t=4):=by
 obtain ⟨_,v1,v2,v3,rfl,hA⟩:=h
 intro k hk
 rcases mem_blks.1 hk with rfl|hk|hk|hk
 ·exact ⟨_,_,hA.blk,.inl rfl⟩
 ·obtain ⟨cur,hh⟩:=own_heap hA.r1 hk;exact ⟨_,_,hh,.inr (.inl rfl)⟩
 ·obtain ⟨cur,hh⟩:=own_heap hA.r2 hk;exact ⟨_,_,hh,.inr (.inl rfl)⟩
 ·obtain ⟨cur,hh⟩:=own_heap hA.r3 hk;exact ⟨_,_,hh,.inr (.inr rfl)⟩
theorem Rf.lt (h:Rf w B gr L d):∀ k∈L,k<w.heap.size:=fun k hk=>by
 obtain ⟨cur,t,hh,_⟩:=h.types k hk;exact lt_of_heap hh
theorem Rf.of_heap (h:Rf w B gr L d) (he:∀ k∈L,w'.heap[k]?=w.heap[k]?):Rf w' B gr L d:=by
 obtain ⟨ho,v1,v2,v3,rfl,hA⟩:=h
 exact ⟨ho,v1,v2,v3,rfl,hA.of_heap he⟩
theorem Rf.below (h:Rf w B gr L d) (hb:Below w.heap.size w w'):Rf w' B gr L d:=h.of_heap (fun k hk=>hb.block k (h.lt k hk))
theorem Rf.low (h:Rf w B gr L d):∀ k∈L,B≤k:=by
 obtain ⟨_,v1,v2,v3,rfl,hA⟩:=h
 intro k hk
 rcases mem_blks.1 hk with rfl|hk|hk|hk
 ·exact hA.hB
 ·exact (hA.r1.lt k hk).1
 ·exact (hA.r2.lt k hk).1
 ·exact (hA.r3.lt k hk).1
theorem rf_apart {K:List Nat} {gd:Nat} {e:St} (h:Rf w B gr L d) (hD:Dv w gd K e):∀ k∈L,k∉K:=by
 intro k hk hm
 obtain ⟨cur,t,hh,ht⟩:=h.types k hk
 obtain ⟨_,fb,mb,cap,rfl,hA⟩:=hD
 simp at hm
 rcases hm with rfl|rfl|rfl
 ·rcases ht with rfl|rfl|rfl<;>(have:=hh.symm.trans hA.blk;simp at this)
 ·obtain ⟨cur',h1,_⟩:=hA.row
  rcases ht with rfl|rfl|rfl<;>(have:=hh.symm.trans h1;simp at this)
 ·obtain ⟨D,⟨es,clock,hb,_⟩,_⟩:=hA.map
  have:=hh.symm.trans hb;simp at this
end
end Dk
end Go.Proofs.YtnobeoppffoomaaGreat
namespace Go.Proofs.YtnobeoppffoomaaGreat
open Go.RowKit Dk
def zV (_:Nat):Value:=.string (txt zsec)
def fV (_:Nat):Value:=.bool false
structure Mid (w:World) (B:Nat) (v1 v2 v3:Value) (k1 k2 k3:Nat):Prop where
 blk:w.heap[B]?=some (.cells #[v1,v2,v3,.int .i64 (-1),.bool false] 103 (0,0))
 r1:w.ownsRow B 9 1 v1 k1 (rowV zV k1)
 r2:w.ownsRow B 9 1 v2 k2 (rowV zV k2)
 r3:w.ownsRow B 4 1 v3 k3 (rowV fV k3)
 ap:∀ k,v1.ownBlock=some k→v2.ownBlock≠some k
section
variable {w w':World} {B:Nat} {v1 v2 v3:Value} {k1 k2 k3:Nat}
theorem Mid.ne1 (h:Mid w B v1 v2 v3 k1 k2 k3):v1.ownBlock≠some B:=fun e=>by
 obtain ⟨cur,hh⟩:=own_heap h.r1 e
 have:=hh.symm.trans h.blk;simp at this
theorem Mid.ne2 (h:Mid w B v1 v2 v3 k1 k2 k3):v2.ownBlock≠some B:=fun e=>by
 obtain ⟨cur,hh⟩:=own_heap h.r2 e
 have:=hh.symm.trans h.blk;simp at this
theorem Mid.ne3 (h:Mid w B v1 v2 v3 k1 k2 k3):v3.ownBlock≠some B:=fun e=>by
 obtain ⟨cur,hh⟩:=own_heap h.r3 e
 have:=hh.symm.trans h.blk;simp at this
theorem own_ne {e e' s n s' n' k:Nat} {v v':Value} {xs xs':List Value} {B':Nat} (h:w.ownsRow B e s v n xs) (h':w.ownsRow B' e' s' v' n' xs') (hne:e≠e') (hk:v.ownBlock=some k):v'.ownBlock≠some k:=fun e1=>by
 obtain ⟨cur,hh⟩:=own_heap h hk
 obtain ⟨cur',hh'⟩:=own_heap h' e1
 have:=hh.symm.trans hh'
 simp only [Option.some.injEq,Obj.cells.injEq] at this
 exact hne this.2.1
theorem Mid.below (h:Mid w B v1 v2 v3 k1 k2 k3) (hb:Below w.heap.size w w'):Mid w' B v1 v2 v3 k1 k2 k3 :=
 ⟨(hb.block B (lt_of_heap h.blk)).trans h.blk,row_of_heap h.r1 (fun k hk=>hb.block k (h.r1.lt k hk).2),row_of_heap h.r2 (fun k hk=>hb.block k (h.r2.lt k hk).2),row_of_heap h.r3 (fun k hk=>hb.block k (h.r3.lt k hk).2),h.ap⟩
theorem Mid.now {g cap:Nat} (h:Mid w B v1 v2 v3 k1 k2 k3) (hg:w.grownBy w' v1.ownBlock) (ho:w'.ownsRow B 9 1 (.slice (some ⟨g,0,none⟩) (k1+1) cap) (k1+1) (rowV zV k1++[.string (txt zsec)])) (hat:v1.ownBlock=some g∨w.heap.size≤g) :
 Mid (w'.setCell ⟨B,0,none⟩ (.slice (some ⟨g,0,none⟩) (k1+1) cap)) B (.slice (some ⟨g,0,none⟩) (k1+1) cap) v2 v3 (k1+1) k2 k3:=by
 have hB:=lt_of_heap h.blk
 have hgB:g≠B:=by
  rcases hat with e|e
  ·rintro rfl;exact h.ne1 e
  ·omega
 have so:∀ k,k≠B→(w'.setCell ⟨B,0,none⟩ (.slice (some ⟨g,0,none⟩) (k1+1) cap)).heap[k]?=w'.heap[k]?:=fun k hk=>heap_setCell_other w' ⟨B,0,none⟩ k _ hk
 refine ⟨?_,?_,?_,?_,?_⟩
 ·exact heap_setCell_same w' B 0 _ 103 _ ((hg.block B hB (fun e=>h.ne1 e.symm)).trans h.blk)
 ·rw [rowV_succ]
  refine row_of_heap ho (fun k hk=>so k ?_)
  have:g=k:=by simpa [Value.ownBlock] using hk
  omega
 ·refine row_of_heap h.r2 (fun k hk=>(so k (fun e=>h.ne2 (e▸hk))).trans (hg.block k (h.r2.lt k hk).2 (fun e=>h.ap k e.symm hk)))
 ·refine row_of_heap h.r3 (fun k hk=>(so k (fun e=>h.ne3 (e▸hk))).trans (hg.block k (h.r3.lt k hk).2 (fun e=>own_ne h.r1 h.r3 (by decide) e.symm hk)))
 ·intro k hk hk2
  have e:g=k:=by simpa [Value.ownBlock] using hk
  subst e
  rcases hat with e|e
  ·exact h.ap g e hk2
  ·have:=(h.r2.lt g hk2).2;omega
theorem Mid.old {g cap:Nat} (h:Mid w B v1 v2 v3 k1 k2 k3) (hg:w.grownBy w' v2.ownBlock) (ho:w'.ownsRow B 9 1 (.slice (some ⟨g,0,none⟩) (k2+1) cap) (k2+1) (rowV zV k2++[.string (txt zsec)])) (hat:v2.ownBlock=some g∨w.heap.size≤g) :
 Mid (w'.setCell ⟨B,1,none⟩ (.slice (some ⟨g,0,none⟩) (k2+1) cap)) B v1 (.slice (some ⟨g,0,none⟩) (k2+1) cap) v3 k1 (k2+1) k3:=by
 have hB:=lt_of_heap h.blk
 have hgB:g≠B:=by
  rcases hat with e|e
  ·rintro rfl;exact h.ne2 e
  ·omega
 have so:∀ k,k≠B→(w'.setCell ⟨B,1,none⟩ (.slice (some ⟨g,0,none⟩) (k2+1) cap)).heap[k]?=w'.heap[k]?:=fun k hk=>heap_setCell_other w' ⟨B,1,none⟩ k _ hk
 refine ⟨?_,?_,?_,?_,?_⟩
 ·exact heap_setCell_same w' B 1 _ 103 _ ((hg.block B hB (fun e=>h.ne2 e.symm)).trans h.blk)
 ·refine row_of_heap h.r1 (fun k hk=>(so k (fun e=>h.ne1 (e▸hk))).trans (hg.block k (h.r1.lt k hk).2 (fun e=>h.ap k hk e.symm)))
 ·rw [rowV_succ]
  refine row_of_heap ho (fun k hk=>so k ?_)
  have:g=k:=by simpa [Value.ownBlock] using hk
  omega
 ·refine row_of_heap h.r3 (fun k hk=>(so k (fun e=>h.ne3 (e▸hk))).trans (hg.block k (h.r3.lt k hk).2 (fun e=>own_ne h.r2 h.r3 (by decide) e.symm hk)))
 ·intro k hk hk2
  have e:g=k:=by simpa [Value.ownBlock] using hk2
  subst e
  rcases hat with e|e
  ·exact h.ap g hk e
  ·have:=(h.r1.lt g hk).2;omega
theorem Mid.wait {g cap:Nat} (h:Mid w B v1 v2 v3 k1 k2 k3) (hg:w.grownBy w' v3.ownBlock) (ho:w'.ownsRow B 4 1 (.slice (some ⟨g,0,none⟩) (k3+1) cap) (k3+1) (rowV fV k3++[.bool false])) (hat:v3.ownBlock=some g∨w.heap.size≤g) :
 Mid (w'.setCell ⟨B,2,none⟩ (.slice (some ⟨g,0,none⟩) (k3+1) cap)) B v1 v2 (.slice (some ⟨g,0,none⟩) (k3+1) cap) k1 k2 (k3+1):=by
 have hB:=lt_of_heap h.blk
 have hgB:g≠B:=by
  rcases hat with e|e
  ·rintro rfl;exact h.ne3 e
  ·omega
 have so:∀ k,k≠B→(w'.setCell ⟨B,2,none⟩ (.slice (some ⟨g,0,none⟩) (k3+1) cap)).heap[k]?=w'.heap[k]?:=fun k hk=>heap_setCell_other w' ⟨B,2,none⟩ k _ hk
 refine ⟨?_,?_,?_,?_,h.ap⟩
 ·exact heap_setCell_same w' B 2 _ 103 _ ((hg.block B hB (fun e=>h.ne3 e.symm)).trans h.blk)
 ·refine row_of_heap h.r1 (fun k hk=>(so k (fun e=>h.ne1 (e▸hk))).trans (hg.block k (h.r1.lt k hk).2 (fun e=>own_ne h.r3 h.r1 (by decide) e.symm hk)))
 ·refine row_of_heap h.r2 (fun k hk=>(so k (fun e=>h.ne2 (e▸hk))).trans (hg.block k (h.r2.lt k hk).2 (fun e=>own_ne h.r3 h.r2 (by decide) e.symm hk)))
 ·rw [rowV_succ]
  refine row_of_heap ho (fun k hk=>so k ?_)
  have:g=k:=by simpa [Value.ownBlock] using hk
  omega
end
theorem rnew_yes (n:Nat) (w:World) (h1:1≤n) (h2:n≤4096) :
 Calls Tryz.prog 19 #[.int .i64 n] w fun e w'=>∃ gr L,e=.returned (ptr gr)∧Rf w' w.heap.size gr L (St.fresh n (fun _=>zsec))∧Below w.heap.size w w':=by
 obtain ⟨i0,hi,hz0,hz1,hz2⟩:=info_parts Tryz.info5
 obtain ⟨i9,hi9,hz90,hz91,hz92⟩:=info_parts Tryz.info9
 obtain ⟨i4,hi4,hz40,hz41,hz42⟩:=info_parts Tryz.info4
 have h0':decide ((n:Int)<1)=false:=decide_eq_false (by omega)
 have h1':decide (4096<(n:Int))=false:=decide_eq_false (by omega)
 go_enter Tryz.func19,Tryz.ntmps19
 go_wp2_with fail
 have hblk0:(w.alloc (.cells #[.slice none 0 0,.slice none 0 0,.slice none 0 0,.int .i64 (-1),.bool false] 103)).heap[w.heap.size]?=_:=heap_alloc_new w _
 go_loopw [4] (fun i wr=>∃ (k:Nat) (v1 v2 v3:Value),k≤n∧i=.int .i64 k∧Mid wr w.heap.size v1 v2 v3 k k k∧Below w.heap.size w wr) (fun i _=>n-(RowKit.intOf i).toNat)
 case atStart =>
  exact ⟨0,_,_,_,by omega,rfl,⟨hblk0,World.ownsRow_nil _ _ _ _,World.ownsRow_nil _ _ _ _,World.ownsRow_nil _ _ _ _,fun k hk=>by simp [Value.ownBlock] at hk⟩,(Below.refl _ _).alloc (Nat.le_refl _) _⟩
 case round =>
  obtain ⟨k,v1,v2,v3,hk,rfl,hA,hbr⟩:=hrel
  by_cases hlt:k<n
  ·
   have hlB:w.heap.size<wr.heap.size:=lt_of_heap hA.blk
   obtain ⟨M,hM⟩:∃ M,M=(Lib.byteCells zsec).toArray:=⟨_,rfl⟩
   have hmk:(Instr.makeSlice 68 (.int .i64 64) (.int .i64 64)).run Tryz.prog wr.drew=.ok (.slice (some ⟨wr.heap.size,0,none⟩) 64 64) (wr.alloc (.cells M 5)).drew:=by
    have h1:=run_make (P:=Tryz.prog) wr.drew 68 5 i0 (.int .u8 0) Tryz.underlying68 hi hz0 .i64 .i64 64 64 (by omega) (by omega) (by rw [hz2];omega) (by omega)
    have e:madeCells (Value.int .u8 0).cells ((64:Int).toNat*i0.size)=M:=by
     rw [hM,hz1]
     apply Array.ext'
     have h2:=toList_madeCells_one (Value.int .u8 0) 64
     show (madeCells #[Value.int IntKind.u8 0] 64).toList=_
     rw [h2]
     simp [Lib.byteCells,zsec]
    rw [e] at h1
    exact h1
   have hcv:(convert 68 9 (.slice (some ⟨wr.heap.size,0,none⟩) 64 64)).run Tryz.prog (wr.alloc (.cells M 5)).drew=.ok (.string (txt zsec)) (wr.alloc (.cells M 5)).drew:=by
    refine conv_sec zsec_length (fun j u hu=>?_)
    have hh:(wr.alloc (.cells M 5)).drew.heap[wr.heap.size]?=some (.cells M 5 (0,0)):=heap_alloc_new wr _
    rw [zcr _ _ _ _ 5 (0,0) hh,Nat.zero_add,hM]
    simpa using hu
   have hcv2:(convert 68 9 (.slice (some ⟨wr.heap.size,0,none⟩) 64 64)).run Tryz.prog (wr.alloc (.cells M 5)).drew=.ok (.string (txt zsec)) (wr.alloc (.cells M 5)).drew:=hcv
   obtain ⟨w2,hw2⟩:∃ w2,w2=((wr.alloc (.cells M 5)).alloc (.cells #[.string (txt zsec)] 9)).drew:=⟨_,rfl⟩
   have hb2:Below wr.heap.size wr w2:=by rw [hw2];exact (((Below.refl _ wr).alloc (Nat.le_refl _) _).alloc (by simp) _).drew
   have hb1:Below wr.heap.size wr (wr.alloc (.cells M 5)).drew:=((Below.refl _ wr).alloc (Nat.le_refl _) _).drew
   have hA2:Mid w2 w.heap.size v1 v2 v3 k k k:=hA.below hb2
   have hnews:∀ j u,[Value.string (txt zsec)][j]?=some u→w2.cell? ((⟨wr.heap.size+1,0,none⟩:Addr).add j)=some u:=fun j u hu=>by
    rw [hw2]
    have h1:=cell_one_new (wr.alloc (.cells M 5)) (.string (txt zsec)) 9 j u hu
    rw [World.size_alloc] at h1
    exact h1
   have hs2:w2.heap.size=wr.heap.size+2:=by rw [hw2];simp
   have c0:wr.drew.cell? ⟨w.heap.size,0,none⟩=some v1:=zcr wr.drew w.heap.size 0 _ 103 (0,0) hA.blk
   have q1:(wr.alloc (.cells M 5)).drew.cell? ⟨w.heap.size,0,none⟩=some v1:=(hb1.cell (p:=⟨w.heap.size,0,none⟩) hlB).trans c0
   have q2:((wr.alloc (.cells M 5)).alloc (.cells #[.string (txt zsec)] 9)).drew.cell? ⟨w.heap.size,0,none⟩=some v1:=by rw [←hw2];exact (hb2.cell (p:=⟨w.heap.size,0,none⟩) hlB).trans c0
   have f2:w2.frozen? ⟨w.heap.size,0,none⟩=false:=frozen_of_row w2 w.heap.size 0 _ 103 hA2.blk
   have HA2:=zh hA2
   have HB:=zh hbr
   have HB2:=zh hb2
   have HS2:=zh hs2
   have HN:=zh hnews
   have Q2:=zh q2
   have F2:=zh f2
   have HW2:=zh hw2
   clear hA hbr hblk0 hM hw2 hb2 hnews hA2 hs2 hb1 f2 hcv2
   go_upto_region 7 with fail
   go_cut [13] from 13 to 53 (fun s13 wx=>s13=s13∧∃ u1,Mid wx w.heap.size u1 v2 v3 (k+1) k k∧Below w.heap.size w wx)
   case first =>
    go_region_law ((refine step_append_lies _ (by rfl) _ _ 100 (by rfl) w.heap.size 9 i9 (.string ⟨#[]⟩) 1 16 Tryz.underlying100 hi9 hz90 hz91 hz92 (by rfl) (by omega) v1 k (rowV zV k) (by rfl) (by rw [←HW2.out];exact HA2.out.r1) ⟨wr.heap.size+1,0,none⟩ 1 1 [.string (txt zsec)] (by rfl) rfl (by rw [←HW2.out];exact HN.out) (fun u hu=>by simp at hu;subst hu;rfl) (by omega) (by unfold maxLen;omega) (by omega) (by rw [←HW2.out,HS2.out];omega) (wr.heap.size+2) (by rw [←HW2.out,HS2.out]) ?_;intro g cap w4 hown4 hgrow hat hlt4;rw [←HW2.out] at hgrow;have d0:w4.cell? ⟨w.heap.size,0,none⟩=some v1:=World.grownBy.cell hgrow (by rw [HW2.out];exact Q2.out) (fun e=>HA2.out.ne1 e.symm);have g0:w4.frozen? ⟨w.heap.size,0,none⟩=false:=(World.frozen?_of_block (hgrow.block _ (lt_of_heap HA2.out.blk) (fun e=>HA2.out.ne1 e.symm))).trans F2.out))
    all_goals
     go_wp2_with fail
     go_meet
     exact ⟨trivial,_,HA2.out.now hgrow hown4 (hat.imp id (fun e=>by have:=HS2.out;omega)),((HB.out.trans (HB2.out.mono (by omega))).grown hgrow (by have:=HS2.out;omega) (fun j hj=>(HA2.out.r1.lt j hj).1)).setCell (p:=⟨w.heap.size,0,none⟩) (Nat.le_refl _) _⟩
   case rest =>
    obtain ⟨_,u1,hA,hbr⟩:=hcut
    clear HA2 HB HB2 HS2 HN Q2 F2 HW2 hmk hcv c0 q1 q2
    have hlC:w.heap.size<wc.heap.size:=lt_of_heap hA.blk
    obtain ⟨g1,cap1,rfl,hg1⟩:=hA.r1.form (by omega)
    have hbw:Below wc.heap.size wc (wc.alloc (.cells #[.string (txt zsec)] 9)).drew:=((Below.refl _ wc).alloc (Nat.le_refl _) _).drew
    obtain ⟨w2,hw2⟩:∃ w2,w2=(wc.alloc (.cells #[.string (txt zsec)] 9)).drew:=⟨_,rfl⟩
    have hb2:Below wc.heap.size wc w2:=by rw [hw2];exact hbw
    have hA2:=hA.below hb2
    have hnews:∀ j u,[Value.string (txt zsec)][j]?=some u→w2.cell? ((⟨wc.heap.size,0,none⟩:Addr).add j)=some u:=fun j u hu=>by
     rw [hw2]
     exact cell_one_new wc (.string (txt zsec)) 9 j u hu
    have hs2:w2.heap.size=wc.heap.size+1:=by rw [hw2];simp
    have c0:wc.drew.cell? ⟨w.heap.size,0,none⟩=some (.slice (some ⟨g1,0,none⟩) (k+1) cap1):=zcr wc.drew w.heap.size 0 _ 103 (0,0) hA.blk
    have c1:wc.drew.cell? ⟨w.heap.size,1,none⟩=some v2:=zcr wc.drew w.heap.size 1 _ 103 (0,0) hA.blk
    have q1:(wc.alloc (.cells #[.string (txt zsec)] 9)).drew.cell? ⟨w.heap.size,1,none⟩=some v2:=(hbw.cell (p:=⟨w.heap.size,1,none⟩) hlC).trans c1
    have cz:wc.drew.cell? ⟨g1,k,none⟩=some (.string (txt zsec)):=by
     have h1:=hA.r1.cellAt k (by omega)
     rw [rowV_get zV (k+1) k (by omega)] at h1
     exact h1
    have f2:w2.frozen? ⟨w.heap.size,1,none⟩=false:=frozen_of_row w2 w.heap.size 1 _ 103 hA2.blk
    have hk0:(0:Int)≤k:=by omega
    have hk1:(k:Int)<(k:Int)+1:=by omega
    have HA2:=zh hA2
    have HB:=zh hbr
    have HB2:=zh hb2
    have HS2:=zh hs2
    have HN:=zh hnews
    have Q2:=zh q1
    have F2:=zh f2
    have HW2:=zh hw2
    clear hA hbr hw2 hb2 hnews hA2 hs2 f2 hbw
    go_upto_region 8 with fail
    go_cut [13] from 13 to 53 (fun s13 wx=>s13=s13∧∃ u1 u2,Mid wx w.heap.size u1 u2 v3 (k+1) (k+1) k∧Below w.heap.size w wx)
    case first =>
     go_region_law ((refine step_append_lies _ (by rfl) _ _ 100 (by rfl) w.heap.size 9 i9 (.string ⟨#[]⟩) 1 16 Tryz.underlying100 hi9 hz90 hz91 hz92 (by rfl) (by omega) v2 k (rowV zV k) (by rfl) (by rw [←HW2.out];exact HA2.out.r2) ⟨wc.heap.size,0,none⟩ 1 1 [.string (txt zsec)] (by rfl) rfl (by rw [←HW2.out];exact HN.out) (fun u hu=>by simp at hu;subst hu;rfl) (by omega) (by unfold maxLen;omega) (by omega) (by rw [←HW2.out,HS2.out];omega) (wc.heap.size+1) (by rw [←HW2.out,HS2.out]) ?_;intro g cap w4 hown4 hgrow hat hlt4;rw [←HW2.out] at hgrow;have d0:w4.cell? ⟨w.heap.size,1,none⟩=some v2:=World.grownBy.cell hgrow (by rw [HW2.out];exact Q2.out) (fun e=>HA2.out.ne2 e.symm);have g0:w4.frozen? ⟨w.heap.size,1,none⟩=false:=(World.frozen?_of_block (hgrow.block _ (lt_of_heap HA2.out.blk) (fun e=>HA2.out.ne2 e.symm))).trans F2.out))
     all_goals
      go_wp2_with fail
      go_meet
      exact ⟨trivial,_,_,HA2.out.old hgrow hown4 (hat.imp id (fun e=>by have:=HS2.out;omega)),((HB.out.trans (HB2.out.mono (by omega))).grown hgrow (by have:=HS2.out;omega) (fun j hj=>(HA2.out.r2.lt j hj).1)).setCell (p:=⟨w.heap.size,1,none⟩) (Nat.le_refl _) _⟩
    case rest =>
     obtain ⟨_,u1,u2,hA,hbr⟩:=hcut
     clear HA2 HB HB2 HS2 HN Q2 F2 HW2 c0 c1 q1 cz hg1
     have hlD:w.heap.size<wc.heap.size:=lt_of_heap hA.blk
     have c2:wc.cell? ⟨w.heap.size,2,none⟩=some v3:=zcr wc w.heap.size 2 _ 103 (0,0) hA.blk
     obtain ⟨w2,hw2⟩:∃ w2,w2=wc.alloc (.cells #[.bool false] 4):=⟨_,rfl⟩
     have hb2:Below wc.heap.size wc w2:=by rw [hw2];exact (Below.refl _ wc).alloc (Nat.le_refl _) _
     have hA2:=hA.below hb2
     have hnews:∀ j u,[Value.bool false][j]?=some u→w2.cell? ((⟨wc.heap.size,0,none⟩:Addr).add j)=some u:=fun j u hu=>by
      rw [hw2];exact cell_one_new wc (.bool false) 4 j u hu
     have hs2:w2.heap.size=wc.heap.size+1:=by rw [hw2];simp
     have HA2:=zh hA2
     have HB:=zh hbr
     have HB2:=zh hb2
     have HS2:=zh hs2
     have HN:=zh hnews
     have HW2:=zh hw2
     clear hA hbr hw2 hb2 hnews hA2 hs2
     go_wp2_with (at_builtin;refine wpList_append_lies _ rfl _ _ 101 rfl w.heap.size 4 i4 (.bool false) 1 1 Tryz.underlying101 hi4 hz40 hz41 hz42 rfl (by omega) v3 k (rowV fV k) rfl (by rw [←HW2.out];exact HA2.out.r3) ⟨wc.heap.size,0,none⟩ 1 1 [.bool false] rfl rfl (by rw [←HW2.out];exact HN.out) (fun u hu=>by simp at hu;subst hu;rfl) (by omega) (by unfold maxLen;omega) (by omega) (by rw [←HW2.out,HS2.out];omega) (wc.heap.size+1) (by rw [←HW2.out,HS2.out]) ?_;intro g cap w4 hown4 hgrow hat hlt4;rw [←HW2.out] at hgrow;have d0:w4.cell? ⟨w.heap.size,2,none⟩=some v3:=(World.grownBy.cell hgrow (zcr w2 w.heap.size 2 _ 103 (0,0) HA2.out.blk) (fun e=>HA2.out.ne3 e.symm));have g0:w4.frozen? ⟨w.heap.size,2,none⟩=false:=(World.frozen?_of_block (hgrow.block _ (lt_of_heap HA2.out.blk) (fun e=>HA2.out.ne3 e.symm))).trans (frozen_of_row w2 w.heap.size 2 _ 103 HA2.out.blk))
     have hM:=HA2.out.wait hgrow hown4 (hat.imp id (fun e=>by have:=HS2.out;omega))
     have hBW:Below w.heap.size w (w4.setCell ⟨w.heap.size,2,none⟩ (.slice (some ⟨g,0,none⟩) (k+1) cap)):=((HB.out.trans (HB2.out.mono (by omega))).grown hgrow (by have:=HS2.out;omega) (fun j hj=>(HA2.out.r3.lt j hj).1)).setCell (p:=⟨w.heap.size,2,none⟩) (Nat.le_refl _) _
     have HM:=zh hM
     have HBW:=zh hBW
     clear hM hBW
     go_wp2
     go_roundw
     case rel=>exact ⟨k+1,_,_,_,by omega,by go_num,HM.out,HBW.out⟩
     case measure=>simp [RowKit.intOf];omega
  ·have hk':k=n:=by omega
   subst hk'
   go_wp2
   go_ret
   exact ⟨w.heap.size,blks w.heap.size v1 v2 v3,rfl,⟨St.fresh_ok h1 h2 (fun _=>zsec_length),v1,v2,v3,rfl,⟨hA.blk,hA.r1,hA.r2,hA.r3,hA.ap,Nat.le_refl _⟩⟩,hbr⟩
end Go.Proofs.YtnobeoppffoomaaGreat
namespace Go.Proofs.YtnobeoppffoomaaGreat
open Go.RowKit Go.Maps Dk
theorem sclone_any (fb n cap:Nat) (F:Nat→Sec) (w:World) (h:RowAt w fb n F) (hF:∀ i,(F i).length=64) (h1:1≤n) (h2:n≤4096) :
 Calls Tryz.prog 48 #[.slice (some ⟨fb,0,none⟩) n cap] w fun e w'=>∃ fb' cap',e=.returned (.slice (some ⟨fb',0,none⟩) n cap')∧RowAt w' fb' n F∧w.heap.size≤fb'∧n≤cap'∧Below w.heap.size w w':=by
 obtain ⟨i0,hi,hz0,hz1,hz2⟩:=info_parts Tryz.info106
 obtain ⟨cur,hc1,hc2,hc3⟩:=h
 have hx:∀ i,i<n→∀ j,j<64→(cur.toList.take (n*64))[i*64+j]?=(Lib.byteCells (F i))[j]?:=fun i hi j hj=>by
  have hk:i*64+j<n*64:=by
   have:(i+1)*64≤n*64:=Nat.mul_le_mul_right _ hi
   omega
  rw [List.getElem?_take,if_pos hk,Array.getElem?_toList,hc3 i hi j hj]
 have hone:∀ u∈cur.toList.take (n*64),u.oneCell'=true:=fun u hu=>by
  obtain ⟨k,hk,rfl⟩:=List.getElem_of_mem hu
  have hk':k<n*64:=by simp at hk;omega
  have hd:k / 64<n:=by omega
  have hm:k % 64<64:=Nat.mod_lt _ (by omega)
  have e:(cur.toList.take (n*64))[k]?=(Lib.byteCells (F (k / 64)))[k % 64]?:=by
   have:=hx (k / 64) hd (k % 64) hm
   have e2:k / 64*64+k % 64=k:=by omega
   rw [e2] at this
   exact this
  rw [List.getElem?_eq_getElem hk] at e
  exact Lib.byteCells_one (F (k / 64)) _ (List.mem_of_getElem? e.symm)
 have hC:=AnyE.slices_Clone Tryz.cloneA i0 (sv zsec) 64 64 hi hz0 hz1 hz2 (by show (Lib.byteCells zsec).toArray.size=64;simp [Lib.byteCells_length,zsec_length]) (by omega) (fun w=>by kernel_rfl) fb 0 n cap (cur.toList.take (n*64)) w
  (by simp;omega) (by unfold maxLen;omega) (by omega) (fun j u hu=>by
    rw [Nat.zero_add,zcr w fb j cur 106 (0,0) hc1]
    rw [List.getElem?_take] at hu
    split at hu
    ·rw [Array.getElem?_toList] at hu;exact hu
    ·cases hu) hone
 refine Calls.mono (show Calls Tryz.prog 48 _ w _ from hC) ?_
 rintro e w' ⟨v',rfl,hown,hne,hb⟩
 obtain ⟨fb',cap',rfl,q1,q2,q3⟩:=rowAt_of_own hown h1 hx
 exact ⟨fb',cap',rfl,q3,q1,q2,hb⟩
theorem copy_any (bd bs n:Nat) (M:Nat→Option Sec) (w:World) (hd:w.ownsMap Tryz.prog 3 secR bd 0 (.map [])) (hs:MapAt w bs M) (hne:bd≠bs) (hn:∀ i s,M i=some s→i<n) (hn4:n≤4096) :
 Calls Tryz.prog 49 #[.map (some bd),.map (some bs)] w fun e w'=>e=.returned (.tuple #[])∧MapAt w' bd M∧w.grownBy w' (some bd):=by
 obtain ⟨Ds,hs,hMI⟩:=hs
 have hsz:=mapSize_le hs hMI hn
 have hbd:=hd.lt
 have hbs:=hs.lt
 have HMI:=zh hMI
 clear hMI hn
 go_enter Tryz.func49,Tryz.ntmps49
 go_wp2_with (at_range;refine wpList_range_own _ rfl _ 107 rfl 3 106 law3 Tryz.underlying107 secR bs 4096 _ rfl hs ?_;intro w0 hrg0 hg0 hs0)
 go_frame
 go_loopw [8] (fun _ wr=>∃ (left:Lit→Bool) (cnt:Nat) (Dout:DataW Unit),wr.ranges Tryz.prog 3 secR bs w.heap.size 4096 Ds left cnt∧cnt≤Maps.size Ds ∧
  wr.ownsMap Tryz.prog 3 secR bd (Maps.size Ds-cnt) Dout∧Merged Dout (.map []) Ds left∧w.grownBy wr (some bd))
  (fun _ wr=>wr.rangeLeft bs w.heap.size)
 case atStart =>
  exact ⟨_,_,.map [],hrg0,Nat.le_refl _,(hd.kept hg0 (by simp)).mono (by omega),merged_start _ Ds,hg0.but _⟩
 case round =>
  obtain ⟨left,cnt,Dout,hrg,hcs,hout,hM,hgw⟩:=hrel
  go_wp2_with (at_next;refine wpList_next_ranges _ rfl _ rfl 3 law3 secR encZ (fun c:{ l:Sec // l.length=64 }=>sv c.1) (fun key kl hk=>by obtain ⟨x,hx,_⟩:=Maps.keyOf_i64 Tryz.underlying3 hk;exact ⟨x,hx⟩) (fun v y hv=>by obtain ⟨l,hl,he,_⟩:=secR_inv hv;exact ⟨⟨l,hl⟩,he⟩) bs w.heap.size 4096 _ _ _ rfl hrg ?_ ?_)
  ·intro hc0 hl0
   have HL:=zh hl0
   clear hl0
   go_wp2
   go_end0
   refine ⟨rfl,⟨Dout,hout.mono (by omega),?_,?_⟩,hgw⟩
   ·intro i
    rw [hM.1,HL.out,←HMI.out.1 i]
    simp [Maps.has]
   ·intro i s hi z
    have hh:Maps.has Ds (.int .i64 (i:Int))=true:=by rw [HMI.out.1];simp [hi]
    rw [hM.2,HL.out,hh]
    simp only [Bool.not_false,Bool.and_true,if_true]
    exact HMI.out.2 i s hi z
  ·intro x l hl kl yd yp w1 cnt1 hkey hlx hv hat hrg1 hlt hg1 hs1 hen
   have hout1:=hout.kept hg1 (fun e=>by have:=Option.some.inj e;omega)
   have HS1:=zh hs1
   have HAT:=zh hat
   clear hs1 hat
   obtain ⟨w2,hw2⟩:∃ w2,w2=w1.alloc (.cells (Lib.byteCells l).toArray 106):=⟨_,rfl⟩
   have hout2:w2.ownsMap Tryz.prog 3 secR bd (Maps.size Ds-cnt) Dout:=by rw [hw2];exact hout1.alloc _
   have hrg2:w2.ranges Tryz.prog 3 secR bs w.heap.size 4096 Ds (fun z=>left z&&!z.sameKey kl) cnt1:=by rw [hw2];exact hrg1.alloc _
   have hr2:w2.rangeAt w1.heap.size 0 (Lib.byteCells l):=by rw [hw2];exact range_of_heap (heap_alloc_new w1 _)
   have hg2:w1.grownBy w2 none:=by rw [hw2];exact World.grownBy_alloc w1 _ _
   have HW2:=zh hw2
   clear hw2
   go_wp2_with (first
    | (refine wpList_store_newsec rfl _ _ rfl _ _ l hl rfl rfl rfl ?_;refine wpList_at HW2.out.symm ?_;go_frame)
    | (refine wpList_load_sec rfl _ rfl _ w1.heap.size 0 l hl rfl hr2 ?_;go_frame)
    | (at_mapUpdate;refine wpList_mapUpdate_own _ rfl _ _ _ 107 rfl 3 106 law3 Tryz.underlying107 secR bd _ _ rfl hout2 (by unfold maxLen;omega) _ _ _ rfl rfl hkey yd yp hv ?_;intro w3 hout3 hg3;go_frame))
   have hrg3:=hrg2.kept hg3 (fun e=>hne (Option.some.inj e).symm) (fun e=>by have:=Option.some.inj e;omega)
   go_roundw
   case rel =>
    exact ⟨_,cnt1,_,hrg3,by omega,hout3.mono (by omega),merged_step hM hout.isMap (law3.key hkey) HAT.out,((hgw.andThen hg1 (fun j hj=>.inl (by cases hj;exact Nat.le_refl _))).andThen hg2 (fun j hj=>by cases hj)).andThen hg3 (fun j hj=>.inr hj)⟩
   case measure=>rw [hrg3.left_eq,hrg.left_eq];exact hlt
def IntsAt (w:World) (A:Option Addr) (xs:List Int):Prop :=
 ∀ j x,xs[j]?=some x→(-9223372036854775808≤x∧x≤9223372036854775807)∧∃ ad,A=some ad∧ad.block<w.heap.size∧w.cell? (ad.add j)=some (.int .i64 x)
theorem block_of_add (a:Addr) (n:Nat):(a.add n).block=a.block:=by unfold Addr.add;split<;>rfl
theorem IntsAt.below {w w':World} {A:Option Addr} {xs:List Int} (h:IntsAt w A xs) (hb:Below w.heap.size w w'):IntsAt w' A xs:=fun j x hx=>by
 obtain ⟨hw,ad,e,hlt,hc⟩:=h j x hx
 exact ⟨hw,ad,e,Nat.lt_of_lt_of_le hlt hb.size,(hb.cell (p:=ad.add j) (by rw [block_of_add];exact hlt)).trans hc⟩
def Dk.St.less (d:St) (l:List Int):St:=⟨d.n,d.fl,fun i=>if (i:Int)∈l then none else d.wt i,-1,false⟩
theorem Dk.St.Ok.less {d:St} (h:d.Ok) (l:List Int):(d.less l).Ok :=
 ⟨h.n1,h.n2,h.flen,(fun i s e=>by
  change (if (i:Int)∈l then none else d.wt i)=some s at e
  split at e
  ·cases e
  ·exact h.wlen i s e),(by show (-9223372036854775808:Int)≤-1;decide),(by show (-1:Int)≤_;decide)⟩
theorem less_snoc (d:St) (l:List Int) (x:Int):(d.less (l++[x])).wt=fun (j:Nat)=>if (j:Int)=x then none else (d.less l).wt j:=by
 funext j
 show (if (j:Int)∈l++[x] then none else d.wt j)=if (j:Int)=x then none else (if (j:Int)∈l then none else d.wt j)
 by_cases e:(j:Int)=x
 ·rw [if_pos e,if_pos (by rw [e];simp)]
 ·rw [if_neg e]
  simp [e]
theorem empty_map {w:World} {mb:Nat} (h:MapAt w mb (fun _=>none)):w.ownsMap Tryz.prog 3 secR mb 0 (.map []):=by
 obtain ⟨D,hown,hMI⟩:=h
 have h0:=mapSize_le (n:=0) hown hMI (fun i s e=>by cases e)
 have h1:=owns_tight hown h0
 obtain ⟨es,rfl⟩:=hown.isMap
 have:es=[]:=List.eq_nil_of_length_eq_zero (by simpa [Maps.size] using h0)
 subst this
 exact h1
theorem after_any (g:Nat) (L:List Nat) (d:St) (A:Option Addr) (lost:List Int) (c:Nat) (w:World) (h:Dv w g L d) (hl:IntsAt w A lost) (hm:lost.length≤maxLen) :
 Calls Tryz.prog 20 #[ptr g,.slice A lost.length c] w fun e w'=>∃ g' L',e=.returned (ptr g')∧Dv w' g' L' (d.after lost)∧(∀ k∈L',w.heap.size≤k)∧Below w.heap.size w w':=by
 obtain ⟨ho,fb,mb,cap,rfl,hA⟩:=h
 have c0:=hA.c0
 have HO:=zh ho
 have HA:=zh hA
 have HC:=zh (sclone_any fb d.n cap d.fl w hA.row ho.flen ho.n1 ho.n2)
 have HL:=zh hl
 clear hA ho hl
 unfold maxLen at hm
 unfold ptr
 go_enter Tryz.func20,Tryz.ntmps20
 go_wp2_with fail
 refine HC.out.mono ?_
 rintro e w1 ⟨fb1,cap1,rfl,hr1,hfb1,hc1,hb1⟩
 go_wp2_with fail
 refine (whole_any d.n d.fl fb1 cap1 w1 HO.out.n1 HO.out.n2 HO.out.flen hr1 hc1).mono ?_
 rintro e w2 ⟨g2,L2,rfl,hD2,hL2,hb2⟩
 have hb12:Below w.heap.size w w2:=hb1.trans (hb2.mono hb1.size)
 have hlow2:∀ k∈L2,w.heap.size≤k:=fun k hk=>(hL2 k hk).elim (fun e=>by omega) (fun e=>Nat.le_trans hb1.size e)
 obtain ⟨ho2,fb2,mb2,cap2,rfl,hA2⟩:=hD2
 have hA1:=HA.out.of_heap (w':=w2.drew) (fun k hk=>hb12.block k (by
  rcases hk with rfl|rfl|rfl
  ·exact lt_of_heap HA.out.blk
  ·exact HA.out.row.lt
  ·exact HA.out.map.lt))
 have q1:w2.drew.cell? ⟨g2,1,none⟩=some (.map (some mb2)):=hA2.c1
 have q2:=hA1.c1
 unfold ptr
 go_wp2_with fail
 go_still_tail 8,(by kernel_rfl)
 change wpList _ _ _ _ _ w2.drew
 have hlt1:=HA.out.map.lt
 have hb12s:=hb12.size
 have hmbne:mb2≠mb:=by have:=hlow2 mb2 (by simp);omega
 have hE:=empty_map (w:=w2.drew) (mb:=mb2) hA2.map
 have HCP:=zh (copy_any mb2 mb d.n d.wt w2.drew hE hA1.map hmbne (fun i s e=>(HO.out.wlen i s e).1) HO.out.n2)
 have HA2:=zh hA2
 clear hA1 q1 q2 hE hr1
 have hdr2:Below w.heap.size w w2.drew:=hb12.drew
 have hD2:DevAt w2.drew g2 fb2 mb2 cap2 (St.fresh d.n d.fl):=DevAt.of_heap HA2.out (fun k _=>rfl)
 clear HA2 hb12
 generalize w2.drew=w3 at *
 go_wp2_with fail
 refine HCP.out.mono ?_
 rintro e w4 ⟨rfl,hM4,hg4⟩
 have hs34:w3.heap.size≤w4.heap.size:=hg4.size
 have hlb:w.heap.size≤w3.heap.size:=hdr2.size
 have hb4:Below w.heap.size w w4:=hdr2.grown hg4 hlb (fun k hk=>by cases hk;exact hlow2 mb2 (by simp))
 have hA4:DevAt w4 g2 fb2 mb2 cap2 (d.less []):=by
  refine ⟨(hg4.block g2 (lt_of_heap hD2.blk) (fun e=>hD2.gm (Option.some.inj e))).trans hD2.blk,hD2.row.of_heap (hg4.block fb2 hD2.row.lt (fun e=>hD2.fm (Option.some.inj e))),?_,hD2.hcap⟩
  show MapAt w4 mb2 (fun i=>if (i:Int)∈([]:List Int) then none else d.wt i)
  simpa using hM4
 clear hD2 hM4 hg4 HCP
 go_wp2
 go_loopw [7,25] (fun _ c wr=>∃ k:Nat,k≤lost.length∧c=.int .i64 k∧DevAt wr g2 fb2 mb2 cap2 (d.less (lost.take k))∧Below w.heap.size w wr) (fun _ c _=>lost.length-(RowKit.intOf c).toNat)
 case atStart=>exact ⟨0,Nat.zero_le _,rfl,hA4,hb4⟩
 case round =>
  obtain ⟨k,hk,rfl,hAr,hbr⟩:=hrel
  by_cases hlt:k<lost.length
  ·obtain ⟨x,hx⟩:∃ x,x=lost[k]:=⟨_,rfl⟩
   have hx':lost[k]?=some x:=by rw [List.getElem?_eq_getElem hlt,hx]
   obtain ⟨hxw,ad,hAe,hadb,hadc⟩:=HL.out k x hx'
   subst hAe
   have hcx:wr.cell? (ad.add k)=some (.int .i64 x):=(hbr.cell (p:=ad.add k) (by rw [block_of_add];exact hadb)).trans hadc
   have c1:=hAr.c1
   obtain ⟨D,hown,hMI⟩:=hAr.map
   have hkey:keyOf Tryz.prog 3 (.int .i64 x)=some (.int .i64 x):=Maps.keyOf_int_mk Tryz.underlying3 (WalkArith.wf_i64 hxw)
   have HT:Hid (lost.take (k+1)=lost.take k++[x]):=by show _=_;rw [List.take_succ_eq_append_getElem hlt,hx]
   have HAR:=zh hAr
   have HX:=zh hx
   have HMI:=zh hMI
   clear hAr hx hx' hadc hMI hA4
   have hmb2:=hlow2 mb2 (by simp)
   go_wp2_with (at_delete;refine wpList_delete_own _ rfl _ _ 107 3 rfl 106 law3 Tryz.underlying107 secR mb2 4096 D rfl hown _ _ rfl hkey ?_;intro w5 hown5 hturn5)
   have hg5:=hturn5.grown
   have hA:=HAR.out
   have hA5:DevAt w5 g2 fb2 mb2 cap2 (d.less (lost.take (k+1))):=by
    refine ⟨(hg5.block g2 (lt_of_heap hA.blk) (fun e=>hA.gm (Option.some.inj e))).trans hA.blk,hA.row.of_heap (hg5.block fb2 hA.row.lt (fun e=>hA.fm (Option.some.inj e))),?_,hA.hcap⟩
    rw [HT.out,less_snoc]
    exact ⟨_,hown5,mapIs_del HMI.out x⟩
   have hb5:Below w.heap.size w w5:=hbr.grown hg5 hbr.size (fun j hj=>by cases hj;exact hmb2)
   go_roundw
   case rel=>exact ⟨k+1,by omega,by go_num,hA5,hb5⟩
   case measure=>simp [RowKit.intOf];omega
  ·have hk':k=lost.length:=by omega
   subst hk'
   rw [List.take_length] at hAr
   have hDr:Dv wr g2 [g2,fb2,mb2] (d.less lost):=⟨HO.out.less lost,fb2,mb2,cap2,rfl,hAr⟩
   have HS:=zh (settle_any g2 _ (d.less lost) wr hDr)
   clear hAr hA4
   unfold ptr at HS
   go_wp2_with fail
   refine HS.out.mono ?_
   rintro e w6 ⟨rfl,hMv⟩
   obtain ⟨L6,hD6,hL6,hb6,_⟩:=hMv.below hbr hbr.size hlow2
   go_wp2
   go_ret
   exact ⟨g2,L6,rfl,hD6,hL6,hb6⟩
end Go.Proofs.YtnobeoppffoomaaGreat
