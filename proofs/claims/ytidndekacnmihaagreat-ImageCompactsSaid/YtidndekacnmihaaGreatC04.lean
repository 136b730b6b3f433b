/- Parts of a proof. -/
import Derived.Test.YtidndekacnmihaaGreatC03
set_option linter.all false
set_option maxHeartbeats 8000000
set_option maxRecDepth 100000
namespace Go.Proofs.YtidndekacnmihaaGreat
open Bool renaming false→D,true→O
open Ending renaming returned→S
open Go renaming Value→E,World→J,Calls→R
open Go.RowKit renaming Below→N
open Go.RowKit.Below renaming refl→T
open IntKind renaming i64→G
open Lib renaming byteCells→U
open Obj renaming cells→C
open Option renaming none→q,some→y
open Tryz renaming prog→K
open Value renaming slice→z,string→A,int→F,bool→I,ownBlock→Q
open Tryz
variable {cap g k m n s:Nat} {v:E} {xs:List E}
open Go.RowKit
section
open Dk
theorem info9:(prog.info? 9).map (fun i=>(i.zero,i.size,i.bytes))=y (y (A ⟨#[]⟩),1,16):=by kernel_rfl
theorem info4:(prog.info? 4).map (fun i=>(i.zero,i.size,i.bytes))=y (y (I D),1,1):=by kernel_rfl
namespace Dk
def zeb (f:Nat→E) (n:Nat):List E:=(List.range n).map f
theorem zcK (f:Nat→E) (n:Nat):(zeb f n).length=n:=by simp [zeb]
theorem zfJ (f:Nat→E) (n:Nat):zeb f (n+1)=zeb f n++[f n]:=by simp [zeb,List.range_succ]
theorem zd7 (f:Nat→E) (n i:Nat) (h:i<n):(zeb f n)[i]?=y (f i):=by simp [zeb,h]
theorem zhd (f g:Nat→E) (n i:Nat) (h:∀ j,j<n→j≠i→g j=f j):(zeb f n).set i (g i)=zeb g n:=by
 apply List.ext_getElem?;intro j;rw [List.getElem?_set]
 by_cases e:i=j
 ·subst e;rw [if_pos rfl,zcK]
  split
  ·rename_i hi;rw [zd7 g n i hi]
  ·rename_i hi;rw [zuQ (by rw [zcK];omega)]
 ·rw [if_neg e]
  by_cases hj:j<n
  ·rw [zd7 f n j hj,zd7 g n j hj,h j hj (fun e1=>e e1.symm)]
  ·rw [zuQ (by rw [zcK];omega),zuQ (by rw [zcK];omega)]
theorem zcp (f g:Nat→E) (n:Nat) (h:∀ j,j<n→f j=g j):zeb f n=zeb g n:=by
 unfold zeb;exact List.map_congr_left (fun j hj=>h j (List.mem_range.1 hj))
def zlb (d:St) (i:Nat):E:=A (txt (d.now i))
def zsY (d:St) (i:Nat):E:=A (txt (d.fl i))
def wtV (d:St) (i:Nat):E:=I (d.wt i).isSome
structure zs5 (w:J) (B gr:Nat) (v1 v2 v3:E) (d:St):Prop where
 blk:w.heap[gr]?=y (C #[v1,v2,v3,F G (max d.left (-1)),I d.dead] 91 (0,0))
 r1:w.ownsRow B 9 1 v1 d.n (zeb (zlb d) d.n)
 r2:w.ownsRow B 9 1 v2 d.n (zeb (zsY d) d.n)
 r3:w.ownsRow B 4 1 v3 d.n (zeb (wtV d) d.n)
 ap:∀ k,v1.ownBlock=y k→v2.ownBlock≠y k
 hB:B≤gr
def blks (gr:Nat) (v1 v2 v3:E):List Nat:=gr :: (v1.ownBlock.toList++v2.ownBlock.toList++v3.ownBlock.toList)
def Rf (w:J) (B gr:Nat) (L:List Nat) (d:St):Prop:=d.Ok∧∃ v1 v2 v3,L=blks gr v1 v2 v3∧zs5 w B gr v1 v2 v3 d
theorem zdk {gr:Nat} {v1 v2 v3:E}:k∈blks gr v1 v2 v3↔k=gr∨v1.ownBlock=y k∨v2.ownBlock=y k∨v3.ownBlock=y k:=by
 unfold blks;simp [Option.mem_toList]
section
variable {w w':J} {B gr g:Nat} {v1 v2 v3:E} {L L':List Nat} {d d':St}
theorem zbJ {e:Nat} (h:w.ownsRow B e s v n xs) (hk:v.ownBlock=y k):∃ cur,w.heap[k]?=y (C cur e (0,0)):=by
 rcases h.2 with ⟨rfl,_⟩|⟨gb,c,cur,rfl,_,hh,_⟩
 ·simp [Q] at hk
 ·have:gb=k:=by simpa [Q] using hk
  subst this;exact ⟨cur,hh⟩
theorem zam {e:Nat} (h:w.ownsRow B e s v n xs) (he:∀ k,v.ownBlock=y k→w'.heap[k]?=w.heap[k]?):w'.ownsRow B e s v n xs:=by
 obtain ⟨hl,h⟩:=h;refine ⟨hl,?_⟩;rcases h with h|⟨gb,c,cur,rfl,hb,hh,r⟩
 ·exact .inl h
 ·exact .inr ⟨gb,c,cur,rfl,hb,(he gb (by simp [Q])).trans hh,r⟩
theorem zs5.of_heap (h:zs5 w B gr v1 v2 v3 d) (he:∀ k∈blks gr v1 v2 v3,w'.heap[k]?=w.heap[k]?):zs5 w' B gr v1 v2 v3 d :=
 ⟨(he gr (zdk.2 (.inl rfl))).trans h.blk,zam h.r1 (fun k hk=>he k (zdk.2 (.inr (.inl hk)))),zam h.r2 (fun k hk=>he k (zdk.2 (.inr (.inr (.inl hk))))),zam h.r3 (fun k hk=>he k (zdk.2 (.inr (.inr (.inr hk))))),h.ap,h.hB⟩
theorem Rf.types (h:Rf w B gr L d):∀ k∈L,∃ cur t,w.heap[k]?=y (C cur t (0,0))∧(t=91∨t=9∨t=4):=by
 obtain ⟨_,v1,v2,v3,rfl,hA⟩:=h;intro k hk;rcases zdk.1 hk with rfl|hk|hk|hk
 ·exact ⟨_,_,hA.blk,.inl rfl⟩
 ·obtain ⟨cur,hh⟩:=zbJ hA.r1 hk;exact ⟨_,_,hh,.inr (.inl rfl)⟩
 ·obtain ⟨cur,hh⟩:=zbJ hA.r2 hk;exact ⟨_,_,hh,.inr (.inl rfl)⟩
 ·obtain ⟨cur,hh⟩:=zbJ hA.r3 hk;exact ⟨_,_,hh,.inr (.inr rfl)⟩
theorem Rf.lt (h:Rf w B gr L d):∀ k∈L,k<w.heap.size:=fun k hk=>by
 obtain ⟨cur,t,hh,_⟩:=h.types k hk;exact zap hh
theorem Rf.of_heap (h:Rf w B gr L d) (he:∀ k∈L,w'.heap[k]?=w.heap[k]?):Rf w' B gr L d:=by
 obtain ⟨ho,v1,v2,v3,rfl,hA⟩:=h;exact ⟨ho,v1,v2,v3,rfl,hA.of_heap he⟩
theorem Rf.below (h:Rf w B gr L d) (hb:N w.heap.size w w'):Rf w' B gr L d:=h.of_heap (fun k hk=>hb.block k (h.lt k hk))
theorem Rf.low (h:Rf w B gr L d):∀ k∈L,B≤k:=by
 obtain ⟨_,v1,v2,v3,rfl,hA⟩:=h;intro k hk;rcases zdk.1 hk with rfl|hk|hk|hk
 ·exact hA.hB
 ·exact (hA.r1.lt k hk).1
 ·exact (hA.r2.lt k hk).1
 ·exact (hA.r3.lt k hk).1
end
end Dk
end
section
open Dk
def zV (_:Nat):E:=A (txt zsec)
def fV (_:Nat):E:=I D
structure Mid (w:J) (B:Nat) (v1 v2 v3:E) (k1 k2 k3:Nat):Prop where
 blk:w.heap[B]?=y (C #[v1,v2,v3,F G (-1),I D] 91 (0,0))
 r1:w.ownsRow B 9 1 v1 k1 (zeb zV k1)
 r2:w.ownsRow B 9 1 v2 k2 (zeb zV k2)
 r3:w.ownsRow B 4 1 v3 k3 (zeb fV k3)
 ap:∀ k,v1.ownBlock=y k→v2.ownBlock≠y k
section
variable {w w':J} {B:Nat} {v1 v2 v3:E} {k1 k2 k3:Nat}
theorem Mid.ne1 (h:Mid w B v1 v2 v3 k1 k2 k3):v1.ownBlock≠y B:=fun e=>by
 obtain ⟨cur,hh⟩:=zbJ h.r1 e
 have:=hh.symm.trans h.blk;simp at this
theorem Mid.ne2 (h:Mid w B v1 v2 v3 k1 k2 k3):v2.ownBlock≠y B:=fun e=>by
 obtain ⟨cur,hh⟩:=zbJ h.r2 e
 have:=hh.symm.trans h.blk;simp at this
theorem Mid.ne3 (h:Mid w B v1 v2 v3 k1 k2 k3):v3.ownBlock≠y B:=fun e=>by
 obtain ⟨cur,hh⟩:=zbJ h.r3 e
 have:=hh.symm.trans h.blk;simp at this
theorem zj9 {e e' s' n':Nat} {v':E} {xs':List E} {B':Nat} (h:w.ownsRow B e s v n xs) (h':w.ownsRow B' e' s' v' n' xs') (hne:e≠e') (hk:v.ownBlock=y k):v'.ownBlock≠y k:=fun e1=>by
 obtain ⟨cur,hh⟩:=zbJ h hk;obtain ⟨cur',hh'⟩:=zbJ h' e1
 have:=hh.symm.trans hh'
 simp only [Option.some.injEq,Obj.cells.injEq] at this;exact hne this.2.1
theorem Mid.below (h:Mid w B v1 v2 v3 k1 k2 k3) (hb:N w.heap.size w w'):Mid w' B v1 v2 v3 k1 k2 k3 :=
 ⟨(hb.block B (zap h.blk)).trans h.blk,zam h.r1 (fun k hk=>hb.block k (h.r1.lt k hk).2),zam h.r2 (fun k hk=>hb.block k (h.r2.lt k hk).2),zam h.r3 (fun k hk=>hb.block k (h.r3.lt k hk).2),h.ap⟩
theorem Mid.now (h:Mid w B v1 v2 v3 k1 k2 k3) (hg:w.grownBy w' v1.ownBlock) (ho:w'.ownsRow B 9 1 (z (y ⟨g,0,q⟩) (k1+1) cap) (k1+1) (zeb zV k1++[A (txt zsec)])) (hat:v1.ownBlock=y g∨w.heap.size≤g) :
 Mid (w'.setCell ⟨B,0,q⟩ (z (y ⟨g,0,q⟩) (k1+1) cap)) B (z (y ⟨g,0,q⟩) (k1+1) cap) v2 v3 (k1+1) k2 k3:=by
 have hB:=zap h.blk
 have hgB:g≠B:=by
  rcases hat with e|e
  ·rintro rfl;exact h.ne1 e
  ·omega
 have so:∀ k,k≠B→(w'.setCell ⟨B,0,q⟩ (z (y ⟨g,0,q⟩) (k1+1) cap)).heap[k]?=w'.heap[k]?:=fun k hk=>heap_setCell_other w' ⟨B,0,q⟩ k _ hk;refine ⟨?_,?_,?_,?_,?_⟩
 ·exact heap_setCell_same w' B 0 _ 91 _ ((hg.block B hB (fun e=>h.ne1 e.symm)).trans h.blk)
 ·rw [zfJ];refine zam ho (fun k hk=>so k ?_)
  have:g=k:=by simpa [Q] using hk
  omega
 ·refine zam h.r2 (fun k hk=>(so k (fun e=>h.ne2 (e▸hk))).trans (hg.block k (h.r2.lt k hk).2 (fun e=>h.ap k e.symm hk)))
 ·refine zam h.r3 (fun k hk=>(so k (fun e=>h.ne3 (e▸hk))).trans (hg.block k (h.r3.lt k hk).2 (fun e=>zj9 h.r1 h.r3 (by decide) e.symm hk)))
 ·intro k hk hk2;have e:g=k:=by simpa [Q] using hk
  subst e;rcases hat with e|e
  ·exact h.ap g e hk2
  ·have:=(h.r2.lt g hk2).2;omega
theorem Mid.old (h:Mid w B v1 v2 v3 k1 k2 k3) (hg:w.grownBy w' v2.ownBlock) (ho:w'.ownsRow B 9 1 (z (y ⟨g,0,q⟩) (k2+1) cap) (k2+1) (zeb zV k2++[A (txt zsec)])) (hat:v2.ownBlock=y g∨w.heap.size≤g) :
 Mid (w'.setCell ⟨B,1,q⟩ (z (y ⟨g,0,q⟩) (k2+1) cap)) B v1 (z (y ⟨g,0,q⟩) (k2+1) cap) v3 k1 (k2+1) k3:=by
 have hB:=zap h.blk
 have hgB:g≠B:=by
  rcases hat with e|e
  ·rintro rfl;exact h.ne2 e
  ·omega
 have so:∀ k,k≠B→(w'.setCell ⟨B,1,q⟩ (z (y ⟨g,0,q⟩) (k2+1) cap)).heap[k]?=w'.heap[k]?:=fun k hk=>heap_setCell_other w' ⟨B,1,q⟩ k _ hk;refine ⟨?_,?_,?_,?_,?_⟩
 ·exact heap_setCell_same w' B 1 _ 91 _ ((hg.block B hB (fun e=>h.ne2 e.symm)).trans h.blk)
 ·refine zam h.r1 (fun k hk=>(so k (fun e=>h.ne1 (e▸hk))).trans (hg.block k (h.r1.lt k hk).2 (fun e=>h.ap k hk e.symm)))
 ·rw [zfJ];refine zam ho (fun k hk=>so k ?_)
  have:g=k:=by simpa [Q] using hk
  omega
 ·refine zam h.r3 (fun k hk=>(so k (fun e=>h.ne3 (e▸hk))).trans (hg.block k (h.r3.lt k hk).2 (fun e=>zj9 h.r2 h.r3 (by decide) e.symm hk)))
 ·intro k hk hk2;have e:g=k:=by simpa [Q] using hk2
  subst e;rcases hat with e|e
  ·exact h.ap g hk e
  ·have:=(h.r1.lt g hk).2;omega
theorem Mid.wait (h:Mid w B v1 v2 v3 k1 k2 k3) (hg:w.grownBy w' v3.ownBlock) (ho:w'.ownsRow B 4 1 (z (y ⟨g,0,q⟩) (k3+1) cap) (k3+1) (zeb fV k3++[I D])) (hat:v3.ownBlock=y g∨w.heap.size≤g) :
 Mid (w'.setCell ⟨B,2,q⟩ (z (y ⟨g,0,q⟩) (k3+1) cap)) B v1 v2 (z (y ⟨g,0,q⟩) (k3+1) cap) k1 k2 (k3+1):=by
 have hB:=zap h.blk
 have hgB:g≠B:=by
  rcases hat with e|e
  ·rintro rfl;exact h.ne3 e
  ·omega
 have so:∀ k,k≠B→(w'.setCell ⟨B,2,q⟩ (z (y ⟨g,0,q⟩) (k3+1) cap)).heap[k]?=w'.heap[k]?:=fun k hk=>heap_setCell_other w' ⟨B,2,q⟩ k _ hk;refine ⟨?_,?_,?_,?_,h.ap⟩
 ·exact heap_setCell_same w' B 2 _ 91 _ ((hg.block B hB (fun e=>h.ne3 e.symm)).trans h.blk)
 ·refine zam h.r1 (fun k hk=>(so k (fun e=>h.ne1 (e▸hk))).trans (hg.block k (h.r1.lt k hk).2 (fun e=>zj9 h.r3 h.r1 (by decide) e.symm hk)))
 ·refine zam h.r2 (fun k hk=>(so k (fun e=>h.ne2 (e▸hk))).trans (hg.block k (h.r2.lt k hk).2 (fun e=>zj9 h.r3 h.r2 (by decide) e.symm hk)))
 ·rw [zfJ];refine zam ho (fun k hk=>so k ?_)
  have:g=k:=by simpa [Q] using hk
  omega
end
theorem zka (n:Nat) (w:J) (h1:1≤n) (h2:n≤4096) :
 R K 12 #[F G n] w fun e w'=>∃ gr L,e=S (ptr gr)∧Rf w' w.heap.size gr L (St.fresh n (fun _=>zsec))∧N w.heap.size w w':=by
 obtain ⟨i0,hi,hz0,hz1,hz2⟩:=info_parts info5;obtain ⟨i9,hi9,hz90,hz91,hz92⟩:=info_parts info9;obtain ⟨i4,hi4,hz40,hz41,hz42⟩:=info_parts info4;have h0':decide ((n:Int)<1)=D:=ztM (by omega);have h1':decide (4096<(n:Int))=D:=ztM (by omega);go_enter func12,ntmps12
 go_wp2_with fail
 have hblk0:(w.alloc (C #[z q 0 0,z q 0 0,z q 0 0,F G (-1),I D] 91)).heap[w.heap.size]?=_:=ztJ w _
 go_loopw [4] (fun i wr=>∃ (k:Nat) (v1 v2 v3:E),k≤n∧i=F G k∧Mid wr w.heap.size v1 v2 v3 k k k∧N w.heap.size w wr) (fun i _=>n-(RowKit.intOf i).toNat)
 case atStart =>
  exact ⟨0,_,_,_,by omega,rfl,⟨hblk0,zuF _ _ _ _,zuF _ _ _ _,zuF _ _ _ _,fun k hk=>by simp [Q] at hk⟩,zba⟩
 case round =>
  obtain ⟨k,v1,v2,v3,hk,rfl,hA,hbr⟩:=hrel
  by_cases hlt:k<n
  ·
   have hlB:w.heap.size<wr.heap.size:=zap hA.blk;obtain ⟨M,hM⟩:∃ M,M=(U zsec).toArray:=⟨_,rfl⟩
   have hmk:(Instr.makeSlice 78 (F G 64) (F G 64)).run K wr.drew=.ok (z (y ⟨wr.heap.size,0,q⟩) 64 64) (wr.alloc (C M 5)).drew:=by
    have h1:=run_make (P:=K) wr.drew 78 5 i0 (F .u8 0) underlying78 hi hz0 G G 64 64 (by omega) (by omega) (by rw [hz2];omega) (by omega)
    have e:madeCells (F .u8 0).cells ((64:Int).toNat*i0.size)=M:=by
     rw [hM,hz1];apply Array.ext';have h2:=toList_madeCells_one (F .u8 0) 64;show (madeCells #[F IntKind.u8 0] 64).toList=_;rw [h2];simp [U,zsec]
    rw [e] at h1;exact h1
   have hcv:(convert 78 9 (z (y ⟨wr.heap.size,0,q⟩) 64 64)).run K (wr.alloc (C M 5)).drew=.ok (A (txt zsec)) (wr.alloc (C M 5)).drew:=by
    refine zd5 zsec_length (fun j u hu=>?_);have hh:(wr.alloc (C M 5)).drew.heap[wr.heap.size]?=y (C M 5 (0,0)):=ztJ wr _;rw [zcr _ _ _ _ 5 (0,0) hh,zub,hM]
    simpa using hu
   have hcv2:(convert 78 9 (z (y ⟨wr.heap.size,0,q⟩) 64 64)).run K (wr.alloc (C M 5)).drew=.ok (A (txt zsec)) (wr.alloc (C M 5)).drew:=hcv;obtain ⟨w2,hw2⟩:∃ w2,w2=((wr.alloc (C M 5)).alloc (C #[A (txt zsec)] 9)).drew:=⟨_,rfl⟩;have hb2:N wr.heap.size wr w2:=by rw [hw2];exact (((T _ wr).alloc (ztI _) _).alloc (by simp) _).drew
   have hb1:N wr.heap.size wr (wr.alloc (C M 5)).drew:=((T _ wr).alloc (ztI _) _).drew;have hA2:Mid w2 w.heap.size v1 v2 v3 k k k:=hA.below hb2
   have hnews:∀ j u,[Value.string (txt zsec)][j]?=y u→w2.cell? ((⟨wr.heap.size+1,0,q⟩:Addr).add j)=y u:=fun j u hu=>by
    rw [hw2];have h1:=cell_one_new (wr.alloc (C M 5)) (A (txt zsec)) 9 j u hu;rw [ztR] at h1;exact h1
   have hs2:w2.heap.size=wr.heap.size+2:=by rw [hw2];simp
   have c0:wr.drew.cell? ⟨w.heap.size,0,q⟩=y v1:=zcr wr.drew w.heap.size 0 _ 91 (0,0) hA.blk;have q1:(wr.alloc (C M 5)).drew.cell? ⟨w.heap.size,0,q⟩=y v1:=(hb1.cell (p:=⟨w.heap.size,0,q⟩) hlB).trans c0;have q2:((wr.alloc (C M 5)).alloc (C #[A (txt zsec)] 9)).drew.cell? ⟨w.heap.size,0,q⟩=y v1:=by rw [←hw2];exact (hb2.cell (p:=⟨w.heap.size,0,q⟩) hlB).trans c0
   have f2:w2.frozen? ⟨w.heap.size,0,q⟩=D:=frozen_of_row w2 w.heap.size 0 _ 91 hA2.blk;have HA2:=zh hA2;have HB:=zh hbr;have HB2:=zh hb2;have HS2:=zh hs2;have HN:=zh hnews;have Q2:=zh q2;have F2:=zh f2;have HW2:=zh hw2;clear hA hbr hblk0 hM hw2 hb2 hnews hA2 hs2 hb1 f2 hcv2
   go_upto_region 7 with fail
   go_cut [13] from 13 to 53 (fun s13 wx=>s13=s13∧∃ u1,Mid wx w.heap.size u1 v2 v3 (k+1) k k∧N w.heap.size w wx)
   case first =>
    go_region_law ((refine step_append_lies _ (by rfl) _ _ 88 (by rfl) w.heap.size 9 i9 (A ⟨#[]⟩) 1 16 underlying88 hi9 hz90 hz91 hz92 (by rfl) (by omega) v1 k (zeb zV k) (by rfl) (by rw [←HW2.out];exact HA2.out.r1) ⟨wr.heap.size+1,0,q⟩ 1 1 [A (txt zsec)] (by rfl) rfl (by rw [←HW2.out];exact HN.out) (fun u hu=>by simp at hu;subst hu;rfl) (by omega) (by unfold maxLen;omega) (by omega) (by rw [←HW2.out,HS2.out];omega) (wr.heap.size+2) (by rw [←HW2.out,HS2.out]) ?_;intro g cap w4 hown4 hgrow hat hlt4;rw [←HW2.out] at hgrow;have d0:w4.cell? ⟨w.heap.size,0,q⟩=y v1:=World.grownBy.cell hgrow (by rw [HW2.out];exact Q2.out) (fun e=>HA2.out.ne1 e.symm);have g0:w4.frozen? ⟨w.heap.size,0,q⟩=D:=(World.frozen?_of_block (hgrow.block _ (zap HA2.out.blk) (fun e=>HA2.out.ne1 e.symm))).trans F2.out))
    all_goals
     go_wp2_with fail
     go_meet;exact ⟨trivial,_,HA2.out.now hgrow hown4 (hat.imp id (fun e=>by have:=HS2.out;omega)),((HB.out.trans (HB2.out.mono (by omega))).grown hgrow (by have:=HS2.out;omega) (fun j hj=>(HA2.out.r1.lt j hj).1)).setCell (p:=⟨w.heap.size,0,q⟩) (ztI _) _⟩
   case rest =>
    obtain ⟨_,u1,hA,hbr⟩:=hcut;clear HA2 HB HB2 HS2 HN Q2 F2 HW2 hmk hcv c0 q1 q2;have hlC:w.heap.size<wc.heap.size:=zap hA.blk;obtain ⟨g1,cap1,rfl,hg1⟩:=hA.r1.form (by omega);have hbw:N wc.heap.size wc (wc.alloc (C #[A (txt zsec)] 9)).drew:=((T _ wc).alloc (ztI _) _).drew;obtain ⟨w2,hw2⟩:∃ w2,w2=(wc.alloc (C #[A (txt zsec)] 9)).drew:=⟨_,rfl⟩;have hb2:N wc.heap.size wc w2:=by rw [hw2];exact hbw
    have hA2:=hA.below hb2
    have hnews:∀ j u,[Value.string (txt zsec)][j]?=y u→w2.cell? ((⟨wc.heap.size,0,q⟩:Addr).add j)=y u:=fun j u hu=>by
     rw [hw2];exact cell_one_new wc (A (txt zsec)) 9 j u hu
    have hs2:w2.heap.size=wc.heap.size+1:=by rw [hw2];simp
    have c0:wc.drew.cell? ⟨w.heap.size,0,q⟩=y (z (y ⟨g1,0,q⟩) (k+1) cap1):=zcr wc.drew w.heap.size 0 _ 91 (0,0) hA.blk;have c1:wc.drew.cell? ⟨w.heap.size,1,q⟩=y v2:=zcr wc.drew w.heap.size 1 _ 91 (0,0) hA.blk;have q1:(wc.alloc (C #[A (txt zsec)] 9)).drew.cell? ⟨w.heap.size,1,q⟩=y v2:=(hbw.cell (p:=⟨w.heap.size,1,q⟩) hlC).trans c1
    have cz:wc.drew.cell? ⟨g1,k,q⟩=y (A (txt zsec)):=by
     have h1:=hA.r1.cellAt k (by omega);rw [zd7 zV (k+1) k (by omega)] at h1;exact h1
    have f2:w2.frozen? ⟨w.heap.size,1,q⟩=D:=frozen_of_row w2 w.heap.size 1 _ 91 hA2.blk;have hk0:(0:Int)≤k:=by omega
    have hk1:(k:Int)<(k:Int)+1:=by omega
    have HA2:=zh hA2;have HB:=zh hbr;have HB2:=zh hb2;have HS2:=zh hs2;have HN:=zh hnews;have Q2:=zh q1;have F2:=zh f2;have HW2:=zh hw2;clear hA hbr hw2 hb2 hnews hA2 hs2 f2 hbw
    go_upto_region 8 with fail
    go_cut [13] from 13 to 53 (fun s13 wx=>s13=s13∧∃ u1 u2,Mid wx w.heap.size u1 u2 v3 (k+1) (k+1) k∧N w.heap.size w wx)
    case first =>
     go_region_law ((refine step_append_lies _ (by rfl) _ _ 88 (by rfl) w.heap.size 9 i9 (A ⟨#[]⟩) 1 16 underlying88 hi9 hz90 hz91 hz92 (by rfl) (by omega) v2 k (zeb zV k) (by rfl) (by rw [←HW2.out];exact HA2.out.r2) ⟨wc.heap.size,0,q⟩ 1 1 [A (txt zsec)] (by rfl) rfl (by rw [←HW2.out];exact HN.out) (fun u hu=>by simp at hu;subst hu;rfl) (by omega) (by unfold maxLen;omega) (by omega) (by rw [←HW2.out,HS2.out];omega) (wc.heap.size+1) (by rw [←HW2.out,HS2.out]) ?_;intro g cap w4 hown4 hgrow hat hlt4;rw [←HW2.out] at hgrow;have d0:w4.cell? ⟨w.heap.size,1,q⟩=y v2:=World.grownBy.cell hgrow (by rw [HW2.out];exact Q2.out) (fun e=>HA2.out.ne2 e.symm);have g0:w4.frozen? ⟨w.heap.size,1,q⟩=D:=(World.frozen?_of_block (hgrow.block _ (zap HA2.out.blk) (fun e=>HA2.out.ne2 e.symm))).trans F2.out))
     all_goals
      go_wp2_with fail
      go_meet;exact ⟨trivial,_,_,HA2.out.old hgrow hown4 (hat.imp id (fun e=>by have:=HS2.out;omega)),((HB.out.trans (HB2.out.mono (by omega))).grown hgrow (by have:=HS2.out;omega) (fun j hj=>(HA2.out.r2.lt j hj).1)).setCell (p:=⟨w.heap.size,1,q⟩) (ztI _) _⟩
    case rest =>
     obtain ⟨_,u1,u2,hA,hbr⟩:=hcut;clear HA2 HB HB2 HS2 HN Q2 F2 HW2 c0 c1 q1 cz hg1;have hlD:w.heap.size<wc.heap.size:=zap hA.blk;have c2:wc.cell? ⟨w.heap.size,2,q⟩=y v3:=zcr wc w.heap.size 2 _ 91 (0,0) hA.blk;obtain ⟨w2,hw2⟩:∃ w2,w2=wc.alloc (C #[I D] 4):=⟨_,rfl⟩;have hb2:N wc.heap.size wc w2:=by rw [hw2];exact (T _ wc).alloc (ztI _) _
     have hA2:=hA.below hb2
     have hnews:∀ j u,[Value.bool D][j]?=y u→w2.cell? ((⟨wc.heap.size,0,q⟩:Addr).add j)=y u:=fun j u hu=>by
      rw [hw2];exact cell_one_new wc (I D) 4 j u hu
     have hs2:w2.heap.size=wc.heap.size+1:=by rw [hw2];simp
     have HA2:=zh hA2;have HB:=zh hbr;have HB2:=zh hb2;have HS2:=zh hs2;have HN:=zh hnews;have HW2:=zh hw2;clear hA hbr hw2 hb2 hnews hA2 hs2
     go_wp2_with (at_builtin;refine wpList_append_lies _ rfl _ _ 89 rfl w.heap.size 4 i4 (I D) 1 1 underlying89 hi4 hz40 hz41 hz42 rfl (by omega) v3 k (zeb fV k) rfl (by rw [←HW2.out];exact HA2.out.r3) ⟨wc.heap.size,0,q⟩ 1 1 [I D] rfl rfl (by rw [←HW2.out];exact HN.out) (fun u hu=>by simp at hu;subst hu;rfl) (by omega) (by unfold maxLen;omega) (by omega) (by rw [←HW2.out,HS2.out];omega) (wc.heap.size+1) (by rw [←HW2.out,HS2.out]) ?_;intro g cap w4 hown4 hgrow hat hlt4;rw [←HW2.out] at hgrow;have d0:w4.cell? ⟨w.heap.size,2,q⟩=y v3:=(World.grownBy.cell hgrow (zcr w2 w.heap.size 2 _ 91 (0,0) HA2.out.blk) (fun e=>HA2.out.ne3 e.symm));have g0:w4.frozen? ⟨w.heap.size,2,q⟩=D:=(World.frozen?_of_block (hgrow.block _ (zap HA2.out.blk) (fun e=>HA2.out.ne3 e.symm))).trans (frozen_of_row w2 w.heap.size 2 _ 91 HA2.out.blk))
     have hM:=HA2.out.wait hgrow hown4 (hat.imp id (fun e=>by have:=HS2.out;omega));have hBW:N w.heap.size w (w4.setCell ⟨w.heap.size,2,q⟩ (z (y ⟨g,0,q⟩) (k+1) cap)):=((HB.out.trans (HB2.out.mono (by omega))).grown hgrow (by have:=HS2.out;omega) (fun j hj=>(HA2.out.r3.lt j hj).1)).setCell (p:=⟨w.heap.size,2,q⟩) (ztI _) _;have HM:=zh hM;have HBW:=zh hBW;clear hM hBW;go_wp2
     go_roundw
     case rel=>exact ⟨k+1,_,_,_,by omega,by go_num,HM.out,HBW.out⟩
     case measure=>simp [RowKit.intOf];omega
  ·have hk':k=n:=by omega
   subst hk';go_wp2;go_ret;exact ⟨w.heap.size,blks w.heap.size v1 v2 v3,rfl,⟨St.fresh_ok h1 h2 (fun _=>zsec_length),v1,v2,v3,rfl,⟨hA.blk,hA.r1,hA.r2,hA.r3,hA.ap,ztI _⟩⟩,hbr⟩
end
section
open Dk
structure RAt (w:J) (B gr:Nat) (g1 c1 g2 c2 g3 c3 n:Nat) (f1 f2 f3:Nat→E) (arm:Int) (dead:Bool):Prop where
 blk:w.heap[gr]?=y (C #[z (y ⟨g1,0,q⟩) n c1,z (y ⟨g2,0,q⟩) n c2,z (y ⟨g3,0,q⟩) n c3,F G arm,I dead] 91 (0,0))
 r1:w.ownsRow B 9 1 (z (y ⟨g1,0,q⟩) n c1) n (zeb f1 n)
 r2:w.ownsRow B 9 1 (z (y ⟨g2,0,q⟩) n c2) n (zeb f2 n)
 r3:w.ownsRow B 4 1 (z (y ⟨g3,0,q⟩) n c3) n (zeb f3 n)
 ap:g1≠g2
 hB:B≤gr
section
variable {w w':J} {B gr g1 c1 g2 c2 g3 c3 n i:Nat} {f1 f2 f3:Nat→E} {arm:Int} {dead:Bool} {L:List Nat} {d:St}
theorem RAt.of_rf (h:Rf w B gr L d):∃ g1 c1 g2 c2 g3 c3,L=[gr,g1,g2,g3]∧RAt w B gr g1 c1 g2 c2 g3 c3 d.n (zlb d) (zsY d) (wtV d) (max d.left (-1)) d.dead:=by
 obtain ⟨ho,v1,v2,v3,rfl,hA⟩:=h;have n1:=ho.n1;obtain ⟨g1,c1,rfl,_⟩:=hA.r1.form (by omega);obtain ⟨g2,c2,rfl,_⟩:=hA.r2.form (by omega);obtain ⟨g3,c3,rfl,_⟩:=hA.r3.form (by omega);exact ⟨g1,c1,g2,c2,g3,c3,rfl,hA.blk,hA.r1,hA.r2,hA.r3,fun e=>hA.ap g1 rfl (by rw [e];rfl),hA.hB⟩
theorem RAt.to_rf (h:RAt w B gr g1 c1 g2 c2 g3 c3 d.n f1 f2 f3 arm dead) (ho:d.Ok) (e1:∀ j,j<d.n→f1 j=zlb d j) (e2:∀ j,j<d.n→f2 j=zsY d j) (e3:∀ j,j<d.n→f3 j=wtV d j) (e4:arm=max d.left (-1)) (e5:dead=d.dead):Rf w B gr [gr,g1,g2,g3] d:=by
 refine ⟨ho,_,_,_,rfl,⟨by rw [←e4,←e5];exact h.blk,?_,?_,?_,?_,h.hB⟩⟩
 ·rw [←zcp f1 _ d.n e1];exact h.r1
 ·rw [←zcp f2 _ d.n e2];exact h.r2
 ·rw [←zcp f3 _ d.n e3];exact h.r3
 ·intro k hk hk2;have a:g1=k:=by simpa [Q] using hk
  have b:g2=k:=by simpa [Q] using hk2
  exact h.ap (a.trans b.symm)
theorem zey {e c:Nat} (h:w.ownsRow B e 1 (z (y ⟨g,0,q⟩) m c) m xs):∃ cur,w.heap[g]?=y (C cur e (0,0)):=zbJ h rfl
theorem zbV {k':Nat} {cur cur':Array E} {t t':Nat} (h:w.heap[k]?=y (C cur t (0,0))) (h':w.heap[k']?=y (C cur' t' (0,0))) (hne:t≠t'):k≠k':=by
 rintro rfl
 have:=h.symm.trans h'
 simp only [Option.some.injEq,Obj.cells.injEq] at this;exact hne this.2.1
theorem RAt.b1 (h:RAt w B gr g1 c1 g2 c2 g3 c3 n f1 f2 f3 arm dead):gr≠g1:=by obtain ⟨_,hh⟩:=zey h.r1;exact zbV h.blk hh (by decide)
theorem RAt.b2 (h:RAt w B gr g1 c1 g2 c2 g3 c3 n f1 f2 f3 arm dead):gr≠g2:=by obtain ⟨_,hh⟩:=zey h.r2;exact zbV h.blk hh (by decide)
theorem RAt.b3 (h:RAt w B gr g1 c1 g2 c2 g3 c3 n f1 f2 f3 arm dead):gr≠g3:=by obtain ⟨_,hh⟩:=zey h.r3;exact zbV h.blk hh (by decide)
theorem RAt.b13 (h:RAt w B gr g1 c1 g2 c2 g3 c3 n f1 f2 f3 arm dead):g1≠g3:=by obtain ⟨_,hh⟩:=zey h.r1;obtain ⟨_,h3⟩:=zey h.r3;exact zbV hh h3 (by decide)
theorem RAt.b23 (h:RAt w B gr g1 c1 g2 c2 g3 c3 n f1 f2 f3 arm dead):g2≠g3:=by obtain ⟨_,hh⟩:=zey h.r2;obtain ⟨_,h3⟩:=zey h.r3;exact zbV hh h3 (by decide)
theorem zaX {e c o:Nat} {u:E} (h:w.ownsRow B e 1 (z (y ⟨g,0,q⟩) m c) m xs) (hne:g≠k):(w.setCell ⟨k,o,q⟩ u).ownsRow B e 1 (z (y ⟨g,0,q⟩) m c) m xs:=by
 refine zam h (fun j hj=>?_);have e:g=j:=by simpa [Q] using hj
 exact heap_setCell_other w ⟨k,o,q⟩ j u (by show j≠k;omega)
theorem RAt.drew (h:RAt w B gr g1 c1 g2 c2 g3 c3 n f1 f2 f3 arm dead):RAt w.drew B gr g1 c1 g2 c2 g3 c3 n f1 f2 f3 arm dead:=⟨h.blk,h.r1,h.r2,h.r3,h.ap,h.hB⟩
theorem RAt.set1 (h:RAt w B gr g1 c1 g2 c2 g3 c3 n f1 f2 f3 arm dead) (i:Nat) (f:Nat→E) (hf:∀ j,j<n→j≠i→f j=f1 j):RAt (w.setCell ⟨g1,i,q⟩ (f i)) B gr g1 c1 g2 c2 g3 c3 n f f2 f3 arm dead :=
 ⟨(heap_setCell_other w ⟨g1,i,q⟩ gr _ h.b1).trans h.blk,by rw [←zhd f1 f n i hf];exact (h.r1.stored i (f i)).1,zaX h.r2 h.ap.symm,zaX h.r3 h.b13.symm,h.ap,h.hB⟩
theorem RAt.set2 (h:RAt w B gr g1 c1 g2 c2 g3 c3 n f1 f2 f3 arm dead) (i:Nat) (f:Nat→E) (hf:∀ j,j<n→j≠i→f j=f2 j):RAt (w.setCell ⟨g2,i,q⟩ (f i)) B gr g1 c1 g2 c2 g3 c3 n f1 f f3 arm dead :=
 ⟨(heap_setCell_other w ⟨g2,i,q⟩ gr _ h.b2).trans h.blk,zaX h.r1 h.ap,by rw [←zhd f2 f n i hf];exact (h.r2.stored i (f i)).1,zaX h.r3 h.b23.symm,h.ap,h.hB⟩
theorem RAt.set3 (h:RAt w B gr g1 c1 g2 c2 g3 c3 n f1 f2 f3 arm dead) (i:Nat) (f:Nat→E) (hf:∀ j,j<n→j≠i→f j=f3 j):RAt (w.setCell ⟨g3,i,q⟩ (f i)) B gr g1 c1 g2 c2 g3 c3 n f1 f2 f arm dead :=
 ⟨(heap_setCell_other w ⟨g3,i,q⟩ gr _ h.b3).trans h.blk,zaX h.r1 h.b13,zaX h.r2 h.b23,by rw [←zhd f3 f n i hf];exact (h.r3.stored i (f i)).1,h.ap,h.hB⟩
theorem RAt.setArm (h:RAt w B gr g1 c1 g2 c2 g3 c3 n f1 f2 f3 arm dead) (x:Int):RAt (w.setCell ⟨gr,3,q⟩ (F G x)) B gr g1 c1 g2 c2 g3 c3 n f1 f2 f3 x dead :=
 ⟨heap_setCell_same w gr 3 _ 91 _ h.blk,zaX h.r1 h.b1.symm,zaX h.r2 h.b2.symm,zaX h.r3 h.b3.symm,h.ap,h.hB⟩
theorem RAt.setDead (h:RAt w B gr g1 c1 g2 c2 g3 c3 n f1 f2 f3 arm dead) (x:Bool):RAt (w.setCell ⟨gr,4,q⟩ (I x)) B gr g1 c1 g2 c2 g3 c3 n f1 f2 f3 arm x :=
 ⟨heap_setCell_same w gr 4 _ 91 _ h.blk,zaX h.r1 h.b1.symm,zaX h.r2 h.b2.symm,zaX h.r3 h.b3.symm,h.ap,h.hB⟩
theorem RAt.c (h:RAt w B gr g1 c1 g2 c2 g3 c3 n f1 f2 f3 arm dead) (o:Nat):w.cell? ⟨gr,o,q⟩=(#[z (y ⟨g1,0,q⟩) n c1,z (y ⟨g2,0,q⟩) n c2,z (y ⟨g3,0,q⟩) n c3,F G arm,I dead]:Array E)[o]?:=zcr w gr o _ 91 (0,0) h.blk
theorem RAt.fz (h:RAt w B gr g1 c1 g2 c2 g3 c3 n f1 f2 f3 arm dead) (o:Nat):w.frozen? ⟨gr,o,q⟩=D:=frozen_of_row w gr o _ 91 h.blk
theorem zcL {e c:Nat} {f:Nat→E} (h:w.ownsRow B e 1 (z (y ⟨g,0,q⟩) n c) n (zeb f n)) (i:Nat) (hi:i<n):w.cell? ⟨g,i,q⟩=y (f i):=by
 rw [h.cellAt i (by omega),zd7 f n i hi]
theorem RAt.grown1 (h:RAt w B gr g1 c1 g2 c2 g3 c3 n f1 f2 f3 arm dead):∀ k∈[gr,g1,g2,g3],B≤k∧k<w.heap.size:=by
 intro k hk;simp at hk;rcases hk with rfl|rfl|rfl|rfl
 ·exact ⟨h.hB,zap h.blk⟩
 ·exact h.r1.lt _ rfl
 ·exact h.r2.lt _ rfl
 ·exact h.r3.lt _ rfl
theorem RAt.below' (h:RAt w B gr g1 c1 g2 c2 g3 c3 n f1 f2 f3 arm dead) (hb:N w.heap.size w w'):RAt w' B gr g1 c1 g2 c2 g3 c3 n f1 f2 f3 arm dead:=by
 have hg:=h.grown1;exact ⟨(hb.block gr (hg gr (by simp)).2).trans h.blk,zam h.r1 (fun k hk=>hb.block k (h.r1.lt k hk).2),zam h.r2 (fun k hk=>hb.block k (h.r2.lt k hk).2),zam h.r3 (fun k hk=>hb.block k (h.r3.lt k hk).2),h.ap,h.hB⟩
end
theorem zio {w:J} {B e c:Nat} (h:w.ownsRow B e 1 (z (y ⟨g,0,q⟩) m c) m xs) (i:Nat):w.frozen? ⟨g,i,q⟩=D:=by
 obtain ⟨cur,hh⟩:=zey h;exact frozen_of_row w g i cur e hh
end
section
open Dk
def zaB (B gr:Nat) (L:List Nat) (d':St) (w w':J):Prop:=Rf w' B gr L d'∧zaw L w w'
theorem zcq (B gr:Nat) (L:List Nat) (d:St) (at_:Int) (w:J) (h:Rf w B gr L d) :
 R K 128 #[ptr gr,F G at_] w fun e w'=>e=S (.tuple #[A (txt (d.readS at_)),F G (d.refuses at_)])∧w=w':=by
 obtain ⟨g1,c1,g2,c2,g3,c3,rfl,hA⟩:=RAt.of_rf h;have q4:=hA.c 4;change w.cell? ⟨gr,4,q⟩=y (I d.dead) at q4;have q0:=hA.c 0;change w.cell? ⟨gr,0,q⟩=y (z (y ⟨g1,0,q⟩) d.n c1) at q0;unfold ptr
 by_cases hd:d.dead=O
 ·have e1:d.refuses at_=7:=by unfold St.refuses;rw [if_pos hd]
  have e2:txt (d.readS at_)=⟨#[]⟩:=by unfold St.readS;rw [e1];rfl
  rw [e1,e2];rw [hd] at q4;clear h hA e1 e2;go_enter func128,ntmps128;go_wp2;go_ret2;exact ⟨rfl,rfl⟩
 ·have hd':d.dead=D:=by simpa using hd
  rw [hd'] at q4
  by_cases hb:at_<0∨(d.n:Int)≤at_
  ·have e1:d.refuses at_=5:=zcJ hd' hb;have e2:txt (d.readS at_)=⟨#[]⟩:=by unfold St.readS;rw [e1];rfl
   rw [e1,e2];clear h hA e1 e2;rcases hb with hb|hb
   ·have hb1:decide (at_<0)=O:=ztN hb;go_enter func128,ntmps128;go_wp2;go_ret2;exact ⟨rfl,rfl⟩
   ·by_cases hn:at_<0
    ·omega
    ·have hb1:decide (at_<0)=D:=ztM hn;have hb2:decide ((d.n:Int)≤at_)=O:=ztN hb;go_enter func128,ntmps128;go_wp2;go_ret2;exact ⟨rfl,rfl⟩
  ·obtain ⟨i,rfl⟩:=ztW (show 0≤at_ by omega);have hi:i<d.n:=by omega
   have e1:d.refuses i=0:=za0 hd' (by omega) (by omega);have e2:d.readS i=d.now i:=zpR hd' hi;rw [e1,e2];have cz:w.cell? ⟨g1,i,q⟩=y (A (txt (d.now i))):=zcL hA.r1 i hi;have hk1:(i:Int)<d.n:=by omega
   clear h hA e1 e2;have hb2:decide (d.n≤i)=D:=ztM (by omega);go_enter func128,ntmps128;go_wp2;go_ret2;exact ⟨rfl,rfl⟩
theorem zez (B gr:Nat) (L:List Nat) (d:St) (w:J) (h:Rf w B gr L d) (hd:d.dead=D) :
 R K 117 #[ptr gr] w fun e w'=>e=S (I (decide (d.left=0)))∧zaB B gr L (if d.left=0 then d.die else d.step) w w':=by
 have ho:=h.1;obtain ⟨g1,c1,g2,c2,g3,c3,rfl,hA⟩:=RAt.of_rf h;have q4:=hA.c 4;change w.cell? ⟨gr,4,q⟩=y (I d.dead) at q4;have q3:=hA.c 3;change w.cell? ⟨gr,3,q⟩=y (F G (max d.left (-1))) at q3;have f3:=hA.fz 3;have f4:=hA.fz 4;have hl1:=ho.l1;have hl2:=ho.l2;unfold ptr;rw [hd] at q4
 by_cases h0:d.left=0
 ·have e0:max d.left (-1)=0:=by omega
  rw [e0] at q3;have hX:=zh (hA.setDead O);rw [if_pos h0,ztN h0];have HO:=zh ho;clear hA h ho h0;go_enter func117,ntmps117;go_wp2;go_ret;exact ⟨rfl,RAt.to_rf (d:=d.die) hX.out HO.out.die (fun _ _=>rfl) (fun _ _=>rfl) (fun _ _=>rfl) rfl rfl,zaw.setCell (by simp) _⟩
 ·rw [if_neg h0,ztM h0]
  by_cases h1:0<d.left
  ·obtain ⟨a,ha⟩:∃ a,a=max d.left (-1):=⟨_,rfl⟩;rw [←ha] at q3;have ha0:0<a:=by omega
   have hane:(a==0)=D:=by simp;omega
   have hwr:G.wrap (a-1)=a-1:=IntWalk.i64_in _ (by omega);have hX:=zh (hA.setArm (a-1))
   have e1:a-1=max d.step.left (-1):=by
    show _=max (if 0<d.left then d.left-1 else d.left) (-1);rw [if_pos h1];omega
   have E1:=zh e1;have HO:=zh ho;clear hA h ho h0 h1 ha e1;go_enter func117,ntmps117;go_wp2;go_ret;exact ⟨rfl,RAt.to_rf (d:=d.step) hX.out HO.out.step (fun _ _=>rfl) (fun _ _=>rfl) (fun _ _=>rfl) E1.out rfl,zaw.setCell (by simp) _⟩
  ·have e0:max d.left (-1)=-1:=by omega
   rw [e0] at q3;have e1:d.step=d:=by unfold St.step;rw [if_neg h1]
   rw [e1];have H:=zh h;clear hA h ho h0 h1;go_enter func117,ntmps117;go_wp2;go_ret;exact ⟨rfl,H.out,zaw.refl _ _⟩
end
section
open Dk
theorem zhe {d:St} (hd:d.dead=O):d.flush=(d,7):=by
 unfold St.flush St.try_
 by_cases h:d.left=0
 ·rw [if_pos h]
  have e:d.die=d:=by
   unfold St.die;rw [←hd]
  rw [e]
 ·rw [if_neg h,if_pos hd]
def f2k (d:St) (k j:Nat):E:=if j<k then zlb d j else zsY d j
def f3k (d:St) (k j:Nat):E:=if j<k then I D else wtV d j
theorem znN (d:St) (n k:Nat):∀ j,j<n→j≠k→f2k d (k+1) j=f2k d k j:=by
 intro j _ hj;unfold f2k
 by_cases h:j<k
 ·rw [if_pos h,if_pos (by omega)]
 ·rw [if_neg h,if_neg (by omega)]
theorem znO (d:St) (n k:Nat):∀ j,j<n→j≠k→f3k d (k+1) j=f3k d k j:=by
 intro j _ hj;unfold f3k
 by_cases h:j<k
 ·rw [if_pos h,if_pos (by omega)]
 ·rw [if_neg h,if_neg (by omega)]
theorem zct (B gr:Nat) (L:List Nat) (d:St) (w:J) (h:Rf w B gr L d) :
 R K 53 #[ptr gr] w fun e w'=>e=S (F G d.flush.2)∧zaB B gr L d.flush.1 w w':=by
 have q4:w.cell? ⟨gr,4,q⟩=y (I d.dead):=by
  obtain ⟨g1,c1,g2,c2,g3,c3,rfl,hA⟩:=RAt.of_rf h;exact hA.c 4
 by_cases hd:d.dead=O
 ·rw [zhe hd];rw [hd] at q4;have H:=zh h;clear h hd;unfold ptr;go_enter func53,ntmps53;go_wp2;go_ret;exact ⟨rfl,H.out,zaw.refl _ _⟩
 ·have hd':d.dead=D:=by simpa using hd
  rw [hd'] at q4;have HC:=zh (zez B gr L d w h hd')
  by_cases h0:d.left=0
  ·have e:d.flush=(d.die,7):=by unfold St.flush St.try_;rw [if_pos h0]
   rw [e];rw [if_pos h0,ztN h0] at HC;clear h hd hd' h0 e;unfold ptr at *;go_enter func53,ntmps53
   go_wp2_with fail
   refine HC.out.mono ?_;rintro e w1 ⟨rfl,hM⟩;go_wp2;go_ret;exact ⟨rfl,hM⟩
  ·have e:d.flush=(d.step.settle,0):=by unfold St.flush St.try_;rw [if_neg h0,hd',if_neg (by decide)]
   rw [e];rw [if_neg h0,ztM h0] at HC;obtain ⟨d1,hd1⟩:∃ d1,d1=d.step:=⟨_,rfl⟩;rw [←hd1] at HC ⊢;clear h hd h0 e hd1;unfold ptr at *;go_enter func53,ntmps53
   go_wp2_with fail
   refine HC.out.mono ?_;rintro e w1 ⟨rfl,hR1,hK1⟩;clear HC;have ho:=zh hR1.1;obtain ⟨g1,c1,g2,c2,g3,c3,rfl,hA⟩:=RAt.of_rf hR1;obtain ⟨n,hn⟩:∃ n,n=d1.n:=⟨_,rfl⟩;obtain ⟨arm,harm⟩:∃ arm,arm=max d1.left (-1):=⟨_,rfl⟩;obtain ⟨dead,hdead⟩:∃ dead,dead=d1.dead:=⟨_,rfl⟩;rw [←hn,←harm,←hdead] at hA;have HH:=zh (And.intro hn (And.intro harm hdead));have hn4:n≤4096:=by rw [hn];exact ho.out.n2
   clear hn harm hdead hR1 q4 hd'
   have hA0:RAt w1 B gr g1 c1 g2 c2 g3 c3 n (zlb d1) (f2k d1 0) (f3k d1 0) arm dead:=by
    refine ⟨hA.blk,hA.r1,?_,?_,hA.ap,hA.hB⟩
    ·rw [←zcp (zsY d1) (f2k d1 0) _ (fun j _=>by simp [f2k])];exact hA.r2
    ·rw [←zcp (wtV d1) (f3k d1 0) _ (fun j _=>by simp [f3k])];exact hA.r3
   clear hA
   go_wp2_with fail
   go_loopw [3] (fun i wr=>∃ k:Nat,k≤n∧i=F G k∧RAt wr B gr g1 c1 g2 c2 g3 c3 n (zlb d1) (f2k d1 k) (f3k d1 k) arm dead∧zaw [gr,g1,g2,g3] w wr) (fun i _=>n-(RowKit.intOf i).toNat)
   case atStart=>exact ⟨0,by omega,rfl,hA0,hK1⟩
   case round =>
    obtain ⟨k,hk,rfl,hAr,hkr⟩:=hrel;clear hA0 hK1;have q0:=hAr.c 0;change wr.cell? ⟨gr,0,q⟩=y (z (y ⟨g1,0,q⟩) n c1) at q0
    by_cases hlt:k<n
    ·have hk0:(0:Int)≤k:=by omega
     have hk1:(k:Int)<n:=by omega
     have z0:=hAr.drew.c 0;change wr.drew.cell? ⟨gr,0,q⟩=y (z (y ⟨g1,0,q⟩) n c1) at z0;have z1:=hAr.drew.c 1;change wr.drew.cell? ⟨gr,1,q⟩=y (z (y ⟨g2,0,q⟩) n c2) at z1;have cz1:wr.drew.cell? ⟨g1,k,q⟩=y (zlb d1 k):=zcL hAr.drew.r1 k hlt;have cz2:wr.drew.cell? ⟨g2,k,q⟩=y (f2k d1 k k):=zcL hAr.drew.r2 k hlt;have fz2:wr.drew.frozen? ⟨g2,k,q⟩=D:=zio hAr.drew.r2 k;have hA1:=zh (hAr.drew.set2 k (f2k d1 (k+1)) (znN d1 n k));have ef:f2k d1 (k+1) k=A (txt (d1.now k)):=by unfold f2k;rw [if_pos (by omega)];rfl
     rw [ef] at hA1;unfold zlb at cz1;have y2:(wr.setCell ⟨g2,k,q⟩ (A (txt (d1.now k)))).cell? ⟨gr,2,q⟩=y (z (y ⟨g3,0,q⟩) n c3):=hA1.out.c 2;have y2':(wr.drew.setCell ⟨g2,k,q⟩ (A (txt (d1.now k)))).cell? ⟨gr,2,q⟩=y (z (y ⟨g3,0,q⟩) n c3):=hA1.out.c 2;have yf:(wr.setCell ⟨g2,k,q⟩ (A (txt (d1.now k)))).frozen? ⟨g3,k,q⟩=D:=zio hA1.out.r3 k;have yf':(wr.drew.setCell ⟨g2,k,q⟩ (A (txt (d1.now k)))).frozen? ⟨g3,k,q⟩=D:=zio hA1.out.r3 k;have yc:(wr.setCell ⟨g2,k,q⟩ (A (txt (d1.now k)))).cell? ⟨g3,k,q⟩=y (f3k d1 k k):=zcL hA1.out.r3 k hlt;have yc':(wr.drew.setCell ⟨g2,k,q⟩ (A (txt (d1.now k)))).cell? ⟨g3,k,q⟩=y (f3k d1 k k):=zcL hA1.out.r3 k hlt;have hA2:=zh (hA1.out.set3 k (f3k d1 (k+1)) (znO d1 n k));have ef3:f3k d1 (k+1) k=I D:=by unfold f3k;rw [if_pos (by omega)]
     rw [ef3] at hA2
     have hk2:zaw [gr,g1,g2,g3] w ((wr.drew.setCell ⟨g2,k,q⟩ (A (txt (d1.now k)))).setCell ⟨g3,k,q⟩ (I D)) :=
      hkr.trans ((zaw.setCell (w:=wr.drew) (p:=⟨g2,k,q⟩) (by simp) _ |> fun h=>⟨h.os,h.tape,h.output,h.size,h.block⟩:zaw [gr,g1,g2,g3] wr _).trans (zaw.setCell (p:=⟨g3,k,q⟩) (by simp) _))
     have HK2:=zh hk2;clear hAr hk2
     go_wp2_with fail
     go_still_tail 13,(by kernel_rfl)
     change wpList _ _ _ _ _ wr.drew;go_wp2
     go_roundw
     case rel=>exact ⟨k+1,by omega,by go_num,hA2.out,HK2.out⟩
     case measure=>simp [RowKit.intOf];omega
    ·have hk':k=n:=by omega
     subst hk';go_wp2;go_ret;obtain ⟨e1,e2,e3⟩:=HH.out;rw [e1] at hAr;exact ⟨rfl,RAt.to_rf (d:=d1.settle) hAr ho.out.settle (fun _ _=>rfl) (fun j hj=>by unfold f2k;rw [if_pos (show j<d1.n from hj)];rfl) (fun j hj=>by unfold f3k;rw [if_pos (show j<d1.n from hj)];rfl) e2 e3,hkr⟩
end
section
open Dk
namespace Dk
theorem zip (d:St) (i:Nat) (s:Sec):(d.put i s).now i=s:=by
 show (if i=i then y s else d.wt i).getD _=_;rw [if_pos rfl];rfl
theorem zhf (d:St) (i j:Nat) (s:Sec) (h:j≠i):(d.put i s).now j=d.now j:=by
 show (if j=i then y s else d.wt j).getD _=_;rw [if_neg h];rfl
end Dk
theorem zcM {d:St} {a:Int} (h:d.dead=O):d.refuses a=7:=by unfold St.refuses;rw [if_pos h]
theorem zrU (l:List UInt8):txt l++txt (Dk.zeros (64-l.length))=txt (pad l):=by rw [zkZ];rfl
theorem znP (B gr:Nat) (L:List Nat) (d:St) (at_:Int) (l:List UInt8) (w:J) (h:Rf w B gr L d) (hr:d.refuses at_≠0) :
 R K 70 #[ptr gr,F G at_,A (txt l)] w fun e w'=>e=S (F G (d.refuses at_))∧w=w':=by
 obtain ⟨g1,c1,g2,c2,g3,c3,rfl,hA⟩:=RAt.of_rf h;have q4:=hA.c 4;change w.cell? ⟨gr,4,q⟩=y (I d.dead) at q4;have q0:=hA.c 0;change w.cell? ⟨gr,0,q⟩=y (z (y ⟨g1,0,q⟩) d.n c1) at q0;unfold ptr
 by_cases hd:d.dead=O
 ·rw [zcM hd];rw [hd] at q4;clear h hA hr;go_enter func70,ntmps70;go_wp2;go_ret;exact ⟨rfl,rfl⟩
 ·have hd':d.dead=D:=by simpa using hd
  rw [hd'] at q4
  by_cases hb:at_<0∨(d.n:Int)≤at_
  ·rw [zcJ hd' hb];clear h hA hr;rcases hb with hb|hb
   ·have hb1:decide (at_<0)=O:=ztN hb;go_enter func70,ntmps70;go_wp2;go_ret;exact ⟨rfl,rfl⟩
   ·have hb1:decide (at_<0)=D:=ztM (by omega);have hb2:decide ((d.n:Int)≤at_)=O:=ztN hb;go_enter func70,ntmps70;go_wp2;go_ret;exact ⟨rfl,rfl⟩
  ·exact absurd (za0 hd' (by omega) (by omega)) hr
theorem zjc (B gr:Nat) (L:List Nat) (d:St) (i:Nat) (l:List UInt8) (w:J) (h:Rf w B gr L d) (hd:d.dead=D) (hi:i<d.n) (hl:64<l.length) :
 R K 70 #[ptr gr,F G i,A (txt l)] w fun e w'=>e=S (F G 3)∧w=w':=by
 obtain ⟨g1,c1,g2,c2,g3,c3,rfl,hA⟩:=RAt.of_rf h;have q4:=hA.c 4;change w.cell? ⟨gr,4,q⟩=y (I d.dead) at q4;have q0:=hA.c 0;change w.cell? ⟨gr,0,q⟩=y (z (y ⟨g1,0,q⟩) d.n c1) at q0;rw [hd] at q4;have hsz:(txt l).size=l.length:=zah l;have h1:decide (d.n≤i)=D:=ztM (by omega);have h2:decide (64<l.length)=O:=ztN hl;have h3:(64:Int)<l.length:=by omega
 unfold ptr;clear h hA;go_enter func70,ntmps70;go_wp2;go_ret;exact ⟨rfl,rfl⟩
theorem znQ (B gr:Nat) (L:List Nat) (d:St) (i:Nat) (l:List UInt8) (w:J) (h:Rf w B gr L d) (hd:d.dead=D) (hi:i<d.n) (hl:l.length≤64) :
 R K 70 #[ptr gr,F G i,A (txt l)] w fun e w'=>e=S (F G (d.try_ (fun x=>x.put i (pad l))).2)∧zaB B gr L (d.try_ (fun x=>x.put i (pad l))).1 w w':=by
 have q4:w.cell? ⟨gr,4,q⟩=y (I d.dead):=by
  obtain ⟨g1,c1,g2,c2,g3,c3,rfl,hA⟩:=RAt.of_rf h;exact hA.c 4
 have q0:∃ g c,w.cell? ⟨gr,0,q⟩=y (z (y ⟨g,0,q⟩) d.n c):=by
  obtain ⟨g1,c1,g2,c2,g3,c3,rfl,hA⟩:=RAt.of_rf h;exact ⟨_,_,hA.c 0⟩
 obtain ⟨g,c,q0⟩:=q0;rw [hd] at q4;have hsz:(txt l).size=l.length:=zah l;have h1:decide (d.n≤i)=D:=ztM (by omega);have h2:decide (64<l.length)=D:=ztM (by omega);have h3:(l.length:Int)≤64:=by omega
 have HC:=zh (zez B gr L d w h hd);have HI:=zh hi;unfold St.try_
 by_cases h0:d.left=0
 ·rw [if_pos h0];rw [if_pos h0,ztN h0] at HC;clear h h0 hi;unfold ptr at *;go_enter func70,ntmps70
  go_wp2_with fail
  refine HC.out.mono ?_;rintro e w1 ⟨rfl,hM⟩;go_wp2;go_ret;exact ⟨rfl,hM⟩
 ·rw [if_neg h0,hd,if_neg (by decide)];rw [if_neg h0,ztM h0] at HC;obtain ⟨d1,hd1⟩:∃ d1,d1=d.step:=⟨_,rfl⟩;have hn1:Hid (d1.n=d.n):=by show _=_;rw [hd1];rfl
  rw [←hd1] at HC ⊢;clear h h0 hi hd1;unfold ptr at *;go_enter func70,ntmps70
  go_wp2_with fail
  refine HC.out.mono ?_;rintro e w1 ⟨rfl,hR1,hK1⟩;clear HC;have ho:=zh hR1.1;obtain ⟨g1,c1,g2,c2,g3,c3,rfl,hA⟩:=RAt.of_rf hR1;obtain ⟨i0,hi0,hz0,hz1,hz2⟩:=info_parts info5;obtain ⟨m,hm⟩:∃ m,m=64-l.length:=⟨_,rfl⟩;have hmi:(64:Int)-l.length=(m:Int):=by omega
  have hm64:m≤64:=by omega
  have hm0:(0:Int)≤m:=by omega
  have hwr:G.wrap (m:Int)=(m:Int):=IntWalk.i64_in _ (by omega);obtain ⟨M,hM⟩:∃ M,M=(U (Dk.zeros m)).toArray:=⟨_,rfl⟩
  have hmk:(Instr.makeSlice 78 (F G m) (F G m)).run K w1.drew=.ok (z (y ⟨w1.heap.size,0,q⟩) m m) (w1.alloc (C M 5)).drew:=by
   have h1:=run_make (P:=K) w1.drew 78 5 i0 (F .u8 0) underlying78 hi0 hz0 G G m m (by omega) (by omega) (by rw [hz2];omega) (by omega)
   have e:madeCells (F .u8 0).cells ((m:Int).toNat*i0.size)=M:=by
    rw [hM,hz1];apply Array.ext';have h2:=toList_madeCells_one (F .u8 0) m;have h3:((m:Int).toNat*1)=m:=by omega
    rw [h3];show (madeCells #[F IntKind.u8 0] m).toList=_;rw [h2];simp [U,Dk.zeros]
   rw [e] at h1;exact h1
  have hcv:(convert 78 9 (z (y ⟨w1.heap.size,0,q⟩) m m)).run K (w1.alloc (C M 5)).drew=.ok (A (txt (Dk.zeros m))) (w1.alloc (C M 5)).drew:=by
   refine zd5 (by simp [Dk.zeros]) (fun j u hu=>?_);have hh:(w1.alloc (C M 5)).drew.heap[w1.heap.size]?=y (C M 5 (0,0)):=ztJ w1 _;rw [zcr _ _ _ _ 5 (0,0) hh,zub,hM]
   simpa using hu
  have hcat:txt l++txt (Dk.zeros m)=txt (pad l):=by rw [hm];exact zrU l
  have hzs:(txt (Dk.zeros m)).size=m:=by rw [zah];simp [Dk.zeros]
  obtain ⟨n,hn⟩:∃ n,n=d1.n:=⟨_,rfl⟩;have hin:i<n:=by rw [hn,hn1.out];exact HI.out
  have hini:(i:Int)<n:=by omega
  rw [←hn] at hA;have HNN:=zh hn;clear hn;have z0:=hA.drew.c 0;change w1.drew.cell? ⟨gr,0,q⟩=y (z (y ⟨g1,0,q⟩) n c1) at z0;have hb:N w1.heap.size w1 (w1.alloc (C M 5)).drew:=((T _ w1).alloc (ztI _) _).drew;have hA2:=zh (hA.below' hb);have z0':=hA2.out.c 0;change (w1.alloc (C M 5)).drew.cell? ⟨gr,0,q⟩=y (z (y ⟨g1,0,q⟩) n c1) at z0';have fz:=zio hA2.out.r1 i;have cz:=zcL hA2.out.r1 i hin;obtain ⟨W,hW⟩:∃ W,W=(w1.alloc (C M 5)).drew:=⟨_,rfl⟩;obtain ⟨f,hf⟩:∃ f:Nat→E,f=zlb (d1.put i (pad l)):=⟨_,rfl⟩;have hfi:f i=A (txt (pad l)):=by rw [hf];unfold zlb;rw [zip]
  have hfo:∀ j,j<n→j≠i→f j=zlb d1 j:=fun j _ hj=>by rw [hf];unfold zlb;rw [zhf _ _ _ _ hj]
  have hA3:=hA2.out.set1 i f hfo;obtain ⟨f3,hf3⟩:∃ f:Nat→E,f=wtV (d1.put i (pad l)):=⟨_,rfl⟩;have hfi3:f3 i=I O:=by rw [hf3];show Value.bool (if i=i then y (pad l) else d1.wt i).isSome=_;rw [if_pos rfl];rfl
  have hfo3:∀ j,j<n→j≠i→f3 j=wtV d1 j:=fun j _ hj=>by rw [hf3];show Value.bool (if j=i then y (pad l) else d1.wt j).isSome=_;rw [if_neg hj];rfl
  have hA4:=hA3.set3 i f3 hfo3;rw [hfi] at hA3 hA4;rw [hfi3] at hA4;have y2:=hA3.c 2;change ((w1.alloc (C M 5)).drew.setCell ⟨g1,i,q⟩ (A (txt (pad l)))).cell? ⟨gr,2,q⟩=y (z (y ⟨g3,0,q⟩) n c3) at y2;have yf:=zio hA3.r3 i;have yc:=zcL hA3.r3 i hin;have v2:((w1.alloc (C M 5)).setCell ⟨g1,i,q⟩ (A (txt (pad l)))).cell? ⟨gr,2,q⟩=y (z (y ⟨g3,0,q⟩) n c3):=y2;have vf:((w1.alloc (C M 5)).setCell ⟨g1,i,q⟩ (A (txt (pad l)))).frozen? ⟨g3,i,q⟩=D:=yf;have vc:((w1.alloc (C M 5)).setCell ⟨g1,i,q⟩ (A (txt (pad l)))).cell? ⟨g3,i,q⟩=y (wtV d1 i):=yc;have u2:((w1.alloc (C M 5)).setCell ⟨g1,i,q⟩ (A (txt (pad l)))).drew.cell? ⟨gr,2,q⟩=y (z (y ⟨g3,0,q⟩) n c3):=y2;have uf:((w1.alloc (C M 5)).setCell ⟨g1,i,q⟩ (A (txt (pad l)))).drew.frozen? ⟨g3,i,q⟩=D:=yf;have uc:((w1.alloc (C M 5)).setCell ⟨g1,i,q⟩ (A (txt (pad l)))).drew.cell? ⟨g3,i,q⟩=y (wtV d1 i):=yc
  have hkf:zaw [gr,g1,g2,g3] w (((w1.alloc (C M 5)).drew.setCell ⟨g1,i,q⟩ (A (txt (pad l)))).setCell ⟨g3,i,q⟩ (I O)) :=
   ((hK1.trans (zaw.of_below hb)).trans (zaw.setCell (p:=⟨g1,i,q⟩) (by simp) _)).trans (zaw.setCell (p:=⟨g3,i,q⟩) (by simp) _)
  have HKF:=zh hkf;rw [hf,hf3] at hA4;have HA4:=zh hA4;clear hA hM hb hm hR1 hW hf hfi hfo hA3 hf3 hfi3 hfo3 hkf hA4
  go_upto_region 9 with fail
  go_region
  go_wp2;go_ret;have hfin:=HA4.out;rw [HNN.out] at hfin;exact ⟨rfl,RAt.to_rf (d:=d1.put i (pad l)) hfin (ho.out.put (by rw [hn1.out];exact HI.out) (zep l hl)) (fun _ _=>rfl) (fun _ _=>rfl) (fun _ _=>rfl) rfl rfl,HKF.out⟩
theorem zcu (B gr:Nat) (L:List Nat) (d:St) (at_:Int) (l:List UInt8) (w:J) (h:Rf w B gr L d) :
 R K 70 #[ptr gr,F G at_,A (txt l)] w fun e w'=>e=S (F G (d.write at_ l).2)∧zaB B gr L (d.write at_ l).1 w w':=by
 unfold St.write
 by_cases hr:d.refuses at_≠0
 ·rw [if_pos hr];exact (znP B gr L d at_ l w h hr).mono (fun e w' ⟨h1,h2⟩=>⟨h1,by subst h2;exact ⟨h,zaw.refl _ _⟩⟩)
 ·rw [if_neg hr]
  have hd:d.dead=D:=by
   cases e:d.dead
   ·rfl
   ·exact absurd (by rw [zcM e];decide) hr
  have hb:¬ (at_<0∨(d.n:Int)≤at_):=fun hb=>hr (by rw [zcJ hd hb];decide);obtain ⟨i,rfl⟩:=ztW (show 0≤at_ by omega);have hi:i<d.n:=by omega
  by_cases hl:64<l.length
  ·rw [if_pos hl];exact (zjc B gr L d i l w h hd hi hl).mono (fun e w' ⟨h1,h2⟩=>⟨h1,by subst h2;exact ⟨h,zaw.refl _ _⟩⟩)
  ·rw [if_neg hl];exact znQ B gr L d i l w h hd hi (by omega)
end
end Go.Proofs.YtidndekacnmihaaGreat
