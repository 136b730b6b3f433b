/-
  WalPlays: ZRo ZRp ZRq ZRx.
  Conditions: named in each theorem.
-/
import Derived.Test.YtnobeoppffoomaaGreatP35
import Derived.IntWalk
import Derived.Test.YtnobeoppffoomaaGreatP0
set_option linter.unusedVariables false
set_option linter.unusedSimpArgs false
set_option maxHeartbeats 8000000
set_option maxRecDepth 100000
namespace Go.Proofs.YtnobeoppffoomaaGreat
open Go.RowKit Dk
structure RAt (w:World) (B gr:Nat) (g1 c1 g2 c2 g3 c3 n:Nat) (f1 f2 f3:Nat→Value) (arm:Int) (dead:Bool):Prop where
 blk:w.heap[gr]?=some (.cells #[.slice (some ⟨g1,0,none⟩) n c1,.slice (some ⟨g2,0,none⟩) n c2,.slice (some ⟨g3,0,none⟩) n c3,.int .i64 arm,.bool dead] 103 (0,0))
 r1:w.ownsRow B 9 1 (.slice (some ⟨g1,0,none⟩) n c1) n (rowV f1 n)
 r2:w.ownsRow B 9 1 (.slice (some ⟨g2,0,none⟩) n c2) n (rowV f2 n)
 r3:w.ownsRow B 4 1 (.slice (some ⟨g3,0,none⟩) n c3) n (rowV f3 n)
 ap:g1≠g2
 hB:B≤gr
section
variable {w w':World} {B gr g1 c1 g2 c2 g3 c3 n i:Nat} {f1 f2 f3:Nat→Value} {arm:Int} {dead:Bool} {L:List Nat} {d:St}
theorem RAt.of_rf (h:Rf w B gr L d):∃ g1 c1 g2 c2 g3 c3,L=[gr,g1,g2,g3]∧RAt w B gr g1 c1 g2 c2 g3 c3 d.n (nowV d) (oldV d) (wtV d) (max d.left (-1)) d.dead:=by
 obtain ⟨ho,v1,v2,v3,rfl,hA⟩:=h
 have n1:=ho.n1
 obtain ⟨g1,c1,rfl,_⟩:=hA.r1.form (by omega)
 obtain ⟨g2,c2,rfl,_⟩:=hA.r2.form (by omega)
 obtain ⟨g3,c3,rfl,_⟩:=hA.r3.form (by omega)
 exact ⟨g1,c1,g2,c2,g3,c3,rfl,hA.blk,hA.r1,hA.r2,hA.r3,fun e=>hA.ap g1 rfl (by rw [e];rfl),hA.hB⟩
theorem RAt.to_rf (h:RAt w B gr g1 c1 g2 c2 g3 c3 d.n f1 f2 f3 arm dead) (ho:d.Ok) (e1:∀ j,j<d.n→f1 j=nowV d j) (e2:∀ j,j<d.n→f2 j=oldV d j) (e3:∀ j,j<d.n→f3 j=wtV d j) (e4:arm=max d.left (-1)) (e5:dead=d.dead):Rf w B gr [gr,g1,g2,g3] d:=by
 refine ⟨ho,_,_,_,rfl,⟨by rw [←e4,←e5];exact h.blk,?_,?_,?_,?_,h.hB⟩⟩
 ·rw [←rowV_congr f1 _ d.n e1];exact h.r1
 ·rw [←rowV_congr f2 _ d.n e2];exact h.r2
 ·rw [←rowV_congr f3 _ d.n e3];exact h.r3
 ·intro k hk hk2
  have a:g1=k:=by simpa [Value.ownBlock] using hk
  have b:g2=k:=by simpa [Value.ownBlock] using hk2
  exact h.ap (a.trans b.symm)
theorem own_hp {e m g c:Nat} {xs:List Value} (h:w.ownsRow B e 1 (.slice (some ⟨g,0,none⟩) m c) m xs):∃ cur,w.heap[g]?=some (.cells cur e (0,0)):=own_heap h rfl
theorem ne_of_types {k k':Nat} {cur cur':Array Value} {t t':Nat} (h:w.heap[k]?=some (.cells cur t (0,0))) (h':w.heap[k']?=some (.cells cur' t' (0,0))) (hne:t≠t'):k≠k':=by
 rintro rfl
 have:=h.symm.trans h'
 simp only [Option.some.injEq,Obj.cells.injEq] at this
 exact hne this.2.1
theorem RAt.b1 (h:RAt w B gr g1 c1 g2 c2 g3 c3 n f1 f2 f3 arm dead):gr≠g1:=by obtain ⟨_,hh⟩:=own_hp h.r1;exact ne_of_types h.blk hh (by decide)
theorem RAt.b2 (h:RAt w B gr g1 c1 g2 c2 g3 c3 n f1 f2 f3 arm dead):gr≠g2:=by obtain ⟨_,hh⟩:=own_hp h.r2;exact ne_of_types h.blk hh (by decide)
theorem RAt.b3 (h:RAt w B gr g1 c1 g2 c2 g3 c3 n f1 f2 f3 arm dead):gr≠g3:=by obtain ⟨_,hh⟩:=own_hp h.r3;exact ne_of_types h.blk hh (by decide)
theorem RAt.b13 (h:RAt w B gr g1 c1 g2 c2 g3 c3 n f1 f2 f3 arm dead):g1≠g3:=by obtain ⟨_,hh⟩:=own_hp h.r1;obtain ⟨_,h3⟩:=own_hp h.r3;exact ne_of_types hh h3 (by decide)
theorem RAt.b23 (h:RAt w B gr g1 c1 g2 c2 g3 c3 n f1 f2 f3 arm dead):g2≠g3:=by obtain ⟨_,hh⟩:=own_hp h.r2;obtain ⟨_,h3⟩:=own_hp h.r3;exact ne_of_types hh h3 (by decide)
theorem own_other {e m g c k o:Nat} {xs:List Value} {u:Value} (h:w.ownsRow B e 1 (.slice (some ⟨g,0,none⟩) m c) m xs) (hne:g≠k):(w.setCell ⟨k,o,none⟩ u).ownsRow B e 1 (.slice (some ⟨g,0,none⟩) m c) m xs:=by
 refine row_of_heap h (fun j hj=>?_)
 have e:g=j:=by simpa [Value.ownBlock] using hj
 exact heap_setCell_other w ⟨k,o,none⟩ j u (by show j≠k;omega)
theorem RAt.drew (h:RAt w B gr g1 c1 g2 c2 g3 c3 n f1 f2 f3 arm dead):RAt w.drew B gr g1 c1 g2 c2 g3 c3 n f1 f2 f3 arm dead:=⟨h.blk,h.r1,h.r2,h.r3,h.ap,h.hB⟩
theorem RAt.set1 (h:RAt w B gr g1 c1 g2 c2 g3 c3 n f1 f2 f3 arm dead) (i:Nat) (f:Nat→Value) (hf:∀ j,j<n→j≠i→f j=f1 j):RAt (w.setCell ⟨g1,i,none⟩ (f i)) B gr g1 c1 g2 c2 g3 c3 n f f2 f3 arm dead :=
 ⟨(heap_setCell_other w ⟨g1,i,none⟩ gr _ h.b1).trans h.blk,by rw [←rowV_set f1 f n i hf];exact (h.r1.stored i (f i)).1,own_other h.r2 h.ap.symm,own_other h.r3 h.b13.symm,h.ap,h.hB⟩
theorem RAt.set2 (h:RAt w B gr g1 c1 g2 c2 g3 c3 n f1 f2 f3 arm dead) (i:Nat) (f:Nat→Value) (hf:∀ j,j<n→j≠i→f j=f2 j):RAt (w.setCell ⟨g2,i,none⟩ (f i)) B gr g1 c1 g2 c2 g3 c3 n f1 f f3 arm dead :=
 ⟨(heap_setCell_other w ⟨g2,i,none⟩ gr _ h.b2).trans h.blk,own_other h.r1 h.ap,by rw [←rowV_set f2 f n i hf];exact (h.r2.stored i (f i)).1,own_other h.r3 h.b23.symm,h.ap,h.hB⟩
theorem RAt.set3 (h:RAt w B gr g1 c1 g2 c2 g3 c3 n f1 f2 f3 arm dead) (i:Nat) (f:Nat→Value) (hf:∀ j,j<n→j≠i→f j=f3 j):RAt (w.setCell ⟨g3,i,none⟩ (f i)) B gr g1 c1 g2 c2 g3 c3 n f1 f2 f arm dead :=
 ⟨(heap_setCell_other w ⟨g3,i,none⟩ gr _ h.b3).trans h.blk,own_other h.r1 h.b13,own_other h.r2 h.b23,by rw [←rowV_set f3 f n i hf];exact (h.r3.stored i (f i)).1,h.ap,h.hB⟩
theorem RAt.setArm (h:RAt w B gr g1 c1 g2 c2 g3 c3 n f1 f2 f3 arm dead) (x:Int):RAt (w.setCell ⟨gr,3,none⟩ (.int .i64 x)) B gr g1 c1 g2 c2 g3 c3 n f1 f2 f3 x dead :=
 ⟨heap_setCell_same w gr 3 _ 103 _ h.blk,own_other h.r1 h.b1.symm,own_other h.r2 h.b2.symm,own_other h.r3 h.b3.symm,h.ap,h.hB⟩
theorem RAt.setDead (h:RAt w B gr g1 c1 g2 c2 g3 c3 n f1 f2 f3 arm dead) (x:Bool):RAt (w.setCell ⟨gr,4,none⟩ (.bool x)) B gr g1 c1 g2 c2 g3 c3 n f1 f2 f3 arm x :=
 ⟨heap_setCell_same w gr 4 _ 103 _ h.blk,own_other h.r1 h.b1.symm,own_other h.r2 h.b2.symm,own_other h.r3 h.b3.symm,h.ap,h.hB⟩
theorem RAt.c (h:RAt w B gr g1 c1 g2 c2 g3 c3 n f1 f2 f3 arm dead) (o:Nat):w.cell? ⟨gr,o,none⟩=(#[.slice (some ⟨g1,0,none⟩) n c1,.slice (some ⟨g2,0,none⟩) n c2,.slice (some ⟨g3,0,none⟩) n c3,.int .i64 arm,.bool dead]:Array Value)[o]?:=zcr w gr o _ 103 (0,0) h.blk
theorem RAt.fz (h:RAt w B gr g1 c1 g2 c2 g3 c3 n f1 f2 f3 arm dead) (o:Nat):w.frozen? ⟨gr,o,none⟩=false:=frozen_of_row w gr o _ 103 h.blk
theorem row_cell {e g c:Nat} {f:Nat→Value} (h:w.ownsRow B e 1 (.slice (some ⟨g,0,none⟩) n c) n (rowV f n)) (i:Nat) (hi:i<n):w.cell? ⟨g,i,none⟩=some (f i):=by
 rw [h.cellAt i (by omega),rowV_get f n i hi]
theorem RAt.grown1 (h:RAt w B gr g1 c1 g2 c2 g3 c3 n f1 f2 f3 arm dead):∀ k∈[gr,g1,g2,g3],B≤k∧k<w.heap.size:=by
 intro k hk
 simp at hk
 rcases hk with rfl|rfl|rfl|rfl
 ·exact ⟨h.hB,lt_of_heap h.blk⟩
 ·exact h.r1.lt _ rfl
 ·exact h.r2.lt _ rfl
 ·exact h.r3.lt _ rfl
theorem RAt.below' (h:RAt w B gr g1 c1 g2 c2 g3 c3 n f1 f2 f3 arm dead) (hb:Below w.heap.size w w'):RAt w' B gr g1 c1 g2 c2 g3 c3 n f1 f2 f3 arm dead:=by
 have hg:=h.grown1
 exact ⟨(hb.block gr (hg gr (by simp)).2).trans h.blk,row_of_heap h.r1 (fun k hk=>hb.block k (h.r1.lt k hk).2),row_of_heap h.r2 (fun k hk=>hb.block k (h.r2.lt k hk).2),row_of_heap h.r3 (fun k hk=>hb.block k (h.r3.lt k hk).2),h.ap,h.hB⟩
end
theorem own_fz {w:World} {B e m g c:Nat} {xs:List Value} (h:w.ownsRow B e 1 (.slice (some ⟨g,0,none⟩) m c) m xs) (i:Nat):w.frozen? ⟨g,i,none⟩=false:=by
 obtain ⟨cur,hh⟩:=own_hp h
 exact frozen_of_row w g i cur e hh
end Go.Proofs.YtnobeoppffoomaaGreat
namespace Go.Proofs.YtnobeoppffoomaaGreat
open Go.RowKit Dk
def RMoves (B gr:Nat) (L:List Nat) (d':St) (w w':World):Prop:=Rf w' B gr L d'∧Keep L w w'
theorem rread_any (B gr:Nat) (L:List Nat) (d:St) (at_:Int) (w:World) (h:Rf w B gr L d) :
 Calls Tryz.prog 96 #[ptr gr,.int .i64 at_] w fun e w'=>e=.returned (.tuple #[.string (txt (d.readS at_)),.int .i64 (d.refuses at_)])∧w=w':=by
 obtain ⟨g1,c1,g2,c2,g3,c3,rfl,hA⟩:=RAt.of_rf h
 have q4:=hA.c 4
 change w.cell? ⟨gr,4,none⟩=some (.bool d.dead) at q4
 have q0:=hA.c 0
 change w.cell? ⟨gr,0,none⟩=some (.slice (some ⟨g1,0,none⟩) d.n c1) at q0
 unfold ptr
 by_cases hd:d.dead=true
 ·have e1:d.refuses at_=7:=by unfold St.refuses;rw [if_pos hd]
  have e2:txt (d.readS at_)=⟨#[]⟩:=by unfold St.readS;rw [e1];rfl
  rw [e1,e2]
  rw [hd] at q4
  clear h hA e1 e2
  go_enter Tryz.func96,Tryz.ntmps96
  go_wp2
  go_ret2
  exact ⟨rfl,rfl⟩
 ·have hd':d.dead=false:=by simpa using hd
  rw [hd'] at q4
  by_cases hb:at_<0∨(d.n:Int)≤at_
  ·have e1:d.refuses at_=5:=refuses_no_eq hd' hb
   have e2:txt (d.readS at_)=⟨#[]⟩:=by unfold St.readS;rw [e1];rfl
   rw [e1,e2]
   clear h hA e1 e2
   rcases hb with hb|hb
   ·have hb1:decide (at_<0)=true:=decide_eq_true hb
    go_enter Tryz.func96,Tryz.ntmps96
    go_wp2
    go_ret2
    exact ⟨rfl,rfl⟩
   ·by_cases hn:at_<0
    ·omega
    ·have hb1:decide (at_<0)=false:=decide_eq_false hn
     have hb2:decide ((d.n:Int)≤at_)=true:=decide_eq_true hb
     go_enter Tryz.func96,Tryz.ntmps96
     go_wp2
     go_ret2
     exact ⟨rfl,rfl⟩
  ·obtain ⟨i,rfl⟩:=Int.eq_ofNat_of_zero_le (show 0≤at_ by omega)
   have hi:i<d.n:=by omega
   have e1:d.refuses i=0:=refuses_yes_eq hd' (by omega) (by omega)
   have e2:d.readS i=d.now i:=readS_eq hd' hi
   rw [e1,e2]
   have cz:w.cell? ⟨g1,i,none⟩=some (.string (txt (d.now i))):=row_cell hA.r1 i hi
   have hk1:(i:Int)<d.n:=by omega
   clear h hA e1 e2
   have hb2:decide (d.n≤i)=false:=decide_eq_false (by omega)
   go_enter Tryz.func96,Tryz.ntmps96
   go_wp2
   go_ret2
   exact ⟨rfl,rfl⟩
theorem rcrashes_any (B gr:Nat) (L:List Nat) (d:St) (w:World) (h:Rf w B gr L d) (hd:d.dead=false) :
 Calls Tryz.prog 99 #[ptr gr] w fun e w'=>e=.returned (.bool (decide (d.left=0)))∧RMoves B gr L (if d.left=0 then d.die else d.step) w w':=by
 have ho:=h.1
 obtain ⟨g1,c1,g2,c2,g3,c3,rfl,hA⟩:=RAt.of_rf h
 have q4:=hA.c 4
 change w.cell? ⟨gr,4,none⟩=some (.bool d.dead) at q4
 have q3:=hA.c 3
 change w.cell? ⟨gr,3,none⟩=some (.int .i64 (max d.left (-1))) at q3
 have f3:=hA.fz 3
 have f4:=hA.fz 4
 have hl1:=ho.l1
 have hl2:=ho.l2
 unfold ptr
 rw [hd] at q4
 by_cases h0:d.left=0
 ·have e0:max d.left (-1)=0:=by omega
  rw [e0] at q3
  have hX:=zh (hA.setDead true)
  rw [if_pos h0,decide_eq_true h0]
  have HO:=zh ho
  clear hA h ho h0
  go_enter Tryz.func99,Tryz.ntmps99
  go_wp2
  go_ret
  exact ⟨rfl,RAt.to_rf (d:=d.die) hX.out HO.out.die (fun _ _=>rfl) (fun _ _=>rfl) (fun _ _=>rfl) rfl rfl,Keep.setCell (by simp) _⟩
 ·rw [if_neg h0,decide_eq_false h0]
  by_cases h1:0<d.left
  ·obtain ⟨a,ha⟩:∃ a,a=max d.left (-1):=⟨_,rfl⟩
   rw [←ha] at q3
   have ha0:0<a:=by omega
   have hane:(a==0)=false:=by simp;omega
   have hwr:IntKind.i64.wrap (a-1)=a-1:=IntWalk.i64_in _ (by omega)
   have hX:=zh (hA.setArm (a-1))
   have e1:a-1=max d.step.left (-1):=by
    show _=max (if 0<d.left then d.left-1 else d.left) (-1)
    rw [if_pos h1];omega
   have E1:=zh e1
   have HO:=zh ho
   clear hA h ho h0 h1 ha e1
   go_enter Tryz.func99,Tryz.ntmps99
   go_wp2
   go_ret
   exact ⟨rfl,RAt.to_rf (d:=d.step) hX.out HO.out.step (fun _ _=>rfl) (fun _ _=>rfl) (fun _ _=>rfl) E1.out rfl,Keep.setCell (by simp) _⟩
  ·have e0:max d.left (-1)=-1:=by omega
   rw [e0] at q3
   have e1:d.step=d:=by unfold St.step;rw [if_neg h1]
   rw [e1]
   have H:=zh h
   clear hA h ho h0 h1
   go_enter Tryz.func99,Tryz.ntmps99
   go_wp2
   go_ret
   exact ⟨rfl,H.out,Keep.refl _ _⟩
theorem rarm_any (B gr:Nat) (L:List Nat) (d:St) (a:Int) (w:World) (h:Rf w B gr L d) (h1:-9223372036854775808≤a) (h2:a≤9223372036854775807) :
 Calls Tryz.prog 57 #[ptr gr,.int .i64 a] w fun e w'=>e=.returned (.tuple #[])∧RMoves B gr L (d.arm a) w w':=by
 have ho:=h.1
 obtain ⟨g1,c1,g2,c2,g3,c3,rfl,hA⟩:=RAt.of_rf h
 have f3:=hA.fz 3
 have q3:=hA.c 3
 change w.cell? ⟨gr,3,none⟩=some (.int .i64 (max d.left (-1))) at q3
 have hX:=zh (hA.setArm (max a (-1)))
 have HO:=zh ho
 clear hA h ho
 have fin:∀ x,x=max a (-1)→RMoves B gr [gr,g1,g2,g3] (d.arm a) w (w.setCell ⟨gr,3,none⟩ (.int .i64 x)):=fun x hx=>by
  subst hx
  exact ⟨RAt.to_rf (d:=d.arm a) hX.out (HO.out.arm h1 h2) (fun _ _=>rfl) (fun _ _=>rfl) (fun _ _=>rfl) rfl rfl,Keep.setCell (by simp) _⟩
 have HF:=zh fin
 clear hX fin
 unfold ptr
 by_cases hx:a < -1
 ·go_enter Tryz.func57,Tryz.ntmps57
  go_wp2
  go_end0
  exact ⟨rfl,HF.out _ (by omega)⟩
 ·go_enter Tryz.func57,Tryz.ntmps57
  go_wp2
  go_end0
  exact ⟨rfl,HF.out _ (by omega)⟩
end Go.Proofs.YtnobeoppffoomaaGreat
namespace Go.Proofs.YtnobeoppffoomaaGreat
open Go.RowKit Dk
theorem flush_dead_eq {d:St} (hd:d.dead=true):d.flush=(d,7):=by
 unfold St.flush St.try_
 by_cases h:d.left=0
 ·rw [if_pos h]
  have e:d.die=d:=by
   unfold St.die
   rw [←hd]
  rw [e]
 ·rw [if_neg h,if_pos hd]
def f2k (d:St) (k j:Nat):Value:=if j<k then nowV d j else oldV d j
def f3k (d:St) (k j:Nat):Value:=if j<k then .bool false else wtV d j
theorem f2k_other (d:St) (n k:Nat):∀ j,j<n→j≠k→f2k d (k+1) j=f2k d k j:=by
 intro j _ hj
 unfold f2k
 by_cases h:j<k
 ·rw [if_pos h,if_pos (by omega)]
 ·rw [if_neg h,if_neg (by omega)]
theorem f3k_other (d:St) (n k:Nat):∀ j,j<n→j≠k→f3k d (k+1) j=f3k d k j:=by
 intro j _ hj
 unfold f3k
 by_cases h:j<k
 ·rw [if_pos h,if_pos (by omega)]
 ·rw [if_neg h,if_neg (by omega)]
theorem rflush_any (B gr:Nat) (L:List Nat) (d:St) (w:World) (h:Rf w B gr L d) :
 Calls Tryz.prog 58 #[ptr gr] w fun e w'=>e=.returned (.int .i64 d.flush.2)∧RMoves B gr L d.flush.1 w w':=by
 have q4:w.cell? ⟨gr,4,none⟩=some (.bool d.dead):=by
  obtain ⟨g1,c1,g2,c2,g3,c3,rfl,hA⟩:=RAt.of_rf h
  exact hA.c 4
 by_cases hd:d.dead=true
 ·rw [flush_dead_eq hd]
  rw [hd] at q4
  have H:=zh h
  clear h hd
  unfold ptr
  go_enter Tryz.func58,Tryz.ntmps58
  go_wp2
  go_ret
  exact ⟨rfl,H.out,Keep.refl _ _⟩
 ·have hd':d.dead=false:=by simpa using hd
  rw [hd'] at q4
  have HC:=zh (rcrashes_any B gr L d w h hd')
  by_cases h0:d.left=0
  ·have e:d.flush=(d.die,7):=by unfold St.flush St.try_;rw [if_pos h0]
   rw [e]
   rw [if_pos h0,decide_eq_true h0] at HC
   clear h hd hd' h0 e
   unfold ptr at *
   go_enter Tryz.func58,Tryz.ntmps58
   go_wp2_with fail
   refine HC.out.mono ?_
   rintro e w1 ⟨rfl,hM⟩
   go_wp2
   go_ret
   exact ⟨rfl,hM⟩
  ·have e:d.flush=(d.step.settle,0):=by unfold St.flush St.try_;rw [if_neg h0,hd',if_neg (by decide)]
   rw [e]
   rw [if_neg h0,decide_eq_false h0] at HC
   obtain ⟨d1,hd1⟩:∃ d1,d1=d.step:=⟨_,rfl⟩
   rw [←hd1] at HC ⊢
   clear h hd h0 e hd1
   unfold ptr at *
   go_enter Tryz.func58,Tryz.ntmps58
   go_wp2_with fail
   refine HC.out.mono ?_
   rintro e w1 ⟨rfl,hR1,hK1⟩
   clear HC
   have ho:=zh hR1.1
   obtain ⟨g1,c1,g2,c2,g3,c3,rfl,hA⟩:=RAt.of_rf hR1
   obtain ⟨n,hn⟩:∃ n,n=d1.n:=⟨_,rfl⟩
   obtain ⟨arm,harm⟩:∃ arm,arm=max d1.left (-1):=⟨_,rfl⟩
   obtain ⟨dead,hdead⟩:∃ dead,dead=d1.dead:=⟨_,rfl⟩
   rw [←hn,←harm,←hdead] at hA
   have HH:=zh (And.intro hn (And.intro harm hdead))
   have hn4:n≤4096:=by rw [hn];exact ho.out.n2
   clear hn harm hdead hR1 q4 hd'
   have hA0:RAt w1 B gr g1 c1 g2 c2 g3 c3 n (nowV d1) (f2k d1 0) (f3k d1 0) arm dead:=by
    refine ⟨hA.blk,hA.r1,?_,?_,hA.ap,hA.hB⟩
    ·rw [←rowV_congr (oldV d1) (f2k d1 0) _ (fun j _=>by simp [f2k])];exact hA.r2
    ·rw [←rowV_congr (wtV d1) (f3k d1 0) _ (fun j _=>by simp [f3k])];exact hA.r3
   clear hA
   go_wp2_with fail
   go_loopw [3] (fun i wr=>∃ k:Nat,k≤n∧i=.int .i64 k∧RAt wr B gr g1 c1 g2 c2 g3 c3 n (nowV d1) (f2k d1 k) (f3k d1 k) arm dead∧Keep [gr,g1,g2,g3] w wr) (fun i _=>n-(RowKit.intOf i).toNat)
   case atStart=>exact ⟨0,by omega,rfl,hA0,hK1⟩
   case round =>
    obtain ⟨k,hk,rfl,hAr,hkr⟩:=hrel
    clear hA0 hK1
    have q0:=hAr.c 0
    change wr.cell? ⟨gr,0,none⟩=some (.slice (some ⟨g1,0,none⟩) n c1) at q0
    by_cases hlt:k<n
    ·have hk0:(0:Int)≤k:=by omega
     have hk1:(k:Int)<n:=by omega
     have z0:=hAr.drew.c 0
     change wr.drew.cell? ⟨gr,0,none⟩=some (.slice (some ⟨g1,0,none⟩) n c1) at z0
     have z1:=hAr.drew.c 1
     change wr.drew.cell? ⟨gr,1,none⟩=some (.slice (some ⟨g2,0,none⟩) n c2) at z1
     have cz1:wr.drew.cell? ⟨g1,k,none⟩=some (nowV d1 k):=row_cell hAr.drew.r1 k hlt
     have cz2:wr.drew.cell? ⟨g2,k,none⟩=some (f2k d1 k k):=row_cell hAr.drew.r2 k hlt
     have fz2:wr.drew.frozen? ⟨g2,k,none⟩=false:=own_fz hAr.drew.r2 k
     have hA1:=zh (hAr.drew.set2 k (f2k d1 (k+1)) (f2k_other d1 n k))
     have ef:f2k d1 (k+1) k=.string (txt (d1.now k)):=by unfold f2k;rw [if_pos (by omega)];rfl
     rw [ef] at hA1
     unfold nowV at cz1
     have y2:(wr.setCell ⟨g2,k,none⟩ (.string (txt (d1.now k)))).cell? ⟨gr,2,none⟩=some (.slice (some ⟨g3,0,none⟩) n c3):=hA1.out.c 2
     have y2':(wr.drew.setCell ⟨g2,k,none⟩ (.string (txt (d1.now k)))).cell? ⟨gr,2,none⟩=some (.slice (some ⟨g3,0,none⟩) n c3):=hA1.out.c 2
     have yf:(wr.setCell ⟨g2,k,none⟩ (.string (txt (d1.now k)))).frozen? ⟨g3,k,none⟩=false:=own_fz hA1.out.r3 k
     have yf':(wr.drew.setCell ⟨g2,k,none⟩ (.string (txt (d1.now k)))).frozen? ⟨g3,k,none⟩=false:=own_fz hA1.out.r3 k
     have yc:(wr.setCell ⟨g2,k,none⟩ (.string (txt (d1.now k)))).cell? ⟨g3,k,none⟩=some (f3k d1 k k):=row_cell hA1.out.r3 k hlt
     have yc':(wr.drew.setCell ⟨g2,k,none⟩ (.string (txt (d1.now k)))).cell? ⟨g3,k,none⟩=some (f3k d1 k k):=row_cell hA1.out.r3 k hlt
     have hA2:=zh (hA1.out.set3 k (f3k d1 (k+1)) (f3k_other d1 n k))
     have ef3:f3k d1 (k+1) k=.bool false:=by unfold f3k;rw [if_pos (by omega)]
     rw [ef3] at hA2
     have hk2:Keep [gr,g1,g2,g3] w ((wr.drew.setCell ⟨g2,k,none⟩ (.string (txt (d1.now k)))).setCell ⟨g3,k,none⟩ (.bool false)) :=
      hkr.trans ((Keep.setCell (w:=wr.drew) (p:=⟨g2,k,none⟩) (by simp) _ |> fun h=>⟨h.os,h.tape,h.output,h.size,h.block⟩:Keep [gr,g1,g2,g3] wr _).trans (Keep.setCell (p:=⟨g3,k,none⟩) (by simp) _))
     have HK2:=zh hk2
     clear hAr hk2
     go_wp2_with fail
     go_still_tail 13,(by kernel_rfl)
     change wpList _ _ _ _ _ wr.drew
     go_wp2
     go_roundw
     case rel=>exact ⟨k+1,by omega,by go_num,hA2.out,HK2.out⟩
     case measure=>simp [RowKit.intOf];omega
    ·have hk':k=n:=by omega
     subst hk'
     go_wp2
     go_ret
     obtain ⟨e1,e2,e3⟩:=HH.out
     rw [e1] at hAr
     exact ⟨rfl,RAt.to_rf (d:=d1.settle) hAr ho.out.settle (fun _ _=>rfl) (fun j hj=>by unfold f2k;rw [if_pos (show j<d1.n from hj)];rfl) (fun j hj=>by unfold f3k;rw [if_pos (show j<d1.n from hj)];rfl) e2 e3,hkr⟩
theorem rimage_any (B gr:Nat) (L:List Nat) (d:St) (w:World) (h:Rf w B gr L d) :
 Calls Tryz.prog 24 #[ptr gr] w fun e w'=>e=.returned (.string (txt d.image))∧w=w':=by
 have ho:=h.1
 obtain ⟨g1,c1,g2,c2,g3,c3,rfl,hA⟩:=RAt.of_rf h
 have q0:=hA.c 0
 change w.cell? ⟨gr,0,none⟩=some (.slice (some ⟨g1,0,none⟩) d.n c1) at q0
 have hcell:Hid (∀ k,k<d.n→w.cell? ⟨g1,k,none⟩=some (.string (txt (d.now k)))):=fun k hk=>row_cell hA.r1 k hk
 have hn2:=ho.n2
 have hnow:=zh ho.now
 have himg:Hid (d.image=catS d.now d.n):=rfl
 obtain ⟨n,hn⟩:∃ n,n=d.n:=⟨_,rfl⟩
 rw [himg.out]
 rw [←hn] at q0 hcell hn2 ⊢
 clear h hA ho hn himg
 unfold ptr
 go_enter Tryz.func24,Tryz.ntmps24
 go_wp2_with fail
 go_loopw [3,4] (fun sx ix wr=>wr=w∧∃ k:Nat,k≤n∧sx=.string (txt (catS d.now k))∧ix=.int .i64 k) (fun _ ix _=>n-(RowKit.intOf ix).toNat)
 case atStart=>exact ⟨rfl,0,by omega,rfl,rfl⟩
 case round =>
  obtain ⟨rfl,k,hk,rfl,rfl⟩:=hrel
  by_cases hlt:k<n
  ·have hk0:(0:Int)≤k:=by omega
   have hk1:(k:Int)<n:=by omega
   have cz:=hcell.out k hlt
   obtain ⟨km,hkm⟩:∃ km,km=k*64:=⟨_,rfl⟩
   have hs1:(txt (catS d.now k)).size=km:=by rw [txt_size,catS_length _ hnow.out,hkm]
   have hs2:(txt (d.now k)).size=64:=by rw [txt_size,hnow.out]
   have hkm1:(km:Int)≤262144:=by omega
   have hkm0:(0:Int)≤km:=by omega
   have hcat:txt (catS d.now k)++txt (d.now k)=txt (catS d.now (k+1)):=by rw [txt_append];rfl
   have HC:=zh hcat
   clear hcat hkm
   go_wp2_with fail
   rw [HC.out]
   go_roundw
   case rel=>exact ⟨trivial,k+1,by omega,rfl,by go_num⟩
   case measure=>simp [RowKit.intOf];omega
  ·have hk':k=n:=by omega
   subst hk'
   go_wp2
   go_ret
   exact ⟨rfl,rfl⟩
end Go.Proofs.YtnobeoppffoomaaGreat
namespace Go.Proofs.YtnobeoppffoomaaGreat
open Go.RowKit Dk
namespace Dk
theorem put_now_same (d:St) (i:Nat) (s:Sec):(d.put i s).now i=s:=by
 show (if i=i then some s else d.wt i).getD _=_
 rw [if_pos rfl];rfl
theorem put_now_other (d:St) (i j:Nat) (s:Sec) (h:j≠i):(d.put i s).now j=d.now j:=by
 show (if j=i then some s else d.wt j).getD _=_
 rw [if_neg h];rfl
end Dk
theorem refuses_deadx {d:St} {a:Int} (h:d.dead=true):d.refuses a=7:=by unfold St.refuses;rw [if_pos h]
theorem pad_cat (l:List UInt8):txt l++txt (Dk.zeros (64-l.length))=txt (pad l):=by rw [txt_append];rfl
theorem rwrite_no (B gr:Nat) (L:List Nat) (d:St) (at_:Int) (l:List UInt8) (w:World) (h:Rf w B gr L d) (hr:d.refuses at_≠0) :
 Calls Tryz.prog 55 #[ptr gr,.int .i64 at_,.string (txt l)] w fun e w'=>e=.returned (.int .i64 (d.refuses at_))∧w=w':=by
 obtain ⟨g1,c1,g2,c2,g3,c3,rfl,hA⟩:=RAt.of_rf h
 have q4:=hA.c 4
 change w.cell? ⟨gr,4,none⟩=some (.bool d.dead) at q4
 have q0:=hA.c 0
 change w.cell? ⟨gr,0,none⟩=some (.slice (some ⟨g1,0,none⟩) d.n c1) at q0
 unfold ptr
 by_cases hd:d.dead=true
 ·rw [refuses_deadx hd]
  rw [hd] at q4
  clear h hA hr
  go_enter Tryz.func55,Tryz.ntmps55
  go_wp2
  go_ret
  exact ⟨rfl,rfl⟩
 ·have hd':d.dead=false:=by simpa using hd
  rw [hd'] at q4
  by_cases hb:at_<0∨(d.n:Int)≤at_
  ·rw [refuses_no_eq hd' hb]
   clear h hA hr
   rcases hb with hb|hb
   ·have hb1:decide (at_<0)=true:=decide_eq_true hb
    go_enter Tryz.func55,Tryz.ntmps55
    go_wp2
    go_ret
    exact ⟨rfl,rfl⟩
   ·have hb1:decide (at_<0)=false:=decide_eq_false (by omega)
    have hb2:decide ((d.n:Int)≤at_)=true:=decide_eq_true hb
    go_enter Tryz.func55,Tryz.ntmps55
    go_wp2
    go_ret
    exact ⟨rfl,rfl⟩
  ·exact absurd (refuses_yes_eq hd' (by omega) (by omega)) hr
theorem rwrite_long (B gr:Nat) (L:List Nat) (d:St) (i:Nat) (l:List UInt8) (w:World) (h:Rf w B gr L d) (hd:d.dead=false) (hi:i<d.n) (hl:64<l.length) :
 Calls Tryz.prog 55 #[ptr gr,.int .i64 i,.string (txt l)] w fun e w'=>e=.returned (.int .i64 3)∧w=w':=by
 obtain ⟨g1,c1,g2,c2,g3,c3,rfl,hA⟩:=RAt.of_rf h
 have q4:=hA.c 4
 change w.cell? ⟨gr,4,none⟩=some (.bool d.dead) at q4
 have q0:=hA.c 0
 change w.cell? ⟨gr,0,none⟩=some (.slice (some ⟨g1,0,none⟩) d.n c1) at q0
 rw [hd] at q4
 have hsz:(txt l).size=l.length:=txt_size l
 have h1:decide (d.n≤i)=false:=decide_eq_false (by omega)
 have h2:decide (64<l.length)=true:=decide_eq_true hl
 have h3:(64:Int)<l.length:=by omega
 unfold ptr
 clear h hA
 go_enter Tryz.func55,Tryz.ntmps55
 go_wp2
 go_ret
 exact ⟨rfl,rfl⟩
theorem rwrite_ok (B gr:Nat) (L:List Nat) (d:St) (i:Nat) (l:List UInt8) (w:World) (h:Rf w B gr L d) (hd:d.dead=false) (hi:i<d.n) (hl:l.length≤64) :
 Calls Tryz.prog 55 #[ptr gr,.int .i64 i,.string (txt l)] w fun e w'=>e=.returned (.int .i64 (d.try_ (fun x=>x.put i (pad l))).2)∧RMoves B gr L (d.try_ (fun x=>x.put i (pad l))).1 w w':=by
 have q4:w.cell? ⟨gr,4,none⟩=some (.bool d.dead):=by
  obtain ⟨g1,c1,g2,c2,g3,c3,rfl,hA⟩:=RAt.of_rf h
  exact hA.c 4
 have q0:∃ g c,w.cell? ⟨gr,0,none⟩=some (.slice (some ⟨g,0,none⟩) d.n c):=by
  obtain ⟨g1,c1,g2,c2,g3,c3,rfl,hA⟩:=RAt.of_rf h
  exact ⟨_,_,hA.c 0⟩
 obtain ⟨g,c,q0⟩:=q0
 rw [hd] at q4
 have hsz:(txt l).size=l.length:=txt_size l
 have h1:decide (d.n≤i)=false:=decide_eq_false (by omega)
 have h2:decide (64<l.length)=false:=decide_eq_false (by omega)
 have h3:(l.length:Int)≤64:=by omega
 have HC:=zh (rcrashes_any B gr L d w h hd)
 have HI:=zh hi
 unfold St.try_
 by_cases h0:d.left=0
 ·rw [if_pos h0]
  rw [if_pos h0,decide_eq_true h0] at HC
  clear h h0 hi
  unfold ptr at *
  go_enter Tryz.func55,Tryz.ntmps55
  go_wp2_with fail
  refine HC.out.mono ?_
  rintro e w1 ⟨rfl,hM⟩
  go_wp2
  go_ret
  exact ⟨rfl,hM⟩
 ·rw [if_neg h0,hd,if_neg (by decide)]
  rw [if_neg h0,decide_eq_false h0] at HC
  obtain ⟨d1,hd1⟩:∃ d1,d1=d.step:=⟨_,rfl⟩
  have hn1:Hid (d1.n=d.n):=by show _=_;rw [hd1];rfl
  rw [←hd1] at HC ⊢
  clear h h0 hi hd1
  unfold ptr at *
  go_enter Tryz.func55,Tryz.ntmps55
  go_wp2_with fail
  refine HC.out.mono ?_
  rintro e w1 ⟨rfl,hR1,hK1⟩
  clear HC
  have ho:=zh hR1.1
  obtain ⟨g1,c1,g2,c2,g3,c3,rfl,hA⟩:=RAt.of_rf hR1
  obtain ⟨i0,hi0,hz0,hz1,hz2⟩:=info_parts Tryz.info5
  obtain ⟨m,hm⟩:∃ m,m=64-l.length:=⟨_,rfl⟩
  have hmi:(64:Int)-l.length=(m:Int):=by omega
  have hm64:m≤64:=by omega
  have hm0:(0:Int)≤m:=by omega
  have hwr:IntKind.i64.wrap (m:Int)=(m:Int):=IntWalk.i64_in _ (by omega)
  obtain ⟨M,hM⟩:∃ M,M=(Lib.byteCells (Dk.zeros m)).toArray:=⟨_,rfl⟩
  have hmk:(Instr.makeSlice 68 (.int .i64 m) (.int .i64 m)).run Tryz.prog w1.drew=.ok (.slice (some ⟨w1.heap.size,0,none⟩) m m) (w1.alloc (.cells M 5)).drew:=by
   have h1:=run_make (P:=Tryz.prog) w1.drew 68 5 i0 (.int .u8 0) Tryz.underlying68 hi0 hz0 .i64 .i64 m m (by omega) (by omega) (by rw [hz2];omega) (by omega)
   have e:madeCells (Value.int .u8 0).cells ((m:Int).toNat*i0.size)=M:=by
    rw [hM,hz1]
    apply Array.ext'
    have h2:=toList_madeCells_one (Value.int .u8 0) m
    have h3:((m:Int).toNat*1)=m:=by omega
    rw [h3]
    show (madeCells #[Value.int IntKind.u8 0] m).toList=_
    rw [h2]
    simp [Lib.byteCells,Dk.zeros]
   rw [e] at h1
   exact h1
  have hcv:(convert 68 9 (.slice (some ⟨w1.heap.size,0,none⟩) m m)).run Tryz.prog (w1.alloc (.cells M 5)).drew=.ok (.string (txt (Dk.zeros m))) (w1.alloc (.cells M 5)).drew:=by
   refine conv_sec (by simp [Dk.zeros]) (fun j u hu=>?_)
   have hh:(w1.alloc (.cells M 5)).drew.heap[w1.heap.size]?=some (.cells M 5 (0,0)):=heap_alloc_new w1 _
   rw [zcr _ _ _ _ 5 (0,0) hh,Nat.zero_add,hM]
   simpa using hu
  have hcat:txt l++txt (Dk.zeros m)=txt (pad l):=by rw [hm];exact pad_cat l
  have hzs:(txt (Dk.zeros m)).size=m:=by rw [txt_size];simp [Dk.zeros]
  obtain ⟨n,hn⟩:∃ n,n=d1.n:=⟨_,rfl⟩
  have hin:i<n:=by rw [hn,hn1.out];exact HI.out
  have hini:(i:Int)<n:=by omega
  rw [←hn] at hA
  have HNN:=zh hn
  clear hn
  have z0:=hA.drew.c 0
  change w1.drew.cell? ⟨gr,0,none⟩=some (.slice (some ⟨g1,0,none⟩) n c1) at z0
  have hb:Below w1.heap.size w1 (w1.alloc (.cells M 5)).drew:=((Below.refl _ w1).alloc (Nat.le_refl _) _).drew
  have hA2:=zh (hA.below' hb)
  have z0':=hA2.out.c 0
  change (w1.alloc (.cells M 5)).drew.cell? ⟨gr,0,none⟩=some (.slice (some ⟨g1,0,none⟩) n c1) at z0'
  have fz:=own_fz hA2.out.r1 i
  have cz:=row_cell hA2.out.r1 i hin
  obtain ⟨W,hW⟩:∃ W,W=(w1.alloc (.cells M 5)).drew:=⟨_,rfl⟩
  obtain ⟨f,hf⟩:∃ f:Nat→Value,f=nowV (d1.put i (pad l)):=⟨_,rfl⟩
  have hfi:f i=.string (txt (pad l)):=by rw [hf];unfold nowV;rw [put_now_same]
  have hfo:∀ j,j<n→j≠i→f j=nowV d1 j:=fun j _ hj=>by rw [hf];unfold nowV;rw [put_now_other _ _ _ _ hj]
  have hA3:=hA2.out.set1 i f hfo
  obtain ⟨f3,hf3⟩:∃ f:Nat→Value,f=wtV (d1.put i (pad l)):=⟨_,rfl⟩
  have hfi3:f3 i=.bool true:=by rw [hf3];show Value.bool (if i=i then some (pad l) else d1.wt i).isSome=_;rw [if_pos rfl];rfl
  have hfo3:∀ j,j<n→j≠i→f3 j=wtV d1 j:=fun j _ hj=>by rw [hf3];show Value.bool (if j=i then some (pad l) else d1.wt j).isSome=_;rw [if_neg hj];rfl
  have hA4:=hA3.set3 i f3 hfo3
  rw [hfi] at hA3 hA4
  rw [hfi3] at hA4
  have y2:=hA3.c 2
  change ((w1.alloc (.cells M 5)).drew.setCell ⟨g1,i,none⟩ (.string (txt (pad l)))).cell? ⟨gr,2,none⟩=some (.slice (some ⟨g3,0,none⟩) n c3) at y2
  have yf:=own_fz hA3.r3 i
  have yc:=row_cell hA3.r3 i hin
  have v2:((w1.alloc (.cells M 5)).setCell ⟨g1,i,none⟩ (.string (txt (pad l)))).cell? ⟨gr,2,none⟩=some (.slice (some ⟨g3,0,none⟩) n c3):=y2
  have vf:((w1.alloc (.cells M 5)).setCell ⟨g1,i,none⟩ (.string (txt (pad l)))).frozen? ⟨g3,i,none⟩=false:=yf
  have vc:((w1.alloc (.cells M 5)).setCell ⟨g1,i,none⟩ (.string (txt (pad l)))).cell? ⟨g3,i,none⟩=some (wtV d1 i):=yc
  have u2:((w1.alloc (.cells M 5)).setCell ⟨g1,i,none⟩ (.string (txt (pad l)))).drew.cell? ⟨gr,2,none⟩=some (.slice (some ⟨g3,0,none⟩) n c3):=y2
  have uf:((w1.alloc (.cells M 5)).setCell ⟨g1,i,none⟩ (.string (txt (pad l)))).drew.frozen? ⟨g3,i,none⟩=false:=yf
  have uc:((w1.alloc (.cells M 5)).setCell ⟨g1,i,none⟩ (.string (txt (pad l)))).drew.cell? ⟨g3,i,none⟩=some (wtV d1 i):=yc
  have hkf:Keep [gr,g1,g2,g3] w (((w1.alloc (.cells M 5)).drew.setCell ⟨g1,i,none⟩ (.string (txt (pad l)))).setCell ⟨g3,i,none⟩ (.bool true)) :=
   ((hK1.trans (Keep.of_below hb)).trans (Keep.setCell (p:=⟨g1,i,none⟩) (by simp) _)).trans (Keep.setCell (p:=⟨g3,i,none⟩) (by simp) _)
  have HKF:=zh hkf
  rw [hf,hf3] at hA4
  have HA4:=zh hA4
  clear hA hM hb hm hR1 hW hf hfi hfo hA3 hf3 hfi3 hfo3 hkf hA4
  go_upto_region 9 with fail
  go_region
  go_wp2
  go_ret
  have hfin:=HA4.out
  rw [HNN.out] at hfin
  exact ⟨rfl,RAt.to_rf (d:=d1.put i (pad l)) hfin (ho.out.put (by rw [hn1.out];exact HI.out) (pad_length l hl)) (fun _ _=>rfl) (fun _ _=>rfl) (fun _ _=>rfl) rfl rfl,HKF.out⟩
theorem rwrite_any (B gr:Nat) (L:List Nat) (d:St) (at_:Int) (l:List UInt8) (w:World) (h:Rf w B gr L d) :
 Calls Tryz.prog 55 #[ptr gr,.int .i64 at_,.string (txt l)] w fun e w'=>e=.returned (.int .i64 (d.write at_ l).2)∧RMoves B gr L (d.write at_ l).1 w w':=by
 unfold St.write
 by_cases hr:d.refuses at_≠0
 ·rw [if_pos hr]
  exact (rwrite_no B gr L d at_ l w h hr).mono (fun e w' ⟨h1,h2⟩=>⟨h1,by subst h2;exact ⟨h,Keep.refl _ _⟩⟩)
 ·rw [if_neg hr]
  have hd:d.dead=false:=by
   cases e:d.dead
   ·rfl
   ·exact absurd (by rw [refuses_deadx e];decide) hr
  have hb:¬ (at_<0∨(d.n:Int)≤at_):=fun hb=>hr (by rw [refuses_no_eq hd hb];decide)
  obtain ⟨i,rfl⟩:=Int.eq_ofNat_of_zero_le (show 0≤at_ by omega)
  have hi:i<d.n:=by omega
  by_cases hl:64<l.length
  ·rw [if_pos hl]
   exact (rwrite_long B gr L d i l w h hd hi hl).mono (fun e w' ⟨h1,h2⟩=>⟨h1,by subst h2;exact ⟨h,Keep.refl _ _⟩⟩)
  ·rw [if_neg hl]
   exact rwrite_ok B gr L d i l w h hd hi (by omega)
end Go.Proofs.YtnobeoppffoomaaGreat
