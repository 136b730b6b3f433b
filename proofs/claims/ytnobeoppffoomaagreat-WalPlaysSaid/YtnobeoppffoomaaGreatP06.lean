/-
  WalPlays: Made EM WA.
  Conditions: named in each theorem.
-/
import Derived.Test.YtnobeoppffoomaaGreatP05
import Derived.Deep.CutRange
import Derived.Deep.AppendLies
import Derived.Lib.SmallJoins
import Derived.OneCell
import Derived.Test.YtnobeoppffoomaaGreatP00
import Derived.Test.YtnobeoppffoomaaGreatP04
import Derived.Test.YtnobeoppffoomaaGreatP0
set_option linter.unusedVariables false
set_option linter.unusedSimpArgs false
set_option maxHeartbeats 8000000
set_option maxRecDepth 100000
namespace Go.Proofs.YtnobeoppffoomaaGreat
open Go.RowKit
theorem fl_size (r:Int):(fl r).size≤4:=by
 unfold fl
 repeat' split
 all_goals decide
def hasT (l:List UInt8) (c:Int):Bool:=l.any fun x=>(x.toNat:Int)==c
theorem hasT_snoc (l:List UInt8) (x:UInt8) (c:Int):hasT (l++[x]) c=(hasT l c||((x.toNat:Int)==c)):=by
 unfold hasT
 rw [List.any_append]
 simp
def cut64 (s:ByteArray):ByteArray:=s.extract 0 (min (s.size:Int) 64).toNat
def part (e:En) (r:Int) (l:List UInt8):En :=
 { term:=e.term % 1000+1,index:=e.index % 1000+1,kind:=r
   client:=if hasT l 99 then e.client % 5+1 else 0
   seq:=if hasT l 99 then e.seq % 9 else 0
   block:=if hasT l 98 then e.block % 9 else 0
   many:=if hasT l 109 then e.many % 9 else 0
   node:=if hasT l 110 then IntKind.u64.wrap e.node % 7+1 else 0
   level:=if hasT l 108 then IntKind.u64.wrap e.level % 2+1 else 0
   data:=if hasT l 100 then cut64 e.data else ⟨#[]⟩
   old:=if hasT l 111 then cut64 e.old else ⟨#[]⟩ }
def mk (e:En):En:=part e (e.kind % 12) (fl (e.kind % 12)).data.toList
abbrev mdv (e:En) (own:Bool):Value:=.agg #[.int .u64 e.term,.int .u64 e.index,.int .i64 e.kind,.int .u64 e.client,.int .u64 e.seq,.int .u64 e.block,.int .u64 e.many,.int .i64 e.node,.int .i64 e.level,.string e.data,.string e.old,.bool own]
abbrev mdc (e:En) (own:Bool):Array Value:=#[.int .u64 e.term,.int .u64 e.index,.int .i64 e.kind,.int .u64 e.client,.int .u64 e.seq,.int .u64 e.block,.int .u64 e.many,.int .i64 e.node,.int .i64 e.level,.string e.data,.string e.old,.bool own]
abbrev ezz:En:=⟨0,0,0,0,0,0,0,0,0,⟨#[]⟩,⟨#[]⟩⟩
theorem node_eq (n m:Int) (hm:0<m) (hm2:m≤7):wrap64 (wrap64 ((IntKind.u64.wrap n).tmod m)+1)=IntKind.u64.wrap n % m+1:=by
 have h0:0≤IntKind.u64.wrap n:=by rw [IntKind.wrap_u64];omega
 have h1:=Int.emod_nonneg (IntKind.u64.wrap n) (show m≠0 by omega)
 have h2:=Int.emod_lt_of_pos (IntKind.u64.wrap n) hm
 rw [Int.tmod_eq_emod_of_nonneg h0]
 unfold wrap64
 omega
theorem part_99 (e:En) (r:Int) (l:List UInt8) (x:UInt8) (hx:(x.toNat:Int)=99):ec (part e r (l++[x]))=(((ec (part e r l)).setIfInBounds 3 (.int .u64 (e.client % 5+1))).setIfInBounds 4 (.int .u64 (e.seq % 9))):=by
 simp [part,hasT_snoc,hx]
theorem part_98 (e:En) (r:Int) (l:List UInt8) (x:UInt8) (hx:(x.toNat:Int)=98):ec (part e r (l++[x]))=((ec (part e r l)).setIfInBounds 5 (.int .u64 (e.block % 9))):=by
 simp [part,hasT_snoc,hx]
theorem part_109 (e:En) (r:Int) (l:List UInt8) (x:UInt8) (hx:(x.toNat:Int)=109):ec (part e r (l++[x]))=((ec (part e r l)).setIfInBounds 6 (.int .u64 (e.many % 9))):=by
 simp [part,hasT_snoc,hx]
theorem part_110 (e:En) (r:Int) (l:List UInt8) (x:UInt8) (hx:(x.toNat:Int)=110):ec (part e r (l++[x]))=((ec (part e r l)).setIfInBounds 7 (.int .i64 (IntKind.u64.wrap e.node % 7+1))):=by
 simp [part,hasT_snoc,hx]
theorem part_108 (e:En) (r:Int) (l:List UInt8) (x:UInt8) (hx:(x.toNat:Int)=108):ec (part e r (l++[x]))=((ec (part e r l)).setIfInBounds 8 (.int .i64 (IntKind.u64.wrap e.level % 2+1))):=by
 simp [part,hasT_snoc,hx]
theorem part_100 (e:En) (r:Int) (l:List UInt8) (x:UInt8) (hx:(x.toNat:Int)=100):ec (part e r (l++[x]))=((ec (part e r l)).setIfInBounds 9 (.string (cut64 e.data))):=by
 simp [part,hasT_snoc,hx]
theorem part_111 (e:En) (r:Int) (l:List UInt8) (x:UInt8) (hx:(x.toNat:Int)=111):ec (part e r (l++[x]))=((ec (part e r l)).setIfInBounds 10 (.string (cut64 e.old))):=by
 simp [part,hasT_snoc,hx]
theorem part_other (e:En) (r:Int) (l:List UInt8) (x:UInt8) (h:∀ c∈([99,98,109,110,108,100,111]:List Int),(x.toNat:Int)≠c):ec (part e r (l++[x]))=ec (part e r l):=by
 have hh:∀ c∈([99,98,109,110,108,100,111]:List Int),hasT (l++[x]) c=hasT l c:=fun c hc=>by rw [hasT_snoc,beqF (h c hc),Bool.or_false]
 simp only [part,ec,hh 99 (by simp),hh 98 (by simp),hh 109 (by simp),hh 110 (by simp),hh 108 (by simp),hh 100 (by simp),hh 111 (by simp)]
theorem set_blk {w:World} {g:Nat} {T:TypeId} {cs:Array Value} (h:w.heap[g]?=some (.cells cs T (0,0))) (i:Nat) (u:Value):(w.setCell ⟨g,i,none⟩ u).heap[g]?=some (.cells (cs.setIfInBounds i u) T (0,0)):=by
 simp [World.setCell,Array.getElem?_modify,h]
theorem fill_all (E:En):((((((((((((ec ezz).setIfInBounds 0 (.int .u64 E.term)).setIfInBounds 1 (.int .u64 E.index)).setIfInBounds 2 (.int .i64 E.kind)).setIfInBounds 3 (.int .u64 E.client)).setIfInBounds 4 (.int .u64 E.seq)).setIfInBounds 5 (.int .u64 E.block)).setIfInBounds 6 (.int .u64 E.many)).setIfInBounds 7 (.int .i64 E.node)).setIfInBounds 8 (.int .i64 E.level)).setIfInBounds 9 (.string E.data)).setIfInBounds 10 (.string E.old))=ec E:=by
 simp
theorem store_all {wr:World} {g:Nat} (E:En) (h:wr.heap[g]?=some (.cells (ec ezz) 28 (0,0))):(((((((((((wr.setCell ⟨g,0,none⟩ (.int .u64 E.term)).setCell ⟨g,1,none⟩ (.int .u64 E.index)).setCell ⟨g,2,none⟩ (.int .i64 E.kind)).setCell ⟨g,3,none⟩ (.int .u64 E.client)).setCell ⟨g,4,none⟩ (.int .u64 E.seq)).setCell ⟨g,5,none⟩ (.int .u64 E.block)).setCell ⟨g,6,none⟩ (.int .u64 E.many)).setCell ⟨g,7,none⟩ (.int .i64 E.node)).setCell ⟨g,8,none⟩ (.int .i64 E.level)).setCell ⟨g,9,none⟩ (.string E.data)).setCell ⟨g,10,none⟩ (.string E.old)).heap[g]?=some (.cells (ec E) 28 (0,0)):=by
 rw [←fill_all E]
 exact (set_blk (set_blk (set_blk (set_blk (set_blk (set_blk (set_blk (set_blk (set_blk (set_blk (set_blk h 0 _) 1 _) 2 _) 3 _) 4 _) 5 _) 6 _) 7 _) 8 _) 9 _) 10 _)
theorem below_all {B:Nat} {a wr:World} {g:Nat} (E:En) (h:Below B a wr) (hg:B≤g):Below B a (((((((((((wr.setCell ⟨g,0,none⟩ (.int .u64 E.term)).setCell ⟨g,1,none⟩ (.int .u64 E.index)).setCell ⟨g,2,none⟩ (.int .i64 E.kind)).setCell ⟨g,3,none⟩ (.int .u64 E.client)).setCell ⟨g,4,none⟩ (.int .u64 E.seq)).setCell ⟨g,5,none⟩ (.int .u64 E.block)).setCell ⟨g,6,none⟩ (.int .u64 E.many)).setCell ⟨g,7,none⟩ (.int .i64 E.node)).setCell ⟨g,8,none⟩ (.int .i64 E.level)).setCell ⟨g,9,none⟩ (.string E.data)).setCell ⟨g,10,none⟩ (.string E.old)) :=
 (((((((((((h.setCell (p:=⟨g,0,none⟩) hg _).setCell (p:=⟨g,1,none⟩) hg _).setCell (p:=⟨g,2,none⟩) hg _).setCell (p:=⟨g,3,none⟩) hg _).setCell (p:=⟨g,4,none⟩) hg _).setCell (p:=⟨g,5,none⟩) hg _).setCell (p:=⟨g,6,none⟩) hg _).setCell (p:=⟨g,7,none⟩) hg _).setCell (p:=⟨g,8,none⟩) hg _).setCell (p:=⟨g,9,none⟩) hg _).setCell (p:=⟨g,10,none⟩) hg _)
structure Md (w0:World) (e:En) (r:Int) (L:ByteArray) (g k:Nat) (wr:World):Prop where
 src:wr.heap[w0.heap.size+1+1]?=some (.cells (ec e) 28 (0,0))
 res:wr.heap[w0.heap.size+1]?=some (.cells (ec ezz) 28 (0,0))
 out:wr.heap[g]?=some (.cells (ec (part e r (L.data.toList.take k))) 28 (0,0))
 be:Below w0.heap.size w0 wr
 l:w0.heap.size+1+1<g
theorem Md.sc {w0:World} {e:En} {r:Int} {L:ByteArray} {g k:Nat} {wr:World} (h:Md w0 e r L g k wr) (i:Nat):wr.cell? ⟨w0.heap.size+1+1,i,none⟩=(ec e)[i]?:=zcr wr _ i _ 28 (0,0) h.src
theorem Md.oc {w0:World} {e:En} {r:Int} {L:ByteArray} {g k:Nat} {wr:World} (h:Md w0 e r L g k wr) (i:Nat):wr.cell? ⟨g,i,none⟩=(ec (part e r (L.data.toList.take k)))[i]?:=zcr wr _ i _ 28 (0,0) h.out
theorem Md.rc {w0:World} {e:En} {r:Int} {L:ByteArray} {g k:Nat} {wr:World} (h:Md w0 e r L g k wr) (i:Nat):wr.cell? ⟨w0.heap.size+1,i,none⟩=(ec ezz)[i]?:=zcr wr _ i _ 28 (0,0) h.res
theorem Md.of {w:World} {g i:Nat} {T:TypeId} {cs:Array Value} (h:w.heap[g]?=some (.cells cs T (0,0))):w.frozen? ⟨g,i,none⟩=false:=by simp [World.frozen?,h]
theorem Md.step {w0:World} {e:En} {r:Int} {L:ByteArray} {g k:Nat} {wr w1:World} (h:Md w0 e r L g k wr) (ho:w1.heap[g]?=some (.cells (ec (part e r (L.data.toList.take (k+1)))) 28 (0,0))) (hk:∀ j,j≠g→w1.heap[j]?=wr.heap[j]?) (hs:w1.heap.size=wr.heap.size) (h1:w1.os=wr.os) (h2:w1.tape=wr.tape) (h3:w1.output=wr.output) :
 Md w0 e r L g (k+1) w1:=by
 have hl:=h.l
 refine ⟨(hk _ (by omega)).trans h.src,(hk _ (by omega)).trans h.res,ho,⟨h1.trans h.be.os,h2.trans h.be.tape,h3.trans h.be.output,by rw [hs];exact h.be.size,fun j hj=>(hk j (by omega)).trans (h.be.block j hj)⟩,hl⟩
theorem Md.set1 {w0:World} {e:En} {r:Int} {L:ByteArray} {g k:Nat} {wr:World} (h:Md w0 e r L g k wr) (i:Nat) (u:Value) (hp:ec (part e r (L.data.toList.take (k+1)))=(ec (part e r (L.data.toList.take k))).setIfInBounds i u):Md w0 e r L g (k+1) (wr.setCell ⟨g,i,none⟩ u) :=
 h.step (by rw [hp];exact set_blk h.out i u) (fun j hj=>Below.heap_setCell wr _ _ j hj) (by simp) rfl rfl rfl
theorem Md.set2 {w0:World} {e:En} {r:Int} {L:ByteArray} {g k:Nat} {wr:World} (h:Md w0 e r L g k wr) (i i':Nat) (u u':Value) (hp:ec (part e r (L.data.toList.take (k+1)))=((ec (part e r (L.data.toList.take k))).setIfInBounds i u).setIfInBounds i' u'):Md w0 e r L g (k+1) ((wr.setCell ⟨g,i,none⟩ u).setCell ⟨g,i',none⟩ u') :=
 h.step (by rw [hp];exact set_blk (set_blk h.out i u) i' u') (fun j hj=>(Below.heap_setCell _ _ _ j hj).trans (Below.heap_setCell wr _ _ j hj)) (by simp) rfl rfl rfl
theorem mk_r (e:En):(if e.kind.tmod 12<0 then e.kind.tmod 12+12 else e.kind.tmod 12)=e.kind % 12:=by
 have h1:=Int.tmod_add_mul_tdiv e.kind 12
 have h2:=Int.tmod_lt_of_pos e.kind (show (0:Int)<12 by omega)
 have h3:-12<e.kind.tmod 12:=by
  rcases Int.lt_or_le e.kind 0 with h|h
  ·have h4:=Int.tmod_lt_of_pos (-e.kind) (show (0:Int)<12 by omega)
   rw [Int.neg_tmod] at h4
   omega
  ·have:=Int.tmod_nonneg 12 h
   omega
 split<;>omega
theorem made_yes (e:En) (w:World) (ok:e.Ok):Calls Tryz.prog 11 #[mdv e true] w fun r w'=>r=.returned (ev (mk e))∧Below w.heap.size w w':=by
 have OK:=zh ok
 clear ok
 have hr1:=mk_r e
 have hk:=OK.out
 have x1:=hk.t0
 have x2:=hk.t1
 have x3:=hk.i0
 have x4:=hk.i1
 have x5:=hk.c0
 have x6:=hk.c1
 have x7:=hk.s0
 have x8:=hk.s1
 have x9:=hk.b0
 have x10:=hk.b1
 have x11:=hk.m0
 have x12:=hk.m1
 clear hk
 obtain ⟨wq,hQ⟩:∃ wq,wq=((w.alloc (Obj.cells (mdc e true) 30)).alloc (Obj.cells (ec ezz) 28)).alloc (Obj.cells (ec e) 28):=⟨_,rfl⟩
 have hbq:Below w.heap.size w wq:=by rw [hQ];exact (((Below.refl _ _).alloc (Nat.le_refl _) _).alloc (by simp) _).alloc (by simp;omega) _
 have hq2:wq.heap[w.heap.size+1+1]?=some (.cells (ec e) 28 (0,0)):=by
  have h:=heap_alloc_new ((w.alloc (Obj.cells (mdc e true) 30)).alloc (Obj.cells (ec ezz) 28)) (Obj.cells (ec e) 28)
  rw [show ((w.alloc (Obj.cells (mdc e true) 30)).alloc (Obj.cells (ec ezz) 28)).heap.size=w.heap.size+1+1 by simp] at h
  rw [hQ];exact h
 have hq1:wq.heap[w.heap.size+1]?=some (.cells (ec ezz) 28 (0,0)):=by
  have h:=heap_alloc_new (w.alloc (Obj.cells (mdc e true) 30)) (Obj.cells (ec ezz) 28)
  rw [show (w.alloc (Obj.cells (mdc e true) 30)).heap.size=w.heap.size+1 by simp] at h
  rw [hQ];exact (Lib.alloc_old _ _ _ (by simp)).trans h
 have hqs:wq.heap.size=w.heap.size+1+1+1:=by rw [hQ];simp
 have HQ:=zh hQ
 have HB:=zh hbq
 have HS:=zh hqs
 have H1:=zh hq1
 have H2:=zh hq2
 clear hQ hbq hqs hq1 hq2
 by_cases hneg:e.kind.tmod 12<0
 all_goals
  first|rw [if_pos hneg] at hr1|rw [if_neg hneg] at hr1
  have HR:=zh hr1
  clear hr1
  go_enter Tryz.func11,Tryz.ntmps11
  go_wp2_with (go_at_call 34;fail)
  obtain ⟨r,hr⟩:∃ r,r=e.kind % 12:=⟨_,rfl⟩
  first
   | rw [show wrap64 (e.kind.tmod 12+12)=r by have hx:=HR.out;rw [hx,hr];unfold wrap64;omega]
   | rw [show e.kind.tmod 12+12=r by rw [hr,←HR.out]]
   | rw [show e.kind.tmod 12=r by rw [hr,←HR.out]]
  rw [←HQ.out]
  have HRR:=zh hr
  clear hr HR hneg
  with_reducible refine (rfields_any r _).mono ?_
  rintro q w1 ⟨rfl,hb1⟩
  have c0:w1.cell? ⟨w.heap.size+1+1,0,none⟩=some (.int .u64 e.term):=(hb1.cell (p:=⟨w.heap.size+1+1,0,none⟩) (by have:=HS.out;simp;omega)).trans (zcr wq _ 0 _ 28 (0,0) H2.out)
  have c1:w1.cell? ⟨w.heap.size+1+1,1,none⟩=some (.int .u64 e.index):=(hb1.cell (p:=⟨w.heap.size+1+1,1,none⟩) (by have:=HS.out;simp;omega)).trans (zcr wq _ 1 _ 28 (0,0) H2.out)
  have hq1w:w1.heap[w.heap.size+1]?=some (.cells (ec ezz) 28 (0,0)):=(hb1.block _ (by have:=HS.out;omega)).trans H1.out
  have hq2w:w1.heap[w.heap.size+1+1]?=some (.cells (ec e) 28 (0,0)):=(hb1.block _ (by have:=HS.out;omega)).trans H2.out
  have hbw:Below w.heap.size w w1:=HB.out.trans (hb1.mono HB.out.size)
  have hlt1:w.heap.size+1+1<w1.heap.size:=by have:=HS.out;have:=hb1.size;omega
  have hm0:Md w e r (fl r) w1.heap.size 0 (w1.alloc (Obj.cells (ec (part e r [])) 28)) :=
   ⟨(Lib.alloc_old w1 _ _ hlt1).trans hq2w,(Lib.alloc_old w1 _ _ (by omega)).trans hq1w,heap_alloc_new w1 _,hbw.alloc hbw.size _,hlt1⟩
  have HM0:=zh hm0
  have hfl:(fl r).size≤4:=fl_size r
  clear hq1w hq2w hm0 hb1
  go_wp2
  go_loopw [8] (fun i wr=>∃ k:Nat,k≤(fl r).size∧i=.int .i64 k∧Md w e r (fl r) w1.heap.size k wr) (fun i _=>(fl r).size-(Go.RowKit.intOf i).toNat)
  case atStart=>exact ⟨0,Nat.zero_le _,rfl,HM0.out⟩
  case round =>
   obtain ⟨k,hk,rfl,hM⟩:=hrel
   by_cases hlt:k<(fl r).size
   ·have htk:Hid ((fl r).data.toList.take (k+1)=(fl r).data.toList.take k++[(fl r)[k]]):=by
     show _=_
     rw [List.take_succ_eq_append_getElem (by simpa using hlt)]
     rfl
    have s3:=hM.sc 3
    have s4:=hM.sc 4
    have s5:=hM.sc 5
    have s6:=hM.sc 6
    have s7:=hM.sc 7
    have s8:=hM.sc 8
    have s9:=hM.sc 9
    have s10:=hM.sc 10
    have o3:=hM.oc 3
    have o4:=hM.oc 4
    have o5:=hM.oc 5
    have o6:=hM.oc 6
    have o7:=hM.oc 7
    have o8:=hM.oc 8
    have o9:=hM.oc 9
    have o10:=hM.oc 10
    simp only [ec,List.getElem?_toArray,List.getElem?_cons_succ,List.getElem?_cons_zero] at s3 s4 s5 s6 s7 s8 s9 s10 o3 o4 o5 o6 o7 o8 o9 o10
    have fz:∀ i,wr.frozen? ⟨w1.heap.size,i,none⟩=false:=fun i=>Md.of hM.out
    have HMM:=zh hM
    clear hM
    by_cases y99:(((fl r)[k].toNat:Int)==99)=true
    ·have hx:((fl r)[k].toNat:Int)=99:=by simpa using y99
     have HX:=zh hx
     clear hx
     go_wp2
     go_roundw
     case rel=>exact ⟨k+1,by omega,by go_num,HMM.out.set2 3 4 _ _ (by rw [htk.out];exact part_99 e r _ _ HX.out)⟩
     case measure=>simp [Go.RowKit.intOf];omega
    ·have n99:(((fl r)[k].toNat:Int)==99)=false:=by simpa using y99
     clear y99
     by_cases y98:(((fl r)[k].toNat:Int)==98)=true
     ·have hx:((fl r)[k].toNat:Int)=98:=by simpa using y98
      have HX:=zh hx
      clear hx
      go_wp2
      go_roundw
      case rel=>exact ⟨k+1,by omega,by go_num,HMM.out.set1 5 _ (by rw [htk.out];exact part_98 e r _ _ HX.out)⟩
      case measure=>simp [Go.RowKit.intOf];omega
     ·have n98:(((fl r)[k].toNat:Int)==98)=false:=by simpa using y98
      clear y98
      by_cases y109:(((fl r)[k].toNat:Int)==109)=true
      ·have hx:((fl r)[k].toNat:Int)=109:=by simpa using y109
       have HX:=zh hx
       clear hx
       go_wp2
       go_roundw
       case rel=>exact ⟨k+1,by omega,by go_num,HMM.out.set1 6 _ (by rw [htk.out];exact part_109 e r _ _ HX.out)⟩
       case measure=>simp [Go.RowKit.intOf];omega
      ·have n109:(((fl r)[k].toNat:Int)==109)=false:=by simpa using y109
       clear y109
       by_cases y110:(((fl r)[k].toNat:Int)==110)=true
       ·have hx:((fl r)[k].toNat:Int)=110:=by simpa using y110
        have HX:=zh hx
        clear hx
        go_wp2
        go_roundw
        case rel=>exact ⟨k+1,by omega,by go_num,HMM.out.set1 7 _ (by rw [htk.out,node_eq _ 7 (by omega) (by omega)];exact part_110 e r _ _ HX.out)⟩
        case measure=>simp [Go.RowKit.intOf];omega
       ·have n110:(((fl r)[k].toNat:Int)==110)=false:=by simpa using y110
        clear y110
        by_cases y108:(((fl r)[k].toNat:Int)==108)=true
        ·have hx:((fl r)[k].toNat:Int)=108:=by simpa using y108
         have HX:=zh hx
         clear hx
         go_wp2
         go_roundw
         case rel=>exact ⟨k+1,by omega,by go_num,HMM.out.set1 8 _ (by rw [htk.out,node_eq _ 2 (by omega) (by omega)];exact part_108 e r _ _ HX.out)⟩
         case measure=>simp [Go.RowKit.intOf];omega
        ·have n108:(((fl r)[k].toNat:Int)==108)=false:=by simpa using y108
         clear y108
         by_cases y100:(((fl r)[k].toNat:Int)==100)=true
         ·have hx:((fl r)[k].toNat:Int)=100:=by simpa using y100
          have HX:=zh hx
          clear hx
          go_wp2
          go_roundw
          case rel=>exact ⟨k+1,by omega,by go_num,HMM.out.set1 9 _ (by rw [htk.out];exact part_100 e r _ _ HX.out)⟩
          case measure=>simp [Go.RowKit.intOf];omega
         ·have n100:(((fl r)[k].toNat:Int)==100)=false:=by simpa using y100
          clear y100
          by_cases y111:(((fl r)[k].toNat:Int)==111)=true
          ·have hx:((fl r)[k].toNat:Int)=111:=by simpa using y111
           have HX:=zh hx
           clear hx
           go_wp2
           go_roundw
           case rel=>exact ⟨k+1,by omega,by go_num,HMM.out.set1 10 _ (by rw [htk.out];exact part_111 e r _ _ HX.out)⟩
           case measure=>simp [Go.RowKit.intOf];omega
          ·have n111:(((fl r)[k].toNat:Int)==111)=false:=by simpa using y111
           clear y111
           have hne:Hid (∀ c∈([99,98,109,110,108,100,111]:List Int),((fl r)[k].toNat:Int)≠c):=by
            intro c hc h0
            simp only [List.mem_cons,List.not_mem_nil,or_false] at hc
            rw [h0] at n99 n98 n109 n110 n108 n100 n111
            rcases hc with rfl|rfl|rfl|rfl|rfl|rfl|rfl<;>simp at n99 n98 n109 n110 n108 n100 n111
           go_wp2
           have hM2:Md w e r (fl r) w1.heap.size (k+1) wr:=HMM.out.step (by rw [htk.out,part_other e r _ _ hne.out];exact HMM.out.out) (fun _ _=>rfl) rfl rfl rfl rfl
           go_roundw
           case rel=>exact ⟨k+1,by omega,by go_num,hM2⟩
           case measure=>simp [Go.RowKit.intOf];omega
   ·have hkn:k=(fl r).size:=by omega
    subst hkn
    have hd:Hid ((fl r).data.toList.take (fl r).size=(fl r).data.toList):=by
     show _=_
     rw [List.take_of_length_le (by simp)]
    have hout:=hM.out
    rw [hd.out] at hout
    obtain ⟨E,hE⟩:∃ E,E=part e r (fl r).data.toList:=⟨_,rfl⟩
    rw [←hE] at hout
    have hmk:Hid (mk e=E):=by show _=_;rw [hE];unfold mk;rw [HRR.out]
    have hEo:∀ i,wr.cell? ⟨w1.heap.size,i,none⟩=(ec E)[i]?:=fun i=>zcr wr _ i _ 28 (0,0) hout
    have p0:=hEo 0
    have p1:=hEo 1
    have p2:=hEo 2
    have p3:=hEo 3
    have p4:=hEo 4
    have p5:=hEo 5
    have p6:=hEo 6
    have p7:=hEo 7
    have p8:=hEo 8
    have p9:=hEo 9
    have p10:=hEo 10
    have z0:=hM.rc 0
    have z1:=hM.rc 1
    have z2:=hM.rc 2
    have z3:=hM.rc 3
    have z4:=hM.rc 4
    have z5:=hM.rc 5
    have z6:=hM.rc 6
    have z7:=hM.rc 7
    have z8:=hM.rc 8
    have z9:=hM.rc 9
    have z10:=hM.rc 10
    simp only [ec,List.getElem?_toArray,List.getElem?_cons_succ,List.getElem?_cons_zero] at p0 p1 p2 p3 p4 p5 p6 p7 p8 p9 p10 z0 z1 z2 z3 z4 z5 z6 z7 z8 z9 z10
    have fz:∀ i,wr.frozen? ⟨w.heap.size+1,i,none⟩=false:=fun i=>Md.of hM.res
    have HBE:=zh hM.be
    have HRES:=zh hM.res
    clear hE hout hEo hM
    go_wp2
    obtain ⟨WF,hWF⟩:∃ WF,WF=(((((((((((wr.setCell ⟨w.heap.size+1,0,none⟩ (.int .u64 E.term)).setCell ⟨w.heap.size+1,1,none⟩ (.int .u64 E.index)).setCell ⟨w.heap.size+1,2,none⟩ (.int .i64 E.kind)).setCell ⟨w.heap.size+1,3,none⟩ (.int .u64 E.client)).setCell ⟨w.heap.size+1,4,none⟩ (.int .u64 E.seq)).setCell ⟨w.heap.size+1,5,none⟩ (.int .u64 E.block)).setCell ⟨w.heap.size+1,6,none⟩ (.int .u64 E.many)).setCell ⟨w.heap.size+1,7,none⟩ (.int .i64 E.node)).setCell ⟨w.heap.size+1,8,none⟩ (.int .i64 E.level)).setCell ⟨w.heap.size+1,9,none⟩ (.string E.data)).setCell ⟨w.heap.size+1,10,none⟩ (.string E.old)):=⟨_,rfl⟩
    rw [←hWF]
    have hblk:WF.heap[w.heap.size+1]?=some (.cells (ec E) 28 (0,0)):=by
     rw [hWF]
     exact store_all E HRES.out
    have hbF:Below w.heap.size w WF:=by
     rw [hWF]
     exact below_all E HBE.out (by omega)
    have hEf:∀ i,WF.cell? ⟨w.heap.size+1,i,none⟩=(ec E)[i]?:=fun i=>zcr WF _ i _ 28 (0,0) hblk
    have f0:=hEf 0
    have f1:=hEf 1
    have f2:=hEf 2
    have f3:=hEf 3
    have f4:=hEf 4
    have f5:=hEf 5
    have f6:=hEf 6
    have f7:=hEf 7
    have f8:=hEf 8
    have f9:=hEf 9
    have f10:=hEf 10
    simp only [ec,List.getElem?_toArray,List.getElem?_cons_succ,List.getElem?_cons_zero] at f0 f1 f2 f3 f4 f5 f6 f7 f8 f9 f10
    clear hEf hblk hWF
    exact bodyPost_ret (v:=ev E) (by simp [results,Tryz.results11,go_sem,f0,f1,f2,f3,f4,f5,f6,f7,f8,f9,f10]) rfl ⟨by rw [hmk.out],hbF⟩
end Go.Proofs.YtnobeoppffoomaaGreat
namespace Go.Proofs.YtnobeoppffoomaaGreat
open Go.RowKit
theorem blk_of_add (a:Addr) (n:Nat):(a.add n).block=a.block:=by
 unfold Addr.add
 split<;>rfl
structure Ents (B:Nat) (A:Option Addr) (n:Nat) (es:List En) (w:World):Prop where
 len:es.length=n
 at_:∀ i e,es[i]?=some e→∃ a,A=some a∧a.block<B∧∀ j,j<11→w.cell? ((a.add (i*11)).add j)=(ec e)[j]?
theorem Ents.below {B:Nat} {A:Option Addr} {n:Nat} {es:List En} {w w1:World} (h:Ents B A n es w) (hb:Below B w w1):Ents B A n es w1 :=
 ⟨h.len,fun i e he=>by
  obtain ⟨a,hA,hB,hc⟩:=h.at_ i e he
  exact ⟨a,hA,hB,fun j hj=>(hb.cell (by rw [blk_of_add,blk_of_add];exact hB)).trans (hc j hj)⟩⟩
theorem Ents.mr {B B':Nat} {A:Option Addr} {n:Nat} {es:List En} {w:World} (h:Ents B A n es w) (hB:B≤B'):Ents B' A n es w :=
 ⟨h.len,fun i e he=>by
  obtain ⟨a,hA,h1,hc⟩:=h.at_ i e he
  exact ⟨a,hA,Nat.lt_of_lt_of_le h1 hB,hc⟩⟩
theorem u64_id {x:Int} (h0:0≤x) (h1:x≤9223372036854775807):IntKind.u64.wrap x=x:=by rw [IntKind.wrap_u64];omega
theorem cut64_size (s:ByteArray) (hs:s.size≤140737488351232):(cut64 s).size≤64:=by
 unfold cut64
 rw [ByteArray.size_extract]
 omega
theorem lim_yes {L:ByteArray} {c n lo hi:Int} (hh:hasL L c=true) (h1:lo≤n) (h2:n≤hi):lim L c n lo hi=true:=by
 unfold lim
 rw [if_pos hh,decide_eq_true h1,decide_eq_true h2];rfl
theorem lim_zero {L:ByteArray} {c n lo hi:Int} (hh:hasL L c=false) (h:n=0):lim L c n lo hi=true:=by
 unfold lim
 rw [if_neg (by rw [hh];simp),h];rfl
theorem lim_if {L:ByteArray} {c lo hi:Int} {n:Int} (h1:lo≤n) (h2:n≤hi):lim L c (if hasL L c then n else 0) lo hi=true:=by
 cases hh:hasL L c with
 | true=>rw [if_pos rfl];exact lim_yes hh h1 h2
 | false=>rw [if_neg (by simp)];exact lim_zero hh rfl
theorem lim_ifw {L:ByteArray} {c lo hi:Int} {n:Int} (h0:0≤n) (h9:n≤9) (h1:lo≤n) (h2:n≤hi):lim L c (IntKind.u64.wrap (if hasL L c then n else 0)) lo hi=true:=by
 cases hh:hasL L c with
 | true=>rw [if_pos rfl,u64_id h0 (by omega)];exact lim_yes hh h1 h2
 | false=>rw [if_neg (by simp)];exact lim_zero hh rfl
theorem lim_ifs {L:ByteArray} {c:Int} {x:ByteArray} (h:x.size≤64):lim L c (IntKind.u64.wrap (((if hasL L c then x else ⟨#[]⟩:ByteArray).size:Nat):Int)) 0 64=true:=by
 cases hh:hasL L c with
 | true=>rw [if_pos rfl,u64_id (by omega) (by omega)];exact lim_yes hh (by omega) (by omega)
 | false=>rw [if_neg (by simp)];exact lim_zero hh rfl
theorem mk_right (e:En) (hd:e.data.size≤140737488351232) (ho:e.old.size≤140737488351232):rightB (mk e)=true:=by
 have r0:=Int.emod_nonneg e.kind (show (12:Int)≠0 by omega)
 have r1:=Int.emod_lt_of_pos e.kind (show (0:Int)<12 by omega)
 have k1:=cut64_size e.data hd
 have k2:=cut64_size e.old ho
 have hfb:fb (e.kind % 12)=true:=decide_eq_true (by omega)
 have w1:∀ (n m:Int),0<m→m≤7→1≤IntKind.u64.wrap n % m+1∧IntKind.u64.wrap n % m+1≤m:=fun n m h h'=>by
  have h1:=Int.emod_nonneg (IntKind.u64.wrap n) (show m≠0 by omega)
  have h2:=Int.emod_lt_of_pos (IntKind.u64.wrap n) h
  omega
 have wn:=w1 e.node 7 (by omega) (by omega)
 have wl:=w1 e.level 2 (by omega) (by omega)
 have nt:1≤e.term % 1000+1:=by have:=Int.emod_nonneg e.term (show (1000:Int)≠0 by omega);omega
 have ni:1≤e.index % 1000+1:=by have:=Int.emod_nonneg e.index (show (1000:Int)≠0 by omega);omega
 have c1:=Int.emod_nonneg e.client (show (5:Int)≠0 by omega)
 have c2:=Int.emod_lt_of_pos e.client (show (0:Int)<5 by omega)
 have q1:=Int.emod_nonneg e.seq (show (9:Int)≠0 by omega)
 have q2:=Int.emod_lt_of_pos e.seq (show (0:Int)<9 by omega)
 have b1:=Int.emod_nonneg e.block (show (9:Int)≠0 by omega)
 have b2:=Int.emod_lt_of_pos e.block (show (0:Int)<9 by omega)
 have m1:=Int.emod_nonneg e.many (show (9:Int)≠0 by omega)
 have m2:=Int.emod_lt_of_pos e.many (show (0:Int)<9 by omega)
 unfold rightB asks
 rw [List.all_eq_true]
 intro x hx
 simp only [List.mem_cons,List.not_mem_nil,or_false] at hx
 rcases hx with rfl|rfl|rfl|rfl|rfl|rfl|rfl|rfl|rfl|rfl|rfl
 ·exact hfb
 ·exact decide_eq_true nt
 ·exact decide_eq_true ni
 ·exact lim_if (L:=fl (e.kind % 12)) (c:=99) (n:=e.client % 5+1) (by omega) (by omega)
 ·exact lim_if (L:=fl (e.kind % 12)) (c:=99) (n:=e.seq % 9) (by omega) (by omega)
 ·exact lim_if (L:=fl (e.kind % 12)) (c:=98) (n:=e.block % 9) (by omega) (by omega)
 ·exact lim_if (L:=fl (e.kind % 12)) (c:=109) (n:=e.many % 9) (by omega) (by omega)
 ·exact lim_ifw (L:=fl (e.kind % 12)) (c:=110) (n:=IntKind.u64.wrap e.node % 7+1) (by omega) (by omega) wn.1 wn.2
 ·exact lim_ifw (L:=fl (e.kind % 12)) (c:=108) (n:=IntKind.u64.wrap e.level % 2+1) (by omega) (by omega) wl.1 wl.2
 ·exact lim_ifs (L:=fl (e.kind % 12)) (c:=100) (x:=cut64 e.data) k1
 ·exact lim_ifs (L:=fl (e.kind % 12)) (c:=111) (x:=cut64 e.old) k2
theorem ite_bound {p:Prop} [Decidable p] {a:Int} (h:0≤a∧a≤9):0≤(if p then a else 0)∧(if p then a else 0)≤9:=by
 split
 ·exact h
 ·omega
theorem mk_facts (e:En) (ok:e.Ok):(mk e).Ok∧rightB (mk e)=true∧(mk e).data.size≤64∧(mk e).old.size≤64∧0≤(mk e).node∧(mk e).node≤9:=by
 have r0:=Int.emod_nonneg e.kind (show (12:Int)≠0 by omega)
 have r1:=Int.emod_lt_of_pos e.kind (show (0:Int)<12 by omega)
 have k1:=cut64_size e.data ok.d1
 have k2:=cut64_size e.old ok.o1
 have w1:∀ (n m:Int),0<m→0≤IntKind.u64.wrap n % m∧IntKind.u64.wrap n % m<m:=fun n m h=>⟨Int.emod_nonneg _ (by omega),Int.emod_lt_of_pos _ h⟩
 have wn:=w1 e.node 7 (by omega)
 have wl:=w1 e.level 2 (by omega)
 have g1:=Int.emod_nonneg e.term (show (1000:Int)≠0 by omega)
 have g2:=Int.emod_lt_of_pos e.term (show (0:Int)<1000 by omega)
 have g3:=Int.emod_nonneg e.index (show (1000:Int)≠0 by omega)
 have g4:=Int.emod_lt_of_pos e.index (show (0:Int)<1000 by omega)
 have c1:=Int.emod_nonneg e.client (show (5:Int)≠0 by omega)
 have c2:=Int.emod_lt_of_pos e.client (show (0:Int)<5 by omega)
 have q1:=Int.emod_nonneg e.seq (show (9:Int)≠0 by omega)
 have q2:=Int.emod_lt_of_pos e.seq (show (0:Int)<9 by omega)
 have b1:=Int.emod_nonneg e.block (show (9:Int)≠0 by omega)
 have b2:=Int.emod_lt_of_pos e.block (show (0:Int)<9 by omega)
 have m1:=Int.emod_nonneg e.many (show (9:Int)≠0 by omega)
 have m2:=Int.emod_lt_of_pos e.many (show (0:Int)<9 by omega)
 have hdat:(mk e).data.size≤64:=by show ((if _ then cut64 e.data else ⟨#[]⟩:ByteArray)).size≤64;split;exact k1;decide
 have hold:(mk e).old.size≤64:=by show ((if _ then cut64 e.old else ⟨#[]⟩:ByteArray)).size≤64;split;exact k2;decide
 have hn2:0≤IntKind.u64.wrap e.node % 7+1∧IntKind.u64.wrap e.node % 7+1≤9:=by omega
 have hl2:0≤IntKind.u64.wrap e.level % 2+1∧IntKind.u64.wrap e.level % 2+1≤9:=by omega
 have hn:0≤(mk e).node∧(mk e).node≤9:=ite_bound hn2
 have hl:0≤(mk e).level∧(mk e).level≤9:=ite_bound hl2
 refine ⟨?_,mk_right e ok.d1 ok.o1,hdat,hold,hn.1,hn.2⟩
 constructor
 all_goals first
  | exact Int.le_trans (by omega) hn.1
  | exact Int.le_trans hn.2 (by omega)
  | exact Int.le_trans (by omega) hl.1
  | exact Int.le_trans hl.2 (by omega)
  | exact Nat.le_trans hdat (by omega)
  | exact Nat.le_trans hold (by omega)
  | (unfold mk part;dsimp only;omega)
  | (unfold mk part;dsimp only;split<;>omega)
structure Mades (B:Nat) (A:Option Addr) (n:Nat) (L:List (En×Bool)) (w:World):Prop where
 len:L.length=n
 at_:∀ i p,L[i]?=some p→∃ a,A=some a∧a.block<B∧∀ j,j<12→w.cell? ((a.add (i*12)).add j)=(mdc p.1 p.2)[j]?
theorem Mades.below {B:Nat} {A:Option Addr} {n:Nat} {L:List (En×Bool)} {w w1:World} (h:Mades B A n L w) (hb:Below B w w1):Mades B A n L w1 :=
 ⟨h.len,fun i e he=>by
  obtain ⟨a,hA,hB,hc⟩:=h.at_ i e he
  exact ⟨a,hA,hB,fun j hj=>(hb.cell (by rw [blk_of_add,blk_of_add];exact hB)).trans (hc j hj)⟩⟩
def flat (es:List En):List Value:=es.flatMap fun e=>(ec e).toList
theorem flat_snoc (es:List En) (e:En):flat (es++[e])=flat es++(ec e).toList:=by
 unfold flat
 rw [List.flatMap_append]
 simp
theorem flat_length (es:List En):(flat es).length=es.length*11:=by
 induction es with
 | nil=>rfl
 | cons e es ih =>
   show ((ec e).toList++flat es).length=_
   rw [List.length_append,ih]
   show 11+es.length*11=(es.length+1)*11
   omega
theorem flat_get (es:List En) (i:Nat) (e:En) (h:es[i]?=some e) (j:Nat) (hj:j<11):(flat es)[i*11+j]?=(ec e)[j]?:=by
 induction es generalizing i with
 | nil=>cases h
 | cons a es ih =>
   have e1:flat (a :: es)=(ec a).toList++flat es:=rfl
   rw [e1]
   cases i with
   | zero =>
     have:a=e:=Option.some.inj h
     subst this
     rw [List.getElem?_append_left (by show 0*11+j<11;omega),Nat.zero_mul,Nat.zero_add]
     rw [Array.getElem?_toList]
   | succ i =>
     have hl:(ec a).toList.length=11:=rfl
     rw [List.getElem?_append_right (by rw [hl];omega),hl,show (i+1)*11+j-11=i*11+j by omega]
     exact ih i h
theorem own_of_heap {w w':World} {B e s n:Nat} {v:Value} {xs:List Value} (h:w.ownsRow B e s v n xs) (he:∀ k,v.ownBlock=some k→w'.heap[k]?=w.heap[k]?):w'.ownsRow B e s v n xs:=by
 obtain ⟨hl,h⟩:=h
 refine ⟨hl,?_⟩
 rcases h with h|⟨gb,c,cur,rfl,hb,hh,r⟩
 ·exact .inl h
 ·exact .inr ⟨gb,c,cur,rfl,hb,(he gb (by simp [Value.ownBlock])).trans hh,r⟩
theorem ents_of_own {w:World} {B:Nat} {A:Option Addr} {n c:Nat} {es:List En} (h:w.ownsRow B 28 11 (.slice A n c) n (flat es)) (hl:es.length=n):Ents w.heap.size A n es w:=by
 refine ⟨hl,fun i e he=>?_⟩
 have hi:i<n:=by
  rw [←hl]
  exact (List.getElem?_eq_some_iff.1 he).1
 obtain ⟨g,cap,hv,hb,hg⟩:=h.form (by omega)
 have hA:A=some ⟨g,0,none⟩∧c=cap:=by
  simp at hv
  exact hv
 obtain ⟨rfl,rfl⟩:=hA
 refine ⟨_,rfl,hg,fun j hj=>?_⟩
 have h1:=h.cellAt (i*11+j) (by omega)
 rw [flat_get es i e he j hj] at h1
 rw [←h1,Addr.add_mid,Addr.add_mid,Nat.zero_add]
end Go.Proofs.YtnobeoppffoomaaGreat
namespace Go.Proofs.YtnobeoppffoomaaGreat
open Go.RowKit
open Dk
def knB (v:Int):Bool:=decide (v=1∨v=2)
def zz (n:Nat):ByteArray:=txt (zeros n)
theorem zz_size (n:Nat):(zz n).size=n:=by unfold zz;rw [txt_size];unfold zeros;simp
theorem repeat_zero (n:Nat):Lib.repeatL [(0:UInt8)] n=zeros n:=by
 induction n with
 | zero=>rfl
 | succ n ih=>show 0 :: Lib.repeatL [(0:UInt8)] n=_;rw [ih];rfl
theorem known_any (v:Int) (w:World):Calls Tryz.prog 35 #[.int .i64 v] w fun q w'=>q=.returned (.bool (knB v))∧w=w':=by
 by_cases h1:v=1
 ·subst h1
  go_enter Tryz.func35,Tryz.ntmps35
  go_wp2
  go_ret
  exact ⟨rfl,rfl⟩
 ·have e1:=beqF h1
  have hk:Hid (knB v=(v==2)):=by show _=_;unfold knB;by_cases h:v=2<;>simp [h1,h]
  clear h1
  go_enter Tryz.func35,Tryz.ntmps35
  go_wp2
  go_ret
  exact ⟨by rw [hk.out];rfl,rfl⟩
theorem sectors_any (n:Nat) (w:World) (hn:n≤4611686018427387904):Calls Tryz.prog 82 #[.int .i64 n] w fun q w'=>q=.returned (.int .i64 (((n+63) / 64:Nat):Int))∧w=w':=by
 go_enter Tryz.func82,Tryz.ntmps82
 go_wp2
 go_ret
 exact ⟨by show Ending.returned (.int .i64 (((n:Int)+64-1) / 64))=_;congr 2;omega,rfl⟩
theorem up_any (n:Nat) (w:World) (hn:n≤4611686018427387904):Calls Tryz.prog 43 #[.int .i64 n] w fun q w'=>q=.returned (.int .i64 (((n+63) / 64*64:Nat):Int))∧w=w':=by
 go_enter Tryz.func43,Tryz.ntmps43
 go_wp2
 go_ret
 exact ⟨by show Ending.returned (.int .i64 (((n:Int)+64-1) / 64*64))=_;congr 2;omega,rfl⟩
theorem repeat_zz (n:Nat):(⟨(Lib.repeatL (⟨#[0]⟩:ByteArray).data.toList n).toArray⟩:ByteArray)=zz n:=by
 show (⟨(Lib.repeatL [0] n).toArray⟩:ByteArray)=_
 rw [repeat_zero];rfl
theorem wzeros_any (n:Nat) (w:World) (hn:n≤140737488355328):Calls Tryz.prog 38 #[.int .i64 n] w fun q w'=>q=.returned (.string (zz n))∧Below w.heap.size w w':=by
 have h:=Tryz.strings_Repeat ⟨#[0]⟩ n w (by omega) (by show 1*n≤_;omega)
 rw [repeat_zz] at h
 have H:=zh h
 clear h
 go_enter Tryz.func38,Tryz.ntmps38
 go_wp2_with (go_at_call 81;(with_reducible refine H.out.mono ?_);rintro q w' ⟨rfl,hb⟩)
 go_ret
 exact ⟨rfl,hb⟩
def bgn (v:Int) (n:Nat):Nat:=if v=1 then (n+63) / 64*64 else n
theorem bgn_le (v:Int) (n:Nat):n≤bgn v n:=by unfold bgn;split<;>omega
theorem bgn_lt (v:Int) (n:Nat):bgn v n≤n+63:=by unfold bgn;split<;>omega
theorem begin_any (v:Int) (n:Nat) (w:World) (hn:n≤4611686018427387904):Calls Tryz.prog 39 #[.int .i64 v,.int .i64 n] w fun q w'=>q=.returned (.int .i64 (bgn v n))∧w=w':=by
 by_cases h1:v=1
 ·subst h1
  have hb:Hid (bgn 1 n=(n+63) / 64*64):=rfl
  have hs:=zh (sectors_any n)
  go_enter Tryz.func39,Tryz.ntmps39
  go_wp2_with (go_at_call 82;(with_reducible refine (hs.out _ hn).mono ?_);rintro q w' ⟨rfl,rfl⟩)
  go_ret
  exact ⟨by rw [hb.out];rfl,rfl⟩
 ·have e1:=beqF h1
  have hb:Hid (bgn v n=n):=if_neg h1
  clear h1
  go_enter Tryz.func39,Tryz.ntmps39
  go_wp2
  go_ret
  exact ⟨by rw [hb.out];rfl,rfl⟩
end Go.Proofs.YtnobeoppffoomaaGreat
