/-
  WalPlays: SVx SW SW2.
  Conditions: named in each theorem.
-/
import Derived.Test.YtnobeoppffoomaaGreatP07
import Derived.Lib.OthersKept
import Derived.Lib.Builder
import Derived.Lib.AppendStr
import Derived.Lib.UnsafeStr
import Derived.Laws.Externs
import Derived.Shelf.RegionOpenPlain
import Derived.Test.YtnobeoppffoomaaGreatP0
set_option linter.unusedVariables false
set_option linter.unusedSimpArgs false
set_option maxHeartbeats 8000000
set_option maxRecDepth 100000
namespace Go.Proofs.YtnobeoppffoomaaGreat
open Go.RowKit
theorem text_any (s:ByteArray) (w:World) (hs:s.size≤140737488355328) :
 Calls Tryz.prog 182 #[.string s] w fun e w'=>e=.returned (.string (Vi.putB s.size++s))∧Below w.heap.size w w':=by
 have hp:=putB_size s.size (by omega)
 go_enter Tryz.func182,Tryz.ntmps182
 go_wp2_with fail
 refine (put_any s.size w (by omega)).mono ?_
 rintro e w1 ⟨rfl,hb⟩
 go_wp2
 go_ret
 exact ⟨rfl,hb⟩
theorem rtext_any (s:ByteArray) (w:World) (hs:s.size≤140737488355328) :
 Calls Tryz.prog 154 #[.string s] w fun e w'=>e=.returned (.string (Vi.putB s.size++s))∧Below w.heap.size w w':=by
 have hp:=putB_size s.size (by omega)
 go_enter Tryz.func154,Tryz.ntmps154
 go_wp2_with fail
 refine (rput_any s.size w (by omega)).mono ?_
 rintro e w1 ⟨rfl,hb⟩
 go_wp2
 go_ret
 exact ⟨rfl,hb⟩
namespace Vi
def texV (s:ByteArray):ByteArray:=bytV (varT s) (varV s)
def texT (s:ByteArray):ByteArray:=bytT (varT s) (varV s)
def texO (s:ByteArray):Bool:=varO s&&hasB (varT s) (varV s)
end Vi
theorem textr_any (g:Nat) (s:ByteArray) (bad:Bool) (w:World) (h:Rd 225 g s bad w) (hm:s.size≤281474976710656) :
 Calls Tryz.prog 203 #[rdp g] w fun e w'=>e=.returned (.string (Vi.texV s))∧Rd 225 g (Vi.texT s) (bad||!Vi.texO s) w'∧w.grownBy w' (some g):=by
 have hmf:∀ (fn:Fn) (first cap:Array Value) (w:World),(Instr.makeFunc fn first cap).run Tryz.prog w=.ok (.func fn first cap) w:=fun _ _ _ _=>rfl
 have hV:=zh (var_any g s bad w h hm)
 have hvl:=Vi.varV_lt s
 have hts:=Vi.varT_size s
 unfold Vi.texV Vi.texT Vi.texO
 generalize Vi.varV s=n at *
 generalize Vi.varT s=t at *
 have hw:Hid (IntKind.u64.wrap (t.size:Int)=(t.size:Int)):=IntWalk.u64_in _ (by omega)
 have HVL:=zh hvl
 clear hvl
 by_cases hn:n≤t.size
 ·have HN:Hid (IntKind.i64.wrap (n:Int)=(n:Int)):=IntWalk.i64_in _ (by omega)
  unfold rdp at *
  go_enter Tryz.func203,Tryz.ntmps203
  go_wp2_with fail
  refine hV.out.mono ?_
  rintro e w1 ⟨rfl,h1,h2⟩
  clear hV
  go_wp2_with fail
  refine (left_any g t _ w1 h1).mono ?_
  rintro e w2 ⟨rfl,rfl⟩
  go_wp2_with fail
  refine (bytes_any g t _ n w1 h1 (by omega)).mono ?_
  rintro e w2 ⟨rfl,h3,h4⟩
  go_wp2
  go_ret
  rw [bools3] at h3
  exact ⟨rfl,h3,h2.trans h4⟩
 ·have hh:Vi.hasB t n=false:=decide_eq_false (by omega)
  have e1:Vi.bytV t n=⟨#[]⟩:=by unfold Vi.bytV;rw [hh,if_neg (by decide)]
  have e2:Vi.bytT t n=⟨#[]⟩:=by unfold Vi.bytT;rw [hh,if_neg (by decide)]
  rw [e1,e2,hh,Bool.and_false,Bool.not_false,Bool.or_true]
  clear e1 e2 hh
  unfold rdp at *
  go_enter Tryz.func203,Tryz.ntmps203
  go_wp2_with fail
  refine hV.out.mono ?_
  rintro e w1 ⟨rfl,h1,h2⟩
  clear hV
  go_wp2_with fail
  refine (left_any g t _ w1 h1).mono ?_
  rintro e w2 ⟨rfl,rfl⟩
  go_wp2_with fail
  refine (fail_any g t _ w1 h1).mono ?_
  rintro e w2 ⟨rfl,h3,h4⟩
  go_wp2
  go_ret
  exact ⟨rfl,h3,h2.trans h4⟩
theorem Vi.sane_tex (s:ByteArray) (bad:Bool) (h:Vi.Sane s bad):Vi.Sane (Vi.texT s) (bad||!Vi.texO s):=by
 have:=Vi.sane_byt _ _ (Vi.varV s) (Vi.sane_var s bad h)
 rw [bools3] at this
 exact this
theorem rtextr_any (g:Nat) (s:ByteArray) (bad:Bool) (w:World) (h:Rd 145 g s bad w) (hs:Vi.Sane s bad) (hm:s.size≤281474976710656) :
 Calls Tryz.prog 166 #[rdp g] w fun e w'=>e=.returned (.string (Vi.texV s))∧Rd 145 g (Vi.texT s) (bad||!Vi.texO s) w'∧w.grownBy w' (some g):=by
 have hV:=zh (rvar_any g s bad w h hm)
 have HSane:=zh (Vi.sane_var s bad hs)
 have hvl:=Vi.varV_lt s
 have hts:=Vi.varT_size s
 unfold Vi.texV Vi.texT Vi.texO
 generalize Vi.varV s=n at *
 generalize Vi.varT s=t at *
 have hw:Hid (IntKind.u64.wrap (t.size:Int)=(t.size:Int)):=IntWalk.u64_in _ (by omega)
 have HVL:=zh hvl
 clear hvl
 by_cases hn:n≤t.size
 ·have HN:Hid (IntKind.i64.wrap (n:Int)=(n:Int)):=IntWalk.i64_in _ (by omega)
  unfold rdp at *
  go_enter Tryz.func166,Tryz.ntmps166
  go_wp2_with fail
  refine hV.out.mono ?_
  rintro e w1 ⟨rfl,h1,h2⟩
  clear hV
  have c1:=h1.cell0
  go_wp2_with fail
  refine (rbytes_any g t _ n w1 h1 HSane.out (by omega)).mono ?_
  rintro e w2 ⟨rfl,h3,h4⟩
  go_wp2
  go_ret
  rw [bools3] at h3
  exact ⟨rfl,h3,h2.trans h4⟩
 ·have hh:Vi.hasB t n=false:=decide_eq_false (by omega)
  have e1:Vi.bytV t n=⟨#[]⟩:=by unfold Vi.bytV;rw [hh,if_neg (by decide)]
  have e2:Vi.bytT t n=⟨#[]⟩:=by unfold Vi.bytT;rw [hh,if_neg (by decide)]
  rw [e1,e2,hh,Bool.and_false,Bool.not_false,Bool.or_true]
  clear e1 e2 hh
  unfold rdp at *
  go_enter Tryz.func166,Tryz.ntmps166
  go_wp2_with fail
  refine hV.out.mono ?_
  rintro e w1 ⟨rfl,h1,h2⟩
  clear hV
  have c1:=h1.cell0
  go_wp2_with fail
  refine (rfail_any g t _ w1 h1).mono ?_
  rintro e w2 ⟨rfl,h3,h4⟩
  go_wp2
  go_ret
  exact ⟨rfl,h3,h2.trans h4⟩
end Go.Proofs.YtnobeoppffoomaaGreat
namespace Go.Proofs.YtnobeoppffoomaaGreat
open Go.RowKit
theorem wsize64_b:(Tryz.prog.info? 81).map (·.size)=some 2:=by kernel_rfl
theorem wlies_b:liesAt Tryz.prog Tryz.prog.depth 81 (2 / Tryz.prog.cellsOf 81) 0 81 1=true:=by kernel_rfl
theorem wcells5_b:Tryz.prog.cellsOf 5=1:=by kernel_rfl
theorem wcheck_used_b (b:Nat) (w:World) (h0:w.cell? ⟨b,0,none⟩=some (.pointer (some ⟨b,0,none⟩))) :
 Calls Tryz.prog 80 #[.pointer (some ⟨b,0,none⟩)] w fun e w'=>e=.returned (.tuple #[])∧w'=w:=by
 obtain ⟨j,hj,_⟩:=Option.map_eq_some_iff.1 wsize64_b
 go_enter Tryz.func80,Tryz.ntmps80
 go_wp2
 rw [Lib.run_neq_ptr_same w _ Tryz.underlying79 hj]
 go_wp2
 go_end0
 exact ⟨rfl,rfl⟩
theorem wcheck_fresh_b (b:Nat) (w:World) (h0:w.cell? ⟨b,0,none⟩=some (.pointer none)) (hsh:w.shape? b=some (81,2)) (hfz:w.frozen? ⟨b,0,none⟩=false) :
 Calls Tryz.prog 80 #[.pointer (some ⟨b,0,none⟩)] w fun e w'=>e=.returned (.tuple #[])∧w'=w.setCell ⟨b,0,none⟩ (.pointer (some ⟨b,0,none⟩)):=by
 obtain ⟨j,hj,hjs⟩:=Option.map_eq_some_iff.1 wsize64_b
 go_enter Tryz.func80,Tryz.ntmps80
 go_wp2
 rw [Lib.run_to_unsafe w ⟨b,0,none⟩ Tryz.underlying79 Tryz.underlying163 hj (by rw [hjs];decide) hsh (Nat.zero_lt_succ 1)]
 simp only [Result.andThen]
 rw [Oper.upon_value]
 go_wp2
 rw [run_callFunc_extern Tryz.func109 (by kernel_rfl) (by kernel_rfl) (by kernel_rfl) (e:=Extern.AbiNoEscape.same) (by kernel_rfl)]
 rw [Lib.run_noEscape]
 simp only [Result.andThen]
 rw [Oper.upon_value]
 go_wp2
 rw [Lib.run_from_unsafe w ⟨b,0,none⟩ Tryz.underlying163 Tryz.underlying79 hj hsh wlies_b]
 simp only [Result.andThen]
 rw [Oper.upon_value]
 go_wp2
 go_end0
 exact ⟨rfl,rfl⟩
theorem wcheck_b (B b:Nat) (bs:List Value) (w:World) (h:Lib.IsBuilder 81 5 B b bs w) :
 Calls Tryz.prog 80 #[.pointer (some ⟨b,0,none⟩)] w fun e w'=>e=.returned (.tuple #[])∧Lib.BuilderAt 81 5 B b (.pointer (some ⟨b,0,none⟩)) bs w'∧Below B w w'∧Lib.OthersKept 5 (some b) w w':=by
 rcases h with h|h
 ·refine (wcheck_fresh_b b w h.cell0 h.shape h.frozen0).mono ?_
  rintro e w' ⟨rfl,rfl⟩
  exact ⟨rfl,h.used _,(Below.refl B w).setCell (p:=⟨b,0,none⟩) h.1 _,(Lib.OthersKept.refl _ _ w).setCell ⟨b,0,none⟩ rfl _⟩
 ·refine (wcheck_used_b b w h.cell0).mono ?_
  rintro e w' ⟨rfl,rfl⟩
  exact ⟨rfl,h,Below.refl B _,Lib.OthersKept.refl _ _ _⟩
def Wt_b (B b:Nat) (x:ByteArray) (w:World):Prop:=Lib.IsBuilder 81 5 B b (Lib.strCells x) w
theorem strCells_app_b (x s:ByteArray):Lib.strCells x++Lib.strCells s=Lib.strCells (x++s):=by
 unfold Lib.strCells
 simp
theorem wwrite_b (B b:Nat) (x s:ByteArray) (w:World) (h:Wt_b B b x w) (hlen:x.size+s.size≤140737488355328) (hBw:B≤w.heap.size) :
 Calls Tryz.prog 37 #[.pointer (some ⟨b,0,none⟩),.string s] w fun e w'=>e=.returned (.tuple #[.int .i64 s.size,.nilIface])∧Wt_b B b (x++s) w'∧Below B w w'∧Lib.OthersKept 5 (some b) w w':=by
 obtain ⟨i0,hi,hz0,hz1,hz2⟩:=info_parts Tryz.info5
 have hck:=zh (wcheck_b B b _ w h)
 clear h
 have hlx:=Lib.strCells_length x
 go_enter Tryz.func37,Tryz.ntmps37
 go_wp2_with (go_at_call 80;refine hck.out.mono ?_)
 rintro e w1 ⟨rfl,h1,hb1,ho1⟩
 obtain ⟨hB,v,hbk,hown,hne⟩:=h1
 have c0:w1.cell? ⟨b,0,none⟩=some (.pointer (some ⟨b,0,none⟩)):=by rw [Lib.cell_of_heap hbk];rfl
 have c1:w1.cell? ⟨b,1,none⟩=some v:=by rw [Lib.cell_of_heap hbk];rfl
 go_wp2_with (at_builtin;refine Lib.wpList_append_own_string _ rfl _ _ 68 9 rfl B 5 i0 Tryz.underlying68 Tryz.underlying9 hi hz0 hz1 hz2 _ _ _ rfl hown s rfl ?c3 ?c4 ?c5 ?_)
 case c3=>unfold maxLen;omega
 case c4=>omega
 case c5=>have:=hb1.size;omega
 intro v' w2 hown' hgrow _
 have hlt:b<w1.heap.size:=(zgx hbk)
 have hb2:w2.heap[b]?=some (.cells #[.pointer (some ⟨b,0,none⟩),v] 81 (0,0)):=by
  rw [hgrow.block b hlt (fun e=>hne e.symm)]
  exact hbk
 have d0:w2.cell? ⟨b,0,none⟩=some (.pointer (some ⟨b,0,none⟩)):=by rw [Lib.cell_of_heap hb2];rfl
 have d1:w2.cell? ⟨b,1,none⟩=some v:=by rw [Lib.cell_of_heap hb2];rfl
 have f1:w2.frozen? ⟨b,1,none⟩=false:=Lib.frozen_of_heap hb2 1
 obtain ⟨ao,n',cap,rfl⟩:∃ ao n' cap,v'=.slice ao n' cap:=by
  rcases hown'.2 with ⟨hv,_⟩|⟨g,cap,cur,hv,_⟩
  ·exact ⟨_,_,_,hv⟩
  ·exact ⟨_,_,_,hv⟩
 go_wp2
 go_ret2
 refine ⟨rfl,?_,?_,?_⟩
 ·refine .inr ?_
  rw [←strCells_app_b]
  exact Lib.BuilderAt.put (T:=81) (e:=5) hB hb2 (bs':=Lib.strCells x++Lib.strCells s) (by simpa [Lib.strCells_length] using hown') (by decide)
 ·exact (hb1.grown hgrow (by have:=hb1.size;omega) (fun k hk=>(hown.lt k hk).1)).setCell (p:=⟨b,1,none⟩) hB _
 ·refine (ho1.trans ?_:Lib.OthersKept 5 (some b) w w2).setCell ⟨b,1,none⟩ rfl _
  refine (Lib.OthersKept.refl 5 (some b) w1).grown hgrow fun g hg=>?_
  rcases hown.2 with ⟨hv,_⟩|⟨g',cap',cur,hv,_,hg',_⟩
  ·rw [hv] at hg;simp [Value.ownBlock] at hg
  ·rw [hv] at hg
   simp only [Value.ownBlock,Option.some.injEq] at hg
   subst hg
   exact ⟨cur,_,hg'⟩
end Go.Proofs.YtnobeoppffoomaaGreat
namespace Go.Proofs.YtnobeoppffoomaaGreat
open Go.RowKit
theorem strCells_bytes_b (x:ByteArray):Lib.strCells x=Lib.byteCells x.data.toList:=by
 unfold Lib.strCells Lib.byteCells
 simp
theorem wstring_b (B b:Nat) (x:ByteArray) (w:World) (h:Wt_b B b x w) (hx:0<x.size) :
 Calls Tryz.prog 41 #[.pointer (some ⟨b,0,none⟩)] w fun e w'=>e=.returned (.string x)∧Below B w w':=by
 obtain ⟨p,hB,v,hbk,hown,hne⟩:∃ p,Lib.BuilderAt 81 5 B b p (Lib.byteCells x.data.toList) w:=by
  unfold Wt_b at h
  rw [strCells_bytes_b] at h
  rcases h with h|h
  ·exact ⟨_,h⟩
  ·exact ⟨_,h⟩
 obtain ⟨l,hl⟩:∃ l,l=x.data.toList:=⟨_,rfl⟩
 have hxe:x=⟨l.toArray⟩:=by rw [hl]
 have hl0:l.length≠0:=by rw [hl];simp;intro e;rw [e] at hx;exact absurd hx (by decide)
 have hne0:l≠[]:=fun e=>hl0 (by rw [e];rfl)
 rw [←hl] at hown
 rw [hxe]
 clear hxe hl hx h
 rw [Lib.byteCells_length] at hown
 obtain ⟨g,cap,cur,rfl,hbg,hg,hnc,hcm,hcs,htake⟩:∃ g cap cur,v=.slice (some ⟨g,0,none⟩) l.length cap∧B≤g∧w.heap[g]?=some (.cells cur 5 (0,0))∧l.length≤cap∧cap≤maxLen∧cur.size=cap*1∧cur.toList.take (l.length*1)=Lib.byteCells l:=by
  rcases hown.2 with ⟨_,hz⟩|⟨g,cap,cur,hv,r⟩
  ·exact absurd hz hl0
  ·exact ⟨g,cap,cur,hv,r⟩
 have c1:w.drew.cell? ⟨b,1,none⟩=some (.slice (some ⟨g,0,none⟩) l.length cap):=by
  have:w.drew.heap[b]?=some (.cells #[p,.slice (some ⟨g,0,none⟩) l.length cap] 81 (0,0)):=hbk
  rw [Lib.cell_of_heap this];rfl
 have hSD:(Builtin.unsafeSliceData_ #[68] 136 #[.slice (some ⟨g,0,none⟩) l.length cap]).run Tryz.prog w.drew=.ok (.pointer (some ⟨g,0,none⟩)) w.drew :=
  Lib.run_unsafeSliceData_row _ _ _ _ _ _ (by omega)
 have hUS:(Builtin.unsafeString_ #[136,3] 9 #[.pointer (some ⟨g,0,none⟩),.int .i64 l.length]).run Tryz.prog w.drew=.ok (.string ⟨l.toArray⟩) (w.drew.freeze ⟨g,0,none⟩ l.length):=by
  refine Lib.run_unsafeString_row w.drew 136 3 9 5 Tryz.underlying136 wcells5_b g cur.size (by have hg':w.drew.heap[g]?=some (.cells cur 5 (0,0)):=hg;simp [World.shape?,hg']) l hne0 (by omega) (by unfold maxLen at hcm;omega) ?_
  intro j x hx
  have:=hown.cells (g:=g) rfl j (.int .u8 x.toNat) (by simp [Lib.byteCells,hx])
  exact this
 have mixed:Tryz.prog.follows Departure.mixedOrders=true:=by kernel_rfl
 go_enter Tryz.func41,Tryz.ntmps41
 go_wp2
 go_region_o
 all_goals (go_wp2;go_ret;exact ⟨rfl,Lib.below_freeze (Below.drew (Below.refl B w)) (p:=⟨g,0,none⟩) hbg _⟩)
theorem Wt_b.below {B b:Nat} {x:ByteArray} {w w1:World} (h:Wt_b B b x w) (hb:Below w.heap.size w w1):Wt_b B b x w1:=by
 have key:∀ p,Lib.BuilderAt 81 5 B b p (Lib.strCells x) w→Lib.BuilderAt 81 5 B b p (Lib.strCells x) w1:=by
  rintro p ⟨hB,v,hbk,hown,hne⟩
  refine ⟨hB,v,(hb.block b (zgx hbk)).trans hbk,?_,hne⟩
  exact hown.kept (row:=none) ⟨hb.os,hb.tape,hb.output,hb.size,fun k hk _=>hb.block k hk⟩ (by
   cases hv:v.ownBlock with
   | none=>exact .inl rfl
   | some k=>exact .inr (by simp))
 rcases h with h|h
 ·exact .inl (key _ h)
 ·exact .inr (key _ h)
end Go.Proofs.YtnobeoppffoomaaGreat
