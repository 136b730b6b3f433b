/-
  FrameCodes: part G07.
  Conditions: named in each theorem.
-/
import Derived.Lib.OthersKept
import Derived.Lib.Builder
import Derived.Lib.AppendStr
import Derived.Lib.UnsafeStr
import Derived.Laws.Externs
import Derived.Shelf.RegionOpenPlain
import Derived.Test.YtpdbeijfchmlgaaGreatZ0
import Derived.Test.YtpdbeijfchmlgaaGreatG02
set_option linter.unusedVariables false
set_option linter.unusedSimpArgs false
set_option maxHeartbeats 16000000
set_option maxRecDepth 100000
namespace Go.Proofs.YtpdbeijfchmlgaaGreat
open Go.RowKit
theorem text_any (s:ByteArray) (w:World) (hs:s.size≤140737488355328) :
 Calls Tryz.prog 175 #[.string s] w fun e w'=>e=.returned (.string (Vi.putB s.size++s))∧Below w.heap.size w w':=by
 have hp:=putB_size s.size (by omega)
 go_enter Tryz.func175,Tryz.ntmps175
 go_wp2_with fail
 refine (put_any s.size w (by omega)).mono ?_;rintro e w1 ⟨rfl,hb⟩;go_wp2;go_ret;exact ⟨rfl,hb⟩
theorem rtext_any (s:ByteArray) (w:World) (hs:s.size≤140737488355328) :
 Calls Tryz.prog 128 #[.string s] w fun e w'=>e=.returned (.string (Vi.putB s.size++s))∧Below w.heap.size w w':=by
 have hp:=putB_size s.size (by omega)
 go_enter Tryz.func128,Tryz.ntmps128
 go_wp2_with fail
 refine (rput_any s.size w (by omega)).mono ?_;rintro e w1 ⟨rfl,hb⟩;go_wp2;go_ret;exact ⟨rfl,hb⟩
namespace Vi
def texV (s:ByteArray):ByteArray:=bytV (varT s) (varV s)
def texT (s:ByteArray):ByteArray:=bytT (varT s) (varV s)
def texO (s:ByteArray):Bool:=varO s&&hasB (varT s) (varV s)
end Vi
theorem textr_any (g:Nat) (s:ByteArray) (bad:Bool) (w:World) (h:Rd 178 g s bad w) (hm:s.size≤281474976710656) :
 Calls Tryz.prog 202 #[rdp g] w fun e w'=>e=.returned (.string (Vi.texV s))∧Rd 178 g (Vi.texT s) (bad||!Vi.texO s) w'∧w.grownBy w' (some g):=by
 have hmf:=zmL;have hV:=zh (var_any g s bad w h hm);have hvl:=Vi.varV_lt s;have hts:=Vi.varT_size s;unfold Vi.texV Vi.texT Vi.texO;generalize Vi.varV s=n at *;generalize Vi.varT s=t at *;have hw:Hid (IntKind.u64.wrap (t.size:Int)=(t.size:Int)):=IntWalk.u64_in _ (by omega);have HVL:=zh hvl;clear hvl
 by_cases hn:n≤t.size
 ·have HN:Hid (IntKind.i64.wrap (n:Int)=(n:Int)):=IntWalk.i64_in _ (by omega);unfold rdp at *
  go_enter Tryz.func202,Tryz.ntmps202
  go_wp2_with fail
  refine hV.out.mono ?_;rintro e w1 ⟨rfl,h1,h2⟩;clear hV
  go_wp2_with fail
  refine (left_any g t _ w1 h1).mono ?_;rintro e w2 ⟨rfl,rfl⟩
  go_wp2_with fail
  refine (bytes_any g t _ n w1 h1 (by omega)).mono ?_;rintro e w2 ⟨rfl,h3,h4⟩;go_wp2;go_ret;rw [bools3] at h3;exact ⟨rfl,h3,h2.trans h4⟩
 ·have hh:Vi.hasB t n=false:=decide_eq_false (by omega);have e1:Vi.bytV t n=⟨#[]⟩:=by unfold Vi.bytV;rw [hh,if_neg (by decide)]
  have e2:Vi.bytT t n=⟨#[]⟩:=by unfold Vi.bytT;rw [hh,if_neg (by decide)]
  rw [e1,e2,hh,Bool.and_false,Bool.not_false,Bool.or_true];clear e1 e2 hh;unfold rdp at *
  go_enter Tryz.func202,Tryz.ntmps202
  go_wp2_with fail
  refine hV.out.mono ?_;rintro e w1 ⟨rfl,h1,h2⟩;clear hV
  go_wp2_with fail
  refine (left_any g t _ w1 h1).mono ?_;rintro e w2 ⟨rfl,rfl⟩
  go_wp2_with fail
  refine (fail_any g t _ w1 h1).mono ?_;rintro e w2 ⟨rfl,h3,h4⟩;go_wp2;go_ret;exact ⟨rfl,h3,h2.trans h4⟩
theorem Vi.sane_tex (s:ByteArray) (bad:Bool) (h:Vi.Sane s bad):Vi.Sane (Vi.texT s) (bad||!Vi.texO s):=by
 have:=Vi.sane_byt _ _ (Vi.varV s) (Vi.sane_var s bad h)
 rw [bools3] at this;exact this
theorem rtextr_any (g:Nat) (s:ByteArray) (bad:Bool) (w:World) (h:Rd 72 g s bad w) (hs:Vi.Sane s bad) (hm:s.size≤281474976710656) :
 Calls Tryz.prog 156 #[rdp g] w fun e w'=>e=.returned (.string (Vi.texV s))∧Rd 72 g (Vi.texT s) (bad||!Vi.texO s) w'∧w.grownBy w' (some g):=by
 have hV:=zh (rvar_any g s bad w h hm);have HSane:=zh (Vi.sane_var s bad hs);have hvl:=Vi.varV_lt s;have hts:=Vi.varT_size s;unfold Vi.texV Vi.texT Vi.texO;generalize Vi.varV s=n at *;generalize Vi.varT s=t at *;have hw:Hid (IntKind.u64.wrap (t.size:Int)=(t.size:Int)):=IntWalk.u64_in _ (by omega);have HVL:=zh hvl;clear hvl
 by_cases hn:n≤t.size
 ·have HN:Hid (IntKind.i64.wrap (n:Int)=(n:Int)):=IntWalk.i64_in _ (by omega);unfold rdp at *
  go_enter Tryz.func156,Tryz.ntmps156
  go_wp2_with fail
  refine hV.out.mono ?_;rintro e w1 ⟨rfl,h1,h2⟩;clear hV;have c1:=h1.cell0
  go_wp2_with fail
  refine (rbytes_any g t _ n w1 h1 HSane.out (by omega)).mono ?_;rintro e w2 ⟨rfl,h3,h4⟩;go_wp2;go_ret;rw [bools3] at h3;exact ⟨rfl,h3,h2.trans h4⟩
 ·have hh:Vi.hasB t n=false:=decide_eq_false (by omega);have e1:Vi.bytV t n=⟨#[]⟩:=by unfold Vi.bytV;rw [hh,if_neg (by decide)]
  have e2:Vi.bytT t n=⟨#[]⟩:=by unfold Vi.bytT;rw [hh,if_neg (by decide)]
  rw [e1,e2,hh,Bool.and_false,Bool.not_false,Bool.or_true];clear e1 e2 hh;unfold rdp at *
  go_enter Tryz.func156,Tryz.ntmps156
  go_wp2_with fail
  refine hV.out.mono ?_;rintro e w1 ⟨rfl,h1,h2⟩;clear hV;have c1:=h1.cell0
  go_wp2_with fail
  refine (rfail_any g t _ w1 h1).mono ?_;rintro e w2 ⟨rfl,h3,h4⟩;go_wp2;go_ret;exact ⟨rfl,h3,h2.trans h4⟩
end Go.Proofs.YtpdbeijfchmlgaaGreat
namespace Go.Proofs.YtpdbeijfchmlgaaGreat
open Go.RowKit
theorem wsize64_b:(Tryz.prog.info? 93).map (·.size)=some 2:=by kernel_rfl
theorem wlies_b:liesAt Tryz.prog Tryz.prog.depth 93 (2 / Tryz.prog.cellsOf 93) 0 93 1=true:=by kernel_rfl
theorem wcells5_b:Tryz.prog.cellsOf 5=1:=by kernel_rfl
theorem wcheck_used_b (b:Nat) (w:World) (h0:w.cell? ⟨b,0,none⟩=some (.pointer (some ⟨b,0,none⟩))) :
 Calls Tryz.prog 164 #[.pointer (some ⟨b,0,none⟩)] w fun e w'=>e=.returned (.tuple #[])∧w'=w:=by
 obtain ⟨j,hj,_⟩:=Option.map_eq_some_iff.1 wsize64_b
 go_enter Tryz.func164,Tryz.ntmps164
 go_wp2;rw [Lib.run_neq_ptr_same w _ Tryz.underlying91 hj];go_wp2;go_end0;exact ⟨rfl,rfl⟩
theorem wcheck_fresh_b (b:Nat) (w:World) (h0:w.cell? ⟨b,0,none⟩=some (.pointer none)) (hsh:w.shape? b=some (93,2)) (hfz:w.frozen? ⟨b,0,none⟩=false) :
 Calls Tryz.prog 164 #[.pointer (some ⟨b,0,none⟩)] w fun e w'=>e=.returned (.tuple #[])∧w'=w.setCell ⟨b,0,none⟩ (.pointer (some ⟨b,0,none⟩)):=by
 obtain ⟨j,hj,hjs⟩:=Option.map_eq_some_iff.1 wsize64_b
 go_enter Tryz.func164,Tryz.ntmps164
 go_wp2;rw [Lib.run_to_unsafe w ⟨b,0,none⟩ Tryz.underlying91 Tryz.underlying206 hj (by rw [hjs];decide) hsh (Nat.zero_lt_succ 1)];simp only [Result.andThen];rw [Oper.upon_value];go_wp2;rw [run_callFunc_extern Tryz.func193 (by kernel_rfl) (by kernel_rfl) (by kernel_rfl) (e:=Extern.AbiNoEscape.same) (by kernel_rfl)];rw [Lib.run_noEscape];simp only [Result.andThen];rw [Oper.upon_value];go_wp2;rw [Lib.run_from_unsafe w ⟨b,0,none⟩ Tryz.underlying206 Tryz.underlying91 hj hsh wlies_b];simp only [Result.andThen];rw [Oper.upon_value];go_wp2;go_end0;exact ⟨rfl,rfl⟩
theorem wcheck_b (B b:Nat) (bs:List Value) (w:World) (h:Lib.IsBuilder 93 5 B b bs w) :
 Calls Tryz.prog 164 #[.pointer (some ⟨b,0,none⟩)] w fun e w'=>e=.returned (.tuple #[])∧Lib.BuilderAt 93 5 B b (.pointer (some ⟨b,0,none⟩)) bs w'∧Below B w w'∧Lib.OthersKept 5 (some b) w w':=by
 rcases h with h|h
 ·refine (wcheck_fresh_b b w h.cell0 h.shape h.frozen0).mono ?_;rintro e w' ⟨rfl,rfl⟩;exact ⟨rfl,h.used _,(Below.refl B w).setCell (p:=⟨b,0,none⟩) h.1 _,(Lib.OthersKept.refl _ _ w).setCell ⟨b,0,none⟩ rfl _⟩
 ·refine (wcheck_used_b b w h.cell0).mono ?_;rintro e w' ⟨rfl,rfl⟩;exact ⟨rfl,h,Below.refl B _,Lib.OthersKept.refl _ _ _⟩
def Wt_b (B b:Nat) (x:ByteArray) (w:World):Prop:=Lib.IsBuilder 93 5 B b (Lib.strCells x) w
theorem strCells_app_b (x s:ByteArray):Lib.strCells x++Lib.strCells s=Lib.strCells (x++s):=by
 unfold Lib.strCells
 simp
theorem wwrite_b (B b:Nat) (x s:ByteArray) (w:World) (h:Wt_b B b x w) (hlen:x.size+s.size≤140737488355328) (hBw:B≤w.heap.size) :
 Calls Tryz.prog 110 #[.pointer (some ⟨b,0,none⟩),.string s] w fun e w'=>e=.returned (.tuple #[.int .i64 s.size,.nilIface])∧Wt_b B b (x++s) w'∧Below B w w'∧Lib.OthersKept 5 (some b) w w':=by
 obtain ⟨i0,hi,hz0,hz1,hz2⟩:=info_parts Tryz.info5;have hck:=zh (wcheck_b B b _ w h);clear h;have hlx:=Lib.strCells_length x
 go_enter Tryz.func110,Tryz.ntmps110
 go_wp2_with (go_at_call 164;refine hck.out.mono ?_)
 rintro e w1 ⟨rfl,h1,hb1,ho1⟩;obtain ⟨hB,v,hbk,hown,hne⟩:=h1;have c0:w1.cell? ⟨b,0,none⟩=some (.pointer (some ⟨b,0,none⟩)):=by rw [Lib.cell_of_heap hbk];rfl
 have c1:w1.cell? ⟨b,1,none⟩=some v:=by rw [Lib.cell_of_heap hbk];rfl
 go_wp2_with (at_builtin;refine Lib.wpList_append_own_string _ rfl _ _ 62 9 rfl B 5 i0 Tryz.underlying62 Tryz.underlying9 hi hz0 hz1 hz2 _ _ _ rfl hown s rfl ?c3 ?c4 ?c5 ?_)
 case c3=>unfold maxLen;omega
 case c4=>omega
 case c5=>have:=hb1.size;omega
 intro v' w2 hown' hgrow _;have hlt:b<w1.heap.size:=(zgx hbk)
 have hb2:w2.heap[b]?=some (.cells #[.pointer (some ⟨b,0,none⟩),v] 93 (0,0)):=by
  rw [hgrow.block b hlt (fun e=>hne e.symm)];exact hbk
 have d0:w2.cell? ⟨b,0,none⟩=some (.pointer (some ⟨b,0,none⟩)):=by rw [Lib.cell_of_heap hb2];rfl
 have d1:w2.cell? ⟨b,1,none⟩=some v:=by rw [Lib.cell_of_heap hb2];rfl
 have f1:w2.frozen? ⟨b,1,none⟩=false:=Lib.frozen_of_heap hb2 1
 obtain ⟨ao,n',cap,rfl⟩:∃ ao n' cap,v'=.slice ao n' cap:=by
  rcases hown'.2 with ⟨hv,_⟩|⟨g,cap,cur,hv,_⟩
  ·exact ⟨_,_,_,hv⟩
  ·exact ⟨_,_,_,hv⟩
 go_wp2;go_ret2;refine ⟨rfl,?_,?_,?_⟩
 ·refine .inr ?_;rw [←strCells_app_b];exact Lib.BuilderAt.put (T:=93) (e:=5) hB hb2 (bs':=Lib.strCells x++Lib.strCells s) (by simpa [Lib.strCells_length] using hown') (by decide)
 ·exact (hb1.grown hgrow (by have:=hb1.size;omega) (fun k hk=>(hown.lt k hk).1)).setCell (p:=⟨b,1,none⟩) hB _
 ·refine (ho1.trans ?_:Lib.OthersKept 5 (some b) w w2).setCell ⟨b,1,none⟩ rfl _;refine (Lib.OthersKept.refl 5 (some b) w1).grown hgrow fun g hg=>?_
  rcases hown.2 with ⟨hv,_⟩|⟨g',cap',cur,hv,_,hg',_⟩
  ·rw [hv] at hg;simp [Value.ownBlock] at hg
  ·rw [hv] at hg;simp only [Value.ownBlock,Option.some.injEq] at hg;subst hg;exact ⟨cur,_,hg'⟩
end Go.Proofs.YtpdbeijfchmlgaaGreat
namespace Go.Proofs.YtpdbeijfchmlgaaGreat
open Go.RowKit
theorem strCells_bytes_b (x:ByteArray):Lib.strCells x=Lib.byteCells x.data.toList:=by
 unfold Lib.strCells Lib.byteCells
 simp
theorem wstring_b (B b:Nat) (x:ByteArray) (w:World) (h:Wt_b B b x w) (hx:0<x.size) :
 Calls Tryz.prog 61 #[.pointer (some ⟨b,0,none⟩)] w fun e w'=>e=.returned (.string x)∧Below B w w':=by
 obtain ⟨p,hB,v,hbk,hown,hne⟩:∃ p,Lib.BuilderAt 93 5 B b p (Lib.byteCells x.data.toList) w:=by
  unfold Wt_b at h;rw [strCells_bytes_b] at h
  rcases h with h|h
  ·exact ⟨_,h⟩
  ·exact ⟨_,h⟩
 obtain ⟨l,hl⟩:∃ l,l=x.data.toList:=⟨_,rfl⟩;have hxe:x=⟨l.toArray⟩:=by rw [hl]
 have hl0:l.length≠0:=by rw [hl];simp;intro e;rw [e] at hx;exact absurd hx (by decide)
 have hne0:l≠[]:=fun e=>hl0 (by rw [e];rfl);rw [←hl] at hown;rw [hxe];clear hxe hl hx h;rw [Lib.byteCells_length] at hown
 obtain ⟨g,cap,cur,rfl,hbg,hg,hnc,hcm,hcs,htake⟩:∃ g cap cur,v=.slice (some ⟨g,0,none⟩) l.length cap∧B≤g∧w.heap[g]?=some (.cells cur 5 (0,0))∧l.length≤cap∧cap≤maxLen∧cur.size=cap*1∧cur.toList.take (l.length*1)=Lib.byteCells l:=by
  rcases hown.2 with ⟨_,hz⟩|⟨g,cap,cur,hv,r⟩
  ·exact absurd hz hl0
  ·exact ⟨g,cap,cur,hv,r⟩
 have c1:w.drew.cell? ⟨b,1,none⟩=some (.slice (some ⟨g,0,none⟩) l.length cap):=by
  have:w.drew.heap[b]?=some (.cells #[p,.slice (some ⟨g,0,none⟩) l.length cap] 93 (0,0)):=hbk
  rw [Lib.cell_of_heap this];rfl
 have hSD:(Builtin.unsafeSliceData_ #[62] 141 #[.slice (some ⟨g,0,none⟩) l.length cap]).run Tryz.prog w.drew=.ok (.pointer (some ⟨g,0,none⟩)) w.drew :=
  Lib.run_unsafeSliceData_row _ _ _ _ _ _ (by omega)
 have hUS:(Builtin.unsafeString_ #[141,3] 9 #[.pointer (some ⟨g,0,none⟩),.int .i64 l.length]).run Tryz.prog w.drew=.ok (.string ⟨l.toArray⟩) (w.drew.freeze ⟨g,0,none⟩ l.length):=by
  refine Lib.run_unsafeString_row w.drew 141 3 9 5 Tryz.underlying141 wcells5_b g cur.size (by have hg':w.drew.heap[g]?=some (.cells cur 5 (0,0)):=hg;simp [World.shape?,hg']) l hne0 (by omega) (by unfold maxLen at hcm;omega) ?_;intro j x hx
  have:=hown.cells (g:=g) rfl j (.int .u8 x.toNat) (by simp [Lib.byteCells,hx])
  exact this
 have mixed:Tryz.prog.follows Departure.mixedOrders=true:=by kernel_rfl
 go_enter Tryz.func61,Tryz.ntmps61
 go_wp2
 go_region_o
 all_goals (go_wp2;go_ret;exact ⟨rfl,Lib.below_freeze (Below.drew (Below.refl B w)) (p:=⟨g,0,none⟩) hbg _⟩)
structure Ws_b (w0:World) (B b:Nat) (x:ByteArray) (w:World):Prop where
 t:Wt_b B b x w
 be:Below B w0 w
 ok:Lib.OthersKept 5 (some b) w0 w
 sz:B≤w.heap.size
 sw:w0.heap.size≤w.heap.size
theorem Wt_b.below {B b:Nat} {x:ByteArray} {w w1:World} (h:Wt_b B b x w) (hb:Below w.heap.size w w1):Wt_b B b x w1:=by
 have key:∀ p,Lib.BuilderAt 93 5 B b p (Lib.strCells x) w→Lib.BuilderAt 93 5 B b p (Lib.strCells x) w1:=by
  rintro p ⟨hB,v,hbk,hown,hne⟩;refine ⟨hB,v,(hb.block b (zgx hbk)).trans hbk,?_,hne⟩
  exact hown.kept (row:=none) ⟨hb.os,hb.tape,hb.output,hb.size,fun k hk _=>hb.block k hk⟩ (by
   cases hv:v.ownBlock with
   | none=>exact .inl rfl
   | some k=>exact .inr (by simp))
 rcases h with h|h
 ·exact .inl (key _ h)
 ·exact .inr (key _ h)
theorem OthersKept.of_below_b {w w1:World} {b:Option Nat} (hb:Below w.heap.size w w1):Lib.OthersKept 5 b w w1:=fun i o hi h1 h2=>(hb.block i (zgx hi)).trans hi
theorem Ws_b.below {w0:World} {B b:Nat} {x:ByteArray} {w w1:World} (h:Ws_b w0 B b x w) (hb:Below w.heap.size w w1):Ws_b w0 B b x w1 :=
 ⟨h.t.below hb,h.be.trans (hb.mono h.sz),h.ok.trans (OthersKept.of_below_b hb),Nat.le_trans h.sz hb.size,Nat.le_trans h.sw hb.size⟩
theorem Ws_b.drew {w0:World} {B b:Nat} {x:ByteArray} {w:World} (h:Ws_b w0 B b x w):Ws_b w0 B b x w.drew:=⟨h.t,h.be.drew,h.ok,h.sz,h.sw⟩
theorem Ws_b.start {B b:Nat} {x:ByteArray} {w:World} (h:Wt_b B b x w) (hB:B≤w.heap.size):Ws_b w B b x w:=⟨h,Below.refl _ _,Lib.OthersKept.refl _ _ _,hB,Nat.le_refl _⟩
end Go.Proofs.YtpdbeijfchmlgaaGreat
namespace Go.Proofs.YtpdbeijfchmlgaaGreat
open Go.RowKit
namespace Vi
theorem nums_putB_b (n:Nat):nums (putB n)=put n:=nums_str _ (put_lt n)
theorem var_put_b (n:Nat) (hn:n<18446744073709551616) (t:ByteArray):varV (putB n++t)=n∧varT (putB n++t)=t∧varO (putB n++t)=true:=by
 obtain ⟨h1,h2,h3⟩:=put_reads n hn (nums t);have e:nums (putB n++t)=put n++nums t:=by rw [nums_append,nums_putB_b]
 unfold varV varT varO;rw [e];refine ⟨h2,?_,h1⟩;rw [h3];have e2:(put n).length=(putB n).size:=by unfold putB;rw [str_size]
 rw [e2];exact extract_right _ _
theorem tex_put (s t:ByteArray) (hs:s.size<18446744073709551616):texV (putB s.size++(s++t))=s∧texT (putB s.size++(s++t))=t∧texO (putB s.size++(s++t))=true:=by
 obtain ⟨h1,h2,h3⟩:=var_put_b s.size hs (s++t);have hh:hasB (s++t) s.size=true:=decide_eq_true (by rw [ByteArray.size_append];omega);unfold texV texT texO;rw [h1,h2,h3];unfold bytV bytT;rw [hh,if_pos rfl,if_pos rfl,Int.toNat_natCast];exact ⟨extract_left s t,extract_right s t,rfl⟩
theorem cnt_at_b:∀ (l:List Nat),cnt l<l.length→l.getD (cnt l) 0<128
 | [],h=>absurd h (by simp)
 | b :: l,h=>by
   by_cases hb:128≤b
   ·have e:cnt (b :: l)=cnt l+1:=by
     unfold cnt;rw [List.takeWhile_cons,if_pos (by simpa using hb),List.length_cons]
    rw [e] at h ⊢;have ih:=cnt_at_b l (by simpa using h)
    simpa using ih
   ·have e:cnt (b :: l)=0:=by
     unfold cnt;rw [List.takeWhile_cons,if_neg (by simpa using hb)];rfl
    rw [e]
    simp
    omega
theorem cnt_pre_b (l:List Nat):∀ j,j<cnt l→128≤l.getD j 0:=by
 intro j hj
 have hl:cnt l≤l.length:=by
  unfold cnt;exact (List.takeWhile_sublist _).length_le
 have hm:l.getD j 0∈l.take (cnt l):=by
  rw [List.getD_eq_getElem?_getD,List.getElem?_eq_getElem (by omega),Option.getD_some];exact List.mem_take_iff_getElem.2 ⟨j,by omega,rfl⟩
 exact cnt_mem l _ hm
theorem var_sound_b (s:ByteArray) (h:varO s=true):putB (varV s)++varT s=s:=by
 have ho:okL (nums s)=true:=h
 have hd:cnt (nums s)≤9∧cnt (nums s)<(nums s).length∧(cnt (nums s)=0∨(nums s).getD (cnt (nums s)) 0≠0)∧(cnt (nums s)=9→(nums s).getD 9 0≤1):=by
  have:=ho
  unfold okL at this;exact of_decide_eq_true this
 obtain ⟨d1,d2,d3,d4⟩:=hd;have hb:=cnt_at_b _ d2;have hp:=cnt_pre_b (nums s);have ht:=(put_test (nums s) (cnt (nums s)) (nums_lt s) hp d2 hb d1).2 ho;have hv:=val_ok (nums s) (cnt (nums s)) d2 d1 (fun e=>by rw [e];exact d4 e);rw [hv] at ht;obtain ⟨v1,v2⟩:=valL_at (nums s) (cnt (nums s)) hp d2 hb ho
 apply nums_inj
 rw [nums_append,nums_putB_b];unfold varV varT;rw [v1,v2,ht,nums_extract]
 have:(List.drop (cnt (nums s)+1) (nums s)).take (s.size-(cnt (nums s)+1))=List.drop (cnt (nums s)+1) (nums s):=List.take_of_length_le (by rw [List.length_drop,nums_length];omega)
 rw [this,List.take_append_drop]
theorem tex_sound (s:ByteArray) (h:texO s=true):putB (texV s).size++(texV s++texT s)=s:=by
 unfold texO at h;rw [Bool.and_eq_true] at h;obtain ⟨h1,h2⟩:=h;have hs:=var_sound_b s h1;have hh:0≤((varV s:Nat):Int)∧((varV s:Nat):Int)≤(varT s).size:=of_decide_eq_true h2
 have e1:texV s=(varT s).extract 0 (varV s):=by
  unfold texV bytV;rw [if_pos h2,Int.toNat_natCast]
 have e2:texT s=(varT s).extract (varV s) (varT s).size:=by
  unfold texT bytT;rw [if_pos h2,Int.toNat_natCast]
 have e3:(texV s).size=varV s:=by rw [e1,ByteArray.size_extract];omega
 have e4:texV s++texT s=varT s:=by
  apply nums_inj
  rw [nums_append,e1,e2,nums_extract,nums_extract,List.drop_zero,Nat.sub_zero]
  have:(List.drop (varV s) (nums (varT s))).take ((varT s).size-varV s)=List.drop (varV s) (nums (varT s)):=List.take_of_length_le (by rw [List.length_drop,nums_length];omega)
  rw [this,List.take_append_drop]
 rw [e3,e4,hs]
theorem putB_pos_b (n:Nat):0<(putB n).size:=by unfold putB;rw [str_size];exact put_length_pos n
theorem empty_app_b (t:ByteArray):(⟨#[]⟩:ByteArray)++t=t:=by apply ByteArray.ext;simp
end Vi
open Vi
structure Fmt (R:Type) where
 P:Nat→R→ByteArray
 S:Nat→R→ByteArray→R×ByteArray×Bool
 cut:R→Nat→R
 ok:R→Prop
structure Fmt.Cuts {R:Type} (F:Fmt R):Prop where
 c11:∀ X,F.cut X 11=X
 cc:∀ X a b,a≤b→F.cut (F.cut X a) b=F.cut X a
 cc':∀ X a b,b≤a→F.cut (F.cut X a) b=F.cut X b
 skip:∀ X t,F.ok X→1≤t→t≤11→((F.P t X).size=0↔F.cut X t=F.cut X (t-1))
def Fmt.Put {R:Type} (F:Fmt R) (S:Nat→R→ByteArray→R×ByteArray×Bool):Prop :=
 ∀ X t T,F.ok X→1≤t→t≤11→(F.P t X).size≠0→S t (F.cut X (t-1)) (F.P t X++T)=(F.cut X t,T,true)
def Fmt.Sound {R:Type} (F:Fmt R):Prop :=
 ∀ X t E T T2,F.ok X→1≤t→t≤11→F.S t E T=(F.cut X t,T2,true)→F.cut E (t-1)=E→T=F.P t X++T2∧(F.P t X).size≠0∧F.cut X (t-1)=E
def Fmt.Stay {R:Type} (F:Fmt R):Prop:=∀ t E T,1≤t→t≤11→F.cut E (t-1)=E→F.cut (F.S t E T).1 t=(F.S t E T).1
section
variable {R:Type} (F:Fmt R)
def fdB (X:R) (t:Nat):ByteArray:=if (F.P t X).size=0 then ⟨#[]⟩ else putB t++F.P t X
def encR (X:R):Nat→ByteArray
 | 0=>putB 0
 | j+1=>fdB F X (11-j)++encR X j
def secU (X:R):Nat→ByteArray
 | 0=>⟨#[]⟩
 | k+1=>secU X k++fdB F X (k+1)
def secB (X:R):ByteArray:=secU F X 11++putB 0
theorem secU_enc (X:R):∀ j,j≤11→secU F X (11-j)++encR F X j=secB F X
 | 0,_=>rfl
 | j+1,h=>by
   have ih:=secU_enc X j (by omega);have e:11-j=(11-(j+1))+1:=by omega
   have e2:secU F X (11-j)=secU F X (11-(j+1))++fdB F X (11-j):=by
    conv=>lhs;rw [e]
    show secU F X (11-(j+1))++fdB F X (11-(j+1)+1)=_
    rw [←e]
   rw [←ih,e2]
   show secU F X (11-(j+1))++(fdB F X (11-j)++encR F X j)=_
   rw [append_assoc3]
theorem secB_enc (X:R):secB F X=encR F X 11:=by
 have h:=secU_enc F X 11 (Nat.le_refl _);rw [show 11-11=0 from rfl] at h;rw [←h];exact (empty_app_b _)
def pk:Nat→Nat→R→ByteArray→Bool→R×ByteArray×Bool
 | 0,_,E,T,b=>(E,T,b)
 | n+1,last,E,T,b =>
   if varV T=0 then (E,varT T,b||!varO T)
   else if varV T≤last∨12≤varV T then (E,⟨#[]⟩,true)
   else pk n (varV T) (F.S (varV T) E (varT T)).1 (F.S (varV T) E (varT T)).2.1 (b||!varO T||!(F.S (varV T) E (varT T)).2.2)
def rk (S:Nat→R→ByteArray→R×ByteArray×Bool):Nat→R→ByteArray→Bool→R×ByteArray×Bool
 | 0,E,T,b=>(E,T,b)
 | n+1,E,T,b =>
   if b=true then (E,T,b)
   else if varV T=0 then (E,varT T,b||!varO T)
   else rk S n (S (varV T) E (varT T)).1 (S (varV T) E (varT T)).2.1 (b||!varO T||!(S (varV T) E (varT T)).2.2)
variable {F}
theorem pk_put (hc:F.Cuts) (hp:F.Put F.S) {X:R} (ok:F.ok X) (T:ByteArray):∀ j n last,j≤11→last≤11-j→12≤n+(11-j)→pk F n last (F.cut X (11-j)) (encR F X j++T) false=(X,T,false)
 | 0,n,last,_,h1,h2=>by
   obtain ⟨m,rfl⟩:∃ m,n=m+1:=⟨n-1,by omega⟩;obtain ⟨v1,v2,v3⟩:=var_put_b 0 (by omega) T;unfold pk encR;rw [v1,v2,v3,if_pos rfl,hc.c11];rfl
 | j+1,n,last,h0,h1,h2=>by
   have e:11-j-1=11-(j+1):=by omega
   have sk:=hc.skip X (11-j) ok (by omega) (by omega);rw [e] at sk
   by_cases hz:(F.P (11-j) X).size=0
   ·have ih:=pk_put hc hp ok T j n last (by omega) (by omega) (by omega)
    have en:encR F X (j+1)=encR F X j:=by
     show fdB F X (11-j)++encR F X j=_
     unfold fdB;rw [if_pos hz,empty_app_b]
    rw [en,←sk.1 hz];exact ih
   ·obtain ⟨m,rfl⟩:∃ m,n=m+1:=⟨n-1,by omega⟩;have hs:=hp X (11-j) (encR F X j++T) ok (by omega) (by omega) hz;rw [e] at hs;have ih:=pk_put hc hp ok T j m (11-j) (by omega) (Nat.le_refl _) (by omega);obtain ⟨v1,v2,v3⟩:=var_put_b (11-j) (by omega) (F.P (11-j) X++(encR F X j++T))
    have et:encR F X (j+1)++T=putB (11-j)++(F.P (11-j) X++(encR F X j++T)):=by
     show fdB F X (11-j)++encR F X j++T=_
     unfold fdB;rw [if_neg hz];simp only [append_assoc3]
    rw [et];unfold pk;rw [v1,v2,v3,if_neg (by omega),if_neg (by omega),hs];exact ih
theorem rk_put (hc:F.Cuts) {S:Nat→R→ByteArray→R×ByteArray×Bool} (hp:F.Put S) {X:R} (ok:F.ok X) (T:ByteArray):∀ j n,j≤11→12≤n+(11-j)→rk S n (F.cut X (11-j)) (encR F X j++T) false=(X,T,false)
 | 0,n,_,h2=>by
   obtain ⟨m,rfl⟩:∃ m,n=m+1:=⟨n-1,by omega⟩;obtain ⟨v1,v2,v3⟩:=var_put_b 0 (by omega) T;unfold rk encR;rw [v1,v2,v3,if_neg (by decide),if_pos rfl,hc.c11];rfl
 | j+1,n,h0,h2=>by
   have e:11-j-1=11-(j+1):=by omega
   have sk:=hc.skip X (11-j) ok (by omega) (by omega);rw [e] at sk
   by_cases hz:(F.P (11-j) X).size=0
   ·have ih:=rk_put hc hp ok T j n (by omega) (by omega)
    have en:encR F X (j+1)=encR F X j:=by
     show fdB F X (11-j)++encR F X j=_
     unfold fdB;rw [if_pos hz,empty_app_b]
    rw [en,←sk.1 hz];exact ih
   ·obtain ⟨m,rfl⟩:∃ m,n=m+1:=⟨n-1,by omega⟩;have hs:=hp X (11-j) (encR F X j++T) ok (by omega) (by omega) hz;rw [e] at hs;have ih:=rk_put hc hp ok T j m (by omega) (by omega);obtain ⟨v1,v2,v3⟩:=var_put_b (11-j) (by omega) (F.P (11-j) X++(encR F X j++T))
    have et:encR F X (j+1)++T=putB (11-j)++(F.P (11-j) X++(encR F X j++T)):=by
     show fdB F X (11-j)++encR F X j++T=_
     unfold fdB;rw [if_neg hz];simp only [append_assoc3]
    rw [et];unfold rk;rw [v1,v2,v3,if_neg (by decide),if_neg (by omega),hs];exact ih
theorem enc_skip (hc:F.Cuts) {X E:R} (ok:F.ok X):∀ d last,last+d≤11→F.cut X (last+d)=F.cut X last→encR F X (11-last)=encR F X (11-(last+d))
 | 0,_,_,_=>rfl
 | d+1,last,h,e=>by
   have e1:F.cut X (last+d)=F.cut X last:=by
    have h1:=congrArg (fun Y=>F.cut Y (last+d)) e;rw [hc.cc' X _ _ (by omega),hc.cc X last (last+d) (by omega)] at h1;exact h1
   rw [enc_skip hc (E:=E) ok d last (by omega) e1];have sk:=hc.skip X (last+d+1) ok (by omega) (by omega)
   have hz:(F.P (last+d+1) X).size=0:=sk.2 (by
    show F.cut X (last+d+1)=F.cut X (last+d)
    rw [e1];exact e)
   obtain ⟨j,hj⟩:∃ j,11-(last+d)=j+1:=⟨11-(last+d)-1,by omega⟩;have hj2:11-j=last+d+1:=by omega
   have hj3:11-(last+(d+1))=j:=by omega
   rw [hj,hj3]
   show fdB F X (11-j)++encR F X j=encR F X j
   rw [hj2];unfold fdB;rw [if_pos hz,empty_app_b]
theorem pk_sound (hc:F.Cuts) (hst:F.Stay) (hs:F.Sound) {X:R} (ok:F.ok X) {T':ByteArray}:∀ n last E T b,12≤n+last→last≤11→F.cut E last=E→pk F n last E T b=(X,T',false)→b=false∧F.cut X last=E∧T=encR F X (11-last)++T'
 | 0,last,E,T,b,h1,h2,_,_=>absurd h1 (by omega)
 | n+1,last,E,T,b,h1,h2,hE,h=>by
   unfold pk at h
   by_cases hv:varV T=0
   ·rw [if_pos hv] at h;have e1:E=X:=congrArg (·.1) h;have e2:varT T=T':=congrArg (·.2.1) h;have e3:(b||!varO T)=false:=congrArg (·.2.2) h;rw [Bool.or_eq_false_iff] at e3;have hO:varO T=true:=by simpa using e3.2
    subst e1;refine ⟨e3.1,hE,?_⟩;have hsd:=var_sound_b T hO;rw [hv,e2] at hsd;have hk:=enc_skip hc (E:=E) ok (11-last) last (by omega) (by rw [show last+(11-last)=11 by omega,hc.c11,hE]);rw [show 11-(last+(11-last))=0 by omega] at hk;rw [hk];exact hsd.symm
   ·rw [if_neg hv] at h
    by_cases hq:varV T≤last∨12≤varV T
    ·rw [if_pos hq] at h;have e3:true=false:=congrArg (·.2.2) h
     cases e3
    ·rw [if_neg hq] at h;obtain ⟨t,ht⟩:∃ t,t=varV T:=⟨_,rfl⟩;obtain ⟨T1,hT1⟩:∃ T1,T1=varT T:=⟨_,rfl⟩;rw [←ht,←hT1] at h;rw [←ht] at hv hq;obtain ⟨⟨E1,T2,o⟩,hS⟩:∃ r,r=F.S t E T1:=⟨_,rfl⟩;rw [←hS] at h;dsimp only at h;have hlt:last<t∧t≤11:=by omega
     have key:∀ hcut:F.cut E1 t=E1,b=false∧F.cut X last=E∧T=encR F X (11-last)++T':=by
      intro hcut;obtain ⟨i1,i2,i3⟩:=pk_sound hc hst hs ok n t E1 T2 _ (by omega) hlt.2 hcut h;simp only [Bool.or_eq_false_iff] at i1;obtain ⟨⟨j1,j2⟩,j3⟩:=i1;have hO:varO T=true:=by simpa using j2
      have ho:o=true:=by simpa using j3
      have hsd:=var_sound_b T hO;rw [←ht,←hT1] at hsd;subst ho;rw [←i2] at hS
      have hEc:F.cut E (t-1)=E:=by
       have h3:=hc.cc E last (t-1) (by omega);rw [hE] at h3;exact h3
      obtain ⟨s1,s2,s3⟩:=hs X t E T1 T2 ok (by omega) hlt.2 hS.symm hEc
      have hXl:F.cut X last=E:=by
       have h4:=congrArg (fun Y=>F.cut Y last) s3;rw [hc.cc' X _ _ (by omega),hE] at h4;exact h4
      refine ⟨j1,hXl,?_⟩;have hk:=enc_skip hc (E:=E) ok (t-1-last) last (by omega) (by rw [show last+(t-1-last)=t-1 by omega,s3,hXl]);rw [show 11-(last+(t-1-last))=11-t+1 by omega] at hk;rw [hk]
      show T=fdB F X (11-(11-t))++encR F X (11-t)++T'
      rw [show 11-(11-t)=t by omega];unfold fdB;rw [if_neg s2,←hsd,s1,i3];simp only [append_assoc3]
     have hEc:F.cut E (t-1)=E:=by
      have h3:=hc.cc E last (t-1) (by omega);rw [hE] at h3;exact h3
     have hq2:=hst t E T1 (by omega) hlt.2 hEc;rw [←hS] at hq2;exact key hq2
end
end Go.Proofs.YtpdbeijfchmlgaaGreat
