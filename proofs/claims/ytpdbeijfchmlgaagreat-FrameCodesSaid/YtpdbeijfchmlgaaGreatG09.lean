/-
  FrameCodes: part G09.
  Conditions: named in each theorem.
-/
import Derived.Lib.OthersKept
import Derived.Lib.Builder
import Derived.Lib.AppendStr
import Derived.Lib.UnsafeStr
import Derived.Laws.Externs
import Derived.Shelf.RegionOpenPlain
import Derived.Laws.EntriesVeiled
import Derived.Test.YtpdbeijfchmlgaaGreatZ0
import Derived.Test.YtpdbeijfchmlgaaGreatG00
import Derived.Test.YtpdbeijfchmlgaaGreatG03
import Derived.Test.YtpdbeijfchmlgaaGreatG08
set_option linter.unusedVariables false
set_option linter.unusedSimpArgs false
set_option maxHeartbeats 16000000
set_option maxRecDepth 100000
namespace Go.Proofs.YtpdbeijfchmlgaaGreat
open Go.RowKit
theorem wsize64:(Tryz.prog.info? 93).map (·.size)=some 2:=by kernel_rfl
theorem wlies:liesAt Tryz.prog Tryz.prog.depth 95 (2 / Tryz.prog.cellsOf 95) 0 93 1=true:=by kernel_rfl
theorem wcells5:Tryz.prog.cellsOf 5=1:=by kernel_rfl
theorem wcheck_used (b:Nat) (w:World) (h0:w.cell? ⟨b,0,none⟩=some (.pointer (some ⟨b,0,none⟩))) :
 Calls Tryz.prog 164 #[.pointer (some ⟨b,0,none⟩)] w fun e w'=>e=.returned (.tuple #[])∧w'=w:=by
 obtain ⟨j,hj,_⟩:=Option.map_eq_some_iff.1 wsize64
 go_enter Tryz.func164,Tryz.ntmps164
 go_wp2;rw [Lib.run_neq_ptr_same w _ Tryz.underlying91 hj];go_wp2;go_end0;exact ⟨rfl,rfl⟩
theorem wcheck_fresh (b:Nat) (w:World) (h0:w.cell? ⟨b,0,none⟩=some (.pointer none)) (hsh:w.shape? b=some (95,2)) (hfz:w.frozen? ⟨b,0,none⟩=false) :
 Calls Tryz.prog 164 #[.pointer (some ⟨b,0,none⟩)] w fun e w'=>e=.returned (.tuple #[])∧w'=w.setCell ⟨b,0,none⟩ (.pointer (some ⟨b,0,none⟩)):=by
 obtain ⟨j,hj,hjs⟩:=Option.map_eq_some_iff.1 wsize64
 go_enter Tryz.func164,Tryz.ntmps164
 go_wp2;rw [Lib.run_to_unsafe w ⟨b,0,none⟩ Tryz.underlying91 Tryz.underlying206 hj (by rw [hjs];decide) hsh (Nat.zero_lt_succ 1)];simp only [Result.andThen];rw [Oper.upon_value];go_wp2;rw [run_callFunc_extern Tryz.func193 (by kernel_rfl) (by kernel_rfl) (by kernel_rfl) (e:=Extern.AbiNoEscape.same) (by kernel_rfl)];rw [Lib.run_noEscape];simp only [Result.andThen];rw [Oper.upon_value];go_wp2;rw [Lib.run_from_unsafe w ⟨b,0,none⟩ Tryz.underlying206 Tryz.underlying91 hj hsh wlies];simp only [Result.andThen];rw [Oper.upon_value];go_wp2;go_end0;exact ⟨rfl,rfl⟩
theorem wcheck (B b:Nat) (bs:List Value) (w:World) (h:Lib.IsBuilder 95 5 B b bs w) :
 Calls Tryz.prog 164 #[.pointer (some ⟨b,0,none⟩)] w fun e w'=>e=.returned (.tuple #[])∧Lib.BuilderAt 95 5 B b (.pointer (some ⟨b,0,none⟩)) bs w'∧Below B w w'∧Lib.OthersKept 5 (some b) w w':=by
 rcases h with h|h
 ·refine (wcheck_fresh b w h.cell0 h.shape h.frozen0).mono ?_;rintro e w' ⟨rfl,rfl⟩;exact ⟨rfl,h.used _,(Below.refl B w).setCell (p:=⟨b,0,none⟩) h.1 _,(Lib.OthersKept.refl _ _ w).setCell ⟨b,0,none⟩ rfl _⟩
 ·refine (wcheck_used b w h.cell0).mono ?_;rintro e w' ⟨rfl,rfl⟩;exact ⟨rfl,h,Below.refl B _,Lib.OthersKept.refl _ _ _⟩
def Wt (B b:Nat) (x:ByteArray) (w:World):Prop:=Lib.IsBuilder 95 5 B b (Lib.strCells x) w
theorem strCells_app (x s:ByteArray):Lib.strCells x++Lib.strCells s=Lib.strCells (x++s):=by
 unfold Lib.strCells
 simp
theorem wwrite (B b:Nat) (x s:ByteArray) (w:World) (h:Wt B b x w) (hlen:x.size+s.size≤140737488355328) (hBw:B≤w.heap.size) :
 Calls Tryz.prog 110 #[.pointer (some ⟨b,0,none⟩),.string s] w fun e w'=>e=.returned (.tuple #[.int .i64 s.size,.nilIface])∧Wt B b (x++s) w'∧Below B w w'∧Lib.OthersKept 5 (some b) w w':=by
 obtain ⟨i0,hi,hz0,hz1,hz2⟩:=info_parts Tryz.info5;have hck:=zh (wcheck B b _ w h);clear h;have hlx:=Lib.strCells_length x
 go_enter Tryz.func110,Tryz.ntmps110
 go_wp2_with (go_at_call 164;refine hck.out.mono ?_)
 rintro e w1 ⟨rfl,h1,hb1,ho1⟩;obtain ⟨hB,v,hbk,hown,hne⟩:=h1;have c0:w1.cell? ⟨b,0,none⟩=some (.pointer (some ⟨b,0,none⟩)):=by rw [Lib.cell_of_heap hbk];rfl
 have c1:w1.cell? ⟨b,1,none⟩=some v:=by rw [Lib.cell_of_heap hbk];rfl
 go_wp2_with (at_builtin;refine Lib.wpList_append_own_string _ rfl _ _ 62 9 rfl B 5 i0 Tryz.underlying62 Tryz.underlying9 hi hz0 hz1 hz2 _ _ _ rfl hown s rfl ?c3 ?c4 ?c5 ?_)
 case c3=>unfold maxLen;omega
 case c4=>omega
 case c5=>have:=hb1.size;omega
 intro v' w2 hown' hgrow _;have hlt:b<w1.heap.size:=(zgx hbk)
 have hb2:w2.heap[b]?=some (.cells #[.pointer (some ⟨b,0,none⟩),v] 95 (0,0)):=by
  rw [hgrow.block b hlt (fun e=>hne e.symm)];exact hbk
 have d0:w2.cell? ⟨b,0,none⟩=some (.pointer (some ⟨b,0,none⟩)):=by rw [Lib.cell_of_heap hb2];rfl
 have d1:w2.cell? ⟨b,1,none⟩=some v:=by rw [Lib.cell_of_heap hb2];rfl
 have f1:w2.frozen? ⟨b,1,none⟩=false:=Lib.frozen_of_heap hb2 1
 obtain ⟨ao,n',cap,rfl⟩:∃ ao n' cap,v'=.slice ao n' cap:=by
  rcases hown'.2 with ⟨hv,_⟩|⟨g,cap,cur,hv,_⟩
  ·exact ⟨_,_,_,hv⟩
  ·exact ⟨_,_,_,hv⟩
 go_wp2;go_ret2;refine ⟨rfl,?_,?_,?_⟩
 ·refine .inr ?_;rw [←strCells_app];exact Lib.BuilderAt.put (T:=95) (e:=5) hB hb2 (bs':=Lib.strCells x++Lib.strCells s) (by simpa [Lib.strCells_length] using hown') (by decide)
 ·exact (hb1.grown hgrow (by have:=hb1.size;omega) (fun k hk=>(hown.lt k hk).1)).setCell (p:=⟨b,1,none⟩) hB _
 ·refine (ho1.trans ?_:Lib.OthersKept 5 (some b) w w2).setCell ⟨b,1,none⟩ rfl _;refine (Lib.OthersKept.refl 5 (some b) w1).grown hgrow fun g hg=>?_
  rcases hown.2 with ⟨hv,_⟩|⟨g',cap',cur,hv,_,hg',_⟩
  ·rw [hv] at hg;simp [Value.ownBlock] at hg
  ·rw [hv] at hg;simp only [Value.ownBlock,Option.some.injEq] at hg;subst hg;exact ⟨cur,_,hg'⟩
end Go.Proofs.YtpdbeijfchmlgaaGreat
namespace Go.Proofs.YtpdbeijfchmlgaaGreat
open Go.RowKit
theorem strCells_bytes (x:ByteArray):Lib.strCells x=Lib.byteCells x.data.toList:=by
 unfold Lib.strCells Lib.byteCells
 simp
theorem wstring (B b:Nat) (x:ByteArray) (w:World) (h:Wt B b x w) (hx:0<x.size) :
 Calls Tryz.prog 61 #[.pointer (some ⟨b,0,none⟩)] w fun e w'=>e=.returned (.string x)∧Below B w w':=by
 obtain ⟨p,hB,v,hbk,hown,hne⟩:∃ p,Lib.BuilderAt 95 5 B b p (Lib.byteCells x.data.toList) w:=by
  unfold Wt at h;rw [strCells_bytes] at h
  rcases h with h|h
  ·exact ⟨_,h⟩
  ·exact ⟨_,h⟩
 obtain ⟨l,hl⟩:∃ l,l=x.data.toList:=⟨_,rfl⟩;have hxe:x=⟨l.toArray⟩:=by rw [hl]
 have hl0:l.length≠0:=by rw [hl];simp;intro e;rw [e] at hx;exact absurd hx (by decide)
 have hne0:l≠[]:=fun e=>hl0 (by rw [e];rfl);rw [←hl] at hown;rw [hxe];clear hxe hl hx h;rw [Lib.byteCells_length] at hown
 obtain ⟨g,cap,cur,rfl,hbg,hg,hnc,hcm,hcs,htake⟩:∃ g cap cur,v=.slice (some ⟨g,0,none⟩) l.length cap∧B≤g∧w.heap[g]?=some (.cells cur 5 (0,0))∧l.length≤cap∧cap≤maxLen∧cur.size=cap*1∧cur.toList.take (l.length*1)=Lib.byteCells l:=by
  rcases hown.2 with ⟨_,hz⟩|⟨g,cap,cur,hv,r⟩
  ·exact absurd hz hl0
  ·exact ⟨g,cap,cur,hv,r⟩
 have c1:w.drew.cell? ⟨b,1,none⟩=some (.slice (some ⟨g,0,none⟩) l.length cap):=by
  have:w.drew.heap[b]?=some (.cells #[p,.slice (some ⟨g,0,none⟩) l.length cap] 95 (0,0)):=hbk
  rw [Lib.cell_of_heap this];rfl
 have hSD:(Builtin.unsafeSliceData_ #[62] 141 #[.slice (some ⟨g,0,none⟩) l.length cap]).run Tryz.prog w.drew=.ok (.pointer (some ⟨g,0,none⟩)) w.drew :=
  Lib.run_unsafeSliceData_row _ _ _ _ _ _ (by omega)
 have hUS:(Builtin.unsafeString_ #[141,3] 9 #[.pointer (some ⟨g,0,none⟩),.int .i64 l.length]).run Tryz.prog w.drew=.ok (.string ⟨l.toArray⟩) (w.drew.freeze ⟨g,0,none⟩ l.length):=by
  refine Lib.run_unsafeString_row w.drew 141 3 9 5 Tryz.underlying141 wcells5 g cur.size (by have hg':w.drew.heap[g]?=some (.cells cur 5 (0,0)):=hg;simp [World.shape?,hg']) l hne0 (by omega) (by unfold maxLen at hcm;omega) ?_;intro j x hx
  have:=hown.cells (g:=g) rfl j (.int .u8 x.toNat) (by simp [Lib.byteCells,hx])
  exact this
 have mixed:Tryz.prog.follows Departure.mixedOrders=true:=by kernel_rfl
 go_enter Tryz.func61,Tryz.ntmps61
 go_wp2
 go_region_o
 all_goals (go_wp2;go_ret;exact ⟨rfl,Lib.below_freeze (Below.drew (Below.refl B w)) (p:=⟨g,0,none⟩) hbg _⟩)
def zer (n:Nat):ByteArray:=⟨(List.replicate n (0:UInt8)).toArray⟩
theorem zer_size (n:Nat):(zer n).size=n:=by
 show (List.replicate n (0:UInt8)).toArray.size=n
 simp
theorem zer_rep (n:Nat):(⟨(Lib.repeatL (⟨#[0]⟩:ByteArray).data.toList n).toArray⟩:ByteArray)=zer n:=by
 unfold zer
 congr 2
 induction n with
 | zero=>rfl
 | succ n ih =>
   rw [List.replicate_succ,←ih];rfl
theorem zeros_any (n:Nat) (w:World) (hn:n≤140737488355328) :
 Calls Tryz.prog 86 #[.int .i64 n] w fun e w'=>e=.returned (.string (zer n))∧Below w.heap.size w w':=by
 have hR:=Tryz.strings_Repeat ⟨#[0]⟩ n w (by omega) (by show 1*n≤_;omega);rw [zer_rep] at hR
 go_enter Tryz.func86,Tryz.ntmps86
 go_wp2_with (go_at_call 154;(with_reducible refine hR.mono ?_);rintro e w1 ⟨rfl,hb⟩)
 go_ret;exact ⟨rfl,hb⟩
structure Ws (w0:World) (B b:Nat) (x:ByteArray) (w:World):Prop where
 t:Wt B b x w
 be:Below B w0 w
 ok:Lib.OthersKept 5 (some b) w0 w
 sz:B≤w.heap.size
 sw:w0.heap.size≤w.heap.size
theorem Wt.below {B b:Nat} {x:ByteArray} {w w1:World} (h:Wt B b x w) (hb:Below w.heap.size w w1):Wt B b x w1:=by
 have key:∀ p,Lib.BuilderAt 95 5 B b p (Lib.strCells x) w→Lib.BuilderAt 95 5 B b p (Lib.strCells x) w1:=by
  rintro p ⟨hB,v,hbk,hown,hne⟩;refine ⟨hB,v,(hb.block b (zgx hbk)).trans hbk,?_,hne⟩
  exact hown.kept (row:=none) ⟨hb.os,hb.tape,hb.output,hb.size,fun k hk _=>hb.block k hk⟩ (by
   cases hv:v.ownBlock with
   | none=>exact .inl rfl
   | some k=>exact .inr (by simp))
 rcases h with h|h
 ·exact .inl (key _ h)
 ·exact .inr (key _ h)
theorem OthersKept.of_below {w w1:World} {b:Option Nat} (hb:Below w.heap.size w w1):Lib.OthersKept 5 b w w1:=fun i o hi h1 h2=>(hb.block i (zgx hi)).trans hi
theorem Ws.below {w0:World} {B b:Nat} {x:ByteArray} {w w1:World} (h:Ws w0 B b x w) (hb:Below w.heap.size w w1):Ws w0 B b x w1 :=
 ⟨h.t.below hb,h.be.trans (hb.mono h.sz),h.ok.trans (OthersKept.of_below hb),Nat.le_trans h.sz hb.size,Nat.le_trans h.sw hb.size⟩
theorem Ws.drew {w0:World} {B b:Nat} {x:ByteArray} {w:World} (h:Ws w0 B b x w):Ws w0 B b x w.drew:=⟨h.t,h.be.drew,h.ok,h.sz,h.sw⟩
theorem Ws.start {B b:Nat} {x:ByteArray} {w:World} (h:Wt B b x w) (hB:B≤w.heap.size):Ws w B b x w:=⟨h,Below.refl _ _,Lib.OthersKept.refl _ _ _,hB,Nat.le_refl _⟩
theorem number_any (B b n:Nat) (k:Nat) (x:ByteArray) (w:World) (h:Wt B b x w) (hlen:x.size≤140737488000000) (hB:B≤w.heap.size) (hk:k≤8) :
 Calls Tryz.prog 108 #[.pointer (some ⟨b,0,none⟩),.int .u64 n,.int .i64 k] w fun e w'=>e=.returned (.tuple #[])∧Ws w B b (x++Vi.fxB n k) w':=by
 have hfs:(Vi.fxB n k).size≤8:=by rw [Vi.fxB_size n k hk];exact hk
 obtain ⟨s,hs⟩:∃ s,s=Vi.fxB n k:=⟨_,rfl⟩;have K1:Hid (∀ W,Ws w B b x W→Calls Tryz.prog 56 #[.int .u64 n,.int .i64 k] W fun e w'=>e=.returned (.string s)∧Ws w B b x w'):=fun W hW=>(fixed_any n k W).mono fun e w' ⟨h1,h2⟩=>⟨by rw [h1,hs],hW.below h2⟩;have K2:Hid (∀ W,Ws w B b x W→Calls Tryz.prog 110 #[.pointer (some ⟨b,0,none⟩),.string s] W fun e w'=>e=.returned (.tuple #[.int .i64 s.size,.nilIface])∧Ws w B b (x++s) w'):=fun W hW=>(wwrite B b x s W hW.t (by rw [hs];omega) hW.sz).mono fun e w' ⟨h1,h2,h3,h4⟩=>⟨h1,h2,hW.be.trans h3,hW.ok.trans h4,Nat.le_trans hW.sz h3.size,Nat.le_trans hW.sw h3.size⟩;have S0:Ws w B b x w:=Ws.start h hB;have S1:=S0.drew;rw [←hs];clear h hlen hB hk hfs hs
 go_enter Tryz.func108,Tryz.ntmps108
 go_region_held3 (fun _=>True) (trivial) (first
  | (go_at_call 56;(with_reducible refine (K1.out _ (by assumption)).mono ?_);rintro r w6 ⟨rfl,s5⟩)
  | (go_at_call 110;(with_reducible refine (K2.out _ (by assumption)).mono ?_);rintro r w7 ⟨rfl,s6⟩))
 all_goals
  go_wp2;go_end0;exact ⟨rfl,s6⟩
end Go.Proofs.YtpdbeijfchmlgaaGreat
namespace Go.Proofs.YtpdbeijfchmlgaaGreat
open Go.RowKit
def fN (v:Int) (k:Int):ByteArray:=Vi.fxB v.toNat k
def pb (e:En):ByteArray :=
 fN e.kind 1++fN e.term 8++fN e.index 8++fN e.client 8++fN e.seq 8++fN e.block 4++fN e.many 4++fN e.node 1++fN e.level 1++fN e.data.size 1++(e.data++zer (66-e.data.size))
def mayB (e:En):Bool:=rightB e&&(lvl e.kind==1)
def putS (e:En):ByteArray:=if mayB e then pb e else ⟨#[]⟩
theorem fN_size (v k:Int) (h0:0≤k) (h:k≤8):(fN v k).size=k.toNat:=by
 obtain ⟨n,rfl⟩:=Int.eq_ofNat_of_zero_le h0;exact Vi.fxB_size _ n (by omega)
structure Few (e:En):Prop where
 k0:0≤e.kind
 k1:e.kind≤11
 n0:0≤e.node
 n1:e.node≤7
 l0:0≤e.level
 l1:e.level≤2
 d:e.data.size≤64
 o:e.old.size≤64
 b:e.block≤4294967295
 m:e.many≤4294967295
theorem few_of {e:En} (ok:e.Ok) (h:rightB e=true):Few e:=by
 have A:=(asked_iff e ok).1 h;have f:0≤e.kind∧e.kind≤11:=of_decide_eq_true A.f;have hd:=A.d1;have ho:=A.o1;refine ⟨f.1,f.2,?_,?_,?_,?_,by omega,by omega,A.b1,A.m1⟩
 ·exact both (fun h=>by have:=A.n1 h;omega) (fun h=>by have:=A.n0 h;omega)
 ·exact both (fun h=>by have:=A.n1 h;omega) (fun h=>by have:=A.n0 h;omega)
 ·exact both (fun h=>by have:=A.l1 h;omega) (fun h=>by have:=A.l0 h;omega)
 ·exact both (fun h=>by have:=A.l1 h;omega) (fun h=>by have:=A.l0 h;omega)
theorem pb_size {e:En} (h:Few e):(pb e).size=110:=by
 have:=h.d
 unfold pb;simp only [ByteArray.size_append,zer_size,fN_size _ 1 (by omega) (by omega),fN_size _ 8 (by omega) (by omega),fN_size _ 4 (by omega) (by omega)];omega
theorem kept_cells {w w1:World} {b i:Nat} {cs:Array Value} {T:TypeId} {fz:Nat×Nat} (h:Lib.OthersKept 5 (some b) w w1) (hi:w.heap[i]?=some (.cells cs T fz)) (hb:i≠b) (hT:T≠5):w1.heap[i]?=some (.cells cs T fz) :=
 h i _ hi (by simpa using hb) (fun c z he=>by simp at he;exact hT he.2.1)
structure We (w0:World) (B b:Nat) (e:En) (x:ByteArray) (r:Nat) (w:World):Prop where
 s:Ws w0 B b x w
 lb:b<w0.heap.size
 box:w.heap[w0.heap.size]?=some (.cells (ec e) 24 (0,0))
 fn:w.heap[w0.heap.size+1]?=some (.cells #[.func (.func 108) #[.pointer (some ⟨b,0,none⟩)] #[]] 135 (0,0))
 sz:x.size+r≤140737488000000
section
variable {w0:World} {B b:Nat} {e:En} {x:ByteArray} {r:Nat} {w w1:World}
theorem We.cell (h:We w0 B b e x r w) (i:Nat):w.cell? ⟨w0.heap.size,i,none⟩=(ec e)[i]?:=zcr w _ i _ 24 (0,0) h.box
theorem We.fcell (h:We w0 B b e x r w):w.cell? ⟨w0.heap.size+1,0,none⟩=some (.func (.func 108) #[.pointer (some ⟨b,0,none⟩)] #[]):=zcr w _ 0 _ 135 (0,0) h.fn
theorem We.drew (h:We w0 B b e x r w):We w0 B b e x r w.drew:=⟨h.s.drew,h.lb,h.box,h.fn,h.sz⟩
theorem We.below (h:We w0 B b e x r w) (hb:Below w.heap.size w w1):We w0 B b e x r w1 :=
 ⟨h.s.below hb,h.lb,(hb.block _ (zgx h.box)).trans h.box,(hb.block _ (zgx h.fn)).trans h.fn,h.sz⟩
theorem We.on {y:ByteArray} {r':Nat} (h:We w0 B b e x r w) (k:Ws w B b (x++y) w1) (hr:y.size+r'≤r):We w0 B b e (x++y) r' w1:=by
 have h1:=h.lb;have h2:=h.sz;exact ⟨⟨k.t,h.s.be.trans k.be,h.s.ok.trans k.ok,k.sz,Nat.le_trans h.s.sw k.sw⟩,h.lb,kept_cells k.ok h.box (by omega) (by decide),kept_cells k.ok h.fn (by omega) (by decide),by rw [ByteArray.size_append];omega⟩
theorem We.all (h:We w0 B b e x r w):We w0 B b e x r w∧w.cell? ⟨w0.heap.size,0,none⟩=some (.int .u64 e.term)∧w.cell? ⟨w0.heap.size,1,none⟩=some (.int .u64 e.index)∧w.cell? ⟨w0.heap.size,2,none⟩=some (.int .i64 e.kind)∧w.cell? ⟨w0.heap.size,3,none⟩=some (.int .u64 e.client)∧w.cell? ⟨w0.heap.size,4,none⟩=some (.int .u64 e.seq)∧w.cell? ⟨w0.heap.size,5,none⟩=some (.int .u64 e.block)∧w.cell? ⟨w0.heap.size,6,none⟩=some (.int .u64 e.many)∧w.cell? ⟨w0.heap.size,7,none⟩=some (.int .i64 e.node)∧w.cell? ⟨w0.heap.size,8,none⟩=some (.int .i64 e.level)∧w.cell? ⟨w0.heap.size,9,none⟩=some (.string e.data)∧w.cell? ⟨w0.heap.size+1,0,none⟩=some (.func (.func 108) #[.pointer (some ⟨b,0,none⟩)] #[]):=⟨h,h.cell 0,h.cell 1,h.cell 2,h.cell 3,h.cell 4,h.cell 5,h.cell 6,h.cell 7,h.cell 8,h.cell 9,h.fcell⟩
end
theorem we_number (w0:World) (B b:Nat) (e:En) (x:ByteArray) (r:Nat) (v k:Int) (w:World) (h:We w0 B b e x r w) (hr:8≤r) (hv:0≤v) (hk:0≤k∧k≤8) :
 Calls Tryz.prog 108 #[.pointer (some ⟨b,0,none⟩),.int .u64 v,.int .i64 k] w fun q w'=>q=.returned (.tuple #[])∧We w0 B b e (x++fN v k) (r-8) w'∧w'.cell? ⟨w0.heap.size,0,none⟩=some (.int .u64 e.term)∧w'.cell? ⟨w0.heap.size,1,none⟩=some (.int .u64 e.index)∧w'.cell? ⟨w0.heap.size,2,none⟩=some (.int .i64 e.kind)∧w'.cell? ⟨w0.heap.size,3,none⟩=some (.int .u64 e.client)∧w'.cell? ⟨w0.heap.size,4,none⟩=some (.int .u64 e.seq)∧w'.cell? ⟨w0.heap.size,5,none⟩=some (.int .u64 e.block)∧w'.cell? ⟨w0.heap.size,6,none⟩=some (.int .u64 e.many)∧w'.cell? ⟨w0.heap.size,7,none⟩=some (.int .i64 e.node)∧w'.cell? ⟨w0.heap.size,8,none⟩=some (.int .i64 e.level)∧w'.cell? ⟨w0.heap.size,9,none⟩=some (.string e.data)∧w'.cell? ⟨w0.heap.size+1,0,none⟩=some (.func (.func 108) #[.pointer (some ⟨b,0,none⟩)] #[]):=by
 obtain ⟨n,rfl⟩:=Int.eq_ofNat_of_zero_le hv;obtain ⟨j,rfl⟩:=Int.eq_ofNat_of_zero_le hk.1;have hs:(fN n j).size=j:=by rw [fN_size _ _ (by omega) (by omega)];omega
 have h1:=h.sz;exact (number_any B b n j x w h.s.t (by omega) h.s.sz (by omega)).mono fun q w' ⟨h2,h3⟩=>⟨h2,(h.on (y:=fN n j) h3 (by omega)).all⟩
theorem we_small (w0:World) (B b:Nat) (e:En) (x:ByteArray) (r:Nat) (v:Int) (w:World) (h:We w0 B b e x r w) (hr:8≤r) (hv:0≤v∧v≤255) :
 Calls Tryz.prog 109 #[.int .i64 v,.pointer (some ⟨w0.heap.size+1,0,none⟩)] w fun q w'=>q=.returned (.tuple #[])∧We w0 B b e (x++fN v 1) (r-8) w'∧w'.cell? ⟨w0.heap.size,0,none⟩=some (.int .u64 e.term)∧w'.cell? ⟨w0.heap.size,1,none⟩=some (.int .u64 e.index)∧w'.cell? ⟨w0.heap.size,2,none⟩=some (.int .i64 e.kind)∧w'.cell? ⟨w0.heap.size,3,none⟩=some (.int .u64 e.client)∧w'.cell? ⟨w0.heap.size,4,none⟩=some (.int .u64 e.seq)∧w'.cell? ⟨w0.heap.size,5,none⟩=some (.int .u64 e.block)∧w'.cell? ⟨w0.heap.size,6,none⟩=some (.int .u64 e.many)∧w'.cell? ⟨w0.heap.size,7,none⟩=some (.int .i64 e.node)∧w'.cell? ⟨w0.heap.size,8,none⟩=some (.int .i64 e.level)∧w'.cell? ⟨w0.heap.size,9,none⟩=some (.string e.data)∧w'.cell? ⟨w0.heap.size+1,0,none⟩=some (.func (.func 108) #[.pointer (some ⟨b,0,none⟩)] #[]):=by
 have c:=h.fcell;have hw:IntKind.u64.wrap v=v:=IntWalk.u64_in _ (by omega);have K:=zh (we_number w0 B b e x r v 1 w h hr hv.1 (by omega));clear h
 go_enter Tryz.func109,Tryz.ntmps109
 go_wp2_with (go_at_call 108;(with_reducible refine K.out.mono ?_);rintro q w1 ⟨rfl,h1⟩)
 go_end0;exact ⟨rfl,h1⟩
theorem we_write (w0:World) (B b:Nat) (e:En) (x s:ByteArray) (r:Nat) (w:World) (h:We w0 B b e x r w) (hr:s.size≤r) :
 Calls Tryz.prog 110 #[.pointer (some ⟨b,0,none⟩),.string s] w fun q w'=>q=.returned (.tuple #[.int .i64 s.size,.nilIface])∧We w0 B b e (x++s) (r-s.size) w'∧w'.cell? ⟨w0.heap.size,0,none⟩=some (.int .u64 e.term)∧w'.cell? ⟨w0.heap.size,1,none⟩=some (.int .u64 e.index)∧w'.cell? ⟨w0.heap.size,2,none⟩=some (.int .i64 e.kind)∧w'.cell? ⟨w0.heap.size,3,none⟩=some (.int .u64 e.client)∧w'.cell? ⟨w0.heap.size,4,none⟩=some (.int .u64 e.seq)∧w'.cell? ⟨w0.heap.size,5,none⟩=some (.int .u64 e.block)∧w'.cell? ⟨w0.heap.size,6,none⟩=some (.int .u64 e.many)∧w'.cell? ⟨w0.heap.size,7,none⟩=some (.int .i64 e.node)∧w'.cell? ⟨w0.heap.size,8,none⟩=some (.int .i64 e.level)∧w'.cell? ⟨w0.heap.size,9,none⟩=some (.string e.data)∧w'.cell? ⟨w0.heap.size+1,0,none⟩=some (.func (.func 108) #[.pointer (some ⟨b,0,none⟩)] #[]):=by
 have h1:=h.sz;exact (wwrite B b x s w h.s.t (by omega) h.s.sz).mono fun q w' ⟨h2,h3,h4,h5⟩=>⟨h2,(h.on (w1:=w') (y:=s) ⟨h3,h4,h5,Nat.le_trans h.s.sz h4.size,h4.size⟩ (by omega)).all⟩
theorem entry_any (B b:Nat) (e:En) (x:ByteArray) (w:World) (h:Wt B b x w) (hx:x.size≤140737487000000) (hB:B≤w.heap.size) (ok:e.Ok) (fw:Few e) :
 Calls Tryz.prog 60 #[.pointer (some ⟨b,0,none⟩),ev e] w fun q w'=>q=.returned (.tuple #[])∧Ws w B b (x++pb e) w':=by
 have hmf:=zmL;obtain ⟨W0,hW0⟩:∃ W0,W0=(w.alloc (Obj.cells (ec e) 24)).alloc (Obj.cells #[.func (.func 108) #[.pointer (some ⟨b,0,none⟩)] #[]] 135):=⟨_,rfl⟩;have hb0:Below w.heap.size w W0:=by rw [hW0];exact zba.alloc (by simp) _
 have hlt:b<w.heap.size:=by rcases h with h|h<;>exact h.lt
 have S0:We w B b e x 1000 W0:=by
  have k0:W0.heap[w.heap.size]?=some (.cells (ec e) 24 (0,0)):=by
   rw [hW0];exact (Lib.alloc_old _ _ _ (by simp)).trans (heap_alloc_new w _)
  have k1:W0.heap[w.heap.size+1]?=some (.cells #[.func (.func 108) #[.pointer (some ⟨b,0,none⟩)] #[]] 135 (0,0)):=by
   have h:=heap_alloc_new (w.alloc (Obj.cells (ec e) 24)) (Obj.cells #[.func (.func 108) #[.pointer (some ⟨b,0,none⟩)] #[]] 135);rw [show (w.alloc (Obj.cells (ec e) 24)).heap.size=w.heap.size+1 by simp] at h;rw [hW0];exact h
  exact ⟨(Ws.start h hB).below hb0,hlt,k0,k1,by omega⟩
 have S1:=S0.all;have K53:=zh (we_number w B b e);have K54:=zh (we_small w B b e);have K55:=zh (we_write w B b e);have g1:=ok.t0;have g2:=ok.i0;have g3:=ok.c0;have g4:=ok.s0;have g5:=ok.b0;have g6:=ok.m0;have q1:0≤e.kind∧e.kind≤255:=⟨fw.k0,by have:=fw.k1;omega⟩;have q2:0≤e.node∧e.node≤255:=⟨fw.n0,by have:=fw.n1;omega⟩;have q3:0≤e.level∧e.level≤255:=⟨fw.l0,by have:=fw.l1;omega⟩;have q4:0≤(e.data.size:Int)∧(e.data.size:Int)≤255:=by have:=fw.d;omega
 have q5:e.data.size≤64:=fw.d;obtain ⟨S,c0,c1,c2,c3,c4,c5,c6,c7,c8,c9,cf⟩:=S1;have HW0:=zh hW0;clear hW0 hb0 hlt S0 h hx hB ok fw
 go_enter Tryz.func60,Tryz.ntmps60
 go_upto_region 3 with fail
 rw [←HW0.out];clear HW0
 have K38:Hid (∀ (x:ByteArray) (r:Nat) (W:World),We w B b e x r W→Calls Tryz.prog 86 #[.int .i64 (IntKind.i64.wrap (66-(e.data.size:Int)))] W fun q w'=>q=.returned (.string (zer (66-e.data.size)))∧We w B b e x r w'∧w'.cell? ⟨w.heap.size,9,none⟩=some (.string e.data)):=by
  intro x r W hW;have q6:IntKind.i64.wrap ((66:Int)-e.data.size)=((66-e.data.size:Nat):Int):=(IntWalk.i64_in _ (by omega)).trans (by omega);rw [q6];exact (zeros_any _ W (by omega)).mono fun q w' ⟨h1,h2⟩=>⟨h1,(hW.below h2),(hW.below h2).cell 9⟩
 go_upto_region 13 with (first
  | (go_at_call 109;(with_reducible refine (K54.out _ _ _ _ S (by omega) (by assumption)).mono ?_);clear S c0 c1 c2 c3 c4 c5 c6 c7 c8 c9 cf;rintro q w1 ⟨rfl,S,c0,c1,c2,c3,c4,c5,c6,c7,c8,c9,cf⟩)
  | (go_at_call 108;(with_reducible refine (K53.out _ _ _ _ _ S (by omega) (by assumption) (by omega)).mono ?_);clear S c0 c1 c2 c3 c4 c5 c6 c7 c8 c9 cf;rintro q w1 ⟨rfl,S,c0,c1,c2,c3,c4,c5,c6,c7,c8,c9,cf⟩))
 have Sd:=S.drew
 go_region_held3 (fun w'=>w'.cell? ⟨w.heap.size,9,none⟩=some (.string e.data)) (first|exact c9|assumption) (first
  | (go_at_call 110;(with_reducible refine (K55.out _ _ _ _ Sd (by omega)).mono ?_);rintro q w13 ⟨rfl,T,d0,d1,d2,d3,d4,d5,d6,d7,d8,d9,df⟩))
 go_wp2_with fail
 have Td:=T.drew;clear S c0 c1 c2 c3 c4 c5 c6 c7 c8 c9 cf Sd
 go_region_held3 (fun w'=>w'.cell? ⟨w.heap.size,9,none⟩=some (.string e.data)) (first|exact d9|assumption) (first
  | (go_at_call 86;(with_reducible refine (K38.out _ _ _ Td).mono ?_);rintro q w14 ⟨rfl,U,u9⟩)
  | (go_at_call 110;(with_reducible refine (K55.out _ _ _ _ U (by rw [zer_size];omega)).mono ?_);rintro q w15 ⟨rfl,V,v0,v1,v2,v3,v4,v5,v6,v7,v8,v9,vf⟩))
 go_wp2_with fail
 go_end0;refine ⟨rfl,?_⟩;have h:=V.s;unfold pb;simp only [Vi.append_assoc3] at h ⊢;exact h
theorem may_any (e:En) (w:World) (ok:e.Ok) :
 Calls Tryz.prog 59 #[ev e] w fun q w'=>q=.returned (.bool (mayB e))∧Below w.heap.size w w':=by
 obtain ⟨W0,hW0⟩:∃ W0,W0=w.alloc (Obj.cells (ec e) 24):=⟨_,rfl⟩;have hb0:Below w.heap.size w W0:=by rw [hW0];exact zba
 have k0:W0.heap[w.heap.size]?=some (.cells (ec e) 24 (0,0)):=by rw [hW0];exact heap_alloc_new w _
 have KR:=zh (fun (W:World)=>right_any e W ok);have KL:=zh (fun (W:World)=>level_any e W);have HW0:=zh hW0;have HB:=zh hb0;have HK:=zh k0;have hlt:w.heap.size<W0.heap.size:=(zgx k0);have HLT:=zh hlt;obtain ⟨rb,hrb⟩:∃ rb,rb=rightB e:=⟨_,rfl⟩;obtain ⟨lv,hlv⟩:∃ lv,lv=lvl e.kind:=⟨_,rfl⟩;have HM:Hid (mayB e=(rb&&(lv==1))):=by show _=_;unfold mayB;rw [←hrb,←hlv]
 have HR:=zh hrb;have HL:=zh hlv;clear hW0 hb0 k0 ok hlt hrb hlv
 cases rb with
 | true =>
   go_enter Tryz.func59,Tryz.ntmps59
   go_wp2_with (first
    | (go_at_call 62;rw [←HW0.out];(with_reducible refine (KR.out _).mono ?_);rintro q w1 ⟨h1,hb1⟩;rw [←HR.out] at h1;subst h1;have k1:w1.heap[w.heap.size]?=some (.cells (ec e) 24 (0,0)):=(hb1.block _ HLT.out).trans HK.out;obtain ⟨c0,c1,c2,c3,c4,c5,c6,c7,c8,c9,c10⟩:=zecl (w:=w1) (b:=w.heap.size) (e:=e) k1;have HB1:=zh (HB.out.trans (hb1.mono HB.out.size));clear k1 hb1)
    | (go_at_call 18;(with_reducible refine (KL.out _).mono ?_);rintro q w2 ⟨h2,hb2⟩;rw [←HL.out] at h2;subst h2;have HB2:=zh (HB1.out.trans (hb2.mono HB1.out.size));clear hb2))
   all_goals
    go_ret;exact ⟨by rw [HM.out];rfl,HB2.out⟩
 | false =>
   go_enter Tryz.func59,Tryz.ntmps59
   go_wp2_with (first
    | (go_at_call 62;rw [←HW0.out];(with_reducible refine (KR.out _).mono ?_);rintro q w1 ⟨h1,hb1⟩;rw [←HR.out] at h1;subst h1;have HB1:=zh (HB.out.trans (hb1.mono HB.out.size));clear hb1))
   go_ret;exact ⟨by rw [HM.out];rfl,HB1.out⟩
end Go.Proofs.YtpdbeijfchmlgaaGreat
