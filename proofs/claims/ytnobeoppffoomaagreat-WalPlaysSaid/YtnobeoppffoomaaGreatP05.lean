/-
  WalPlays: WShelf Base Has Right RFacts Small.
  Conditions: named in each theorem.
-/
import Derived.Test.YtnobeoppffoomaaGreatP04
import Derived.Test.YtnobeoppffoomaaGreatRows
import Derived.Test.YtnobeoppffoomaaGreatP00
import Derived.WalkKit
import Derived.WalkSpells
import Derived.WalkLawsBesides
import Derived.Lib.Hide
import Derived.Below
import Derived.BigQuiet
import Derived.StillTailTactics
import Derived.Deep.RegionHeld3
import Derived.IntWalk
import Derived.Test.YtnobeoppffoomaaGreatP0
set_option linter.unusedVariables false
set_option linter.unusedSimpArgs false
set_option maxHeartbeats 8000000
set_option maxRecDepth 100000
namespace Go.Proofs
open Go.Shelf
def Tryz.lays166_ren : Go.Shelf.Ren := ⟨fun | 166 => 37 | 240 => 80 | 276 => 109 | n => n, fun | 70 => 79 | 3 => 3 | 0 => 0 | 4 => 4 | 9 => 9 | 20 => 20 | 72 => 81 | 37 => 68 | 164 => 163 | 5 => 5 | 75 => 84 | 80 => 55 | n => n, fun | n => n⟩
theorem Tryz.lays166 : Go.Proofs.Lays.n166 Tryz.prog Tryz.lays166_ren := {
  mixed := by kernel_rfl
  f166 := Tryz.func37.trans (congrArg some (by kernel_rfl))
  f240 := Tryz.func80.trans (congrArg some (by kernel_rfl))
  f276 := Tryz.func109.trans (congrArg some (by kernel_rfl))
  t0 := Tryz.underlying0
  a0 := Tryz.isAgg0
  z0 := Tryz.sizeOf0
  v0 := Tryz.zeroValue0
  t3 := Tryz.underlying3
  a3 := Tryz.isAgg3
  z3 := Tryz.sizeOf3
  v3 := Tryz.zeroValue3
  t4 := Tryz.underlying4
  a4 := Tryz.isAgg4
  z4 := Tryz.sizeOf4
  v4 := Tryz.zeroValue4
  t9 := Tryz.underlying9
  a9 := Tryz.isAgg9
  z9 := Tryz.sizeOf9
  v9 := Tryz.zeroValue9
  t20 := Tryz.underlying20
  a20 := Tryz.isAgg20
  z20 := Tryz.sizeOf20
  v20 := Tryz.zeroValue20
  t37 := Tryz.underlying68
  a37 := Tryz.isAgg68
  z37 := Tryz.sizeOf68
  v37 := Tryz.zeroValue68
  t70 := Tryz.underlying79
  a70 := Tryz.isAgg79
  z70 := Tryz.sizeOf79
  v70 := Tryz.zeroValue79
  t72 := Tryz.underlying81
  a72 := Tryz.isAgg81
  z72 := Tryz.sizeOf81
  v72 := Tryz.zeroValue81
  t75 := Tryz.underlying84
  a75 := Tryz.isAgg84
  z75 := Tryz.sizeOf84
  v75 := Tryz.zeroValue84
  t164 := Tryz.underlying163
  a164 := Tryz.isAgg163
  z164 := Tryz.sizeOf163
  v164 := Tryz.zeroValue163 }
theorem Tryz.Builder_Extra_166 : Builder.Extra Tryz.prog Tryz.lays166_ren := {
  sizeBuilder := by kernel_rfl
  liesBuilder := by kernel_rfl
  t5 := Tryz.underlying5
  a5 := Tryz.isAgg5
  z5 := Tryz.sizeOf5
  v5 := Tryz.zeroValue5
  infoByte := by kernel_rfl
  cellsByte := by kernel_rfl
  sizeByte := by kernel_rfl
  neB5 := by decide }
def Tryz.lays170_ren : Go.Shelf.Ren := ⟨fun | 170 => 40 | n => n, fun | 70 => 79 | 3 => 3 | 0 => 0 | 72 => 81 | 37 => 68 | 5 => 5 | n => n, fun | n => n⟩
theorem Tryz.lays170 : Go.Proofs.Lays.n170 Tryz.prog Tryz.lays170_ren := {
  mixed := by kernel_rfl
  f170 := Tryz.func40.trans (congrArg some (by kernel_rfl))
  t0 := Tryz.underlying0
  a0 := Tryz.isAgg0
  z0 := Tryz.sizeOf0
  v0 := Tryz.zeroValue0
  t3 := Tryz.underlying3
  a3 := Tryz.isAgg3
  z3 := Tryz.sizeOf3
  v3 := Tryz.zeroValue3
  t37 := Tryz.underlying68
  a37 := Tryz.isAgg68
  z37 := Tryz.sizeOf68
  v37 := Tryz.zeroValue68
  t70 := Tryz.underlying79
  a70 := Tryz.isAgg79
  z70 := Tryz.sizeOf79
  v70 := Tryz.zeroValue79
  t72 := Tryz.underlying81
  a72 := Tryz.isAgg81
  z72 := Tryz.sizeOf81
  v72 := Tryz.zeroValue81 }
def Tryz.cloneE_ren : Go.Shelf.Ren := ⟨fun | 41 => 76 | n => n, fun | 22 => 25 | 23 => 28 | 4 => 4 | n => n, fun | n => n⟩
theorem Tryz.cloneE : Go.Proofs.SlLaysE0.n41 Tryz.prog Tryz.cloneE_ren := {
  mixed := by kernel_rfl
  f41 := ⟨Tryz.f76.name, by decide, Tryz.func76.trans (congrArg some (by kernel_rfl))⟩
  t4 := Tryz.underlying4
  a4 := Tryz.isAgg4
  z4 := Tryz.sizeOf4
  v4 := Tryz.zeroValue4
  t22 := Tryz.underlying25
  a22 := Tryz.isAgg25
  z22 := Tryz.sizeOf25
  v22 := Tryz.zeroValue25 }
open Go.RowKit in
theorem Tryz.Builder_WriteString (B b : Nat) (bs : List Value) (s : ByteArray) (w : World) (h : Lib.IsBuilder 81 5 B b bs w) (hlen : bs.length + s.size ≤ 140737488355328) (hBw : B ≤ w.heap.size) :
    Calls Tryz.prog 37 #[.pointer (some ⟨b, 0, none⟩), .string s] w fun e w' => e = .returned (.tuple #[.int .i64 s.size, .nilIface]) ∧ (Lib.BuilderAt 81 5 B b (.pointer (some ⟨b, 0, none⟩)) (bs ++ Lib.strCells s) w' ∧ Below B w w') :=
  Any.Builder_WriteString Tryz.lays166 Tryz.Builder_Extra_166 B b bs s w h hlen hBw
open Go.RowKit in
theorem Tryz.Builder_Len (B b : Nat) (bs : List Value) (w : World) (h : Lib.IsBuilder 81 5 B b bs w) :
    Calls Tryz.prog 40 #[.pointer (some ⟨b, 0, none⟩)] w fun e w' => e = .returned (.int .i64 bs.length) ∧ w' = w :=
  Any.Builder_Len Tryz.lays170 B b bs w h
end Go.Proofs
namespace Go.Proofs.YtnobeoppffoomaaGreat
open Go.RowKit
structure En where
 term:Int
 index:Int
 kind:Int
 client:Int
 seq:Int
 block:Int
 many:Int
 node:Int
 level:Int
 data:ByteArray
 old:ByteArray
abbrev ev (e:En):Value:=.agg #[.int .u64 e.term,.int .u64 e.index,.int .i64 e.kind,.int .u64 e.client,.int .u64 e.seq,.int .u64 e.block,.int .u64 e.many,.int .i64 e.node,.int .i64 e.level,.string e.data,.string e.old]
abbrev ec (e:En):Array Value:=#[.int .u64 e.term,.int .u64 e.index,.int .i64 e.kind,.int .u64 e.client,.int .u64 e.seq,.int .u64 e.block,.int .u64 e.many,.int .i64 e.node,.int .i64 e.level,.string e.data,.string e.old]
def fl (k:Int):ByteArray :=
 if k=1 then ⟨#[99,98,100]⟩ else if k=2 then ⟨#[99,98,109]⟩ else if k=3 then ⟨#[99,109]⟩ else if k=4 then ⟨#[99]⟩
 else if k=5 then ⟨#[110]⟩ else if k=6 then ⟨#[110]⟩ else if k=7 then ⟨#[110,108]⟩ else if k=11 then ⟨#[99,98,100,111]⟩ else ⟨#[]⟩
def fb (k:Int):Bool:=decide (0≤k∧k≤11)
def mfl (k:Int):ByteArray :=
 if k=1 then ⟨#[105,112]⟩ else if k=2 then ⟨#[121]⟩ else if k=3 then ⟨#[105,112]⟩ else if k=4 then ⟨#[121]⟩
 else if k=5 then ⟨#[105,112,116,101,107]⟩ else if k=6 then ⟨#[105,121,107]⟩ else if k=7 then ⟨#[105,112,115]⟩ else if k=8 then ⟨#[105]⟩
 else if k=9 then ⟨#[107]⟩ else if k=10 then ⟨#[107]⟩ else ⟨#[]⟩
theorem kinds_of (k:Int):(k=0∨k=1∨k=2∨k=3∨k=4∨k=5∨k=6∨k=7∨k=8∨k=9∨k=10∨k=11)∨(k<0∨11<k):=by omega
theorem fl_none (k:Int) (h:k<0∨11<k):fl k=⟨#[]⟩:=by
 unfold fl
 rw [if_neg (by omega),if_neg (by omega),if_neg (by omega),if_neg (by omega),if_neg (by omega),if_neg (by omega),if_neg (by omega),if_neg (by omega)]
theorem beqF {a b:Int} (h:a≠b):(a==b)=false:=by simpa using h
theorem fields_any (k:Int) (w:World) :
 Calls Tryz.prog 131 #[.int .i64 k] w fun e w'=>e=.returned (.tuple #[.string (fl k),.bool (fb k)])∧w=w':=by
 rcases kinds_of k with h|h
 ·rcases h with rfl|rfl|rfl|rfl|rfl|rfl|rfl|rfl|rfl|rfl|rfl|rfl
  all_goals
   go_enter Tryz.func131,Tryz.ntmps131
   go_wp2
   go_ret2
   exact ⟨rfl,rfl⟩
 ·have e1:=fl_none k h
  have e2:fb k=false:=by unfold fb;exact decide_eq_false (by omega)
  rw [e1,e2]
  have h0:=beqF (show k≠0 by omega)
  have h1:=beqF (show k≠1 by omega)
  have h2:=beqF (show k≠2 by omega)
  have h3:=beqF (show k≠3 by omega)
  have h4:=beqF (show k≠4 by omega)
  have h5:=beqF (show k≠5 by omega)
  have h6:=beqF (show k≠6 by omega)
  have h7:=beqF (show k≠7 by omega)
  have h8:=beqF (show k≠8 by omega)
  have h9:=beqF (show k≠9 by omega)
  have h10:=beqF (show k≠10 by omega)
  have h11:=beqF (show k≠11 by omega)
  clear h e1 e2
  go_enter Tryz.func131,Tryz.ntmps131
  go_wp2
  go_ret2
  exact ⟨rfl,rfl⟩
theorem rfields_any (k:Int) (w:World) :
 Calls Tryz.prog 34 #[.int .i64 k] w fun e w'=>e=.returned (.tuple #[.string (fl k),.bool (fb k)])∧Below w.heap.size w w':=by
 rcases kinds_of k with h|h
 ·rcases h with rfl|rfl|rfl|rfl|rfl|rfl|rfl|rfl|rfl|rfl|rfl|rfl
  all_goals
   go_enter Tryz.func34,Tryz.ntmps34
   go_wp2
   go_ret2
   exact ⟨rfl,(Below.refl _ _).alloc (Nat.le_refl _) _⟩
 ·have e1:=fl_none k h
  have e2:fb k=false:=by unfold fb;exact decide_eq_false (by omega)
  rw [e1,e2]
  clear e1 e2
  by_cases h0:k<0
  ·clear h
   go_enter Tryz.func34,Tryz.ntmps34
   go_wp2
   go_ret2
   exact ⟨rfl,Below.refl _ _⟩
  ·have h1:11<k:=by omega
   clear h
   go_enter Tryz.func34,Tryz.ntmps34
   go_wp2
   go_ret2
   exact ⟨rfl,Below.refl _ _⟩
end Go.Proofs.YtnobeoppffoomaaGreat
namespace Go.Proofs.YtnobeoppffoomaaGreat
open Go.RowKit
theorem ret_bool {a b:Bool} (h:a=b):Ending.returned (.bool a)=.returned (.bool b):=by rw [h]
def hasL (s:ByteArray) (c:Int):Bool:=s.data.toList.any fun x=>(x.toNat:Int)==c
theorem indexByte_cons (b:UInt8) (l:List UInt8) (c:UInt8):Lib.indexByte (b :: l) c=if b==c then 0 else if Lib.indexByte l c==-1 then -1 else Lib.indexByte l c+1:=rfl
theorem indexByte_has:∀ (l:List UInt8) (c:UInt8),(decide (0≤Lib.indexByte l c))=l.any fun x=>x==c
 | [],c=>rfl
 | b :: l,c=>by
   have ih:=indexByte_has l c
   have hge:=Lib.indexByte_ge l c
   rw [List.any_cons,←ih,indexByte_cons]
   cases hbc:b==c
   ·rw [if_neg (by simp),Bool.false_or]
    by_cases h1:Lib.indexByte l c=-1
    ·rw [h1];rfl
    ·rw [if_neg (by simpa using h1),decide_eq_decide]
     omega
   ·simp
theorem hasL_index (s:ByteArray) (c:Nat) (hc:c<256):decide (0≤Lib.indexByte s.data.toList c.toUInt8)=hasL s c:=by
 rw [indexByte_has]
 unfold hasL
 congr 1
 funext x
 rw [Bool.eq_iff_iff,beq_iff_eq,beq_iff_eq]
 have h1:c.toUInt8.toNat=c:=by simp [Nat.toUInt8,UInt8.toNat_ofNat'];omega
 constructor
 ·rintro rfl;rw [h1]
 ·intro h;rw [←UInt8.toNat_inj,h1];omega
theorem any_take_step0 (l:List UInt8) (k:Nat) (p:UInt8→Bool) (h:k<l.length):(l.take (k+1)).any p=((l.take k).any p||p l[k]):=by
 rw [List.take_succ_eq_append_getElem h,List.any_append]
 simp
theorem any_take_step (s:ByteArray) (k:Nat) (p:UInt8→Bool) (h:k<s.size):(s.data.toList.take (k+1)).any p=((s.data.toList.take k).any p||p s[k]) :=
 any_take_step0 s.data.toList k p (by simpa using h)
theorem mem_ba (s:ByteArray) (k:Nat) (h:k<s.size):s[k]∈s.data.toList:=List.getElem_mem (l:=s.data.toList) (n:=k) (by simpa using h)
theorem has_any (s:ByteArray) (c:Int) (w:World) (hs:s.size≤140737488355328) :
 Calls Tryz.prog 153 #[.string s,.int .u8 c] w fun e w'=>e=.returned (.bool (hasL s c))∧w=w':=by
 go_enter Tryz.func153,Tryz.ntmps153
 go_wp2
 go_loop [5] (fun i=>∃ k:Nat,k≤s.size∧i=.int .i64 k∧Hid ((s.data.toList.take k).any (fun x=>(x.toNat:Int)==c)=false)) (fun i=>s.size-(Go.RowKit.intOf i).toNat)
 case atStart=>exact ⟨0,Nat.zero_le _,rfl,rfl⟩
 case round =>
  obtain ⟨k,hk,rfl,hno⟩:=hrel
  by_cases hlt:k<s.size
  ·have hst:=zh (any_take_step s k (fun x=>(x.toNat:Int)==c) hlt)
   have hmem:=zh (mem_ba s k hlt)
   by_cases hc:((s[k].toNat:Int)==c)=true
   ·have H1:Hid (hasL s c=true):=by
     unfold hasL
     show List.any s.data.toList _=true
     rw [List.any_eq_true]
     exact ⟨s[k],hmem.out,hc⟩
    go_wp2
    go_ret
    exact ⟨ret_bool H1.out.symm,rfl⟩
   ·have hc2:((s[k].toNat:Int)==c)=false:=by simpa using hc
    clear hc
    go_wp2
    go_round
    case rel=>exact ⟨k+1,by omega,by go_num,by show _=_;rw [hst.out,hno.out,Bool.false_or];exact hc2⟩
    case measure=>simp [Go.RowKit.intOf];omega
  ·have H1:Hid (hasL s c=false):=by
    have h2:=hno.out
    rw [List.take_of_length_le (by simp;omega)] at h2
    exact h2
   go_wp2
   go_ret
   exact ⟨ret_bool H1.out.symm,rfl⟩
theorem all_any (l:List Bool) (n c:Nat) (b:Nat) (w:World) (hn:l.length=n) (hl:n≤64) (hc:∀ j x,l[j]?=some x→w.cell? ⟨b,j,none⟩=some (.bool x)) :
 Calls Tryz.prog 133 #[.slice (some ⟨b,0,none⟩) n c] w fun e w'=>e=.returned (.bool (l.all id))∧w=w':=by
 have HC:=zh hc
 clear hc
 have HN:=zh hn
 clear hn
 go_enter Tryz.func133,Tryz.ntmps133
 go_wp2
 go_loop [7] (fun i=>∃ k:Nat,k≤n∧i=.int .i64 k∧Hid ((l.take k).all id=true)) (fun i=>n-(Go.RowKit.intOf i).toNat)
 case atStart=>exact ⟨0,Nat.zero_le _,rfl,rfl⟩
 case round =>
  obtain ⟨k,hk,rfl,hall⟩:=hrel
  by_cases hlt:k<n
  ·have hkl:k<l.length:=by rw [HN.out];exact hlt
   have hcell:=HC.out k _ (List.getElem?_eq_getElem hkl)
   cases hx:l[k] with
   | true =>
     rw [hx] at hcell
     have H1:Hid ((l.take (k+1)).all id=true):=by
      show _=true
      rw [List.take_succ_eq_append_getElem hkl,List.all_append,hall.out,hx];rfl
     clear hx
     go_wp2
     go_round
     case rel=>exact ⟨k+1,by omega,by go_num,H1⟩
     case measure=>simp [Go.RowKit.intOf];omega
   | false =>
     rw [hx] at hcell
     have H1:Hid (l.all id=false):=by
      show _=false
      rw [List.all_eq_false]
      exact ⟨l[k],List.getElem_mem _,by rw [hx];simp⟩
     clear hx
     go_wp2
     go_ret
     exact ⟨ret_bool H1.out.symm,rfl⟩
  ·have H1:Hid (l.all id=true):=by
    have h2:=hall.out
    rw [List.take_of_length_le (by rw [HN.out];omega)] at h2
    exact h2
   go_wp2
   go_ret
   exact ⟨ret_bool H1.out.symm,rfl⟩
def lim (s:ByteArray) (c n lo hi:Int):Bool:=if hasL s c then (decide (lo≤n)&&decide (n≤hi)) else n==0
theorem limit_any (s:ByteArray) (c:Nat) (n lo hi:Int) (a:Addr) (w:World) (hc:c<256) (ha:w.cell? a=some (.string s)) :
 Calls Tryz.prog 170 #[.int .u8 c,.int .u64 n,.int .u64 lo,.int .u64 hi,.pointer (some a)] w fun e w'=>e=.returned (.bool (lim s c n lo hi))∧w=w':=by
 have hq:=hasL_index s c hc
 cases hb:hasL s c with
 | false =>
   have e1:Hid (lim s c n lo hi=(n==0)):=by show _=_;unfold lim;rw [hb,if_neg (by simp)]
   rw [hb] at hq
   have hlt:decide (Lib.indexByte s.data.toList c.toUInt8<0)=true:=by
    have:=of_decide_eq_false hq
    simpa using this
   clear hb hq
   go_enter Tryz.func170,Tryz.ntmps170
   go_wp2_with (go_at_call 171;refine (Tryz.strings_IndexByte s c _).mono ?_;rintro e w' ⟨rfl,rfl⟩)
   all_goals go_ret
   all_goals exact ⟨ret_bool e1.out.symm,rfl⟩
 | true =>
   have e1:Hid (lim s c n lo hi=(decide (lo≤n)&&decide (n≤hi))):=by show _=_;unfold lim;rw [hb,if_pos rfl]
   rw [hb] at hq
   have hlt:decide (Lib.indexByte s.data.toList c.toUInt8<0)=false:=by
    have:=of_decide_eq_true hq
    exact decide_eq_false (by omega)
   clear hb hq
   by_cases h1:lo≤n
   ·have h2:decide (lo≤n)=true:=decide_eq_true h1
    go_enter Tryz.func170,Tryz.ntmps170
    go_wp2_with (go_at_call 171;refine (Tryz.strings_IndexByte s c _).mono ?_;rintro e w' ⟨rfl,rfl⟩)
    all_goals go_ret
    all_goals exact ⟨ret_bool (by rw [e1.out,h2];rfl),rfl⟩
   ·have h2:decide (lo≤n)=false:=decide_eq_false h1
    go_enter Tryz.func170,Tryz.ntmps170
    go_wp2_with (go_at_call 171;refine (Tryz.strings_IndexByte s c _).mono ?_;rintro e w' ⟨rfl,rfl⟩)
    all_goals go_ret
    all_goals exact ⟨ret_bool (by rw [e1.out,h2];rfl),rfl⟩
end Go.Proofs.YtnobeoppffoomaaGreat
namespace Go.Proofs.YtnobeoppffoomaaGreat
open Go.RowKit
structure En.Ok (e:En):Prop where
 t0:0≤e.term
 t1:e.term≤18446744073709551615
 i0:0≤e.index
 i1:e.index≤18446744073709551615
 k0:-9223372036854775808≤e.kind
 k1:e.kind≤9223372036854775807
 c0:0≤e.client
 c1:e.client≤18446744073709551615
 s0:0≤e.seq
 s1:e.seq≤18446744073709551615
 b0:0≤e.block
 b1:e.block≤18446744073709551615
 m0:0≤e.many
 m1:e.many≤18446744073709551615
 n0:-9223372036854775808≤e.node
 n1:e.node≤9223372036854775807
 l0:-9223372036854775808≤e.level
 l1:e.level≤9223372036854775807
 d1:e.data.size≤140737488351232
 o1:e.old.size≤140737488351232
def asks (e:En):List Bool :=
 [fb e.kind,decide (1≤e.term),decide (1≤e.index),lim (fl e.kind) 99 e.client 1 18446744073709551615,lim (fl e.kind) 99 e.seq 0 18446744073709551615,lim (fl e.kind) 98 e.block 0 4294967295,lim (fl e.kind) 109 e.many 0 4294967295,
  lim (fl e.kind) 110 (IntKind.u64.wrap e.node) 1 7,lim (fl e.kind) 108 (IntKind.u64.wrap e.level) 1 2,lim (fl e.kind) 100 (IntKind.u64.wrap e.data.size) 0 64,lim (fl e.kind) 111 (IntKind.u64.wrap e.old.size) 0 64]
def rightB (e:En):Bool:=(asks e).all id
theorem limits_any (s:ByteArray) (w:World) :
 Calls Tryz.prog 132 #[.string s] w fun e w'=>e=.returned (.func (.func 170) #[] #[.pointer (some ⟨w.heap.size,0,none⟩)])∧w'=w.alloc (.cells #[.string s] 9):=by
 have hmf:∀ (fn:Fn) (first cap:Array Value) (w:World),(Instr.makeFunc fn first cap).run Tryz.prog w=.ok (.func fn first cap) w:=fun _ _ _ _=>rfl
 go_enter Tryz.func132,Tryz.ntmps132
 go_wp2
 go_ret
 exact ⟨rfl,rfl⟩
theorem limit_st (s:ByteArray) (c n lo hi:Int) (a:Addr) (w:World) (hc0:0≤c) (hc:c<256) (ha:w.cell? a=some (.string s)) :
 Calls Tryz.prog 170 #[.int .u8 c,.int .u64 n,.int .u64 lo,.int .u64 hi,.pointer (some a)] w fun e w'=>e=.returned (.bool (lim s c n lo hi))∧w'=w:=by
 obtain ⟨m,rfl⟩:∃ m:Nat,c=m:=⟨c.toNat,by omega⟩
 exact (limit_any s m n lo hi a w (by omega) ha).mono fun _ _ ⟨h1,h2⟩=>⟨h1,h2.symm⟩
theorem cells_bools (l:List Bool) (W:World) (j:Nat) (x:Bool) (h:l[j]?=some x):(W.alloc (.cells (l.map Value.bool).toArray 4)).cell? ⟨W.heap.size,j,none⟩=some (.bool x):=by
 rw [World.cell?_alloc_new]
 simp [h]
theorem all11 (b0 b1 b2 b3 b4 b5 b6 b7 b8 b9 b10:Bool) (W:World) :
 Calls Tryz.prog 133 #[.slice (some ⟨W.heap.size,0,none⟩) 11 11] (W.alloc (.cells #[.bool b0,.bool b1,.bool b2,.bool b3,.bool b4,.bool b5,.bool b6,.bool b7,.bool b8,.bool b9,.bool b10] 4)).drew fun e w'=>e=.returned (.bool ([b0,b1,b2,b3,b4,b5,b6,b7,b8,b9,b10].all id))∧(W.alloc (.cells #[.bool b0,.bool b1,.bool b2,.bool b3,.bool b4,.bool b5,.bool b6,.bool b7,.bool b8,.bool b9,.bool b10] 4)).drew=w' :=
 all_any [b0,b1,b2,b3,b4,b5,b6,b7,b8,b9,b10] 11 11 W.heap.size _ rfl (by omega) (fun j x h=>cells_bools [b0,b1,b2,b3,b4,b5,b6,b7,b8,b9,b10] W j x h)
theorem limit_rw (s:ByteArray) (c n lo hi:Int) (a:Addr) (w:World) (hc0:0≤c) (hc:c<256) (ha:w.cell? a=some (.string s)) :
 Calls Tryz.prog 170 #[.int .u8 c,.int .u64 n,.int .u64 lo,.int .u64 hi,.pointer (some a)] w fun e w'=>e=.returned (.bool (lim s c n lo hi))∧w=w' :=
 (limit_st s c n lo hi a w hc0 hc ha).mono fun _ _ ⟨h1,h2⟩=>⟨h1,h2.symm⟩
theorem right_any (e:En) (w:World) (ok:e.Ok) :
 Calls Tryz.prog 106 #[ev e] w fun r w'=>r=.returned (.bool (rightB e))∧Below w.heap.size w w':=by
 have HO:=zh ok
 clear ok
 go_enter Tryz.func106,Tryz.ntmps106
 go_wp2_with (first
  | (go_at_call 131;refine (fields_any e.kind _).mono ?_;rintro r w' ⟨rfl,rfl⟩)
  | (go_at_call 132;refine (limits_any (fl e.kind) _).mono ?_;rintro r w' ⟨rfl,rfl⟩))
 obtain ⟨wr,hW⟩:∃ wr,wr=(w.alloc (Obj.cells (ec e) 28)).alloc (Obj.cells #[Value.string (fl e.kind)] 9):=⟨_,rfl⟩
 have hb:Below w.heap.size w wr:=by rw [hW];exact ((Below.refl _ _).alloc (Nat.le_refl _) _).alloc (by simp) _
 have hrow:∀ i,i<11→wr.cell? ⟨w.heap.size,i,none⟩=(ec e)[i]?:=fun i hi=>by
  rw [hW,World.cell?_alloc_lt _ _ _ (by simp),World.cell?_alloc_new]
 have c0:=hrow 0 (by omega)
 have c1:=hrow 1 (by omega)
 have c3:=hrow 3 (by omega)
 have c4:=hrow 4 (by omega)
 have c5:=hrow 5 (by omega)
 have c6:=hrow 6 (by omega)
 have c7:=hrow 7 (by omega)
 have c8:=hrow 8 (by omega)
 have c9:=hrow 9 (by omega)
 have c10:=hrow 10 (by omega)
 simp only [ec,List.getElem?_toArray,List.getElem?_cons_succ,List.getElem?_cons_zero] at c0 c1 c3 c4 c5 c6 c7 c8 c9 c10
 have cL:wr.cell? ⟨w.heap.size+1,0,none⟩=some (.string (fl e.kind)):=by
  have h:=World.cell?_alloc_new (w.alloc (Obj.cells (ec e) 28)) #[Value.string (fl e.kind)] 9 0
  rw [show (w.alloc (Obj.cells (ec e) 28)).heap.size=w.heap.size+1 by simp] at h
  rw [hW,h]
  rfl
 rw [←hW]
 have HW:=zh hW
 clear hW hrow
 have cLd:wr.drew.cell? ⟨w.heap.size+1,0,none⟩=some (.string (fl e.kind)):=cL
 go_region_held3 (fun w'=>w'.cell? ⟨w.heap.size,0,none⟩=some (.int .u64 e.term)∧w'.cell? ⟨w.heap.size,1,none⟩=some (.int .u64 e.index)∧w'.cell? ⟨w.heap.size,3,none⟩=some (.int .u64 e.client)∧w'.cell? ⟨w.heap.size,4,none⟩=some (.int .u64 e.seq)∧w'.cell? ⟨w.heap.size,5,none⟩=some (.int .u64 e.block)∧w'.cell? ⟨w.heap.size,6,none⟩=some (.int .u64 e.many)∧w'.cell? ⟨w.heap.size,7,none⟩=some (.int .i64 e.node)∧w'.cell? ⟨w.heap.size,8,none⟩=some (.int .i64 e.level)∧w'.cell? ⟨w.heap.size,9,none⟩=some (.string e.data)∧w'.cell? ⟨w.heap.size,10,none⟩=some (.string e.old)∧w'.cell? ⟨w.heap.size+1,0,none⟩=some (.string (fl e.kind)))
  (first|exact ⟨c0,c1,c3,c4,c5,c6,c7,c8,c9,c10,cL⟩|go_keep)
  (first
    | (go_at_call 170;(with_reducible refine (limit_rw (fl e.kind) _ _ _ _ _ _ (by omega) (by omega) cLd).mono ?_);rintro r w' ⟨rfl,rfl⟩)
    | (go_at_call 133;(with_reducible refine (all11 _ _ _ _ _ _ _ _ _ _ _ _).mono ?_);rintro r w' ⟨rfl,rfl⟩))
 all_goals
  have hR:Hid (rightB e=(fb e.kind&&(decide (1≤e.term)&&(decide (1≤e.index)&&(lim (fl e.kind) 99 e.client 1 18446744073709551615&&(lim (fl e.kind) 99 e.seq 0 18446744073709551615&&(lim (fl e.kind) 98 e.block 0 4294967295&&(lim (fl e.kind) 109 e.many 0 4294967295&&(lim (fl e.kind) 110 (IntKind.u64.wrap e.node) 1 7&&(lim (fl e.kind) 108 (IntKind.u64.wrap e.level) 1 2&&(lim (fl e.kind) 100 (IntKind.u64.wrap e.data.size) 0 64&&lim (fl e.kind) 111 (IntKind.u64.wrap e.old.size) 0 64))))))))))):=by
   show _=_
   unfold rightB asks
   simp only [List.all_cons,List.all_nil,id,Bool.and_true]
  have hbD:Below w.heap.size w (wr.alloc (Obj.cells #[Value.bool true] 4)):=hb.alloc hb.size _
  go_wp2
  go_ret
  refine ⟨ret_bool hR.out.symm,?_⟩
  exact ⟨hb.os,hb.tape,hb.output,by have:=hb.size;simp;omega,fun k hk=>(Below.heap_alloc wr _ k (Nat.lt_of_lt_of_le hk hb.size)).trans (hb.block k hk)⟩
end Go.Proofs.YtnobeoppffoomaaGreat
namespace Go.Proofs.YtnobeoppffoomaaGreat
open Go.RowKit
theorem lim_facts {L:ByteArray} {c n lo hi:Int}:lim L c n lo hi=true↔((hasL L c=true→lo≤n∧n≤hi)∧(hasL L c=false→n=0)):=by
 unfold lim
 cases hasL L c<;>simp
structure Asked (e:En):Prop where
 f:fb e.kind=true
 t:1≤e.term
 i:1≤e.index
 c1:hasL (fl e.kind) 99=true→1≤e.client
 c0:hasL (fl e.kind) 99=false→e.client=0
 s0:hasL (fl e.kind) 99=false→e.seq=0
 b1:e.block≤4294967295
 b0:hasL (fl e.kind) 98=false→e.block=0
 m1:e.many≤4294967295
 m0:hasL (fl e.kind) 109=false→e.many=0
 n1:hasL (fl e.kind) 110=true→1≤e.node∧e.node≤7
 n0:hasL (fl e.kind) 110=false→e.node=0
 l1:hasL (fl e.kind) 108=true→1≤e.level∧e.level≤2
 l0:hasL (fl e.kind) 108=false→e.level=0
 d1:(e.data.size:Int)≤64
 d0:hasL (fl e.kind) 100=false→(e.data.size:Int)=0
 o1:(e.old.size:Int)≤64
 o0:hasL (fl e.kind) 111=false→(e.old.size:Int)=0
theorem both {b:Bool} {P:Prop} (h1:b=true→P) (h2:b=false→P):P:=by cases b;exact h2 rfl;exact h1 rfl
theorem asked_iff (e:En) (ok:e.Ok):rightB e=true↔Asked e:=by
 obtain ⟨t0,t1,i0,i1,k0,k1,c0,c1,s0,s1,b0,b1,m0,m1,n0,n1,l0,l1,d1,o1⟩:=ok
 unfold rightB asks
 simp only [List.all_cons,List.all_nil,id,Bool.and_true,Bool.and_eq_true,decide_eq_true_eq,lim_facts,IntKind.wrap_u64]
 constructor
 ·rintro ⟨a0,a1,a2,a3,a4,a5,a6,a7,a8,a9,a10⟩
  constructor
  ·exact a0
  ·exact a1
  ·exact a2
  ·exact fun h=>(a3.1 h).1
  ·exact a3.2
  ·exact a4.2
  ·exact both (fun h=>(a5.1 h).2) (fun h=>by have:=a5.2 h;omega)
  ·exact a5.2
  ·exact both (fun h=>(a6.1 h).2) (fun h=>by have:=a6.2 h;omega)
  ·exact a6.2
  ·exact fun h=>by have:=a7.1 h;omega
  ·exact fun h=>by have:=a7.2 h;omega
  ·exact fun h=>by have:=a8.1 h;omega
  ·exact fun h=>by have:=a8.2 h;omega
  ·exact both (fun h=>by have:=a9.1 h;omega) (fun h=>by have:=a9.2 h;omega)
  ·exact fun h=>by have:=a9.2 h;omega
  ·exact both (fun h=>by have:=a10.1 h;omega) (fun h=>by have:=a10.2 h;omega)
  ·exact fun h=>by have:=a10.2 h;omega
 ·intro A
  have A1:=A.d1
  have A2:=A.o1
  have A3:=A.b1
  have A4:=A.m1
  refine ⟨A.f,A.t,A.i,⟨fun h=>⟨A.c1 h,c1⟩,A.c0⟩,⟨fun h=>⟨s0,s1⟩,A.s0⟩,⟨fun h=>⟨b0,A.b1⟩,A.b0⟩,⟨fun h=>⟨m0,A.m1⟩,A.m0⟩,⟨fun h=>by have:=A.n1 h;omega,fun h=>by have:=A.n0 h;omega⟩,⟨fun h=>by have:=A.l1 h;omega,fun h=>by have:=A.l0 h;omega⟩,⟨fun h=>by omega,fun h=>by have:=A.d0 h;omega⟩,⟨fun h=>by omega,fun h=>by have:=A.o0 h;omega⟩⟩
end Go.Proofs.YtnobeoppffoomaaGreat
namespace Go.Proofs.YtnobeoppffoomaaGreat
open Go.RowKit
structure Bx (B0:Nat) (e:En) (T:TypeId) (w:World):Prop where
 bx:w.heap[B0]?=some (.cells (ec e) T (0,0))
theorem Bx.cell {B0:Nat} {e:En} {T:TypeId} {w:World} (h:Bx B0 e T w) (i:Nat):w.cell? ⟨B0,i,none⟩=(ec e)[i]?:=zcr w _ i _ T (0,0) h.bx
theorem Bx.lt {B0:Nat} {e:En} {T:TypeId} {w:World} (h:Bx B0 e T w):B0<w.heap.size:=(zgx h.bx)
theorem Bx.below {B0:Nat} {e:En} {T:TypeId} {w w1:World} (h:Bx B0 e T w) (hb:Below w.heap.size w w1):Bx B0 e T w1:=⟨(hb.block _ h.lt).trans h.bx⟩
theorem Bx.frozen {B0:Nat} {e:En} {T:TypeId} {w:World} (h:Bx B0 e T w) (i:Nat):w.frozen? ⟨B0,i,none⟩=false:=by
 have:=h.bx
 simp [World.frozen?,this]
structure Ms where
 kind:Int
 frm:Int
 dst:Int
 term:Int
 index:Int
 prev:Int
 commit:Int
 mark:Int
 ok:Bool
 A:Option Addr
 n:Nat
 c:Nat
 es:List En
 snap:ByteArray
def lvl (k:Int):Int:=if k=11 then 2 else 1
theorem level_any (e:En) (w:World):Calls Tryz.prog 127 #[ev e] w fun r w'=>r=.returned (.int .i64 (lvl e.kind))∧Below w.heap.size w w':=by
 by_cases h:e.kind=11
 ·have hT:Hid (lvl e.kind=2):=by show _=_;unfold lvl;rw [if_pos h]
  have h2:(e.kind==11)=true:=by simpa using h
  clear h
  go_enter Tryz.func127,Tryz.ntmps127
  go_wp2
  go_ret
  exact ⟨by rw [hT.out];rfl,(Below.refl _ _).alloc (Nat.le_refl _) _⟩
 ·have hT:Hid (lvl e.kind=1):=by show _=_;unfold lvl;rw [if_neg h]
  have h2:(e.kind==11)=false:=beqF h
  clear h
  go_enter Tryz.func127,Tryz.ntmps127
  go_wp2
  go_ret
  exact ⟨by rw [hT.out];rfl,(Below.refl _ _).alloc (Nat.le_refl _) _⟩
theorem rlevel_any (e:En) (w:World):Calls Tryz.prog 63 #[ev e] w fun r w'=>r=.returned (.int .i64 (lvl e.kind))∧Below w.heap.size w w':=by
 by_cases h:e.kind=11
 ·have hT:Hid (lvl e.kind=2):=by show _=_;unfold lvl;rw [if_pos h]
  have h2:(e.kind==11)=true:=by simpa using h
  clear h
  go_enter Tryz.func63,Tryz.ntmps63
  go_wp2
  go_ret
  exact ⟨by rw [hT.out];rfl,(Below.refl _ _).alloc (Nat.le_refl _) _⟩
 ·have hT:Hid (lvl e.kind=1):=by show _=_;unfold lvl;rw [if_neg h]
  have h2:(e.kind==11)=false:=beqF h
  clear h
  go_enter Tryz.func63,Tryz.ntmps63
  go_wp2
  go_ret
  exact ⟨by rw [hT.out];rfl,(Below.refl _ _).alloc (Nat.le_refl _) _⟩
end Go.Proofs.YtnobeoppffoomaaGreat
