/-
  FrameCodes: part G11.
  Conditions: named in each theorem.
-/
import Derived.Deep.RegionHeld3
import Derived.BigQuiet
import Derived.Test.YtpdbeijfchmlgaaGreatZ0
import Derived.Test.YtpdbeijfchmlgaaGreatG00
import Derived.Test.YtpdbeijfchmlgaaGreatG08
set_option linter.unusedVariables false
set_option linter.unusedSimpArgs false
set_option maxHeartbeats 16000000
set_option maxRecDepth 100000
namespace Go.Proofs.YtpdbeijfchmlgaaGreat
open Go.RowKit
def masks (m:Ms):List Bool :=
 [mfb m.kind,decide (1≤m.frm)&&decide (m.frm≤7),decide (1≤m.dst)&&decide (m.dst≤7),lim (mfl m.kind) 105 m.index 0 18446744073709551615,lim (mfl m.kind) 112 m.prev 0 18446744073709551615,lim (mfl m.kind) 116 m.commit 0 18446744073709551615,lim (mfl m.kind) 107 m.mark 0 18446744073709551615,lim (mfl m.kind) 121 (bitI m.ok) 0 1,lim (mfl m.kind) 101 (IntKind.u64.wrap m.n) 0 64,lim (mfl m.kind) 115 (IntKind.u64.wrap m.snap.size) 0 16384]
def masksB (m:Ms):Bool:=(masks m).all id
def mrightB (m:Ms):Bool:=masksB m&&!hasWrong m.es
theorem all10 (b0 b1 b2 b3 b4 b5 b6 b7 b8 b9:Bool) (W:World) :
 Calls Tryz.prog 52 #[.slice (some ⟨W.heap.size,0,none⟩) 10 10] (W.alloc (.cells #[.bool b0,.bool b1,.bool b2,.bool b3,.bool b4,.bool b5,.bool b6,.bool b7,.bool b8,.bool b9] 4)).drew fun e w'=>e=.returned (.bool ([b0,b1,b2,b3,b4,b5,b6,b7,b8,b9].all id))∧(W.alloc (.cells #[.bool b0,.bool b1,.bool b2,.bool b3,.bool b4,.bool b5,.bool b6,.bool b7,.bool b8,.bool b9] 4)).drew=w' :=
 all_any [b0,b1,b2,b3,b4,b5,b6,b7,b8,b9] 10 10 W.heap.size _ rfl (by omega) (fun j x h=>cells_bools [b0,b1,b2,b3,b4,b5,b6,b7,b8,b9] W j x h)
theorem mright_11 (m:Ms) (w:World) (hE:Ents w.heap.size m.A m.n m.es w) (hn:(m.n:Int)≤9223372036854775807) (hok:∀ e∈m.es,e.Ok) (h1:1≤m.frm) (h2:1≤m.dst) :
 Calls Tryz.prog 50 #[mv m] w fun r w'=>r=.returned (.bool (mrightB m))∧Below w.heap.size w w':=by
 have g1:decide (1≤m.frm)=true:=decide_eq_true h1;have g2:decide (1≤m.dst)=true:=decide_eq_true h2
 have hR:Hid (masksB m=(mfb m.kind&&(decide (m.frm≤7)&&(decide (m.dst≤7)&&(lim (mfl m.kind) 105 m.index 0 18446744073709551615&&(lim (mfl m.kind) 112 m.prev 0 18446744073709551615&&(lim (mfl m.kind) 116 m.commit 0 18446744073709551615&&(lim (mfl m.kind) 107 m.mark 0 18446744073709551615&&(lim (mfl m.kind) 121 (bitI m.ok) 0 1&&(lim (mfl m.kind) 101 (IntKind.u64.wrap m.n) 0 64&&(lim (mfl m.kind) 115 (IntKind.u64.wrap m.snap.size) 0 16384))))))))))):=by
  show _=_
  unfold masksB masks;rw [g1,g2];simp only [List.all_cons,List.all_nil,id,Bool.and_true,Bool.true_and]
 obtain ⟨wr,hW⟩:∃ wr,wr=(w.alloc (Obj.cells (mc m) 29)).alloc (Obj.cells #[Value.string (mfl m.kind)] 9):=⟨_,rfl⟩;have hb:Below w.heap.size w wr:=by rw [hW];exact zba.alloc (by simp) _
 have hwl:w.heap.size<wr.heap.size:=by rw [hW];simp;omega
 have hrow:∀ i,i<11→wr.cell? ⟨w.heap.size,i,none⟩=(mc m)[i]?:=fun i hi=>by
  rw [hW,World.cell?_alloc_lt _ _ _ (by simp),World.cell?_alloc_new]
 have c1:wr.cell? ⟨w.heap.size,1,none⟩=some (.int .i64 m.frm):=hrow 1 (by omega);have c2:wr.cell? ⟨w.heap.size,2,none⟩=some (.int .i64 m.dst):=hrow 2 (by omega);have c4:wr.cell? ⟨w.heap.size,4,none⟩=some (.int .u64 m.index):=hrow 4 (by omega);have c5:wr.cell? ⟨w.heap.size,5,none⟩=some (.int .u64 m.prev):=hrow 5 (by omega);have c6:wr.cell? ⟨w.heap.size,6,none⟩=some (.int .u64 m.commit):=hrow 6 (by omega);have c7:wr.cell? ⟨w.heap.size,7,none⟩=some (.int .u64 m.mark):=hrow 7 (by omega);have c8:wr.cell? ⟨w.heap.size,8,none⟩=some (.bool m.ok):=hrow 8 (by omega);have c9:wr.cell? ⟨w.heap.size,9,none⟩=some (.slice m.A m.n m.c):=hrow 9 (by omega);have c10:wr.cell? ⟨w.heap.size,10,none⟩=some (.string m.snap):=hrow 10 (by omega)
 have cL:wr.cell? ⟨w.heap.size+1,0,none⟩=some (.string (mfl m.kind)):=by
  have h:=World.cell?_alloc_new (w.alloc (Obj.cells (mc m) 29)) #[Value.string (mfl m.kind)] 9 0;rw [show (w.alloc (Obj.cells (mc m) 29)).heap.size=w.heap.size+1 by simp] at h;rw [hW,h];rfl
 have KC:=zh (fun (W:World) (hbW:Below w.heap.size w W)=>contains_any m.A m.n m.c m.es W ((hE.below hbW).mr hbW.size) hn hok);have HW:=zh hW;clear hrow hE hok
 go_enter Tryz.func50,Tryz.ntmps50
 go_wp2_with (first
  | (go_at_call 98;(with_reducible refine (mfields_any m.kind _).mono ?_);rintro r w' ⟨rfl,rfl⟩)
  | (go_at_call 99;(with_reducible refine (limits_any (mfl m.kind) _).mono ?_);rintro r w' ⟨rfl,rfl⟩))
 rw [←hW];clear hW;have cLd:wr.drew.cell? ⟨w.heap.size+1,0,none⟩=some (.string (mfl m.kind)):=cL
 go_region_held3 (fun w'=>w'.cell? ⟨w.heap.size,1,none⟩=some (.int .i64 m.frm)∧w'.cell? ⟨w.heap.size,2,none⟩=some (.int .i64 m.dst)∧w'.cell? ⟨w.heap.size,4,none⟩=some (.int .u64 m.index)∧w'.cell? ⟨w.heap.size,5,none⟩=some (.int .u64 m.prev)∧w'.cell? ⟨w.heap.size,6,none⟩=some (.int .u64 m.commit)∧w'.cell? ⟨w.heap.size,7,none⟩=some (.int .u64 m.mark)∧w'.cell? ⟨w.heap.size,8,none⟩=some (.bool m.ok)∧w'.cell? ⟨w.heap.size,9,none⟩=some (.slice m.A m.n m.c)∧w'.cell? ⟨w.heap.size,10,none⟩=some (.string m.snap)∧w'.cell? ⟨w.heap.size+1,0,none⟩=some (.string (mfl m.kind)))
  (first|exact ⟨c1,c2,c4,c5,c6,c7,c8,c9,c10,cL⟩|go_keep)
  (first
    | (go_at_call 100;(with_reducible refine (bit_any m.ok _).mono ?_);rintro r w' ⟨rfl,rfl⟩)
    | (go_at_call 159;(with_reducible refine (limit_rw (mfl m.kind) _ _ _ _ _ _ (by omega) (by omega) cLd).mono ?_);rintro r w' ⟨rfl,rfl⟩)
    | (go_at_call 52;(with_reducible refine (all10 _ _ _ _ _ _ _ _ _ _ _).mono ?_);rintro r w' ⟨rfl,rfl⟩))
 all_goals
  rw [←hR.out];obtain ⟨w5,h5⟩:∃ w5,w5=(wr.alloc (Obj.cells #[.bool (mfb m.kind),.bool (decide (m.frm≤7)),.bool (decide (m.dst≤7)),.bool (lim (mfl m.kind) 105 m.index 0 18446744073709551615),.bool (lim (mfl m.kind) 112 m.prev 0 18446744073709551615),.bool (lim (mfl m.kind) 116 m.commit 0 18446744073709551615),.bool (lim (mfl m.kind) 107 m.mark 0 18446744073709551615),.bool (lim (mfl m.kind) 121 (bitI m.ok) 0 1),.bool (lim (mfl m.kind) 101 (IntKind.u64.wrap m.n) 0 64),.bool (lim (mfl m.kind) 115 (IntKind.u64.wrap m.snap.size) 0 16384)] 4)).drew:=⟨_,rfl⟩
  have hb5:Below w.heap.size w w5:=by
   rw [h5];exact (hb.alloc hb.size _).drew
  have d9:w5.cell? ⟨w.heap.size,9,none⟩=some (.slice m.A m.n m.c):=by
   rw [h5];exact (World.cell?_alloc_lt wr _ ⟨w.heap.size,9,none⟩ hwl).trans c9
  rw [←h5];have HB5:=zh hb5;have K:=KC.out w5 hb5;have HK:=zh K;clear K h5 hb5 c9 cL cLd;have HM:Hid (mrightB m=(masksB m&&!hasWrong m.es)):=rfl
  cases hp:masksB m with
  | false =>
    have HM2:Hid (mrightB m=false):=by show _=_;rw [HM.out,hp];rfl
    clear hp;go_wp2;go_ret;exact ⟨ret_bool HM2.out.symm,HB5.out⟩
  | true =>
    have HM2:Hid (mrightB m=!hasWrong m.es):=by show _=_;rw [HM.out,hp];rfl
    clear hp
    go_wp2_with (go_at_call 102;(with_reducible refine HK.out.mono ?_);rintro r w6 ⟨rfl,hb6⟩)
    go_ret;exact ⟨ret_bool HM2.out.symm,HB5.out.trans (hb6.mono HB5.out.size)⟩
end Go.Proofs.YtpdbeijfchmlgaaGreat
namespace Go.Proofs.YtpdbeijfchmlgaaGreat
open Go.RowKit
def cut200 (s:ByteArray):ByteArray:=s.extract 0 (min (s.size:Int) 200).toNat
theorem cut200_size (s:ByteArray) (hs:s.size≤140737488351232):(cut200 s).size≤200:=by
 unfold cut200;rw [ByteArray.size_extract];omega
def mks (L:List (En×Bool)):List En:=(L.take 10).map fun p=>mk p.1
def npart (m:Ms) (r:Int) (l:List UInt8) (A:Option Addr) (n c:Nat) (es:List En):Ms :=
 ⟨r,IntKind.u64.wrap m.frm % 7+1,IntKind.u64.wrap m.dst % 7+1,m.term,if hasT l 105 then m.index else 0,if hasT l 112 then m.prev else 0,if hasT l 116 then m.commit else 0,if hasT l 107 then m.mark else 0,if hasT l 121 then m.ok else false,A,n,c,es,if hasT l 115 then cut200 m.snap else ⟨#[]⟩⟩
theorem npart_105 (m:Ms) (r:Int) (l:List UInt8) (x:UInt8) (A:Option Addr) (n c:Nat) (es:List En) (hx:(x.toNat:Int)=105):mc (npart m r (l++[x]) A n c es)=(mc (npart m r l A n c es)).setIfInBounds 4 (.int .u64 m.index):=by
 simp [npart,hasT_snoc,hx]
theorem npart_112 (m:Ms) (r:Int) (l:List UInt8) (x:UInt8) (A:Option Addr) (n c:Nat) (es:List En) (hx:(x.toNat:Int)=112):mc (npart m r (l++[x]) A n c es)=(mc (npart m r l A n c es)).setIfInBounds 5 (.int .u64 m.prev):=by
 simp [npart,hasT_snoc,hx]
theorem npart_116 (m:Ms) (r:Int) (l:List UInt8) (x:UInt8) (A:Option Addr) (n c:Nat) (es:List En) (hx:(x.toNat:Int)=116):mc (npart m r (l++[x]) A n c es)=(mc (npart m r l A n c es)).setIfInBounds 6 (.int .u64 m.commit):=by
 simp [npart,hasT_snoc,hx]
theorem npart_107 (m:Ms) (r:Int) (l:List UInt8) (x:UInt8) (A:Option Addr) (n c:Nat) (es:List En) (hx:(x.toNat:Int)=107):mc (npart m r (l++[x]) A n c es)=(mc (npart m r l A n c es)).setIfInBounds 7 (.int .u64 m.mark):=by
 simp [npart,hasT_snoc,hx]
theorem npart_121 (m:Ms) (r:Int) (l:List UInt8) (x:UInt8) (A:Option Addr) (n c:Nat) (es:List En) (hx:(x.toNat:Int)=121):mc (npart m r (l++[x]) A n c es)=(mc (npart m r l A n c es)).setIfInBounds 8 (.bool m.ok):=by
 simp [npart,hasT_snoc,hx]
theorem npart_115 (m:Ms) (r:Int) (l:List UInt8) (x:UInt8) (A:Option Addr) (n c:Nat) (es:List En) (hx:(x.toNat:Int)=115):mc (npart m r (l++[x]) A n c es)=(mc (npart m r l A n c es)).setIfInBounds 10 (.string (cut200 m.snap)):=by
 simp [npart,hasT_snoc,hx]
theorem npart_101 (m:Ms) (r:Int) (l:List UInt8) (x:UInt8) (A:Option Addr) (n c:Nat) (es:List En) (hx:(x.toNat:Int)=101):mc (npart m r (l++[x]) A n c es)=mc (npart m r l A n c es):=by
 simp [npart,hasT_snoc,hx]
theorem npart_other (m:Ms) (r:Int) (l:List UInt8) (x:UInt8) (A:Option Addr) (n c:Nat) (es:List En) (h:∀ k∈([105,112,116,107,121,115]:List Int),(x.toNat:Int)≠k):mc (npart m r (l++[x]) A n c es)=mc (npart m r l A n c es):=by
 have hh:∀ k∈([105,112,116,107,121,115]:List Int),hasT (l++[x]) k=hasT l k:=fun k hk=>by rw [hasT_snoc,beqF (h k hk),Bool.or_false]
 simp only [npart,mc,hh 105 (by simp),hh 112 (by simp),hh 116 (by simp),hh 107 (by simp),hh 121 (by simp),hh 115 (by simp)]
theorem npart_put (m:Ms) (r:Int) (l:List UInt8) (A A':Option Addr) (n n' c c':Nat) (es es':List En):mc (npart m r l A' n' c' es')=(mc (npart m r l A n c es)).setIfInBounds 9 (.slice A' n' c'):=by
 simp [npart]
def nm (m:Ms) (L:List (En×Bool)) (A:Option Addr) (n c:Nat):Ms :=
 npart m (m.kind % 10+1) (mfl (m.kind % 10+1)).data.toList A n c (if hasL (mfl (m.kind % 10+1)) 101 then mks L else [])
theorem mks_length (L:List (En×Bool)):(mks L).length≤10:=by
 unfold mks;rw [List.length_map,List.length_take];omega
theorem mks_mem {L:List (En×Bool)} (hL:∀ p∈L,p.1.Ok) {e:En} (he:e∈mks L):e.Ok∧rightB e=true∧e.data.size≤64∧e.old.size≤64:=by
 unfold mks at he;obtain ⟨p,hp,rfl⟩:=List.mem_map.1 he;have h:=mk_facts p.1 (hL p (List.mem_of_mem_take hp));exact ⟨h.1,h.2.1,h.2.2.1,h.2.2.2.1⟩
theorem nes_mem {m:Ms} {L:List (En×Bool)} {A:Option Addr} {n c:Nat} (hL:∀ p∈L,p.1.Ok) {e:En} (he:e∈(nm m L A n c).es):e.Ok∧rightB e=true∧e.data.size≤64∧e.old.size≤64:=by
 change e∈(if hasL (mfl (m.kind % 10+1)) 101 then mks L else []) at he
 split at he
 ·exact mks_mem hL he
 ·cases he
theorem nes_length (m:Ms) (L:List (En×Bool)) (A:Option Addr) (n c:Nat):(nm m L A n c).es.length≤10:=by
 show (if hasL (mfl (m.kind % 10+1)) 101 then mks L else []).length≤10
 split
 ·exact mks_length L
 ·simp
theorem nfrom (x:Int):1≤IntKind.u64.wrap x % 7+1∧IntKind.u64.wrap x % 7+1≤7:=by
 have h1:=Int.emod_nonneg (IntKind.u64.wrap x) (show (7:Int)≠0 by omega);have h2:=Int.emod_lt_of_pos (IntKind.u64.wrap x) (show (0:Int)<7 by omega);omega
theorem nkind (x:Int):1≤x % 10+1∧x % 10+1≤10:=by omega
theorem lim_bit (L:ByteArray) (b:Bool):lim L 121 (bitI (if hasL L 121 then b else false)) 0 1=true:=by
 cases h:hasL L 121
 ·exact lim_zero h rfl
 ·refine lim_yes h ?_ ?_<;>cases b<;>decide
theorem lim_n {L:ByteArray} {c:Int} {n:Nat} (h:n≤64) (h2:hasL L c=false→n=0):lim L c (IntKind.u64.wrap (n:Int)) 0 64=true:=by
 rw [u64_id (by omega) (by omega)]
 cases hh:hasL L c
 ·exact lim_zero hh (by rw [h2 hh];rfl)
 ·exact lim_yes hh (by omega) (by omega)
theorem lim_snap {L:ByteArray} {c:Int} {x:ByteArray} (h:x.size≤200):lim L c (IntKind.u64.wrap (((if hasL L c then x else ⟨#[]⟩:ByteArray).size:Nat):Int)) 0 16384=true:=by
 cases hh:hasL L c
 ·rw [if_neg (by simp)];exact lim_zero hh (by decide)
 ·rw [if_pos rfl,u64_id (by omega) (by omega)];exact lim_yes hh (by omega) (by omega)
theorem nm_right (m:Ms) (L:List (En×Bool)) (A:Option Addr) (n c:Nat) (hL:∀ p∈L,p.1.Ok) (hn:(nm m L A n c).es.length=n)
 (i0:0≤m.index) (i1:m.index≤18446744073709551615) (p0:0≤m.prev) (p1:m.prev≤18446744073709551615) (c0:0≤m.commit) (c1:m.commit≤18446744073709551615) (m0:0≤m.mark) (m1:m.mark≤18446744073709551615)
 (hs:m.snap.size≤140737488351232):mrightB (nm m L A n c)=true:=by
 have hw:hasWrong (nm m L A n c).es=false:=by
  unfold hasWrong;rw [List.any_eq_false];intro e he;rw [(nes_mem hL he).2.1]
  simp
 have hk:=nkind m.kind;have hnl:=nes_length m L A n c;rw [hn] at hnl
 have hn0:hasL (mfl (m.kind % 10+1)) 101=false→n=0:=fun h=>by
  have:(nm m L A n c).es=[]:=by
   show (if hasL (mfl (m.kind % 10+1)) 101 then mks L else [])=[]
   rw [h,if_neg (by simp)]
  rw [this] at hn;exact hn.symm
 have hm:masksB (nm m L A n c)=true:=by
  unfold masksB masks;simp only [List.all_cons,List.all_nil,id,Bool.and_true,Bool.and_eq_true];refine ⟨decide_eq_true hk,⟨decide_eq_true (nfrom m.frm).1,decide_eq_true (nfrom m.frm).2⟩,⟨decide_eq_true (nfrom m.dst).1,decide_eq_true (nfrom m.dst).2⟩,lim_if i0 i1,lim_if p0 p1,lim_if c0 c1,lim_if m0 m1,lim_bit _ _,lim_n (n:=n) (by omega) hn0,lim_snap (cut200_size _ hs)⟩
 unfold mrightB;rw [hm,hw];rfl
def mlvl (m:Ms):Int:=if (m.kind==9||m.kind==10||m.es.any fun e=>e.kind==11) then 2 else 1
theorem mlvl_bounds (m:Ms):1≤mlvl m∧mlvl m≤2:=by
 unfold mlvl
 split<;>omega
theorem lvl_two (k:Int):(lvl k==2)=(k==11):=by
 unfold lvl
 by_cases h:k=11
 ·rw [if_pos h,h];rfl
 ·rw [if_neg h,beqF h];rfl
end Go.Proofs.YtpdbeijfchmlgaaGreat
namespace Go.Proofs.YtpdbeijfchmlgaaGreat
open Go.RowKit
def lvE (es:List En):Int:=if es.any fun e=>e.kind==11 then 2 else 1
theorem lvE_snoc (es:List En) (e:En):lvE (es++[e])=max (lvE es) (lvl e.kind):=by
 unfold lvE lvl;rw [List.any_append];simp only [List.any_cons,List.any_nil,Bool.or_false]
 by_cases h:e.kind=11
 ·rw [if_pos h,h]
  cases es.any fun e=>e.kind==11<;>rfl
 ·rw [if_neg h,beqF h]
  cases es.any fun e=>e.kind==11<;>rfl
theorem lvE_or (es:List En):lvE es=1∨lvE es=2:=by
 unfold lvE
 split
 ·exact .inr rfl
 ·exact .inl rfl
theorem lvl_or (k:Int):lvl k=1∨lvl k=2:=by
 unfold lvl
 split
 ·exact .inr rfl
 ·exact .inl rfl
theorem take_snoc {es:List En} {k:Nat} {e:En} (h:es[k]?=some e):es.take (k+1)=es.take k++[e]:=by
 rw [List.take_add_one,h];rfl
theorem mlevel_any (m:Ms) (w:World) (hE:Ents w.heap.size m.A m.n m.es w) (hn:(m.n:Int)≤9223372036854775807) :
 Calls Tryz.prog 20 #[mv m] w fun r w'=>r=.returned (.int .i64 (mlvl m))∧Below w.heap.size w w':=by
 have HE:=zh hE;clear hE
 by_cases h9:m.kind=9
 ·have g9:(m.kind==9)=true:=by simpa using h9
  have hT:Hid (mlvl m=2):=by show _=_;unfold mlvl;rw [g9];rfl
  clear h9
  go_enter Tryz.func20,Tryz.ntmps20
  go_wp2;go_ret;exact ⟨by rw [hT.out];rfl,zba⟩
 ·have g9:(m.kind==9)=false:=beqF h9;clear h9
  by_cases h10:m.kind=10
  ·have g10:(m.kind==10)=true:=by simpa using h10
   have hT:Hid (mlvl m=2):=by show _=_;unfold mlvl;rw [g9,g10];rfl
   clear h10
   go_enter Tryz.func20,Tryz.ntmps20
   go_wp2;go_ret;exact ⟨by rw [hT.out];rfl,zba⟩
  ·have g10:(m.kind==10)=false:=beqF h10;have hT:Hid (mlvl m=lvE m.es):=by show _=_;unfold mlvl;rw [g9,g10];rfl
   clear h10;have hb0:Below w.heap.size w (w.alloc (Obj.cells (mc m) 29)):=zba;have HB0:=zh hb0;clear hb0
   go_enter Tryz.func20,Tryz.ntmps20
   go_wp2
   go_loopw [17,3] (fun i s wr=>∃ k:Nat,k≤m.n∧i=.int .i64 k∧s=.int .i64 (lvE (m.es.take k))∧Below w.heap.size w wr) (fun i _ _=>m.n-(intOf i).toNat)
   case atStart=>exact ⟨0,Nat.zero_le _,rfl,rfl,HB0.out⟩
   case round =>
    obtain ⟨k,hk,rfl,rfl,hb⟩:=hrel
    by_cases hlt:k<m.n
    ·obtain ⟨e,he⟩:∃ e,m.es[k]?=some e:=⟨_,List.getElem?_eq_getElem (by rw [HE.out.len];exact hlt)⟩;obtain ⟨a,hA,hB,hc⟩:=(HE.out.below hb).at_ k e he;have d0:wr.cell? (a.add (k*11))=some (.int .u64 e.term):=hc 0 (by omega);have d1:wr.cell? ⟨(a.add (k*11)).block,(a.add (k*11)).off+1,none⟩=some (.int .u64 e.index):=hc 1 (by omega);have d2:wr.cell? ⟨(a.add (k*11)).block,(a.add (k*11)).off+2,none⟩=some (.int .i64 e.kind):=hc 2 (by omega);have d3:wr.cell? ⟨(a.add (k*11)).block,(a.add (k*11)).off+3,none⟩=some (.int .u64 e.client):=hc 3 (by omega);have d4:wr.cell? ⟨(a.add (k*11)).block,(a.add (k*11)).off+4,none⟩=some (.int .u64 e.seq):=hc 4 (by omega);have d5:wr.cell? ⟨(a.add (k*11)).block,(a.add (k*11)).off+5,none⟩=some (.int .u64 e.block):=hc 5 (by omega);have d6:wr.cell? ⟨(a.add (k*11)).block,(a.add (k*11)).off+6,none⟩=some (.int .u64 e.many):=hc 6 (by omega);have d7:wr.cell? ⟨(a.add (k*11)).block,(a.add (k*11)).off+7,none⟩=some (.int .i64 e.node):=hc 7 (by omega);have d8:wr.cell? ⟨(a.add (k*11)).block,(a.add (k*11)).off+8,none⟩=some (.int .i64 e.level):=hc 8 (by omega);have d9:wr.cell? ⟨(a.add (k*11)).block,(a.add (k*11)).off+9,none⟩=some (.string e.data):=hc 9 (by omega);have d10:wr.cell? ⟨(a.add (k*11)).block,(a.add (k*11)).off+10,none⟩=some (.string e.old):=hc 10 (by omega);have K:=zh (level_any e (wr.alloc (.cells (ec e) 24)));have HB:=zh hb;have hS:Hid (lvE (m.es.take (k+1))=max (lvE (m.es.take k)) (lvl e.kind)):=by show _=_;rw [take_snoc he,lvE_snoc]
     obtain ⟨q,hq⟩:∃ q,q=lvE (m.es.take k):=⟨_,rfl⟩;obtain ⟨p,hp⟩:∃ p,p=lvl e.kind:=⟨_,rfl⟩;have hqo:q=1∨q=2:=by rw [hq];exact lvE_or _
     have hpo:p=1∨p=2:=by rw [hp];exact lvl_or _
     rw [←hq];rw [←hp] at K;have HQ:=zh hq;have HP:=zh hp;clear hb hc he hq hp;rw [hA];clear hA
     rcases hqo with rfl|rfl<;>rcases hpo with rfl|rfl
     all_goals
      go_wp2_with (go_at_call 18;(with_reducible refine K.out.mono ?_);rintro r w1 ⟨rfl,hb1⟩)
      go_roundw
      case rel=>exact ⟨k+1,by omega,by go_num,by rw [hS.out,←HQ.out,←HP.out];first|done|rfl,(HB.out.alloc HB.out.size _).trans (hb1.mono (Nat.le_trans HB.out.size (by simp)))⟩
      case measure=>simp [intOf];omega
    ·have hd:Hid (lvE (m.es.take k)=mlvl m):=by
      show _=_
      rw [hT.out,List.take_of_length_le (by rw [HE.out.len];omega)]
     go_wp2;go_ret;exact ⟨by rw [hd.out];first|done|rfl,hb⟩
theorem mlvl_of (m:Ms):mlvl m=if lvE m.es=2 then 2 else if m.kind=9∨m.kind=10 then 2 else 1:=by
 unfold mlvl lvE
 by_cases h9:m.kind=9
 ·rw [h9]
  cases m.es.any fun e=>e.kind==11<;>rfl
 ·by_cases h10:m.kind=10
  ·rw [h10]
   cases m.es.any fun e=>e.kind==11<;>rfl
  ·rw [beqF h9,beqF h10,if_neg (c:=m.kind=9∨m.kind=10) (by omega)]
   cases m.es.any fun e=>e.kind==11<;>rfl
theorem rmlevel_any (m:Ms) (w:World) (hE:Ents w.heap.size m.A m.n m.es w) (hn:(m.n:Int)≤9223372036854775807) :
 Calls Tryz.prog 78 #[mv m] w fun r w'=>r=.returned (.int .i64 (mlvl m))∧Below w.heap.size w w':=by
 have HE:=zh hE;clear hE;have hb0:Below w.heap.size w (w.alloc (Obj.cells (mc m) 29)):=zba;have HB0:=zh hb0;have hy0:By w.heap.size m 29 (w.alloc (Obj.cells (mc m) 29)):=⟨heap_alloc_new w _⟩;have HY0:=zh hy0;clear hb0 hy0
 go_enter Tryz.func78,Tryz.ntmps78
 go_wp2
 go_loopw [3] (fun i wr=>∃ k:Nat,k≤m.n∧i=.int .i64 k∧Hid (lvE (m.es.take k)=1)∧By w.heap.size m 29 wr∧Below w.heap.size w wr) (fun i _=>m.n-(intOf i).toNat)
 case atStart=>exact ⟨0,Nat.zero_le _,rfl,rfl,HY0.out,HB0.out⟩
 case round =>
  obtain ⟨k,hk,rfl,hK,hY,hb⟩:=hrel;have y9:wr.cell? ⟨w.heap.size,9,none⟩=some (.slice m.A m.n m.c):=hY.cell 9;have y0:wr.cell? ⟨w.heap.size,0,none⟩=some (.int .i64 m.kind):=hY.cell 0;have HY:=zh hY;clear hY
  by_cases hlt:k<m.n
  ·obtain ⟨e,he⟩:∃ e,m.es[k]?=some e:=⟨_,List.getElem?_eq_getElem (by rw [HE.out.len];exact hlt)⟩;obtain ⟨a,hA,hB,hc⟩:=(HE.out.below hb).at_ k e he;have d0:wr.cell? (a.add (k*11))=some (.int .u64 e.term):=hc 0 (by omega);have d1:wr.cell? ⟨(a.add (k*11)).block,(a.add (k*11)).off+1,none⟩=some (.int .u64 e.index):=hc 1 (by omega);have d2:wr.cell? ⟨(a.add (k*11)).block,(a.add (k*11)).off+2,none⟩=some (.int .i64 e.kind):=hc 2 (by omega);have d3:wr.cell? ⟨(a.add (k*11)).block,(a.add (k*11)).off+3,none⟩=some (.int .u64 e.client):=hc 3 (by omega);have d4:wr.cell? ⟨(a.add (k*11)).block,(a.add (k*11)).off+4,none⟩=some (.int .u64 e.seq):=hc 4 (by omega);have d5:wr.cell? ⟨(a.add (k*11)).block,(a.add (k*11)).off+5,none⟩=some (.int .u64 e.block):=hc 5 (by omega);have d6:wr.cell? ⟨(a.add (k*11)).block,(a.add (k*11)).off+6,none⟩=some (.int .u64 e.many):=hc 6 (by omega);have d7:wr.cell? ⟨(a.add (k*11)).block,(a.add (k*11)).off+7,none⟩=some (.int .i64 e.node):=hc 7 (by omega);have d8:wr.cell? ⟨(a.add (k*11)).block,(a.add (k*11)).off+8,none⟩=some (.int .i64 e.level):=hc 8 (by omega);have d9:wr.cell? ⟨(a.add (k*11)).block,(a.add (k*11)).off+9,none⟩=some (.string e.data):=hc 9 (by omega);have d10:wr.cell? ⟨(a.add (k*11)).block,(a.add (k*11)).off+10,none⟩=some (.string e.old):=hc 10 (by omega);have K:=zh (rlevel_any e wr);have HB:=zh hb;have hS:Hid (lvE (m.es.take (k+1))=max (lvE (m.es.take k)) (lvl e.kind)):=by show _=_;rw [take_snoc he,lvE_snoc]
   have hT:Hid (lvl e.kind=2→mlvl m=2):=by
    intro h2
    have h3:lvE m.es=2:=by
     unfold lvE;rw [if_pos];rw [List.any_eq_true];refine ⟨e,List.mem_of_getElem? he,?_⟩;rw [←lvl_two,h2];rfl
    rw [mlvl_of,if_pos h3]
   obtain ⟨p,hp⟩:∃ p,p=lvl e.kind:=⟨_,rfl⟩;have hpo:p=1∨p=2:=by rw [hp];exact lvl_or _
   rw [←hp] at K hS hT;clear hb hc he hp;rw [hA] at y9;clear hA
   rcases hpo with rfl|rfl
   ·go_wp2_with (go_at_call 66;(with_reducible refine K.out.mono ?_);rintro r w1 ⟨rfl,hb1⟩)
    go_roundw
    case rel=>exact ⟨k+1,by omega,by go_num,by show _=_;rw [hS.out,hK.out];rfl,HY.out.below hb1,HB.out.trans (hb1.mono HB.out.size)⟩
    case measure=>simp [intOf];omega
   ·have hT2:=zh (hT.out rfl);clear hT
    go_wp2_with (go_at_call 66;(with_reducible refine K.out.mono ?_);rintro r w1 ⟨rfl,hb1⟩)
    go_ret;exact ⟨by rw [hT2.out];rfl,HB.out.trans (hb1.mono HB.out.size)⟩
  ·have hE1:Hid (lvE m.es=1):=by
    have h:=hK.out;rw [List.take_of_length_le (by rw [HE.out.len];omega)] at h;exact h
   have hM:Hid (mlvl m=if m.kind=9∨m.kind=10 then 2 else 1):=by
    show _=_
    rw [mlvl_of,hE1.out,if_neg (by omega)]
   by_cases h9:m.kind=9
   ·have g9:(m.kind==9)=true:=by simpa using h9
    have hM2:Hid (mlvl m=2):=by show _=_;rw [hM.out,if_pos (.inl h9)]
    clear h9 hM;go_wp2;go_ret;exact ⟨by rw [hM2.out];rfl,hb⟩
   ·have g9:(m.kind==9)=false:=beqF h9
    by_cases h10:m.kind=10
    ·have g10:(m.kind==10)=true:=by simpa using h10
     have hM2:Hid (mlvl m=2):=by show _=_;rw [hM.out,if_pos (.inr h10)]
     clear h9 h10 hM;go_wp2;go_ret;exact ⟨by rw [hM2.out];rfl,hb⟩
    ·have g10:(m.kind==10)=false:=beqF h10;have hM2:Hid (mlvl m=1):=by show _=_;rw [hM.out,if_neg (by omega)]
     clear h9 h10 hM;go_wp2;go_ret;exact ⟨by rw [hM2.out];rfl,hb⟩
end Go.Proofs.YtpdbeijfchmlgaaGreat
namespace Go.Proofs.YtpdbeijfchmlgaaGreat
open Go.RowKit
def preB (es fs:List En) (k:Nat):Bool:=(List.zipWith sameB (es.take k) (fs.take k)).all id
theorem preB_step (es fs:List En) (k:Nat) (e f:En) (he:es[k]?=some e) (hf:fs[k]?=some f):preB es fs (k+1)=(preB es fs k&&sameB e f):=by
 unfold preB;have h1:es.take (k+1)=es.take k++[e]:=by rw [List.take_add_one,he];rfl
 have h2:fs.take (k+1)=fs.take k++[f]:=by rw [List.take_add_one,hf];rfl
 have l1:(es.take k).length=(fs.take k).length:=by
  have:=(List.getElem?_eq_some_iff.1 he).1
  have:=(List.getElem?_eq_some_iff.1 hf).1
  rw [List.length_take,List.length_take];omega
 rw [h1,h2,List.zipWith_append l1,List.all_append]
 simp
def entsB (n k:Nat) (es fs:List En):Bool:=decide (n=k)&&preB es fs n
theorem entsB_len {n k:Nat} {es fs:List En} (h:n≠k):entsB n k es fs=false:=by
 unfold entsB;rw [decide_eq_false h];rfl
theorem preB_stop {es fs:List En} {k n:Nat} (h:preB es fs k=false) (hk:k≤n) (h1:es.length=n) (h2:fs.length=n):preB es fs n=false:=by
 obtain ⟨d,rfl⟩:∃ d,n=k+d:=⟨n-k,by omega⟩
 have hd:∀ j,k+j≤k+d→preB es fs (k+j)=false:=by
  intro j
  induction j with
  | zero=>intro _;exact h
  | succ j ih =>
    intro hj;obtain ⟨e,he⟩:∃ e,es[k+j]?=some e:=⟨_,List.getElem?_eq_getElem (by omega)⟩;obtain ⟨f,hf⟩:∃ f,fs[k+j]?=some f:=⟨_,List.getElem?_eq_getElem (by omega)⟩;rw [show k+(j+1)=(k+j)+1 by omega,preB_step es fs (k+j) e f he hf,ih (by omega)];rfl
 exact hd d (Nat.le_refl _)
end Go.Proofs.YtpdbeijfchmlgaaGreat
namespace Go.Proofs.YtpdbeijfchmlgaaGreat
open Go.RowKit
def scalB (a b:Ms):List Bool:=[a.kind==b.kind,a.frm==b.frm,a.dst==b.dst,a.term==b.term,a.index==b.index,a.prev==b.prev,a.commit==b.commit,a.mark==b.mark,a.ok==b.ok,a.snap.toList==b.snap.toList]
def msameB (a b:Ms):Bool:=(scalB a b).all id&&entsB a.n b.n a.es b.es
structure Dm (w0:World) (a b:Ms) (w:World):Prop where
 x:By w0.heap.size a 29 w
 y:By (w0.heap.size+1) b 29 w
 ex:Ents w.heap.size a.A a.n a.es w
 ey:Ents w.heap.size b.A b.n b.es w
 be:Below w0.heap.size w0 w
section
variable {w0:World} {a b:Ms} {W w1:World}
theorem Dm.on (h:Dm w0 a b W) (hb:Below W.heap.size W w1):Dm w0 a b w1:=⟨h.x.below hb,h.y.below hb,(h.ex.below hb).mr hb.size,(h.ey.below hb).mr hb.size,h.be.trans (hb.mono h.be.size)⟩
theorem Dm.drew (h:Dm w0 a b W):Dm w0 a b W.drew:=⟨⟨h.x.bx⟩,⟨h.y.bx⟩,h.ex.below (Below.refl _ W).drew,h.ey.below (Below.refl _ W).drew,h.be.drew⟩
theorem Dm.all (h:Dm w0 a b W):Dm w0 a b W∧W.cell? ⟨w0.heap.size,0,none⟩=some (.int .i64 a.kind)∧W.cell? ⟨w0.heap.size,1,none⟩=some (.int .i64 a.frm)∧W.cell? ⟨w0.heap.size,2,none⟩=some (.int .i64 a.dst)∧W.cell? ⟨w0.heap.size,3,none⟩=some (.int .u64 a.term)∧W.cell? ⟨w0.heap.size,4,none⟩=some (.int .u64 a.index)∧W.cell? ⟨w0.heap.size,5,none⟩=some (.int .u64 a.prev)∧W.cell? ⟨w0.heap.size,6,none⟩=some (.int .u64 a.commit)∧W.cell? ⟨w0.heap.size,7,none⟩=some (.int .u64 a.mark)∧W.cell? ⟨w0.heap.size,8,none⟩=some (.bool a.ok)∧W.cell? ⟨w0.heap.size,9,none⟩=some (.slice a.A a.n a.c)∧W.cell? ⟨w0.heap.size,10,none⟩=some (.string a.snap)∧W.cell? ⟨w0.heap.size+1,0,none⟩=some (.int .i64 b.kind)∧W.cell? ⟨w0.heap.size+1,1,none⟩=some (.int .i64 b.frm)∧W.cell? ⟨w0.heap.size+1,2,none⟩=some (.int .i64 b.dst)∧W.cell? ⟨w0.heap.size+1,3,none⟩=some (.int .u64 b.term)∧W.cell? ⟨w0.heap.size+1,4,none⟩=some (.int .u64 b.index)∧W.cell? ⟨w0.heap.size+1,5,none⟩=some (.int .u64 b.prev)∧W.cell? ⟨w0.heap.size+1,6,none⟩=some (.int .u64 b.commit)∧W.cell? ⟨w0.heap.size+1,7,none⟩=some (.int .u64 b.mark)∧W.cell? ⟨w0.heap.size+1,8,none⟩=some (.bool b.ok)∧W.cell? ⟨w0.heap.size+1,9,none⟩=some (.slice b.A b.n b.c)∧W.cell? ⟨w0.heap.size+1,10,none⟩=some (.string b.snap):=⟨h,h.x.cell 0,h.x.cell 1,h.x.cell 2,h.x.cell 3,h.x.cell 4,h.x.cell 5,h.x.cell 6,h.x.cell 7,h.x.cell 8,h.x.cell 9,h.x.cell 10,h.y.cell 0,h.y.cell 1,h.y.cell 2,h.y.cell 3,h.y.cell 4,h.y.cell 5,h.y.cell 6,h.y.cell 7,h.y.cell 8,h.y.cell 9,h.y.cell 10⟩
theorem Dm.start (w:World) (a b:Ms) (hx:Ents w.heap.size a.A a.n a.es w) (hy:Ents w.heap.size b.A b.n b.es w):Dm w a b ((w.alloc (Obj.cells (mc a) 29)).alloc (Obj.cells (mc b) 29)):=by
 have hb:Below w.heap.size w ((w.alloc (Obj.cells (mc a) 29)).alloc (Obj.cells (mc b) 29)):=zba.alloc (by simp) _;have h:=heap_alloc_new (w.alloc (Obj.cells (mc a) 29)) (Obj.cells (mc b) 29);rw [show (w.alloc (Obj.cells (mc a) 29)).heap.size=w.heap.size+1 by simp] at h;exact ⟨⟨(Lib.alloc_old _ _ _ (by simp)).trans (heap_alloc_new w _)⟩,⟨h⟩,(hx.below hb).mr hb.size,(hy.below hb).mr hb.size,hb⟩
end
end Go.Proofs.YtpdbeijfchmlgaaGreat
