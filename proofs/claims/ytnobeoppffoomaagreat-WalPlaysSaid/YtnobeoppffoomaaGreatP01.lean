/-
  WalPlays: ZBase ZMem ZSmall ZNew ZMp.
  Conditions: named in each theorem.
-/
import Derived.Test.YtnobeoppffoomaaGreatRows
import Derived.WalkKit
import Derived.WalkSpells
import Derived.WalkLawsBesides
import Derived.Lib.Hide
import Derived.Lib.BufferWrite
import Derived.Lib.UnsafeStr
import Derived.Maps.AppendAt
import Derived.Maps.RangeWalk
import Derived.Lib.SlMapMerge
import Derived.Deep.AppendLies
import Derived.Deep.MidRow
import Derived.Deep.WholeRow
import Derived.Deep.RegionHeld3
import Derived.Lib.SlKeysI
import Derived.Test.YtnobeoppffoomaaGreatP0
set_option linter.unusedVariables false
set_option linter.unusedSimpArgs false
set_option maxHeartbeats 8000000
set_option maxRecDepth 100000
namespace Go.Proofs.YtnobeoppffoomaaGreat
open Go.RowKit
namespace Dk
abbrev Sec:=List UInt8
def zsec:Sec:=List.replicate 64 0
def pad (l:List UInt8):Sec:=l++List.replicate (64-l.length) 0
theorem zsec_length:zsec.length=64:=by simp [zsec]
theorem pad_length (l:List UInt8) (h:l.length≤64):(pad l).length=64:=by simp [pad];omega
def txt (l:List UInt8):ByteArray:=⟨l.toArray⟩
theorem txt_size (l:List UInt8):(txt l).size=l.length:=by show l.toArray.size=_;simp
theorem txt_list (l:List UInt8):(txt l).data.toList=l:=by simp [txt]
structure St where
 n:Nat
 fl:Nat→Sec
 wt:Nat→Option Sec
 left:Int
 dead:Bool
structure St.Ok (d:St):Prop where
 n1:1≤d.n
 n2:d.n≤4096
 flen:∀ i,(d.fl i).length=64
 wlen:∀ i s,d.wt i=some s→i<d.n∧s.length=64
 l1:-9223372036854775808≤d.left
 l2:d.left≤9223372036854775807
def St.now (d:St) (i:Nat):Sec:=(d.wt i).getD (d.fl i)
def St.refuses (d:St) (at_:Int):Int:=if d.dead then 7 else if at_<0∨(d.n:Int)≤at_ then 5 else 0
def St.fresh (n:Nat) (F:Nat→Sec):St:=⟨n,F,fun _=>none,-1,false⟩
def St.put (d:St) (i:Nat) (s:Sec):St:={ d with wt:=fun j=>if j=i then some s else d.wt j }
def St.settle (d:St):St:={ d with fl:=d.now,wt:=fun _=>none }
def St.step (d:St):St:={ d with left:=if 0<d.left then d.left-1 else d.left }
def St.arm (d:St) (a:Int):St:={ d with left:=a }
def St.die (d:St):St:={ d with dead:=true }
def St.try_ (d:St) (f:St→St):St×Int :=
 if d.left=0 then (d.die,7) else if d.dead then (d,7) else (f d.step,0)
def St.write (d:St) (at_:Int) (s:List UInt8):St×Int :=
 if d.refuses at_≠0 then (d,d.refuses at_) else if 64<s.length then (d,3) else d.try_ (fun x=>x.put at_.toNat (pad s))
def St.flush (d:St):St×Int:=d.try_ St.settle
def St.after (d:St) (lost:List Int):St:=(St.mk d.n d.fl (fun i=>if (i:Int)∈lost then none else d.wt i) (-1) false).settle
def catS (F:Nat→Sec):Nat→List UInt8
 | 0=>[]
 | k+1=>catS F k++F k
def St.image (d:St):List UInt8:=catS d.now d.n
theorem catS_length (F:Nat→Sec) (h:∀ i,(F i).length=64):∀ k,(catS F k).length=k*64
 | 0=>by simp [catS]
 | k+1=>by rw [catS,List.length_append,catS_length F h k,h];omega
theorem St.Ok.now {d:St} (h:d.Ok) (i:Nat):(d.now i).length=64:=by
 unfold St.now
 cases e:d.wt i with
 | none=>exact h.flen i
 | some s=>exact (h.wlen i s e).2
theorem St.fresh_ok {n:Nat} {F:Nat→Sec} (h1:1≤n) (h2:n≤4096) (hF:∀ i,(F i).length=64):(St.fresh n F).Ok :=
 ⟨h1,h2,hF,(fun _ _ h=>by cases h),(by show (-9223372036854775808:Int)≤-1;decide),(by show (-1:Int)≤_;decide)⟩
theorem St.Ok.put {d:St} (h:d.Ok) {i:Nat} {s:Sec} (hi:i<d.n) (hs:s.length=64):(d.put i s).Ok :=
 ⟨h.n1,h.n2,h.flen,(fun j t e=>by
  change (if j=i then some s else d.wt j)=some t at e
  split at e
  ·cases e;subst j;exact ⟨hi,hs⟩
  ·exact h.wlen j t e),h.l1,h.l2⟩
theorem St.Ok.settle {d:St} (h:d.Ok):d.settle.Ok:=⟨h.n1,h.n2,h.now,(fun _ _ e=>by cases e),h.l1,h.l2⟩
theorem St.Ok.step {d:St} (h:d.Ok):d.step.Ok:=by
 have a:=h.l1
 have b:=h.l2
 refine ⟨h.n1,h.n2,h.flen,h.wlen,?_,?_⟩
 ·show _≤(if 0<d.left then d.left-1 else d.left);split<;>omega
 ·show (if 0<d.left then d.left-1 else d.left)≤_;split<;>omega
theorem St.Ok.die {d:St} (h:d.Ok):d.die.Ok:=⟨h.n1,h.n2,h.flen,h.wlen,h.l1,h.l2⟩
theorem St.Ok.arm {d:St} (h:d.Ok) {a:Int} (h1:-9223372036854775808≤a) (h2:a≤9223372036854775807):(d.arm a).Ok:=⟨h.n1,h.n2,h.flen,h.wlen,h1,h2⟩
theorem St.Ok.after {d:St} (h:d.Ok) (lost:List Int):(d.after lost).Ok :=
 St.Ok.settle ⟨h.n1,h.n2,h.flen,(fun i s e=>by
  change (if (i:Int)∈lost then none else d.wt i)=some s at e
  split at e
  ·cases e
  ·exact h.wlen i s e),(by show (-9223372036854775808:Int)≤-1;decide),(by show (-1:Int)≤_;decide)⟩
theorem St.Ok.write {d:St} (h:d.Ok) (at_:Int) (s:List UInt8):(d.write at_ s).1.Ok:=by
 unfold St.write
 split
 ·exact h
 ·rename_i hr
  split
  ·exact h
  ·rename_i hl
   unfold St.try_
   split
   ·exact h.die
   ·split
    ·exact h
    ·refine h.step.put ?_ (pad_length s (by omega))
     show at_.toNat<d.n
     unfold St.refuses at hr
     split at hr
     ·simp at hr
     ·split at hr
      ·simp at hr
      ·omega
theorem St.Ok.flush {d:St} (h:d.Ok):d.flush.1.Ok:=by
 unfold St.flush St.try_
 split
 ·exact h.die
 ·split
  ·exact h
  ·exact h.step.settle
end Dk
end Go.Proofs.YtnobeoppffoomaaGreat
namespace Go.Proofs.YtnobeoppffoomaaGreat
open Go.RowKit
namespace Dk
def unB:Value→Option UInt8
 | .int .u8 a=>if 0≤a∧a<256 then some (UInt8.ofNat a.toNat) else none
 | _=>none
def unBs:List Value→Option (List UInt8)
 | []=>some []
 | v :: r=>match unB v,unBs r with
   | some b,some l=>some (b :: l)
   | _,_=>none
def secR (v:Value):Option (DataW Unit×List MemPlace) :=
 match v with
 | .agg cs=>match unBs cs.toList with
   | some l=>if l.length=64 then some (.lit (.string l),[]) else none
   | none=>none
 | _=>none
def sv (l:Sec):Value:=.agg (Lib.byteCells l).toArray
theorem unB_of (b:UInt8):unB (.int .u8 (b.toNat:Int))=some b:=by
 have h:b.toNat<256:=b.toNat_lt
 show (if 0≤(b.toNat:Int)∧(b.toNat:Int)<256 then some (UInt8.ofNat (b.toNat:Int).toNat) else none)=some b
 rw [if_pos (by omega)]
 simp
theorem unB_inv {v:Value} {b:UInt8} (h:unB v=some b):v=.int .u8 (b.toNat:Int):=by
 unfold unB at h
 split at h
 ·rename_i a
  split at h
  ·rename_i ha
   cases h
   have:(UInt8.ofNat a.toNat).toNat=a.toNat:=by
    simp [UInt8.toNat_ofNat'];omega
   rw [this,Int.toNat_of_nonneg ha.1]
  ·cases h
 ·cases h
theorem unBs_of:∀ l:List UInt8,unBs (Lib.byteCells l)=some l
 | []=>rfl
 | b :: r=>by
   show unBs (Value.int .u8 (b.toNat:Int) :: Lib.byteCells r)=_
   rw [unBs,unB_of,unBs_of r]
theorem unBs_inv:∀ {vs:List Value} {l:List UInt8},unBs vs=some l→vs=Lib.byteCells l
 | [],l,h=>by cases h;rfl
 | v :: r,l,h=>by
   rw [unBs] at h
   split at h
   ·rename_i b t hb ht
    cases h
    rw [unB_inv hb,unBs_inv ht];rfl
   ·cases h
theorem secR_of {l:Sec} (h:l.length=64):secR (sv l)=some (.lit (.string l),[]):=by
 unfold secR sv
 simp only [unBs_of,if_pos h]
theorem secR_inv {v:Value} {y:DataW Unit×List MemPlace} (h:secR v=some y):∃ l:Sec,l.length=64∧v=sv l∧y=(.lit (.string l),[]):=by
 unfold secR at h
 split at h
 ·rename_i cs
  split at h
  ·rename_i l hl
   split at h
   ·rename_i h64
    cases h
    refine ⟨l,h64,?_,rfl⟩
    unfold sv
    rw [←unBs_inv hl]
   ·cases h
  ·cases h
 ·cases h
def MapIs (D:DataW Unit) (M:Nat→Option Sec):Prop :=
 (∀ i:Int,Maps.has D (.int .i64 i)=(decide (0≤i)&&(M i.toNat).isSome))∧∀ (i:Nat) s,M i=some s→∀ z,D.atKey (.int .i64 (i:Int)) z=.lit (.string s)
def MapAt (w:World) (mb:Nat) (M:Nat→Option Sec):Prop:=∃ D,w.ownsMap Tryz.prog 3 secR mb 4096 D∧MapIs D M
def RowAt (w:World) (fb n:Nat) (F:Nat→Sec):Prop :=
 ∃ cur,w.heap[fb]?=some (.cells cur 106 (0,0))∧n*64≤cur.size∧∀ i,i<n→∀ j,j<64→cur[i*64+j]?=(Lib.byteCells (F i))[j]?
structure DevAt (w:World) (g fb mb cap:Nat) (d:St):Prop where
 blk:w.heap[g]?=some (.cells #[.slice (some ⟨fb,0,none⟩) d.n cap,.map (some mb),.int .i64 d.left,.bool d.dead] 109 (0,0))
 row:RowAt w fb d.n d.fl
 map:MapAt w mb d.wt
 hcap:d.n≤cap
def Dv (w:World) (g:Nat) (L:List Nat) (d:St):Prop:=d.Ok∧∃ fb mb cap,L=[g,fb,mb]∧DevAt w g fb mb cap d
structure Keep (L:List Nat) (w w':World):Prop where
 os:w'.os=w.os
 tape:w'.tape=w.tape
 output:w'.output=w.output
 size:w.heap.size≤w'.heap.size
 block:∀ k,k<w.heap.size→k∉L→w'.heap[k]?=w.heap[k]?
def Fresh (w:World) (L L':List Nat):Prop:=∀ k∈L',k∈L∨w.heap.size≤k
def Moves (g:Nat) (L:List Nat) (d':St) (w w':World):Prop:=∃ L',Dv w' g L' d'∧Keep L w w'∧Fresh w L L'
section
variable {w w' w'':World} {g fb mb cap n:Nat} {L L':List Nat} {d d':St} {F:Nat→Sec} {M:Nat→Option Sec}
theorem Keep.refl (L:List Nat) (w:World):Keep L w w:=⟨rfl,rfl,rfl,Nat.le_refl _,fun _ _ _=>rfl⟩
theorem Keep.of_below (h:Below w.heap.size w w'):Keep L w w':=⟨h.os,h.tape,h.output,h.size,fun k hk _=>h.block k hk⟩
theorem Keep.of_grown {row:Option Nat} (h:w.grownBy w' row) (hr:∀ k,row=some k→k∈L∨w.heap.size≤k):Keep L w w' :=
 ⟨h.os,h.tape,h.output,h.size,fun k hk hL=>h.block k hk (fun e=>(hr k e.symm).elim (fun h1=>hL h1) (fun h1=>by omega))⟩
theorem Keep.trans' (h:Keep L w w') (h':Keep L' w' w'') (hf:Fresh w L L'):Keep L w w'' :=
 ⟨h'.os.trans h.os,h'.tape.trans h.tape,h'.output.trans h.output,Nat.le_trans h.size h'.size,fun k hk hL =>
  (h'.block k (Nat.lt_of_lt_of_le hk h.size) (fun hm=>(hf k hm).elim (fun h1=>hL h1) (fun h1=>by omega))).trans (h.block k hk hL)⟩
theorem Keep.trans (h:Keep L w w') (h':Keep L w' w''):Keep L w w'':=h.trans' h' (fun _ hk=>.inl hk)
theorem Keep.mono (h:Keep L w w') (hs:∀ k∈L,k∈L'):Keep L' w w':=⟨h.os,h.tape,h.output,h.size,fun k hk hn=>h.block k hk (fun hm=>hn (hs k hm))⟩
theorem Keep.below {B:Nat} {a:World} (h:Below B a w) (k:Keep L w w') (hB:B≤w.heap.size) (hL:∀ j∈L,B≤j):Below B a w' :=
 h.trans ⟨k.os,k.tape,k.output,k.size,fun i hi=>k.block i (by omega) (fun hm=>by have:=hL i hm;omega)⟩
theorem Keep.setCell {p:Addr} (hp:p.block∈L) (v:Value):Keep L w (w.setCell p v) :=
 ⟨rfl,rfl,rfl,by simp,fun k _ hk=>heap_setCell_other w p k v (fun e=>hk (e▸hp))⟩
theorem Keep.alloc (o:Obj):Keep L w (w.alloc o):=⟨rfl,rfl,rfl,by simp,fun k hk _=>Below.heap_alloc w o k hk⟩
theorem Fresh.refl (w:World) (L:List Nat):Fresh w L L:=fun _ hk=>.inl hk
theorem Fresh.trans {L'':List Nat} (h:Fresh w L L') (h':Fresh w' L' L'') (hs:w.heap.size≤w'.heap.size):Fresh w L L'':=fun k hk =>
 (h' k hk).elim (fun h1=>h k h1) (fun h1=>.inr (by omega))
theorem Fresh.low {B:Nat} (h:Fresh w L L') (hB:B≤w.heap.size) (hL:∀ j∈L,B≤j):∀ j∈L',B≤j:=fun k hk=>(h k hk).elim (hL k) (fun h1=>by omega)
theorem MapAt.lt (h:MapAt w mb M):mb<w.heap.size:=by obtain ⟨D,h1,_⟩:=h;exact h1.lt
theorem lt_of_heap {k:Nat} {o:Obj} (h:w.heap[k]?=some o):k<w.heap.size:=(zgx h)
theorem RowAt.lt (h:RowAt w fb n F):fb<w.heap.size:=by obtain ⟨_,h1,_⟩:=h;exact lt_of_heap h1
theorem RowAt.of_heap (h:RowAt w fb n F) (he:w'.heap[fb]?=w.heap[fb]?):RowAt w' fb n F:=by
 obtain ⟨cur,h1,h2⟩:=h;exact ⟨cur,he.trans h1,h2⟩
theorem MapAt.of_heap (h:MapAt w mb M) (he:w'.heap[mb]?=w.heap[mb]?):MapAt w' mb M:=by
 obtain ⟨D,⟨es,clock,hb,r⟩,h2⟩:=h;exact ⟨D,⟨es,clock,he.trans hb,r⟩,h2⟩
theorem DevAt.gf (h:DevAt w g fb mb cap d):g≠fb:=by
 obtain ⟨cur,h1,_⟩:=h.row
 rintro rfl
 have:=h.blk.symm.trans h1
 simp at this
theorem DevAt.gm (h:DevAt w g fb mb cap d):g≠mb:=by
 obtain ⟨D,⟨es,clock,hb,_⟩,_⟩:=h.map
 rintro rfl
 have:=h.blk.symm.trans hb
 simp at this
theorem DevAt.fm (h:DevAt w g fb mb cap d):fb≠mb:=by
 obtain ⟨D,⟨es,clock,hb,_⟩,_⟩:=h.map
 obtain ⟨cur,h1,_⟩:=h.row
 rintro rfl
 have:=h1.symm.trans hb
 simp at this
theorem DevAt.of_heap (h:DevAt w g fb mb cap d) (he:∀ k,k=g∨k=fb∨k=mb→w'.heap[k]?=w.heap[k]?):DevAt w' g fb mb cap d :=
 ⟨(he g (.inl rfl)).trans h.blk,h.row.of_heap (he fb (.inr (.inl rfl))),h.map.of_heap (he mb (.inr (.inr rfl))),h.hcap⟩
theorem Dv.lt (h:Dv w g L d):∀ k∈L,k<w.heap.size:=by
 obtain ⟨_,fb,mb,cap,rfl,hd⟩:=h
 intro k hk
 simp at hk
 rcases hk with rfl|rfl|rfl
 ·exact lt_of_heap hd.blk
 ·exact hd.row.lt
 ·exact hd.map.lt
theorem Dv.of_heap (h:Dv w g L d) (he:∀ k∈L,w'.heap[k]?=w.heap[k]?):Dv w' g L d:=by
 obtain ⟨ho,fb,mb,cap,rfl,hd⟩:=h
 exact ⟨ho,fb,mb,cap,rfl,hd.of_heap (fun k hk=>he k (by simpa using hk))⟩
theorem Dv.below (h:Dv w g L d) (hb:Below w.heap.size w w'):Dv w' g L d:=h.of_heap (fun k hk=>hb.block k (h.lt k hk))
theorem Dv.alloc (h:Dv w g L d) (o:Obj):Dv (w.alloc o) g L d:=h.below ((Below.refl _ _).alloc (Nat.le_refl _) o)
theorem Moves.below {B:Nat} {a:World} (h:Moves g L d' w w') (hb:Below B a w) (hB:B≤w.heap.size) (hL:∀ j∈L,B≤j) :
 ∃ L',Dv w' g L' d'∧(∀ j∈L',B≤j)∧Below B a w'∧B≤w'.heap.size∧Keep L w w'∧Fresh w L L':=by
 obtain ⟨L',h1,h2,h3⟩:=h
 exact ⟨L',h1,h3.low hB hL,h2.below hb hB hL,Nat.le_trans hB h2.size,h2,h3⟩
theorem Moves.same (_h:Dv w g L d) (hk:Keep L w w') (hd:Dv w' g L d'):Moves g L d' w w':=⟨L,hd,hk,Fresh.refl _ _⟩
theorem DevAt.c0 (h:DevAt w g fb mb cap d):w.cell? ⟨g,0,none⟩=some (.slice (some ⟨fb,0,none⟩) d.n cap):=zcr w g 0 _ 109 (0,0) h.blk
theorem DevAt.c1 (h:DevAt w g fb mb cap d):w.cell? ⟨g,1,none⟩=some (.map (some mb)):=zcr w g 1 _ 109 (0,0) h.blk
theorem DevAt.c2 (h:DevAt w g fb mb cap d):w.cell? ⟨g,2,none⟩=some (.int .i64 d.left):=zcr w g 2 _ 109 (0,0) h.blk
theorem DevAt.c3 (h:DevAt w g fb mb cap d):w.cell? ⟨g,3,none⟩=some (.bool d.dead):=zcr w g 3 _ 109 (0,0) h.blk
theorem DevAt.fz (h:DevAt w g fb mb cap d) (i:Nat):w.frozen? ⟨g,i,none⟩=false:=frozen_of_row w g i _ 109 h.blk
theorem DevAt.set (h:DevAt w g fb mb cap d) (i:Nat) (v:Value) (cap' mb':Nat) (d':St) (hn:d'.n=d.n) (hf:d'.fl=d.fl)
 (hm:MapAt (w.setCell ⟨g,i,none⟩ v) mb' d'.wt) (hc:d'.n≤cap')
 (he:(#[.slice (some ⟨fb,0,none⟩) d.n cap,.map (some mb),.int .i64 d.left,.bool d.dead]:Array Value).setIfInBounds i v=#[.slice (some ⟨fb,0,none⟩) d'.n cap',.map (some mb'),.int .i64 d'.left,.bool d'.dead]) :
 DevAt (w.setCell ⟨g,i,none⟩ v) g fb mb' cap' d' :=
 ⟨by rw [←he];exact heap_setCell_same w g i _ 109 v h.blk,by rw [hn,hf];exact h.row.of_heap (heap_setCell_other w ⟨g,i,none⟩ fb v h.gf.symm),hm,hc⟩
theorem DevAt.set2 (h:DevAt w g fb mb cap d) (x:Int):DevAt (w.setCell ⟨g,2,none⟩ (.int .i64 x)) g fb mb cap { d with left:=x } :=
 h.set 2 _ cap mb { d with left:=x } rfl rfl (h.map.of_heap (heap_setCell_other w ⟨g,2,none⟩ mb _ h.gm.symm)) h.hcap rfl
theorem DevAt.set3 (h:DevAt w g fb mb cap d) (x:Bool):DevAt (w.setCell ⟨g,3,none⟩ (.bool x)) g fb mb cap { d with dead:=x } :=
 h.set 3 _ cap mb { d with dead:=x } rfl rfl (h.map.of_heap (heap_setCell_other w ⟨g,3,none⟩ mb _ h.gm.symm)) h.hcap rfl
theorem RowAt.range (h:RowAt w fb n F) (hF:∀ i,(F i).length=64) (i:Nat) (hi:i<n):w.rangeAt fb (i*64) (Lib.byteCells (F i)):=by
 obtain ⟨cur,h1,h2,h3⟩:=h
 intro j v hv
 have hj:j<64:=by have:=(List.getElem?_eq_some_iff.1 hv).1;rw [Lib.byteCells_length,hF] at this;exact this
 rw [zcr w fb _ cur 106 (0,0) h1,h3 i hi j hj,hv]
theorem RowAt.there (h:RowAt w fb n F) (i:Nat) (hi:i<n):w.there fb (i*64) 64:=by
 obtain ⟨cur,h1,h2,h3⟩:=h
 intro j hj
 rw [zcr w fb _ cur 106 (0,0) h1,frozen_of_row w fb _ cur 106 h1]
 exact ⟨by rw [Array.getElem?_eq_getElem (by omega)];rfl,rfl⟩
end
end Dk
end Go.Proofs.YtnobeoppffoomaaGreat
namespace Go.Proofs.YtnobeoppffoomaaGreat
open Go.RowKit Dk
def ptr (g:Nat):Value:=.pointer (some ⟨g,0,none⟩)
theorem refuses_dead (g:Nat) (L:List Nat) (d:St) (at_:Int) (w:World) (h:Dv w g L d) (hd:d.dead=true) :
 Calls Tryz.prog 71 #[ptr g,.int .i64 at_] w fun e w'=>e=.returned (.int .i64 7)∧w=w':=by
 obtain ⟨ho,fb,mb,cap,rfl,h⟩:=h
 have c3:=h.c3
 rw [hd] at c3
 clear h hd
 unfold ptr
 go_enter Tryz.func71,Tryz.ntmps71
 go_wp2
 go_ret
 exact ⟨rfl,rfl⟩
theorem refuses_no (g:Nat) (L:List Nat) (d:St) (at_:Int) (w:World) (h:Dv w g L d) (hd:d.dead=false) (ha:at_<0∨(d.n:Int)≤at_) :
 Calls Tryz.prog 71 #[ptr g,.int .i64 at_] w fun e w'=>e=.returned (.int .i64 5)∧w=w':=by
 obtain ⟨ho,fb,mb,cap,rfl,h⟩:=h
 have c3:=h.c3
 have c0:=h.c0
 rw [hd] at c3
 clear h hd
 generalize d.n=n at *
 unfold ptr
 by_cases h0:at_<0
 ·clear ha
  have h0':decide (at_<0)=true:=decide_eq_true h0
  go_enter Tryz.func71,Tryz.ntmps71
  go_wp2
  go_ret
  exact ⟨rfl,rfl⟩
 ·have h1:(n:Int)≤at_:=by omega
  clear ha
  have h0':decide (at_<0)=false:=decide_eq_false h0
  go_enter Tryz.func71,Tryz.ntmps71
  go_wp2
  go_ret
  exact ⟨rfl,rfl⟩
theorem refuses_yes (g:Nat) (L:List Nat) (d:St) (at_:Int) (w:World) (h:Dv w g L d) (hd:d.dead=false) (h0:0≤at_) (h1:at_<d.n) :
 Calls Tryz.prog 71 #[ptr g,.int .i64 at_] w fun e w'=>e=.returned (.int .i64 0)∧w=w':=by
 obtain ⟨ho,fb,mb,cap,rfl,h⟩:=h
 have c3:=h.c3
 have c0:=h.c0
 rw [hd] at c3
 clear h hd
 generalize d.n=n at *
 unfold ptr
 have h0':decide (at_<0)=false:=decide_eq_false (by omega)
 go_enter Tryz.func71,Tryz.ntmps71
 go_wp2
 go_ret
 exact ⟨rfl,rfl⟩
theorem refuses_any (g:Nat) (L:List Nat) (d:St) (at_:Int) (w:World) (h:Dv w g L d) :
 Calls Tryz.prog 71 #[ptr g,.int .i64 at_] w fun e w'=>e=.returned (.int .i64 (d.refuses at_))∧w=w':=by
 unfold St.refuses
 cases hd:d.dead
 ·by_cases ha:at_<0∨(d.n:Int)≤at_
  ·rw [if_neg (by decide),if_pos ha];exact refuses_no g L d at_ w h hd ha
  ·rw [if_neg (by decide),if_neg ha];exact refuses_yes g L d at_ w h hd (by omega) (by omega)
 ·rw [if_pos rfl];exact refuses_dead g L d at_ w h hd
theorem arm_any (g:Nat) (L:List Nat) (d:St) (a:Int) (w:World) (h:Dv w g L d) (h1:-9223372036854775808≤a) (h2:a≤9223372036854775807) :
 Calls Tryz.prog 56 #[ptr g,.int .i64 a] w fun e w'=>e=.returned (.tuple #[])∧Moves g L (d.arm a) w w':=by
 obtain ⟨ho,fb,mb,cap,rfl,h⟩:=h
 have c2:=h.c2
 have f2:=h.fz 2
 have hD:=h.set2 a
 have HD:=zh hD
 clear h hD
 unfold ptr
 go_enter Tryz.func56,Tryz.ntmps56
 go_wp2
 go_end0
 exact ⟨rfl,[g,fb,mb],⟨ho.arm h1 h2,fb,mb,cap,rfl,HD.out⟩,Keep.setCell (p:=⟨g,2,none⟩) (by simp) _,Fresh.refl _ _⟩
theorem attempt_zero (g:Nat) (L:List Nat) (d:St) (f:Value) (w:World) (h:Dv w g L d) (hl:d.left=0) :
 Calls Tryz.prog 70 #[ptr g,f] w fun e w'=>e=.returned (.int .i64 7)∧Moves g L d.die w w':=by
 obtain ⟨ho,fb,mb,cap,rfl,h⟩:=h
 have c2:=h.c2
 rw [hl] at c2
 have f3:=h.fz 3
 have c3':(w.setCell ⟨g,3,none⟩ (.bool true)).cell? ⟨g,3,none⟩=some (.bool true):=(h.set3 true).c3
 have c3:=h.c3
 have hD:=h.set3 true
 have HD:=zh hD
 clear h hD hl
 unfold ptr
 go_enter Tryz.func70,Tryz.ntmps70
 go_wp2
 go_ret
 exact ⟨rfl,[g,fb,mb],⟨ho.die,fb,mb,cap,rfl,HD.out⟩,Keep.setCell (p:=⟨g,3,none⟩) (by simp) _,Fresh.refl _ _⟩
theorem attempt_dead (g:Nat) (L:List Nat) (d:St) (f:Value) (w:World) (h:Dv w g L d) (hl:d.left≠0) (hd:d.dead=true) :
 Calls Tryz.prog 70 #[ptr g,f] w fun e w'=>e=.returned (.int .i64 7)∧w=w':=by
 obtain ⟨ho,fb,mb,cap,rfl,h⟩:=h
 have c2:=h.c2
 have c3:=h.c3
 rw [hd] at c3
 have hl':(d.left==0)=false:=by simpa using hl
 clear h hd
 generalize d.left=l at *
 unfold ptr
 go_enter Tryz.func70,Tryz.ntmps70
 go_wp2
 go_ret
 exact ⟨rfl,rfl⟩
theorem attempt_go (F:Nat) (hF:F=50∨F=72) (g:Nat) (L:List Nat) (d:St) (bs cs:Array Value) (w:World) (h:Dv w g L d) (hl:d.left≠0) (hd:d.dead=false) (R:World→Prop)
 (hsz:(F=50∧bs=#[ptr g]∧cs=#[])∨(F=72∧bs=#[]∧∃ a b c,cs=#[a,b,c]))
 (hdo:∀ w1,Dv w1 g L d.step→Keep L w w1→w1.heap.size=w.heap.size→Calls Tryz.prog F (bs++cs) w1 fun e w'=>e=.returned (.tuple #[])∧R w') :
 Calls Tryz.prog 70 #[ptr g,.func (.func F) bs cs] w fun e w'=>e=.returned (.int .i64 0)∧R w':=by
 obtain ⟨ho,fb,mb,cap,rfl,h⟩:=h
 have c2:=h.c2
 have c3:=h.c3
 have f2:=h.fz 2
 rw [hd] at c3
 have hl':(d.left==0)=false:=by simpa using hl
 have o1:=ho.l1
 have o2:=ho.l2
 have key:∃ w1,(if 0<d.left then w.setCell ⟨g,2,none⟩ (.int .i64 (d.left-1)) else w)=w1∧Calls Tryz.prog F (bs++cs) w1 fun e w'=>e=.returned (.tuple #[])∧R w':=by
  refine ⟨_,rfl,hdo _ ?_ ?_ ?_⟩
  ·refine ⟨ho.step,fb,mb,cap,rfl,?_⟩
   unfold St.step
   split
   ·exact h.set2 _
   ·exact h
  ·split
   ·exact Keep.setCell (p:=⟨g,2,none⟩) (by simp) _
   ·exact Keep.refl _ _
  ·split
   ·simp
   ·rfl
 obtain ⟨w1,hw1,HC0⟩:=key
 have HC:=zh HC0
 clear h hd hdo HC0 ho hl
 generalize d.left=l at *
 unfold ptr at *
 rcases hsz with ⟨rfl,rfl,rfl⟩|⟨rfl,rfl,a,b,c,rfl⟩
 all_goals
  by_cases hp:0<l
  ·have hp':decide (0<l)=true:=decide_eq_true hp
   rw [if_pos hp] at hw1
   have HW:=zh hw1
   clear hw1
   go_enter Tryz.func70,Tryz.ntmps70
   go_wp2_with fail
   rw [HW.out]
   refine HC.out.mono ?_
   rintro e w2 ⟨rfl,hR⟩
   go_wp2
   go_ret
   exact ⟨rfl,hR⟩
  ·have hp':decide (0<l)=false:=decide_eq_false hp
   rw [if_neg hp] at hw1
   subst hw1
   go_enter Tryz.func70,Tryz.ntmps70
   go_wp2_with fail
   refine HC.out.mono ?_
   rintro e w2 ⟨rfl,hR⟩
   go_wp2
   go_ret
   exact ⟨rfl,hR⟩
end Go.Proofs.YtnobeoppffoomaaGreat
namespace Go.Proofs.YtnobeoppffoomaaGreat
open Go.RowKit Dk
theorem mapIs_empty:MapIs (.map []:DataW Unit) (fun _=>none) :=
 ⟨fun i=>by simp [Maps.has],fun _ _ h=>by cases h⟩
theorem mapAt_made (w:World):MapAt (w.alloc (.map #[] 0)) w.heap.size (fun _=>none) :=
 ⟨.map [],(World.ownsMap_made w _ _ _).mono (Nat.zero_le _),mapIs_empty⟩
theorem whole_any (n:Nat) (F:Nat→Sec) (fb cap:Nat) (w:World) (h1:1≤n) (h2:n≤4096) (hF:∀ i,(F i).length=64) (hr:RowAt w fb n F) (hc:n≤cap) :
 Calls Tryz.prog 47 #[.slice (some ⟨fb,0,none⟩) n cap] w fun e w'=>∃ g L,e=.returned (ptr g)∧Dv w' g L (St.fresh n F)∧(∀ k∈L,k=fb∨w.heap.size≤k)∧Below w.heap.size w w':=by
 have hmm:=@run_makeMap Tryz.prog
 have hok:=St.fresh_ok h1 h2 hF
 have hm:=mapAt_made w
 have HR:=zh hr
 have HF:=zh hF
 clear hr hF
 go_enter Tryz.func47,Tryz.ntmps47
 go_wp2
 go_ret
 refine ⟨w.heap.size+1,[w.heap.size+1,fb,w.heap.size],rfl,⟨hok,fb,w.heap.size,cap,rfl,?_⟩,?_,?_⟩
 ·have hlt:=HR.out.lt
  refine ⟨?_,(HR.out.of_heap (Below.heap_alloc w _ fb hlt)).of_heap (Below.heap_alloc _ _ fb (by simp;omega)),hm.of_heap (Below.heap_alloc _ _ _ (by simp)),hc⟩
  exact heap_alloc2_new w _ _
 ·intro k hk
  simp at hk
  omega
 ·exact ((Below.refl _ w).alloc (Nat.le_refl _) _).alloc (by simp) _
theorem Tryz.info106:(Tryz.prog.info? 106).map (fun i=>(i.zero,i.size,i.bytes))=some (some (sv zsec),64,64):=by kernel_rfl
theorem madeCells_get (z:Array Value) (n k:Nat) (h:k<n):(madeCells z n)[k]?=some (z[k % z.size]!):=by
 unfold madeCells
 simp [h]
theorem rowAt_of_own {w:World} {B n:Nat} {v:Value} {xs:List Value} {F:Nat→Sec} (h:w.ownsRow B 106 64 v n xs) (hn:1≤n) (hx:∀ i,i<n→∀ j,j<64→xs[i*64+j]?=(Lib.byteCells (F i))[j]?) :
 ∃ fb cap,v=.slice (some ⟨fb,0,none⟩) n cap∧B≤fb∧n≤cap∧RowAt w fb n F:=by
 obtain ⟨hl,h⟩:=h
 rcases h with ⟨hv,h0⟩|⟨g,c,cur,hv,hb,hh,h1,h2,h3,h4⟩
 ·omega
 ·refine ⟨g,c,hv,hb,h1,cur,hh,by rw [h3];exact Nat.mul_le_mul_right _ h1,fun i hi j hj=>?_⟩
  have hk:i*64+j<n*64:=by
   have:(i+1)*64≤n*64:=Nat.mul_le_mul_right _ hi
   omega
  rw [←hx i hi j hj,←h4,List.getElem?_take,if_pos hk,Array.getElem?_toList]
theorem rowAt_made {w:World} {B n:Nat} {v:Value} (h:w.ownsRow B 106 64 v n (madeCells (sv zsec).cells (n*64)).toList) (hn:1≤n) :
 ∃ fb cap,v=.slice (some ⟨fb,0,none⟩) n cap∧B≤fb∧n≤cap∧RowAt w fb n (fun _=>zsec):=by
 refine rowAt_of_own h hn (fun i hi j hj=>?_)
 have hk:i*64+j<n*64:=by
  have:(i+1)*64≤n*64:=Nat.mul_le_mul_right _ hi
  omega
 have hz:(sv zsec).cells.size=64:=by
  show ((Lib.byteCells zsec).toArray).size=64
  simp [zsec_length,Lib.byteCells_length]
 have hlen:(Lib.byteCells zsec).length=64:=by rw [Lib.byteCells_length,zsec_length]
 have hm:(i*64+j) % 64=j:=by omega
 rw [Array.getElem?_toList,madeCells_get _ _ _ hk,hz,hm]
 show some ((Lib.byteCells zsec).toArray[j]!)=_
 rw [List.getElem?_eq_getElem (by omega)]
 simp [hlen,hj]
theorem new_yes (n:Nat) (w:World) (h1:1≤n) (h2:n≤4096) :
 Calls Tryz.prog 18 #[.int .i64 n] w fun e w'=>∃ g L,e=.returned (.tuple #[ptr g,.int .i64 0])∧Dv w' g L (St.fresh n (fun _=>zsec))∧(∀ k∈L,w.heap.size≤k)∧Below w.heap.size w w':=by
 obtain ⟨i0,hi,hz0,hz1,hz2⟩:=info_parts Tryz.info106
 have h0':decide ((n:Int)<1)=false:=decide_eq_false (by omega)
 have h1':decide (4096<(n:Int))=false:=decide_eq_false (by omega)
 go_enter Tryz.func18,Tryz.ntmps18
 go_wp2_with (at_make;refine wpList_make_full _ rfl _ _ 99 rfl w.heap.size 106 i0 (sv zsec) 64 Tryz.underlying99 hi hz0 hz1 .i64 .i64 _ _ n rfl rfl rfl rfl (by rw [hz2];omega) (by unfold maxLen;omega) (Nat.le_refl _) ?_;intro w0 hown0 hgrow0)
 obtain ⟨fb,cap,hv,hfb,hcap,hr⟩:=rowAt_made hown0 h1
 injection hv with e1 e2 e3
 injection e1 with e1
 injection e1 with e1
 subst e1
 subst e3
 clear e2
 have hb0:Below w.heap.size w w0:=(Below.refl _ _).grown hgrow0 (Nat.le_refl _) (by simp)
 clear hown0 hgrow0
 go_wp2_with fail
 refine (whole_any n _ w.heap.size n w0 h1 h2 (fun _=>zsec_length) hr hcap).mono ?_
 rintro e w1 ⟨g,L,rfl,hD,hL,hb1⟩
 go_wp2
 go_ret2
 exact ⟨g,L,rfl,hD,(fun k hk=>(hL k hk).elim (fun e=>by omega) (fun e=>Nat.le_trans hb0.size e)),hb0.trans (hb1.mono hb0.size)⟩
end Go.Proofs.YtnobeoppffoomaaGreat
namespace Go.Proofs.YtnobeoppffoomaaGreat
open Go.RowKit Dk
theorem law3:Maps.Keyed Tryz.prog 3:=Maps.int_keyed Tryz.underlying3
theorem isKey_i64 (i:Int):WideAt.IsKeyLit (.int .i64 i):=trivial
def Dk.wl (M:Nat→Option Sec) (n:Nat):List Nat:=(List.range n).filter fun i=>(M i).isSome
theorem nodup_map_cast {l:List Nat} (h:l.Nodup):(l.map fun (i:Nat)=>(i:Int)).Nodup:=by
 unfold List.Nodup at *
 rw [List.pairwise_map]
 exact h.imp (fun hne e=>hne (Int.ofNat.inj e))
theorem wl_nodup (M:Nat→Option Sec) (n:Nat):(Dk.wl M n).Nodup:=List.Pairwise.filter _ List.nodup_range
theorem keys_perm {w:World} {mb k n:Nat} {D:DataW Unit} {M:Nat→Option Sec} (h:w.ownsMap Tryz.prog 3 secR mb k D) (hM:MapIs D M) (hn:∀ i s,M i=some s→i<n) :
 ((Dk.wl M n).map fun (i:Nat)=>(i:Int)).Perm (intKeys D):=by
 obtain ⟨es,rfl,hp,hk⟩:=h.entries law3
 have hk2:∀ p∈es,∃ x,p.1=.int .i64 x:=by
  obtain ⟨es',he,_,hK⟩:=h.canonK law3
  cases he
  intro p hp
  obtain ⟨v,hv⟩:=hK p hp
  obtain ⟨x,_,hx,_⟩:=Maps.keyOf_i64 Tryz.underlying3 hv
  exact ⟨x,hx⟩
 refine perm_intKeys hp hk2 (nodup_map_cast (wl_nodup M n)) (fun x=>?_)
 rw [hM.1 x]
 simp only [List.mem_map,Dk.wl,List.mem_filter,List.mem_range,Bool.and_eq_true,decide_eq_true_eq]
 constructor
 ·rintro ⟨i,⟨_,hi⟩,rfl⟩
  exact ⟨by omega,by simpa using hi⟩
 ·rintro ⟨h0,hs⟩
  obtain ⟨s,hs'⟩:=Option.isSome_iff_exists.1 hs
  exact ⟨x.toNat,⟨hn _ _ hs',hs⟩,by omega⟩
theorem size_keys (D:DataW Unit):(intKeys D).length=Maps.size D:=by
 cases D<;>simp [intKeys,Maps.size]
theorem wl_length (M:Nat→Option Sec) (n:Nat):(Dk.wl M n).length≤n:=by
 have:=List.length_filter_le (fun i=>(M i).isSome) (List.range n)
 rw [List.length_range] at this
 exact this
theorem mapSize_le {w:World} {mb k n:Nat} {D:DataW Unit} {M:Nat→Option Sec} (h:w.ownsMap Tryz.prog 3 secR mb k D) (hM:MapIs D M) (hn:∀ i s,M i=some s→i<n):Maps.size D≤n:=by
 have:=(keys_perm h hM hn).length_eq
 rw [List.length_map,size_keys] at this
 rw [←this]
 exact wl_length M n
theorem owns_tight {w:World} {mb k n:Nat} {D:DataW Unit} (h:w.ownsMap Tryz.prog 3 secR mb k D) (hn:Maps.size D≤n):w.ownsMap Tryz.prog 3 secR mb n D:=by
 obtain ⟨es,clock,hb,F,hs,rfl⟩:=h
 refine ⟨es,clock,hb,F,?_,rfl⟩
 simpa [Maps.size,length_sorted] using hn
theorem mapIs_put {D:DataW Unit} {M:Nat→Option Sec} (h:MapIs D M) (hm:Maps.IsMap D) (i:Nat) (s:Sec):MapIs (D.put (.int .i64 i) (.lit (.string s))) (fun j=>if j=i then some s else M j):=by
 refine ⟨fun x=>?_,fun j t hj z=>?_⟩
 ·by_cases e:x=(i:Int)
  ·subst e
   rw [Maps.has_put_same hm (isKey_i64 _)]
   simp
  ·rw [Maps.has_put_other (fun e1=>e (by cases e1;rfl)),h.1 x]
   by_cases h0:0≤x
   ·have:x.toNat≠i:=by omega
    simp only [h0,decide_true,Bool.true_and,if_neg this]
   ·simp [h0]
 ·change (if j=i then some s else M j)=some t at hj
  by_cases e:j=i
  ·subst e
   rw [if_pos rfl] at hj
   cases hj
   exact Maps.atKey_put_same hm (isKey_i64 _) _ z
  ·rw [if_neg e] at hj
   rw [Maps.atKey_put_other (fun e1=>e (by cases e1;rfl))]
   exact h.2 j t hj z
theorem mapIs_del {D:DataW Unit} {M:Nat→Option Sec} (h:MapIs D M) (i:Int):MapIs (D.del (.int .i64 i)) (fun j=>if (j:Int)=i then none else M j):=by
 refine ⟨fun x=>?_,fun j t hj z=>?_⟩
 ·by_cases e:x=i
  ·subst e
   rw [Maps.has_del_same]
   show false=(decide (0≤x)&&(if (x.toNat:Int)=x then none else M x.toNat).isSome)
   by_cases h0:0≤x
   ·rw [if_pos (by omega)];simp
   ·simp [h0]
  ·rw [Maps.has_del_other (fun e1=>e (by cases e1;rfl)),h.1 x]
   show _=(decide (0≤x)&&(if (x.toNat:Int)=i then none else M x.toNat).isSome)
   by_cases h0:0≤x
   ·rw [if_neg (by omega)]
   ·simp [h0]
 ·change (if (j:Int)=i then none else M j)=some t at hj
  split at hj
  ·cases hj
  ·rename_i e
   rw [Maps.atKey_del_other (fun e1=>e (by cases e1;rfl))]
   exact h.2 j t hj z
end Go.Proofs.YtnobeoppffoomaaGreat
