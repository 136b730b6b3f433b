/- Parts of a proof. -/
import Derived.Test.YtidndekacnmihaaGreatCZ
set_option linter.all false
set_option maxHeartbeats 8000000
set_option maxRecDepth 100000
namespace Go.Proofs.YtidndekacnmihaaGreat
open Bool renaming true→Y,false→Z
open Ending renaming returned→X
open Go renaming World→J,Value→S,Calls→U
open Go.RowKit renaming Below→T
open Go.RowKit.Below renaming refl→qd
open IntKind renaming i64→N
open Lib renaming byteCells→I
open List renaming replicate→qi
open Obj renaming cells→V
open Option renaming some→q,none→E
open Tryz renaming prog→H
open Value renaming int→O,string→qc,slice→qe,bool→qf,pointer→qg,tuple→qh
open Tryz
variable {B b cap fb i k mb n o z:Nat} {a:Act} {v:S} {w w':J} {P:Program} {Q:Exit→Act→J→Prop} {ops:Array Oper} {rest:List Oper} {op:Oper}
open Go.RowKit
namespace Dk
abbrev Sec:=List UInt8
def zsec:Sec:=qi 64 0
def pad (l:List UInt8):Sec:=l++qi (64-l.length) 0
theorem zsec_length:zsec.length=64:=by simp [zsec]
theorem zep (l:List UInt8) (h:l.length≤64):(pad l).length=64:=by simp [pad];omega
def txt (l:List UInt8):ByteArray:=⟨l.toArray⟩
theorem zah (l:List UInt8):(txt l).size=l.length:=by show l.toArray.size=_;simp
theorem zal (l:List UInt8):(txt l).data.toList=l:=by simp [txt]
structure St where
 n:Nat
 fl:Nat→Sec
 wt:Nat→Option Sec
 left:Int
 dead:Bool
structure St.Ok (d:St):Prop where
 n1:1≤d.n
 n2:d.n≤4096
 flen:∀ i,(d.fl i).length=64
 wlen:∀ i s,d.wt i=q s→i<d.n∧s.length=64
 l1:-9223372036854775808≤d.left
 l2:d.left≤9223372036854775807
def St.now (d:St) (i:Nat):Sec:=(d.wt i).getD (d.fl i)
def St.refuses (d:St) (at_:Int):Int:=if d.dead then 7 else if at_<0∨(d.n:Int)≤at_ then 5 else 0
def St.fresh (n:Nat) (F:Nat→Sec):St:=⟨n,F,fun _=>E,-1,Z⟩
def St.put (d:St) (i:Nat) (s:Sec):St:={ d with wt:=fun j=>if j=i then q s else d.wt j }
def St.settle (d:St):St:={ d with fl:=d.now,wt:=fun _=>E }
def St.step (d:St):St:={ d with left:=if 0<d.left then d.left-1 else d.left }
def St.arm (d:St) (a:Int):St:={ d with left:=a }
def St.die (d:St):St:={ d with dead:=Y }
def St.try_ (d:St) (f:St→St):St×Int :=
 if d.left=0 then (d.die,7) else if d.dead then (d,7) else (f d.step,0)
def St.write (d:St) (at_:Int) (s:List UInt8):St×Int :=
 if d.refuses at_≠0 then (d,d.refuses at_) else if 64<s.length then (d,3) else d.try_ (fun x=>x.put at_.toNat (pad s))
def St.flush (d:St):St×Int:=d.try_ St.settle
def St.after (d:St) (lost:List Int):St:=(St.mk d.n d.fl (fun i=>if (i:Int)∈lost then E else d.wt i) (-1) Z).settle
def zeq (F:Nat→Sec):Nat→List UInt8
 | 0=>[]
 | k+1=>zeq F k++F k
theorem St.Ok.now {d:St} (h:d.Ok) (i:Nat):(d.now i).length=64:=by
 unfold St.now
 cases e:d.wt i with
 | none=>exact h.flen i
 | some s=>exact (h.wlen i s e).2
theorem St.fresh_ok {F:Nat→Sec} (h1:1≤n) (h2:n≤4096) (hF:∀ i,(F i).length=64):(St.fresh n F).Ok :=
 ⟨h1,h2,hF,(fun _ _ h=>by cases h),(by show (-9223372036854775808:Int)≤-1;decide),(by show (-1:Int)≤_;decide)⟩
theorem St.Ok.put {d:St} (h:d.Ok) {s:Sec} (hi:i<d.n) (hs:s.length=64):(d.put i s).Ok :=
 ⟨h.n1,h.n2,h.flen,(fun j t e=>by
  change (if j=i then q s else d.wt j)=q t at e
  split at e
  ·cases e;subst j;exact ⟨hi,hs⟩
  ·exact h.wlen j t e),h.l1,h.l2⟩
theorem St.Ok.settle {d:St} (h:d.Ok):d.settle.Ok:=⟨h.n1,h.n2,h.now,(fun _ _ e=>by cases e),h.l1,h.l2⟩
theorem St.Ok.step {d:St} (h:d.Ok):d.step.Ok:=by
 have a:=h.l1;have b:=h.l2;refine ⟨h.n1,h.n2,h.flen,h.wlen,?_,?_⟩
 ·show _≤(if 0<d.left then d.left-1 else d.left);split<;>omega
 ·show (if 0<d.left then d.left-1 else d.left)≤_;split<;>omega
theorem St.Ok.die {d:St} (h:d.Ok):d.die.Ok:=⟨h.n1,h.n2,h.flen,h.wlen,h.l1,h.l2⟩
theorem St.Ok.arm {d:St} (h:d.Ok) {a:Int} (h1:-9223372036854775808≤a) (h2:a≤9223372036854775807):(d.arm a).Ok:=⟨h.n1,h.n2,h.flen,h.wlen,h1,h2⟩
theorem St.Ok.after {d:St} (h:d.Ok) (lost:List Int):(d.after lost).Ok :=
 St.Ok.settle ⟨h.n1,h.n2,h.flen,(fun i s e=>by
  change (if (i:Int)∈lost then E else d.wt i)=q s at e
  split at e
  ·cases e
  ·exact h.wlen i s e),(by show (-9223372036854775808:Int)≤-1;decide),(by show (-1:Int)≤_;decide)⟩
theorem St.Ok.write {d:St} (h:d.Ok) (at_:Int) (s:List UInt8):(d.write at_ s).1.Ok:=by
 unfold St.write
 split
 ·exact h
 ·rename_i hr
  split
  ·exact h
  ·rename_i hl
   unfold St.try_
   split
   ·exact h.die
   ·split
    ·exact h
    ·refine h.step.put ?_ (zep s (by omega));show at_.toNat<d.n;unfold St.refuses at hr
     split at hr
     ·simp at hr
     ·split at hr
      ·simp at hr
      ·omega
theorem St.Ok.flush {d:St} (h:d.Ok):d.flush.1.Ok:=by
 unfold St.flush St.try_
 split
 ·exact h.die
 ·split
  ·exact h
  ·exact h.step.settle
end Dk
section
namespace Dk
def unB:S→Option UInt8
 | O .u8 a=>if 0≤a∧a<256 then q (UInt8.ofNat a.toNat) else E
 | _=>E
def zrP:List S→Option (List UInt8)
 | []=>q []
 | v :: r=>match unB v,zrP r with
   | some b,q l=>q (b :: l)
   | _,_=>E
def zit (v:S):Option (DataW Unit×List MemPlace) :=
 match v with
 | .agg cs=>match zrP cs.toList with
   | some l=>if l.length=64 then q (.lit (.string l),[]) else E
   | none=>E
 | _=>E
def sv (l:Sec):S:=.agg (I l).toArray
theorem zsX (b:UInt8):unB (O .u8 (b.toNat:Int))=q b:=by
 have h:b.toNat<256:=b.toNat_lt;show (if 0≤(b.toNat:Int)∧(b.toNat:Int)<256 then q (UInt8.ofNat (b.toNat:Int).toNat) else E)=q b;rw [if_pos (by omega)]
 simp
theorem zrQ {b:UInt8} (h:unB v=q b):v=O .u8 (b.toNat:Int):=by
 unfold unB at h
 split at h
 ·rename_i a
  split at h
  ·rename_i ha
   cases h
   have:(UInt8.ofNat a.toNat).toNat=a.toNat:=by
    simp [UInt8.toNat_ofNat'];omega
   rw [this,Int.toNat_of_nonneg ha.1]
  ·cases h
 ·cases h
theorem znH:∀ l:List UInt8,zrP (I l)=q l
 | []=>rfl
 | b :: r=>by
   show zrP (O .u8 (b.toNat:Int) :: I r)=_;rw [zrP,zsX,znH r]
theorem zj7:∀ {vs:List S} {l:List UInt8},zrP vs=q l→vs=I l
 | [],l,h=>by cases h;rfl
 | v :: r,l,h=>by
   rw [zrP] at h
   split at h
   ·rename_i b t hb ht
    cases h
    rw [zrQ hb,zj7 ht];rfl
   ·cases h
theorem zi9 {l:Sec} (h:l.length=64):zit (sv l)=q (.lit (.string l),[]):=by
 unfold zit sv;simp only [znH,if_pos h]
theorem zj8 {y:DataW Unit×List MemPlace} (h:zit v=q y):∃ l:Sec,l.length=64∧v=sv l∧y=(.lit (.string l),[]):=by
 unfold zit at h
 split at h
 ·rename_i cs
  split at h
  ·rename_i l hl
   split at h
   ·rename_i h64
    cases h
    refine ⟨l,h64,?_,rfl⟩;unfold sv;rw [←zj7 hl]
   ·cases h
  ·cases h
 ·cases h
def zja (D:DataW Unit) (M:Nat→Option Sec):Prop :=
 (∀ i:Int,Maps.has D (.int .i64 i)=(decide (0≤i)&&(M i.toNat).isSome))∧∀ (i:Nat) s,M i=q s→∀ z,D.atKey (.int .i64 (i:Int)) z=.lit (.string s)
def zeF (w:J) (mb:Nat) (M:Nat→Option Sec):Prop:=∃ D,w.ownsMap H 3 zit mb 4096 D∧zja D M
def zcc (w:J) (fb n:Nat) (F:Nat→Sec):Prop :=
 ∃ cur,w.heap[fb]?=q (V cur 147 (0,0))∧n*64≤cur.size∧∀ i,i<n→∀ j,j<64→cur[i*64+j]?=(I (F i))[j]?
structure zbc (w:J) (g fb mb cap:Nat) (d:St):Prop where
 blk:w.heap[g]?=q (V #[qe (q ⟨fb,0,E⟩) d.n cap,.map (q mb),O N d.left,qf d.dead] 143 (0,0))
 row:zcc w fb d.n d.fl
 map:zeF w mb d.wt
 hcap:d.n≤cap
def Dv (w:J) (g:Nat) (L:List Nat) (d:St):Prop:=d.Ok∧∃ fb mb cap,L=[g,fb,mb]∧zbc w g fb mb cap d
structure zaw (L:List Nat) (w w':J):Prop where
 os:w'.os=w.os
 tape:w'.tape=w.tape
 output:w'.output=w.output
 size:w.heap.size≤w'.heap.size
 block:∀ k,k<w.heap.size→k∉L→w'.heap[k]?=w.heap[k]?
def zaV (w:J) (L L':List Nat):Prop:=∀ k∈L',k∈L∨w.heap.size≤k
def zav (g:Nat) (L:List Nat) (d':St) (w w':J):Prop:=∃ L',Dv w' g L' d'∧zaw L w w'∧zaV w L L'
section
variable {w w' w'':J} {g fb mb cap n:Nat} {L L':List Nat} {d d':St} {F:Nat→Sec} {M:Nat→Option Sec}
theorem zaw.refl (L:List Nat) (w:J):zaw L w w:=⟨rfl,rfl,rfl,ztI _,fun _ _ _=>rfl⟩
theorem zaw.of_below (h:T w.heap.size w w'):zaw L w w':=⟨h.os,h.tape,h.output,h.size,fun k hk _=>h.block k hk⟩
theorem zaw.of_grown {row:Option Nat} (h:w.grownBy w' row) (hr:∀ k,row=q k→k∈L∨w.heap.size≤k):zaw L w w' :=
 ⟨h.os,h.tape,h.output,h.size,fun k hk hL=>h.block k hk (fun e=>(hr k e.symm).elim (fun h1=>hL h1) (fun h1=>by omega))⟩
theorem zaw.trans' (h:zaw L w w') (h':zaw L' w' w'') (hf:zaV w L L'):zaw L w w'' :=
 ⟨h'.os.trans h.os,h'.tape.trans h.tape,h'.output.trans h.output,ztL h.size h'.size,fun k hk hL =>
  (h'.block k (zuk hk h.size) (fun hm=>(hf k hm).elim (fun h1=>hL h1) (fun h1=>by omega))).trans (h.block k hk hL)⟩
theorem zaw.trans (h:zaw L w w') (h':zaw L w' w''):zaw L w w'':=h.trans' h' (fun _ hk=>.inl hk)
theorem zaw.mono (h:zaw L w w') (hs:∀ k∈L,k∈L'):zaw L' w w':=⟨h.os,h.tape,h.output,h.size,fun k hk hn=>h.block k hk (fun hm=>hn (hs k hm))⟩
theorem zaw.below {a:J} (h:T B a w) (k:zaw L w w') (hB:B≤w.heap.size) (hL:∀ j∈L,B≤j):T B a w' :=
 h.trans ⟨k.os,k.tape,k.output,k.size,fun i hi=>k.block i (by omega) (fun hm=>by have:=hL i hm;omega)⟩
theorem zaw.setCell {p:Addr} (hp:p.block∈L) (v:S):zaw L w (w.setCell p v) :=
 ⟨rfl,rfl,rfl,by simp,fun k _ hk=>heap_setCell_other w p k v (fun e=>hk (e▸hp))⟩
theorem zaw.alloc (o:Obj):zaw L w (w.alloc o):=⟨rfl,rfl,rfl,by simp,fun k hk _=>zuN w o k hk⟩
theorem zaV.refl (w:J) (L:List Nat):zaV w L L:=fun _ hk=>.inl hk
theorem zaV.trans {L'':List Nat} (h:zaV w L L') (h':zaV w' L' L'') (hs:w.heap.size≤w'.heap.size):zaV w L L'':=fun k hk =>
 (h' k hk).elim (fun h1=>h k h1) (fun h1=>.inr (by omega))
theorem zaV.low (h:zaV w L L') (hB:B≤w.heap.size) (hL:∀ j∈L,B≤j):∀ j∈L',B≤j:=fun k hk=>(h k hk).elim (hL k) (fun h1=>by omega)
theorem zeF.lt (h:zeF w mb M):mb<w.heap.size:=by obtain ⟨D,h1,_⟩:=h;exact h1.lt
theorem zap {o:Obj} (h:w.heap[k]?=q o):k<w.heap.size:=(zgx h)
theorem zcc.lt (h:zcc w fb n F):fb<w.heap.size:=by obtain ⟨_,h1,_⟩:=h;exact zap h1
theorem zcc.of_heap (h:zcc w fb n F) (he:w'.heap[fb]?=w.heap[fb]?):zcc w' fb n F:=by
 obtain ⟨cur,h1,h2⟩:=h;exact ⟨cur,he.trans h1,h2⟩
theorem zeF.of_heap (h:zeF w mb M) (he:w'.heap[mb]?=w.heap[mb]?):zeF w' mb M:=by
 obtain ⟨D,⟨es,clock,hb,r⟩,h2⟩:=h;exact ⟨D,⟨es,clock,he.trans hb,r⟩,h2⟩
theorem zbc.gf (h:zbc w g fb mb cap d):g≠fb:=by
 obtain ⟨cur,h1,_⟩:=h.row;rintro rfl
 have:=h.blk.symm.trans h1
 simp at this
theorem zbc.gm (h:zbc w g fb mb cap d):g≠mb:=by
 obtain ⟨D,⟨es,clock,hb,_⟩,_⟩:=h.map;rintro rfl
 have:=h.blk.symm.trans hb
 simp at this
theorem zbc.fm (h:zbc w g fb mb cap d):fb≠mb:=by
 obtain ⟨D,⟨es,clock,hb,_⟩,_⟩:=h.map;obtain ⟨cur,h1,_⟩:=h.row;rintro rfl
 have:=h1.symm.trans hb
 simp at this
theorem zbc.of_heap (h:zbc w g fb mb cap d) (he:∀ k,k=g∨k=fb∨k=mb→w'.heap[k]?=w.heap[k]?):zbc w' g fb mb cap d :=
 ⟨(he g (.inl rfl)).trans h.blk,h.row.of_heap (he fb (.inr (.inl rfl))),h.map.of_heap (he mb (.inr (.inr rfl))),h.hcap⟩
theorem Dv.lt (h:Dv w g L d):∀ k∈L,k<w.heap.size:=by
 obtain ⟨_,fb,mb,cap,rfl,hd⟩:=h;intro k hk;simp at hk;rcases hk with rfl|rfl|rfl
 ·exact zap hd.blk
 ·exact hd.row.lt
 ·exact hd.map.lt
theorem Dv.of_heap (h:Dv w g L d) (he:∀ k∈L,w'.heap[k]?=w.heap[k]?):Dv w' g L d:=by
 obtain ⟨ho,fb,mb,cap,rfl,hd⟩:=h;exact ⟨ho,fb,mb,cap,rfl,hd.of_heap (fun k hk=>he k (by simpa using hk))⟩
theorem Dv.below (h:Dv w g L d) (hb:T w.heap.size w w'):Dv w' g L d:=h.of_heap (fun k hk=>hb.block k (h.lt k hk))
theorem Dv.alloc (h:Dv w g L d) (o:Obj):Dv (w.alloc o) g L d:=h.below ((qd _ _).alloc (ztI _) o)
theorem zav.below {a:J} (h:zav g L d' w w') (hb:T B a w) (hB:B≤w.heap.size) (hL:∀ j∈L,B≤j) :
 ∃ L',Dv w' g L' d'∧(∀ j∈L',B≤j)∧T B a w'∧B≤w'.heap.size∧zaw L w w'∧zaV w L L':=by
 obtain ⟨L',h1,h2,h3⟩:=h;exact ⟨L',h1,h3.low hB hL,h2.below hb hB hL,ztL hB h2.size,h2,h3⟩
theorem zav.same (_h:Dv w g L d) (hk:zaw L w w') (hd:Dv w' g L d'):zav g L d' w w':=⟨L,hd,hk,zaV.refl _ _⟩
theorem zbc.c0 (h:zbc w g fb mb cap d):w.cell? ⟨g,0,E⟩=q (qe (q ⟨fb,0,E⟩) d.n cap):=zcr w g 0 _ 143 (0,0) h.blk
theorem zbc.c1 (h:zbc w g fb mb cap d):w.cell? ⟨g,1,E⟩=q (.map (q mb)):=zcr w g 1 _ 143 (0,0) h.blk
theorem zbc.c2 (h:zbc w g fb mb cap d):w.cell? ⟨g,2,E⟩=q (O N d.left):=zcr w g 2 _ 143 (0,0) h.blk
theorem zbc.c3 (h:zbc w g fb mb cap d):w.cell? ⟨g,3,E⟩=q (qf d.dead):=zcr w g 3 _ 143 (0,0) h.blk
theorem zbc.fz (h:zbc w g fb mb cap d) (i:Nat):w.frozen? ⟨g,i,E⟩=Z:=frozen_of_row w g i _ 143 h.blk
theorem zbc.set (h:zbc w g fb mb cap d) (i:Nat) (v:S) (cap' mb':Nat) (d':St) (hn:d'.n=d.n) (hf:d'.fl=d.fl)
 (hm:zeF (w.setCell ⟨g,i,E⟩ v) mb' d'.wt) (hc:d'.n≤cap')
 (he:(#[qe (q ⟨fb,0,E⟩) d.n cap,.map (q mb),O N d.left,qf d.dead]:Array S).setIfInBounds i v=#[qe (q ⟨fb,0,E⟩) d'.n cap',.map (q mb'),O N d'.left,qf d'.dead]) :
 zbc (w.setCell ⟨g,i,E⟩ v) g fb mb' cap' d' :=
 ⟨by rw [←he];exact heap_setCell_same w g i _ 143 v h.blk,by rw [hn,hf];exact h.row.of_heap (heap_setCell_other w ⟨g,i,E⟩ fb v h.gf.symm),hm,hc⟩
theorem zbc.set2 (h:zbc w g fb mb cap d) (x:Int):zbc (w.setCell ⟨g,2,E⟩ (O N x)) g fb mb cap { d with left:=x } :=
 h.set 2 _ cap mb { d with left:=x } rfl rfl (h.map.of_heap (heap_setCell_other w ⟨g,2,E⟩ mb _ h.gm.symm)) h.hcap rfl
theorem zbc.set3 (h:zbc w g fb mb cap d) (x:Bool):zbc (w.setCell ⟨g,3,E⟩ (qf x)) g fb mb cap { d with dead:=x } :=
 h.set 3 _ cap mb { d with dead:=x } rfl rfl (h.map.of_heap (heap_setCell_other w ⟨g,3,E⟩ mb _ h.gm.symm)) h.hcap rfl
theorem zcc.range (h:zcc w fb n F) (hF:∀ i,(F i).length=64) (i:Nat) (hi:i<n):w.rangeAt fb (i*64) (I (F i)):=by
 obtain ⟨cur,h1,h2,h3⟩:=h;intro j v hv;have hj:j<64:=by have:=(List.getElem?_eq_some_iff.1 hv).1;rw [zuf,hF] at this;exact this
 rw [zcr w fb _ cur 147 (0,0) h1,h3 i hi j hj,hv]
theorem zcc.there (h:zcc w fb n F) (i:Nat) (hi:i<n):w.there fb (i*64) 64:=by
 obtain ⟨cur,h1,h2,h3⟩:=h;intro j hj;rw [zcr w fb _ cur 147 (0,0) h1,frozen_of_row w fb _ cur 147 h1];exact ⟨by rw [Array.getElem?_eq_getElem (by omega)];rfl,rfl⟩
end
end Dk
end
section
open Dk
def ptr (g:Nat):S:=qg (q ⟨g,0,E⟩)
theorem ziq (g:Nat) (L:List Nat) (d:St) (at_:Int) (w:J) (h:Dv w g L d) (hd:d.dead=Y) :
 U H 134 #[ptr g,O N at_] w fun e w'=>e=X (O N 7)∧w=w':=by
 obtain ⟨ho,fb,mb,cap,rfl,h⟩:=h;have c3:=h.c3;rw [hd] at c3;clear h hd;unfold ptr;go_enter func134,ntmps134;go_wp2;go_ret;exact ⟨rfl,rfl⟩
theorem zk5 (g:Nat) (L:List Nat) (d:St) (at_:Int) (w:J) (h:Dv w g L d) (hd:d.dead=Z) (ha:at_<0∨(d.n:Int)≤at_) :
 U H 134 #[ptr g,O N at_] w fun e w'=>e=X (O N 5)∧w=w':=by
 obtain ⟨ho,fb,mb,cap,rfl,h⟩:=h;have c3:=h.c3;have c0:=h.c0;rw [hd] at c3;clear h hd;generalize d.n=n at *;unfold ptr
 by_cases h0:at_<0
 ·clear ha;have h0':decide (at_<0)=Y:=ztN h0;go_enter func134,ntmps134;go_wp2;go_ret;exact ⟨rfl,rfl⟩
 ·have h1:(n:Int)≤at_:=by omega
  clear ha;have h0':decide (at_<0)=Z:=ztM h0;go_enter func134,ntmps134;go_wp2;go_ret;exact ⟨rfl,rfl⟩
theorem zjd (g:Nat) (L:List Nat) (d:St) (at_:Int) (w:J) (h:Dv w g L d) (hd:d.dead=Z) (h0:0≤at_) (h1:at_<d.n) :
 U H 134 #[ptr g,O N at_] w fun e w'=>e=X (O N 0)∧w=w':=by
 obtain ⟨ho,fb,mb,cap,rfl,h⟩:=h;have c3:=h.c3;have c0:=h.c0;rw [hd] at c3;clear h hd;generalize d.n=n at *;unfold ptr;have h0':decide (at_<0)=Z:=ztM (by omega);go_enter func134,ntmps134;go_wp2;go_ret;exact ⟨rfl,rfl⟩
theorem zbX (g:Nat) (L:List Nat) (d:St) (at_:Int) (w:J) (h:Dv w g L d) :
 U H 134 #[ptr g,O N at_] w fun e w'=>e=X (O N (d.refuses at_))∧w=w':=by
 unfold St.refuses
 cases hd:d.dead
 ·by_cases ha:at_<0∨(d.n:Int)≤at_
  ·rw [if_neg (by decide),if_pos ha];exact zk5 g L d at_ w h hd ha
  ·rw [if_neg (by decide),if_neg ha];exact zjd g L d at_ w h hd (by omega) (by omega)
 ·rw [if_pos rfl];exact ziq g L d at_ w h hd
theorem zeB (g:Nat) (L:List Nat) (d:St) (f:S) (w:J) (h:Dv w g L d) (hl:d.left=0) :
 U H 135 #[ptr g,f] w fun e w'=>e=X (O N 7)∧zav g L d.die w w':=by
 obtain ⟨ho,fb,mb,cap,rfl,h⟩:=h;have c2:=h.c2;rw [hl] at c2;have f3:=h.fz 3;have c3':(w.setCell ⟨g,3,E⟩ (qf Y)).cell? ⟨g,3,E⟩=q (qf Y):=(h.set3 Y).c3;have c3:=h.c3;have hD:=h.set3 Y;have HD:=zh hD;clear h hD hl;unfold ptr;go_enter func135,ntmps135;go_wp2;go_ret;exact ⟨rfl,[g,fb,mb],⟨ho.die,fb,mb,cap,rfl,HD.out⟩,zaw.setCell (p:=⟨g,3,E⟩) (by simp) _,zaV.refl _ _⟩
theorem zir (g:Nat) (L:List Nat) (d:St) (f:S) (w:J) (h:Dv w g L d) (hl:d.left≠0) (hd:d.dead=Y) :
 U H 135 #[ptr g,f] w fun e w'=>e=X (O N 7)∧w=w':=by
 obtain ⟨ho,fb,mb,cap,rfl,h⟩:=h;have c2:=h.c2;have c3:=h.c3;rw [hd] at c3;have hl':(d.left==0)=Z:=by simpa using hl
 clear h hd;generalize d.left=l at *;unfold ptr;go_enter func135,ntmps135;go_wp2;go_ret;exact ⟨rfl,rfl⟩
theorem zgs (F:Nat) (hF:F=90∨F=136) (g:Nat) (L:List Nat) (d:St) (bs cs:Array S) (w:J) (h:Dv w g L d) (hl:d.left≠0) (hd:d.dead=Z) (R:J→Prop)
 (hsz:(F=90∧bs=#[ptr g]∧cs=#[])∨(F=136∧bs=#[]∧∃ a b c,cs=#[a,b,c]))
 (hdo:∀ w1,Dv w1 g L d.step→zaw L w w1→w1.heap.size=w.heap.size→U H F (bs++cs) w1 fun e w'=>e=X (qh #[])∧R w') :
 U H 135 #[ptr g,.func (.func F) bs cs] w fun e w'=>e=X (O N 0)∧R w':=by
 obtain ⟨ho,fb,mb,cap,rfl,h⟩:=h;have c2:=h.c2;have c3:=h.c3;have f2:=h.fz 2;rw [hd] at c3;have hl':(d.left==0)=Z:=by simpa using hl
 have o1:=ho.l1;have o2:=ho.l2
 have key:∃ w1,(if 0<d.left then w.setCell ⟨g,2,E⟩ (O N (d.left-1)) else w)=w1∧U H F (bs++cs) w1 fun e w'=>e=X (qh #[])∧R w':=by
  refine ⟨_,rfl,hdo _ ?_ ?_ ?_⟩
  ·refine ⟨ho.step,fb,mb,cap,rfl,?_⟩;unfold St.step
   split
   ·exact h.set2 _
   ·exact h
  ·split
   ·exact zaw.setCell (p:=⟨g,2,E⟩) (by simp) _
   ·exact zaw.refl _ _
  ·split
   ·simp
   ·rfl
 obtain ⟨w1,hw1,HC0⟩:=key;have HC:=zh HC0;clear h hd hdo HC0 ho hl;generalize d.left=l at *;unfold ptr at *;rcases hsz with ⟨rfl,rfl,rfl⟩|⟨rfl,rfl,a,b,c,rfl⟩
 all_goals
  by_cases hp:0<l
  ·have hp':decide (0<l)=Y:=ztN hp;rw [if_pos hp] at hw1;have HW:=zh hw1;clear hw1;go_enter func135,ntmps135
   go_wp2_with fail
   rw [HW.out];refine HC.out.mono ?_;rintro e w2 ⟨rfl,hR⟩;go_wp2;go_ret;exact ⟨rfl,hR⟩
  ·have hp':decide (0<l)=Z:=ztM hp;rw [if_neg hp] at hw1;subst hw1;go_enter func135,ntmps135
   go_wp2_with fail
   refine HC.out.mono ?_;rintro e w2 ⟨rfl,hR⟩;go_wp2;go_ret;exact ⟨rfl,hR⟩
end
section
open Dk
theorem zjb:zja (.map []:DataW Unit) (fun _=>E) :=
 ⟨fun i=>by simp [Maps.has],fun _ _ h=>by cases h⟩
theorem zgq (w:J):zeF (w.alloc (.map #[] 0)) w.heap.size (fun _=>E) :=
 ⟨.map [],(World.ownsMap_made w _ _ _).mono (ztO _),zjb⟩
theorem znM (n:Nat) (F:Nat→Sec) (fb cap:Nat) (w:J) (h1:1≤n) (h2:n≤4096) (hF:∀ i,(F i).length=64) (hr:zcc w fb n F) (hc:n≤cap) :
 U H 37 #[qe (q ⟨fb,0,E⟩) n cap] w fun e w'=>∃ g L,e=X (ptr g)∧Dv w' g L (St.fresh n F)∧(∀ k∈L,k=fb∨w.heap.size≤k)∧T w.heap.size w w':=by
 have hmm:=@run_makeMap H;have hok:=St.fresh_ok h1 h2 hF;have hm:=zgq w;have HR:=zh hr;have HF:=zh hF;clear hr hF;go_enter func37,ntmps37;go_wp2;go_ret;refine ⟨w.heap.size+1,[w.heap.size+1,fb,w.heap.size],rfl,⟨hok,fb,w.heap.size,cap,rfl,?_⟩,?_,?_⟩
 ·have hlt:=HR.out.lt;refine ⟨?_,(HR.out.of_heap (zuN w _ fb hlt)).of_heap (zuN _ _ fb (by simp;omega)),hm.of_heap (zuN _ _ _ (by simp)),hc⟩;exact heap_alloc2_new w _ _
 ·intro k hk;simp at hk;omega
 ·exact ((qd _ w).alloc (ztI _) _).alloc (by simp) _
theorem info147:(prog.info? 147).map (fun i=>(i.zero,i.size,i.bytes))=q (q (sv zsec),64,64):=by kernel_rfl
theorem zhc (z:Array S) (n k:Nat) (h:k<n):(madeCells z n)[k]?=q (z[k % z.size]!):=by
 unfold madeCells;simp [h]
theorem zin {xs:List S} {F:Nat→Sec} (h:w.ownsRow B 147 64 v n xs) (hn:1≤n) (hx:∀ i,i<n→∀ j,j<64→xs[i*64+j]?=(I (F i))[j]?) :
 ∃ fb cap,v=qe (q ⟨fb,0,E⟩) n cap∧B≤fb∧n≤cap∧zcc w fb n F:=by
 obtain ⟨hl,h⟩:=h;rcases h with ⟨hv,h0⟩|⟨g,c,cur,hv,hb,hh,h1,h2,h3,h4⟩
 ·omega
 ·refine ⟨g,c,hv,hb,h1,cur,hh,by rw [h3];exact zuI _ h1,fun i hi j hj=>?_⟩
  have hk:i*64+j<n*64:=by
   have:(i+1)*64≤n*64:=zuI _ hi
   omega
  rw [←hx i hi j hj,←h4,zuP,if_pos hk,zuv]
theorem zk2 (h:w.ownsRow B 147 64 v n (madeCells (sv zsec).cells (n*64)).toList) (hn:1≤n) :
 ∃ fb cap,v=qe (q ⟨fb,0,E⟩) n cap∧B≤fb∧n≤cap∧zcc w fb n (fun _=>zsec):=by
 refine zin h hn (fun i hi j hj=>?_)
 have hk:i*64+j<n*64:=by
  have:(i+1)*64≤n*64:=zuI _ hi
  omega
 have hz:(sv zsec).cells.size=64:=by
  show ((I zsec).toArray).size=64;simp [zsec_length,zuf]
 have hlen:(I zsec).length=64:=by rw [zuf,zsec_length]
 have hm:(i*64+j) % 64=j:=by omega
 rw [zuv,zhc _ _ _ hk,hz,hm];show q ((I zsec).toArray[j]!)=_;rw [zt2 (by omega)];simp [hlen,hj]
theorem zrR (n:Nat) (w:J) (h1:1≤n) (h2:n≤4096) :
 U H 11 #[O N n] w fun e w'=>∃ g L,e=X (qh #[ptr g,O N 0])∧Dv w' g L (St.fresh n (fun _=>zsec))∧(∀ k∈L,w.heap.size≤k)∧T w.heap.size w w':=by
 obtain ⟨i0,hi,hz0,hz1,hz2⟩:=info_parts info147;have h0':decide ((n:Int)<1)=Z:=ztM (by omega);have h1':decide (4096<(n:Int))=Z:=ztM (by omega);go_enter func11,ntmps11
 go_wp2_with (at_make;refine wpList_make_full _ rfl _ _ 87 rfl w.heap.size 147 i0 (sv zsec) 64 underlying87 hi hz0 hz1 N N _ _ n rfl rfl rfl rfl (by rw [hz2];omega) (by unfold maxLen;omega) (ztI _) ?_;intro w0 hown0 hgrow0)
 obtain ⟨fb,cap,hv,hfb,hcap,hr⟩:=zk2 hown0 h1;injection hv with e1 e2 e3;injection e1 with e1;injection e1 with e1;subst e1;subst e3;clear e2;have hb0:T w.heap.size w w0:=(qd _ _).grown hgrow0 (ztI _) (by simp);clear hown0 hgrow0
 go_wp2_with fail
 refine (znM n _ w.heap.size n w0 h1 h2 (fun _=>zsec_length) hr hcap).mono ?_;rintro e w1 ⟨g,L,rfl,hD,hL,hb1⟩;go_wp2;go_ret2;exact ⟨g,L,rfl,hD,(fun k hk=>(hL k hk).elim (fun e=>by omega) (fun e=>ztL hb0.size e)),hb0.trans (hb1.mono hb0.size)⟩
end
section
open Dk
theorem zrV:Maps.Keyed H 3:=Maps.int_keyed underlying3
theorem zfI (i:Int):WideAt.IsKeyLit (.int .i64 i):=trivial
def Dk.wl (M:Nat→Option Sec) (n:Nat):List Nat:=(List.range n).filter fun i=>(M i).isSome
theorem zf4 {l:List Nat} (h:l.Nodup):(l.map fun (i:Nat)=>(i:Int)).Nodup:=by
 unfold List.Nodup at *;rw [List.pairwise_map];exact h.imp (fun hne e=>hne (Int.ofNat.inj e))
theorem zpS (M:Nat→Option Sec) (n:Nat):(Dk.wl M n).Nodup:=List.Pairwise.filter _ List.nodup_range
theorem znI {D:DataW Unit} {M:Nat→Option Sec} (h:w.ownsMap H 3 zit mb k D) (hM:zja D M) (hn:∀ i s,M i=q s→i<n) :
 ((Dk.wl M n).map fun (i:Nat)=>(i:Int)).Perm (intKeys D):=by
 obtain ⟨es,rfl,hp,hk⟩:=h.entries zrV
 have hk2:∀ p∈es,∃ x,p.1=.int .i64 x:=by
  obtain ⟨es',he,_,hK⟩:=h.canonK zrV
  cases he
  intro p hp;obtain ⟨v,hv⟩:=hK p hp;obtain ⟨x,_,hx,_⟩:=Maps.keyOf_i64 underlying3 hv;exact ⟨x,hx⟩
 refine perm_intKeys hp hk2 (zf4 (zpS M n)) (fun x=>?_);rw [hM.1 x];simp only [List.mem_map,Dk.wl,List.mem_filter,List.mem_range,ztZ,decide_eq_true_eq];constructor
 ·rintro ⟨i,⟨_,hi⟩,rfl⟩;exact ⟨by omega,by simpa using hi⟩
 ·rintro ⟨h0,hs⟩;obtain ⟨s,hs'⟩:=Option.isSome_iff_exists.1 hs;exact ⟨x.toNat,⟨hn _ _ hs',hs⟩,by omega⟩
theorem znJ (D:DataW Unit):(intKeys D).length=Maps.size D:=by
 cases D<;>simp [intKeys,Maps.size]
theorem znK (M:Nat→Option Sec) (n:Nat):(Dk.wl M n).length≤n:=by
 have:=List.length_filter_le (fun i=>(M i).isSome) (List.range n)
 rw [List.length_range] at this;exact this
theorem zk0 {D:DataW Unit} {M:Nat→Option Sec} (h:w.ownsMap H 3 zit mb k D) (hM:zja D M) (hn:∀ i s,M i=q s→i<n):Maps.size D≤n:=by
 have:=(znI h hM hn).length_eq
 rw [List.length_map,znJ] at this;rw [←this];exact znK M n
theorem zk1 {D:DataW Unit} (h:w.ownsMap H 3 zit mb k D) (hn:Maps.size D≤n):w.ownsMap H 3 zit mb n D:=by
 obtain ⟨es,clock,hb,F,hs,rfl⟩:=h;refine ⟨es,clock,hb,F,?_,rfl⟩
 simpa [Maps.size,length_sorted] using hn
theorem znL {D:DataW Unit} {M:Nat→Option Sec} (h:zja D M) (hm:Maps.IsMap D) (i:Nat) (s:Sec):zja (D.put (.int .i64 i) (.lit (.string s))) (fun j=>if j=i then q s else M j):=by
 refine ⟨fun x=>?_,fun j t hj z=>?_⟩
 ·by_cases e:x=(i:Int)
  ·subst e;rw [Maps.has_put_same hm (zfI _)]
   simp
  ·rw [Maps.has_put_other (fun e1=>e (by cases e1;rfl)),h.1 x]
   by_cases h0:0≤x
   ·have:x.toNat≠i:=by omega
    simp only [h0,decide_true,zt8,if_neg this]
   ·simp [h0]
 ·change (if j=i then q s else M j)=q t at hj
  by_cases e:j=i
  ·subst e;rw [if_pos rfl] at hj
   cases hj
   exact Maps.atKey_put_same hm (zfI _) _ z
  ·rw [if_neg e] at hj;rw [Maps.atKey_put_other (fun e1=>e (by cases e1;rfl))];exact h.2 j t hj z
end
section
open Dk
theorem zaf {c:Code} (h:w'=w) (k:c.wp P Q a w):c.wp P Q a w':=by rw [h];exact k
theorem znR (s:List UInt8):(List.take 0 (I zsec).toArray.toList++I (txt s).data.toList++List.drop (0+(txt s).size) (I zsec).toArray.toList).toArray=(I (pad s)).toArray:=by
 have e:(I zsec).drop s.length=I (qi (64-s.length) 0):=by
  unfold I zsec;rw [←List.map_drop,List.drop_replicate]
 rw [List.take_zero,zuK,zub,zal,zah];unfold pad;rw [Lib.byteCells_append,←e]
theorem zkb {l:Sec} (hl:l.length=64) (h:w.rangeAt b o (I l)):(Instr.loadAt 147 (qg (q ⟨b,o,E⟩))).run H w=.ok (sv l) w :=
 run_loadAt_mid w b o 147 (I l) _ h underlying147 rfl (by rw [zuf,hl];kernel_rfl)
theorem zbK {l:Sec} (h:w.heap[b]?=q (V (I l).toArray 147 (0,0))):w.rangeAt b 0 (I l):=fun j v hv=>by
 rw [zcr w b _ _ 147 (0,0) h,zub]
 simpa using hv
theorem znS (i:Nat) (hi:i<4096):keyOf H 3 (.int .i64 (i:Int))=q (.int .i64 (i:Int)):=Maps.keyOf_int_mk underlying3 (WalkArith.wf_i64 (by omega))
theorem Dk.zeF.stored {M:Nat→Option Sec} {s:Sec} {D:DataW Unit} (hM:zja D M) (hm:Maps.IsMap D) (hn:∀ j t,M j=q t→j<n) (hi:i<n) (hn4:n≤4096)
 (h:w'.ownsMap H 3 zit mb (4096+1) (D.put (.int .i64 i) (.lit (.string s)))):zeF w' mb (fun j=>if j=i then q s else M j):=by
 have h2:=znL hM hm i s;refine ⟨_,zk1 h (ztL (zk0 (n:=n) h h2 (fun j t hj=>?_)) hn4),h2⟩;change (if j=i then q s else M j)=q t at hj
 split at hj
 ·omega
 ·exact hn j t hj
theorem zgt {Q:Act→Prop} {o:Oper} (hg:o.guard=E) (ty:TypeId) (x:Operand) (ho:o.op=.load ty x)
 (p v:S) (hx:a.eval x=p) (hr:(Instr.loadAt ty p).run P w=.ok v w) (h:wpStill P ops w Q rest (a.put o.dst v)):wpStill P ops w Q (o :: rest) a:=by
 have hw:Region.wanted o (yielded ops a.tmps)=Y:=by simp [Region.wanted,hg]
 unfold wpStill;rw [if_pos hw];unfold Oper.still execOp;simp [ho,hx,hr,Result.andThen,Oper.stillUpon];exact h
def zw (w:J):J:=w.alloc (V (I zsec).toArray 147)
theorem zk6 (g sb db ib i:Nat) (L:List Nat) (d:St) (s:List UInt8) (w:J) (h:Dv w g L d) (hs:s.length≤64) (hi:i<d.n)
 (cs:w.cell? ⟨sb,0,E⟩=q (.string (txt s))) (cd:w.cell? ⟨db,0,E⟩=q (ptr g)) (ci:w.cell? ⟨ib,0,E⟩=q (.int .i64 i)) :
 U H 136 #[ptr sb,ptr db,ptr ib] w fun e w'=>e=.returned (.tuple #[])∧zav g L (d.put i (pad s)) w w':=by
 unfold ptr at *;go_enter func136,ntmps136;go_wp2;refine zaf (w:=zw w) rfl ?_;have hbl:T w.heap.size w (zw w):=(qd _ w).alloc (ztI _) _;have e1:=zuV w _ cs;have e2:=zuV w _ cd;have e3:=zuV w _ ci;have cs':=(hbl.cell e1).trans cs;have cd':=(hbl.cell e2).trans cd;have ci':=(hbl.cell e3).trans ci;have hg:(zw w).heap[w.heap.size]?=q (.cells (I zsec).toArray 147 (0,0)):=ztJ w _;have hD:=h.below hbl;have hzl:∀ k∈L,k<w.heap.size:=h.lt;clear cs cd ci;generalize zw w=w0 at *;generalize hz:w.heap.size=z at *;have hcp:=Lib.run_copy_row_string (P:=H) w0.drew 78 9 3 5 z 0 64 64 (txt s) (I zsec).toArray 147 underlying78 (by kernel_rfl) hg (by rw [zah];exact hs) (by rw [zah];simp [zuf,zsec_length];exact hs);rw [znR,zah] at hcp
 go_still_tail 2,(by kernel_rfl)
 change wpList _ _ _ _ _ w0.drew;have hg1:(w0.drew.setRow z (I (pad s)).toArray).heap[z]?=q (.cells (I (pad s)).toArray 147 (0,0)):=setRow_heap _ _ _ _ 147 (0,0) hg;have hb1:T z w0 (w0.drew.setRow z (I (pad s)).toArray):=⟨rfl,rfl,rfl,by simp,fun k hk=>setRow_other _ _ _ _ (by omega)⟩;have HB1:=zh hb1;have HG1:=zh hg1;clear hb1 hg1;go_wp2;have hb1:=HB1.out;have hg1:=HG1.out;clear HB1 HG1 hcp;generalize w0.drew.setRow z (I (pad s)).toArray=w1 at *;have hps:=zep s hs;have hD1:=hD.of_heap (w':=w1.drew) (fun k hk=>hb1.block k (hzl k hk));have cd1:w1.drew.cell? ⟨db,0,E⟩=_:=(hb1.cell e2).trans cd';have ci1:w1.drew.cell? ⟨ib,0,E⟩=_:=(hb1.cell e3).trans ci';have hld:=zkb hps (zbK (w:=w1.drew) hg1);obtain ⟨ho,fb,mb,cap,rfl,hA⟩:=hD1;have c1:=hA.c1;obtain ⟨D,hown,hMI⟩:=hA.map;have hkey:=znS i (by have:=ho.n2;omega);have HA:=zh hA;have HO:=zh ho;clear hA hD hg1 ho
 go_still_tail 6,(by kernel_rfl)
 refine zgt rfl 147 _ rfl _ _ rfl hld ?_;refine wpStill_nil ?_;change wpList _ _ _ _ _ w1.drew;have hm:=hown.isMap;have hlt:=hown.lt;have HM:=zh hMI;have hk2:T z w1 w1.drew:=(qd _ _).drew;clear hld c1 cd1 ci1 hMI;generalize w1.drew=w2 at *
 go_wp2_with (at_mapUpdate;refine wpList_mapUpdate_own _ rfl _ _ _ 141 rfl 3 147 zrV underlying141 zit mb 4096 D rfl hown (by unfold maxLen;omega) _ _ _ rfl rfl hkey (.lit (.string (pad s))) [] (zi9 hps) ?_;intro w3 hown3 hg3)
 go_end0;have ho:=HO.out;have hA:=HA.out
 have hr:∀ k,q k≠q mb→w3.heap[k]?=w2.heap[k]?∨w2.heap.size≤k:=fun k hk=>by
  rcases zum k w2.heap.size with h1|h1
  ·exact .inl (hg3.block k h1 hk)
  ·exact .inr h1
 have h3:∀ k,k=g∨k=fb→w3.heap[k]?=w2.heap[k]?:=fun k hk=>by
  refine hg3.block k ?_ ?_
  ·rcases hk with rfl|rfl
   ·exact zap hA.blk
   ·exact hA.row.lt
  ·rcases hk with rfl|rfl
   ·exact fun e=>hA.gm (Option.some.inj e)
   ·exact fun e=>hA.fm (Option.some.inj e)
 refine ⟨rfl,[g,fb,mb],⟨ho.put hi hps,fb,mb,cap,rfl,⟨(h3 g (.inl rfl)).trans hA.blk,hA.row.of_heap (h3 fb (.inr rfl)),?_,hA.hcap⟩⟩,?_,zaV.refl _ _⟩
 ·exact zeF.stored HM.out hm (fun j t hj=>(ho.wlen j t hj).1) hi ho.n2 hown3
 ·have hb2:T z w w2:=hbl.trans (hb1.trans hk2);have hk:zaw [g,fb,mb] w2 w3:=zaw.of_grown hg3 (fun k hk=>.inl (by cases hk;simp));exact (zaw.of_below (by rw [hz];exact hb2)).trans hk
theorem zk7 (w:J) (A B C:Obj):(((w.alloc A).alloc B).alloc C).heap[w.heap.size]?=q A∧(((w.alloc A).alloc B).alloc C).heap[w.heap.size+1]?=q B∧(((w.alloc A).alloc B).alloc C).heap[w.heap.size+2]?=q C:=by
 show (((w.heap.push A).push B).push C)[w.heap.size]?=q A∧(((w.heap.push A).push B).push C)[w.heap.size+1]?=q B∧(((w.heap.push A).push B).push C)[w.heap.size+2]?=q C;refine ⟨?_,?_,?_⟩
 ·rw [zuT,if_neg (by simp;omega),zuT,if_neg (by simp),zuT,if_pos rfl]
 ·rw [zuT,if_neg (by simp),zuT,if_pos (by simp)]
 ·rw [zuT,if_pos (by simp)]
theorem zpV (g:Nat) (L:List Nat) (d:St) (at_:Int) (s:List UInt8) (w:J) (h:Dv w g L d) (hr:d.refuses at_≠0) :
 U H 69 #[ptr g,O N at_,qc (txt s)] w fun e w'=>e=X (O N (d.refuses at_))∧T w.heap.size w w':=by
 have HC:=zh (fun w1 (h1:Dv w1 g L d)=>zbX g L d at_ w1 h1)
 have hb:T w.heap.size w (((w.alloc (V #[ptr g] 24)).alloc (V #[O N at_] 3)).alloc (V #[qc (txt s)] 9)) :=
  (((qd _ w).alloc (ztI _) _).alloc (by simp) _).alloc (by simp;omega) _
 have hD:=h.below hb;have HD:=zh hD;have HB:=zh hb;clear h hD hb;have hne:(d.refuses at_ != 0)=Y:=by simpa using hr
 generalize d.refuses at_=r at *;unfold ptr at *;go_enter func69,ntmps69
 go_wp2_with fail
 refine (HC.out _ HD.out).mono ?_;rintro e w1 ⟨rfl,rfl⟩;have hne:(r != 0)=Y:=by simpa using hr
 go_wp2;go_ret;exact ⟨rfl,HB.out⟩
theorem zk8 (g:Nat) (L:List Nat) (d:St) (at_:Int) (s:List UInt8) (w:J) (h:Dv w g L d) (hr:d.refuses at_=0) (hs:64<s.length) :
 U H 69 #[ptr g,O N at_,qc (txt s)] w fun e w'=>e=X (O N 3)∧T w.heap.size w w':=by
 have HC:=zh (fun w1 (h1:Dv w1 g L d)=>zbX g L d at_ w1 h1);rw [hr] at HC
 have hb:T w.heap.size w (((w.alloc (V #[ptr g] 24)).alloc (V #[O N at_] 3)).alloc (V #[qc (txt s)] 9)) :=
  (((qd _ w).alloc (ztI _) _).alloc (by simp) _).alloc (by simp;omega) _
 have hD:=h.below hb;have HD:=zh hD;have HB:=zh hb;have hl:(64:Int)<(txt s).size:=by rw [zah];omega
 generalize txt s=t at *;clear h hD hb hr hs;unfold ptr at *;go_enter func69,ntmps69
 go_wp2_with fail
 refine (HC.out _ HD.out).mono ?_;rintro e w1 ⟨rfl,rfl⟩;go_wp2;go_ret;exact ⟨rfl,HB.out⟩
theorem znT (g:Nat) (L:List Nat) (d:St) (i:Nat) (s:List UInt8) (w:J) (h:Dv w g L d) (hr:d.refuses i=0) (hs:s.length≤64) :
 U H 69 #[ptr g,O N i,qc (txt s)] w fun e w'=>e=X (O N (d.try_ (fun x=>x.put i (pad s))).2)∧zav g L (d.try_ (fun x=>x.put i (pad s))).1 w w':=by
 have hdd:d.dead=Z∧i<d.n:=by
  unfold St.refuses at hr
  cases hd:d.dead
  ·rw [hd,if_neg (by decide)] at hr
   split at hr
   ·cases hr
   ·exact ⟨rfl,by omega⟩
  ·rw [hd,if_pos rfl] at hr;cases hr
 have HC:=zh (fun w1 (h1:Dv w1 g L d)=>zbX g L d i w1 h1);rw [hr] at HC;have hw:∃ W,W=((w.alloc (V #[ptr g] 24)).alloc (V #[O N i] 3)).alloc (V #[qc (txt s)] 9):=⟨_,rfl⟩;obtain ⟨W,hW⟩:=hw
 have hb:T w.heap.size w W:=by
  rw [hW];exact (((qd _ w).alloc (ztI _) _).alloc (by simp) _).alloc (by simp;omega) _
 have hD:=h.below hb;have c5:W.cell? ⟨w.heap.size+2,0,E⟩=q (qc (txt s)):=zcr W _ 0 #[qc (txt s)] 9 (0,0) (by rw [hW];exact (zk7 w _ _ _).2.2);have c3:W.cell? ⟨w.heap.size,0,E⟩=q (ptr g):=zcr W _ 0 #[ptr g] 24 (0,0) (by rw [hW];exact (zk7 w _ _ _).1);have c4:W.cell? ⟨w.heap.size+1,0,E⟩=q (O N i):=zcr W _ 0 #[O N i] 3 (0,0) (by rw [hW];exact (zk7 w _ _ _).2.1)
 have key:U H 135 #[ptr g,.func (.func 136) #[] #[ptr (w.heap.size+2),ptr w.heap.size,ptr (w.heap.size+1)]] W fun e w' =>
  e=X (O N (d.try_ (fun x=>x.put i (pad s))).2)∧zav g L (d.try_ (fun x=>x.put i (pad s))).1 w w':=by
  have hk:zaw L w W:=zaw.of_below hb;unfold St.try_
  by_cases hl:d.left=0
  ·rw [if_pos hl];refine (zeB g L d _ W hD hl).mono ?_;rintro e w' ⟨rfl,L',h1,h2,h3⟩;exact ⟨rfl,L',h1,hk.trans h2,(zaV.refl w L).trans (fun k hk'=>(h3 k hk').elim .inl (fun h=>.inr h)) hb.size⟩
  ·rw [if_neg hl,hdd.1,if_neg (by decide)];refine (zgs 136 (.inr rfl) g L d #[] _ W hD hl hdd.1 (fun w'=>zav g L (d.step.put i (pad s)) w w') (.inr ⟨rfl,rfl,_,_,_,rfl⟩) ?_).mono ?_
   ·intro w1 hd1 hk1 hsz;have hn:∀ k∈L,k<w.heap.size:=h.lt;have hcell:∀ k,w.heap.size≤k→k<W.heap.size→w1.heap[k]?=W.heap[k]?:=fun k hk2 hk3=>hk1.block k hk3 (fun hm=>by have:=hn k hm;omega);have hWs:W.heap.size=w.heap.size+3:=by rw [hW];simp
    refine (zk6 g (w.heap.size+2) w.heap.size (w.heap.size+1) i L d.step s w1 hd1 hs hdd.2 ?_ ?_ ?_).mono ?_
    ·exact (zuE (w:=W) (a:=⟨w.heap.size+2,0,E⟩) (hcell (w.heap.size+2) (by omega) (by omega))).trans c5
    ·exact (zuE (w:=W) (a:=⟨w.heap.size,0,E⟩) (hcell (w.heap.size) (by omega) (by omega))).trans c3
    ·exact (zuE (w:=W) (a:=⟨w.heap.size+1,0,E⟩) (hcell (w.heap.size+1) (by omega) (by omega))).trans c4
    ·rintro e w' ⟨rfl,L',h1,h2,h3⟩;exact ⟨rfl,L',h1,(hk.trans hk1).trans h2,(zaV.refl w L).trans (fun k hk'=>(h3 k hk').elim .inl (fun h=>.inr h)) (ztL hb.size hk1.size)⟩
   ·rintro e w' ⟨rfl,hR⟩;exact ⟨rfl,hR⟩
 have HK:=zh key;have HW:=zh hW;have HD:=zh hD;have H5:=zh c5;have H3:=zh c3;have hl:((txt s).size:Int)≤64:=by rw [zah];omega
 generalize txt s=t at *;clear key hW hD c5 c3 c4 hb hdd h hr;unfold ptr at *;go_enter func69,ntmps69
 go_wp2_with fail
 rw [←HW.out];refine (HC.out _ HD.out).mono ?_;rintro e w1 ⟨rfl,rfl⟩;have c5:=H5.out;have c3:=H3.out;clear H5 H3
 go_wp2_with fail
 refine HK.out.mono ?_;rintro e w1 ⟨rfl,hR⟩;go_wp2;go_ret;exact ⟨rfl,hR⟩
theorem zea (g:Nat) (L:List Nat) (d:St) (at_:Int) (s:List UInt8) (w:J) (h:Dv w g L d) :
 U H 69 #[ptr g,O N at_,qc (txt s)] w fun e w'=>e=X (O N (d.write at_ s).2)∧zav g L (d.write at_ s).1 w w':=by
 unfold St.write
 by_cases hr:d.refuses at_=0
 ·rw [if_neg (by simpa using hr)]
  by_cases hs:64<s.length
  ·rw [if_pos hs];exact (zk8 g L d at_ s w h hr hs).mono fun e w' ⟨he,hb⟩=>⟨he,zav.same h (zaw.of_below hb) (h.below hb)⟩
  ·rw [if_neg hs]
   have h0:0≤at_:=by
    unfold St.refuses at hr
    split at hr
    ·cases hr
    ·split at hr
     ·cases hr
     ·omega
   obtain ⟨i,rfl⟩:=ztW h0;exact znT g L d i s w h hr (by omega)
 ·rw [if_pos hr];exact (zpV g L d at_ s w h hr).mono fun e w' ⟨he,hb⟩=>⟨he,zav.same h (zaw.of_below hb) (h.below hb)⟩
end
section
open Dk
theorem sec64:(prog.info? 147).map (·.size)=q 64:=by kernel_rfl
theorem zbW (hgd:op.guard=E) (x y:Operand) (ho:op.op=.store 147 x y)
 (w:J) (c:Array S) (l:Sec) (hl:l.length=64) (hx:a.eval x=qg (q ⟨w.heap.size,0,E⟩)) (hy:a.eval y=sv l) (hc:c.size=64)
 (h:wpList H ops Q rest (a.put op.dst undef) (w.alloc (V (I l).toArray 147))):wpList H ops Q (op :: rest) a (w.alloc (V c 147)):=by
 have hr:=run_storeAt_new (P:=H) w 147 c (I l).toArray (by rw [sec64];simp [zuf,hl]) (by simp [zuf,hl,hc])
  (all_oneCell_toArray (Lib.byteCells_one l))
 refine wpList_plain hgd fun K hK=>?_;unfold Oper.wp execOp;simp only [ho,hx,hy,sv];simp [hr,Result.andThen];exact hK _ _ h
def Dk.setMany (cur:Array S):Nat→List S→Array S
 | _,[]=>cur
 | o,v :: r=>Dk.setMany (cur.setIfInBounds o v) (o+1) r
theorem zeA:∀ (vs:List S) (cur:Array S) (o:Nat),(Dk.setMany cur o vs).size=cur.size
 | [],_,_=>rfl
 | v :: r,cur,o=>by rw [Dk.setMany,zeA r];simp
theorem zdz:∀ (vs:List S) (cur:Array S) (o k:Nat),(k<o∨o+vs.length≤k)→(Dk.setMany cur o vs)[k]?=cur[k]?
 | [],_,_,_,_=>rfl
 | v :: r,cur,o,k,h=>by
   rw [zud] at h;rw [Dk.setMany,zdz r _ (o+1) k (by omega),Array.getElem?_setIfInBounds_ne (by omega)]
theorem zgr:∀ (vs:List S) (cur:Array S) (o j:Nat),j<vs.length→o+vs.length≤cur.size→(Dk.setMany cur o vs)[o+j]?=vs[j]?
 | [],_,_,_,h,_=>by simp at h
 | v :: r,cur,o,j,h,hs=>by
   rw [zud] at h hs;rw [Dk.setMany]
   match j with
   | 0 =>
     rw [zdz r _ (o+1) (o+0) (by omega),Nat.add_zero,Array.getElem?_setIfInBounds_self_of_lt (by omega)];rfl
   | j+1 =>
     have:=zgr r (cur.setIfInBounds o v) (o+1) j (by omega) (by simp;omega)
     rw [zuA,←this]
     congr 1
     omega
theorem zd8:∀ (vs:List S) (w:J) (b o:Nat) (cur:Array S) (t:TypeId),w.heap[b]?=q (V cur t (0,0))→(w.setCells b o vs).heap[b]?=q (V (Dk.setMany cur o vs) t (0,0))
 | [],_,_,_,_,_,h=>h
 | v :: r,w,b,o,cur,t,h=>by
   rw [World.setCells,Dk.setMany];exact zd8 r _ b (o+1) _ t (heap_setCell_same w b o cur t v h)
theorem zdp {b:Nat}:∀ (vs:List S) (w:J) (o:Nat),w.grownBy (w.setCells b o vs) (q b)∧(w.setCells b o vs).heap.size=w.heap.size
 | [],w,_=>⟨World.grownBy.refl w _,rfl⟩
 | v :: r,w,o=>by
   obtain ⟨h1,h2⟩:=zdp (b:=b) r (w.setCell ⟨b,o,E⟩ v) (o+1);have h0:w.grownBy (w.setCell ⟨b,o,E⟩ v) (q b):=⟨rfl,rfl,rfl,by simp,fun k _ hk=>heap_setCell_other w ⟨b,o,E⟩ k v (fun e=>hk (by simp [e]))⟩;exact ⟨h0.trans h1,h2.trans (by simp)⟩
theorem Dk.zcc.stored {F:Nat→Sec} {l:Sec} (h:zcc w fb n F) (hi:i<n) (hl:l.length=64) (G:Nat→Sec) (hG:∀ j,j<n→G j=if j=i then l else F j) :
 zcc (w.setCells fb (i*64) (I l)) fb n G:=by
 obtain ⟨cur,h1,h2,h3⟩:=h;have hlen:(I l).length=64:=by rw [zuf,hl]
 have hin:(i+1)*64≤n*64:=zuI _ hi;refine ⟨_,zd8 _ w fb _ cur 147 h1,by rw [zeA];exact h2,fun j hj k hk=>?_⟩;rw [hG j hj]
 by_cases e:j=i
 ·subst e;rw [if_pos rfl,zgr _ _ _ _ (by omega) (by omega)]
 ·rw [if_neg e,zdz _ _ _ _ (by rw [hlen];omega),h3 j hj k hk]
def mrg (d:St) (left:Lit→Bool) (i:Nat):Sec:=if left (.int .i64 (i:Int))=Y then d.fl i else d.now i
theorem zk3 (w:J) (row:Option Nat):w.grownBy w.drew row:=⟨rfl,rfl,rfl,ztI _,fun _ _ _=>rfl⟩
theorem zpU (d:St) (left:Lit→Bool) (i:Nat) (l:Sec) (hwi:d.wt i=q l) (j:Nat):mrg d (fun z=>left z&&!z.sameKey (Lit.int N (i:Int))) j=if j=i then l else mrg d left j:=by
 show (if (left (.int .i64 (j:Int))&&!(Lit.int .i64 (j:Int)).sameKey (.int .i64 (i:Int)))=Y then d.fl j else d.now j)=_
 by_cases e:j=i
 ·subst e;rw [if_pos rfl,WideAt.sameKey_self (zfI _)];simp only [Bool.not_true,Bool.and_false,Bool.false_eq_true,if_false];unfold St.now;rw [hwi];rfl
 ·rw [if_neg e,Maps.sameKey_ne (fun e1=>e (by cases e1;rfl))];simp only [zux,Bool.and_true];rfl
theorem zk4 (g:Nat) (L:List Nat) (d:St) (w:J) (h:Dv w g L d) :
 U H 90 #[ptr g] w fun e w'=>e=.returned (.tuple #[])∧zav g L d.settle w w':=by
 have hmm:=@run_makeMap H;obtain ⟨ho,fb,mb,cap,rfl,hA⟩:=h;have c1:=hA.c1;obtain ⟨D,hown,hMI⟩:=hA.map;have HO:=zh ho;have HA:=zh hA;have HM:=zh hMI;clear ho hA hMI;unfold ptr;go_enter func90,ntmps90
 go_wp2_with (at_range;refine wpList_range_own _ rfl _ 141 rfl 3 147 zrV underlying141 zit mb 4096 D rfl hown ?_;intro w0 hrg0 hg0 hs0)
 go_frame
 go_loopw [9] (fun _ wr=>∃ (left:Lit→Bool) (cnt:Nat),wr.ranges H 3 zit mb w.heap.size 4096 D left cnt∧zcc wr fb d.n (mrg d left)∧zaw [fb] w wr)
  (fun _ wr=>wr.rangeLeft mb w.heap.size)
 case atStart =>
  refine ⟨_,_,hrg0,?_,zaw.of_grown hg0 (fun k hk=>by cases hk)⟩;have hrow:=HA.out.row.of_heap (hg0.block fb HA.out.row.lt (by simp));obtain ⟨cur,h1,h2,h3⟩:=hrow;refine ⟨cur,h1,h2,fun i hi j hj=>?_⟩;rw [h3 i hi j hj];unfold mrg
  split
  ·rfl
  ·rename_i hh
   rw [HM.out.1 i] at hh;simp only [ztV,Int.natCast_nonneg,decide_true,zt8] at hh;unfold St.now
   cases e:d.wt i with
   | none=>rfl
   | some s=>rw [e] at hh;simp at hh
 case round =>
  obtain ⟨left,cnt,hrg,hrow,hK⟩:=hrel;have hA:=HA.out;have hgr:wr.heap[g]?=_:=(hK.block g (zap hA.blk) (by simpa using hA.gf)).trans hA.blk;have hgl:=zap hgr;have hgf:=hA.gf;have hcp:=hA.hcap;have HGR:=zh hgr;clear hA hgr
  go_wp2_with (at_next;refine wpList_next_ranges _ rfl _ rfl 3 zrV zit encZ (fun c:{ l:Sec // l.length=64 }=>sv c.1) (fun key kl hk=>by obtain ⟨x,hx,_⟩:=Maps.keyOf_i64 underlying3 hk;exact ⟨x,hx⟩) (fun v y hv=>by obtain ⟨l,hl,he,_⟩:=zj8 hv;exact ⟨⟨l,hl⟩,he⟩) mb w.heap.size 4096 _ _ _ rfl hrg ?_ ?_)
  ·intro hc0 hl0;have hg1:(wr.alloc (.map #[] 0)).heap[g]?=_:=(zuN wr _ g hgl).trans HGR.out;have c1:=zcr _ g 1 _ 143 (0,0) hg1;have f1:=frozen_of_row _ g 1 _ 143 hg1;have HL:=zh hl0;clear hg1 hl0;go_wp2;go_end0;have e1:(wr.setCell ⟨g,1,E⟩ (.map (q wr.heap.size))).heap.size=wr.heap.size:=by simp
   refine ⟨rfl,[g,fb,wr.heap.size],⟨HO.out.settle,fb,wr.heap.size,cap,rfl,⟨?_,?_,?_,hcp⟩⟩,?_,?_⟩
   ·exact (zuN _ _ g (by rw [e1];exact hgl)).trans (heap_setCell_same wr g 1 _ 143 _ HGR.out)
   ·have e:mrg d left=d.now:=by
     funext i
     unfold mrg;rw [HL.out];rfl
    rw [e] at hrow;exact (hrow.of_heap (heap_setCell_other wr ⟨g,1,E⟩ fb _ (fun e=>hgf e.symm))).of_heap (zuN _ _ fb (by rw [e1];exact hrow.lt))
   ·have:=zgq (wr.setCell ⟨g,1,E⟩ (.map (q wr.heap.size)))
    rw [e1] at this;exact this
   ·exact ((hK.mono (L':=[g,fb,mb]) (by simp)).trans (zaw.setCell (p:=⟨g,1,E⟩) (by simp) _)).trans (zaw.alloc _)
   ·intro k hk;simp at hk;rcases hk with rfl|rfl|rfl
    ·exact .inl (by simp)
    ·exact .inl (by simp)
    ·exact .inr hK.size
  ·intro x l hl kl yd yp w1 cnt1 hkey hlk hv hat hrg1 hlt hg1 hs1 hen
   obtain ⟨i,rfl,hin,hwi,hkl⟩:∃ i:Nat,x=(i:Int)∧i<d.n∧d.wt i=q l∧kl=.int .i64 (i:Int):=by
    obtain ⟨x',hx,rfl,_⟩:=Maps.keyOf_i64 underlying3 hkey;obtain rfl:=encZ_inj hx;have h1:=Maps.has_true_of_atKey hat;rw [HM.out.1 x] at h1;simp only [ztZ,decide_eq_true_eq] at h1;obtain ⟨s,hs⟩:=Option.isSome_iff_exists.1 h1.2;have e:x=(x.toNat:Int):=by omega
    have h2:=HM.out.2 x.toNat s hs .nil;rw [←e,hat] at h2;rw [zi9 hl] at hv
    cases hv
    cases h2
    exact ⟨x.toNat,e,(HO.out.wlen _ _ hs).1,hs,by rw [←e]⟩
   subst hkl;have HS1:=zh hs1;have HA1:=zh hat;clear hs1 hat
   go_wp2_with (refine zbW rfl _ _ rfl _ _ l hl rfl rfl rfl ?_)
   have hgb:w1.heap[g]?=_:=(hg1.block g hgl (fun e=>by have h1:=zap HA.out.blk;have:=Option.some.inj e;omega)).trans HGR.out;have hrow1:zcc w1 fb d.n (mrg d left):=hrow.of_heap (hg1.block fb hrow.lt (fun e=>by have h1:=HA.out.row.lt;have:=Option.some.inj e;omega));have hk1:zaw [fb] w w1:=hK.trans' (L':=[w.heap.size]) (zaw.of_grown hg1 (fun k hk=>by cases hk;exact .inl (by simp))) (fun k hk=>by simp at hk;exact .inr (by omega));obtain ⟨w2,hw2⟩:∃ w2,w2=w1.alloc (.cells (I l).toArray 147):=⟨_,rfl⟩;have hb2:T w1.heap.size w1 w2:=by rw [hw2];exact zba
   have hn2:w2.heap[w1.heap.size]?=q (.cells (I l).toArray 147 (0,0)):=by rw [hw2];exact ztJ w1 _
   have hrg2:w2.ranges H 3 zit mb w.heap.size 4096 D (fun z=>left z&&!z.sameKey (Lit.int N (i:Int))) cnt1:=by rw [hw2];exact hrg1.alloc _
   rw [←hw2];have hk2:zaw [fb] w w2:=hk1.trans (zaw.of_below hb2);have hrow2:zcc w2 fb d.n (mrg d left):=hrow1.of_heap (hb2.block fb hrow1.lt);have hg2:w2.heap[g]?=_:=(hb2.block g (zap hgb)).trans hgb;clear hw2 hrg1 hb2 hgb hrow1 hk1 hg1 hen;generalize w1.heap.size=z at *;have hld:=zkb hl (zbK (w:=w2.drew) hn2);have c0:=zcr w2.drew g 0 _ 143 (0,0) hg2;have hth:=hrow2.there i hin;have hin0:(0:Int)≤i:=by omega
   have hin1:(i:Int)<d.n:=by omega
   have HG2:=zh hg2;clear hg2
   go_still_tail 7,(by kernel_rfl)
   refine zgt rfl 147 _ rfl _ _ rfl hld ?_
   repeat still_step
   refine wpStill_nil ?_;change wpList _ _ _ _ _ w2.drew;refine wpList_store_mid rfl 147 _ _ rfl fb (i*64) (I l).toArray rfl rfl (by simpa [zuf,hl] using hth) (by rw [sec64];simp [zuf,hl]) (all_oneCell_toArray (Lib.byteCells_one l)) ?_;have hw3:∃ w3,w3=w2.drew.setCells fb (i*64) (I l).toArray.toList:=⟨_,rfl⟩;obtain ⟨w3,hw3⟩:=hw3;have hdr:zcc w2.drew fb d.n (mrg d left):=hrow2
   have hrow3:zcc w3 fb d.n (mrg d (fun z=>left z&&!z.sameKey (Lit.int N (i:Int)))):=by
    rw [hw3];exact hdr.stored hin hl _ (fun j _=>zpU d left i l hwi j)
   have hgr3:w2.grownBy w3 (q fb):=by rw [hw3];exact (zk3 w2 _).trans (zdp _ w2.drew (i*64)).1
   have hrg3:=hrg2.kept hgr3 (fun e=>by have h1:=HA.out.fm;exact h1 (Option.some.inj e).symm) (fun e=>by have h1:=HA.out.row.lt;have:=Option.some.inj e;omega);have hk3:zaw [fb] w w3:=hk2.trans (zaw.of_grown hgr3 (fun k hk=>by cases hk;exact .inl (by simp)));rw [←hw3];clear hw3 hdr hth hld c0 hrg2 hgr3
   go_frame
   go_wp2
   go_roundw
   case rel =>
    exact ⟨_,cnt1,hrg3,hrow3,hk3⟩
   case measure=>rw [hrg3.left_eq,hrg.left_eq];exact hlt
theorem zd9 (g:Nat) (L:List Nat) (d:St) (w:J) (h:Dv w g L d) :
 U H 82 #[ptr g] w fun e w'=>e=X (O N d.flush.2)∧zav g L d.flush.1 w w':=by
 have key:U H 135 #[ptr g,.func (.func 90) #[ptr g] #[]] w fun e w'=>e=X (O N d.flush.2)∧zav g L d.flush.1 w w':=by
  unfold St.flush St.try_
  by_cases hl:d.left=0
  ·rw [if_pos hl];exact zeB g L d _ w h hl
  ·rw [if_neg hl]
   cases hd:d.dead
   ·rw [if_neg (by decide)];refine zgs 90 (.inl rfl) g L d _ _ w h hl hd (fun w'=>zav g L d.step.settle w w') (.inl ⟨rfl,rfl,rfl⟩) ?_;intro w1 hd1 hk1 hs1;refine (zk4 g L d.step w1 hd1).mono ?_;rintro e w' ⟨rfl,L',h1,h2,h3⟩;exact ⟨rfl,L',h1,hk1.trans h2,(zaV.refl w L).trans h3 hk1.size⟩
   ·rw [if_pos rfl];exact (zir g L d _ w h hl hd).mono fun e w' ⟨he,hw⟩=>⟨he,by subst hw;exact zav.same h (zaw.refl _ _) h⟩
 have HK:=zh key;clear key h;generalize d.flush=p at *;unfold ptr at *;go_enter func82,ntmps82
 go_wp2_with fail
 refine HK.out.mono ?_;rintro e w1 ⟨rfl,hR⟩;go_wp2;go_ret;exact ⟨rfl,hR⟩
end
section
open Dk
theorem zco {o:Oper} (hg:o.guard=E) (m x:Operand) (hop:o.op=Op.lookup 141 m x Y)
 (w:J) (mb i:Nat) (M:Nat→Option Sec) (hm:a.eval m=.map (q mb)) (hx:a.eval x=.int .i64 (i:Int)) (hM:zeF w mb M) (hi:i<4096)
 (hK:wpList H ops Q rest (a.put o.dst (.tuple #[sv ((M i).getD zsec),.bool (M i).isSome])) w):wpList H ops Q (o :: rest) a w:=by
 obtain ⟨D,hown,hMI⟩:=hM;refine wpList_lookup_own_ok w hg m x 141 hop 3 147 zrV underlying141 zit (z:=sv zsec) (zeroValue147 w) (.lit (.string zsec)) [] (zi9 zsec_length) mb 4096 D hm hown _ (.int .i64 (i:Int)) hx (znS i hi) ?_;intro v ps hv;obtain ⟨l,hl,rfl,hy⟩:=zj8 hv;have h1:=hMI.1 (i:Int);simp only [ztV,Int.natCast_nonneg,decide_true,zt8] at h1;rw [h1]
 have e:l=(M i).getD zsec:=by
  simp only [Prod.mk.injEq] at hy
  cases hmi:M i with
  | none =>
    rw [hmi] at h1;rw [Maps.atKey_of_not_has h1] at hy;have h2:=hy.1;simp only [DataW.lit.injEq,Lit.string.injEq] at h2;exact h2.symm
  | some s =>
    rw [hMI.2 i s hmi] at hy;have h2:=hy.1;simp only [DataW.lit.injEq,Lit.string.injEq] at h2;exact h2.symm
 rw [e];exact hK
theorem zbe (hgd:op.guard=E) (x y:Operand) (ho:op.op=.store 147 x y)
 (w:J) (z:Nat) (old l:Sec) (hl:l.length=64) (hol:old.length=64) (hx:a.eval x=qg (q ⟨z,0,E⟩)) (hy:a.eval y=sv l) (hz:w.heap[z]?=q (V (I old).toArray 147 (0,0)))
 (h:wpList H ops Q rest (a.put op.dst undef) (w.setRow z (I l).toArray)):wpList H ops Q (op :: rest) a w :=
 wpList_store_row hgd 147 x y ho z _ hx hy 147 _ hz (by rw [sec64];simp [zuf,hl]) (by simp [zuf,hl,hol]) (all_oneCell_toArray (Lib.byteCells_one l)) h
theorem zc1 (hgd:op.guard=E) (x:Operand) (ho:op.op=.load 147 x)
 (w:J) (b o:Nat) (l:Sec) (hl:l.length=64) (hx:a.eval x=qg (q ⟨b,o,E⟩)) (hr:w.rangeAt b o (I l))
 (h:wpList H ops Q rest (a.put op.dst (sv l)) w):wpList H ops Q (op :: rest) a w :=
 wpList_load_mid hgd 147 x ho b o hx _ _ hr underlying147 rfl (by rw [sec64,zuf,hl]) h
theorem zcN (hgd:op.guard=E) (ho:op.op=.alloc 147) (w:J)
 (h:wpList H ops Q rest (a.put op.dst (qg (q ⟨w.heap.size,0,E⟩))) (zw w)):wpList H ops Q (op :: rest) a w:=by
 refine wpList_plain hgd fun K hK=>?_;unfold Oper.wp execOp;simp only [ho];go_simp;exact hK _ _ h
theorem zab {ops rest:_} (h:w'=w) (k:wpList P ops Q rest a w):wpList P ops Q rest a w':=by rw [h];exact k
theorem zw_below (w:J):T w.heap.size w (zw w):=zba
theorem zw_new (w:J):(zw w).heap[w.heap.size]?=q (V (I zsec).toArray 147 (0,0)):=ztJ w _
theorem zw_size (w:J):(zw w).heap.size=w.heap.size+1:=by unfold zw;simp
theorem Dk.zbc.below {g:Nat} {d:St} (h:zbc w g fb mb cap d) (hb:T w.heap.size w w'):zbc w' g fb mb cap d:=h.of_heap (fun k hk=>hb.block k (by
 rcases hk with rfl|rfl|rfl
 ·exact zap h.blk
 ·exact h.row.lt
 ·exact h.map.lt))
theorem zc2 (hz:B≤z) (cs:Array S):T B w (w.setRow z cs):=⟨rfl,rfl,rfl,by simp,fun k hk=>setRow_other _ _ _ _ (by omega)⟩
theorem zrS (g:Nat) (L:List Nat) (d:St) (i:Nat) (w:J) (h:Dv w g L d) (hi:i<d.n) :
 U H 92 #[ptr g,O N i] w fun e w'=>e=X (sv (d.now i))∧T w.heap.size w w':=by
 obtain ⟨ho,fb,mb,cap,rfl,hA⟩:=h;have HO:=zh ho;have hi0:(0:Int)≤i:=by omega
 have hi1:(i:Int)<d.n:=by omega
 have hi4:i<4096:=by have:=ho.n2;omega
 have hA0:=hA.below (zw_below w);have c1:=hA0.c1;have hM:=hA0.map
 have hlen:((d.wt i).getD zsec).length=64:=by
  cases e:d.wt i with
  | none=>exact zsec_length
  | some s=>exact (ho.wlen i s e).2
 obtain ⟨w2,hw2⟩:∃ w2,w2=(zw (zw w)).setRow (zw w).heap.size (I ((d.wt i).getD zsec)).toArray:=⟨_,rfl⟩;have hb2:T (zw w).heap.size (zw w) w2:=by rw [hw2];exact (zw_below _).trans (zc2 (ztI _) _)
 have hA2:=hA0.below hb2;have c0:=hA2.c0;have hr2:=hA2.row.range ho.flen i hi;have hn2:w2.heap[(zw w).heap.size]?=q (V (I ((d.wt i).getD zsec)).toArray 147 (0,0)):=by rw [hw2];exact setRow_heap _ _ _ _ 147 (0,0) (zw_new _)
 have hz2:w2.heap[w.heap.size]?=q (V (I zsec).toArray 147 (0,0)):=(hb2.block _ (by rw [zw_size];omega)).trans (zw_new w);have hB:T w.heap.size w w2:=(zw_below w).trans (hb2.mono (by rw [zw_size];omega));have HW:=zh hw2;have HI:=zh hi;clear ho hA hA0 hb2 hA2 hw2 hi;unfold ptr
 cases e:d.wt i with
 | none =>
   have HE:=zh e;rw [e] at hlen hn2 HW;clear e;have hfl:=HO.out.flen i;have hnow:Hid (d.now i=d.fl i):=by show _=_;unfold St.now;rw [HE.out];rfl
   go_enter func92,ntmps92
   go_wp2_with (first
    | (refine zcN rfl rfl _ ?_;go_frame)
    | (at_lookup;refine zco rfl _ _ rfl _ mb i d.wt rfl rfl hM hi4 ?_;rw [HE.out];go_frame)
    | (refine zbe rfl _ _ rfl _ _ zsec _ hlen zsec_length rfl rfl (zw_new _) ?_;rw [←HW.out];go_frame)
    | (refine zc1 rfl _ rfl _ fb (i*64) (d.fl i) hfl rfl hr2 ?_;go_frame)
    | (refine zbe rfl _ _ rfl _ w.heap.size zsec (d.fl i) hfl zsec_length rfl rfl hz2 ?_;go_frame))
   rw [hnow.out]
   exact ztP (v:=sv (d.fl i)) (results_cell_row results92 _ _ w.heap.size 147 _ (0,0) _ rfl (setRow_heap _ _ _ _ 147 (0,0) hz2) underlying147 rfl (by rw [sec64];simp [zuf,hfl])) rfl
    ⟨rfl,hB.trans (zc2 (ztI _) _)⟩
 | some s =>
   have HE:=zh e;rw [e] at hlen hn2 HW;change List.length s=64 at hlen;clear e;have hnow:Hid (d.now i=s):=by show _=_;unfold St.now;rw [HE.out];rfl
   have hr3:w2.rangeAt (zw w).heap.size 0 (I s):=zbK hn2;go_enter func92,ntmps92
   go_wp2_with (first
    | (refine zcN rfl rfl _ ?_;go_frame)
    | (at_lookup;refine zco rfl _ _ rfl _ mb i d.wt rfl rfl hM hi4 ?_;rw [HE.out];go_frame)
    | (refine zbe rfl _ _ rfl _ _ zsec s hlen zsec_length rfl rfl (zw_new _) ?_;refine zab HW.out.symm ?_;go_frame)
    | (refine zc1 rfl _ rfl _ (zw w).heap.size 0 s hlen rfl hr3 ?_;go_frame)
    | (refine zbe rfl _ _ rfl _ w.heap.size zsec s hlen zsec_length rfl rfl hz2 ?_;go_frame))
   rw [hnow.out]
   exact ztP (v:=sv s) (results_cell_row results92 _ _ w.heap.size 147 _ (0,0) _ rfl (setRow_heap _ _ _ _ 147 (0,0) hz2) underlying147 rfl (by rw [sec64];simp [zuf,hlen])) rfl
    ⟨rfl,hB.trans (zc2 (ztI _) _)⟩
end
section
open Dk
theorem zd5 {l:List UInt8} (hl:l.length=n) (h:w.rangeAt z o (I l)):(convert 78 9 (qe (q ⟨z,o,E⟩) n cap)).run H w=.ok (qc (txt l)) w:=by
 subst hl;exact run_convert_bytes_back w 78 9 5 ⟨z,o,E⟩ cap l underlying78 underlying5 underlying9 (fun j hj=>by rw [Addr.add_mid];exact h j _ (by simp [I,zt2 hj]))
theorem zrT (g:Nat) (L:List Nat) (d:St) (at_:Int) (w:J) (h:Dv w g L d) (hr:d.refuses at_≠0) :
 U H 181 #[ptr g,O N at_] w fun e w'=>e=X (qh #[qc ⟨#[]⟩,O N (d.refuses at_)])∧w=w':=by
 have HC:=zh (zbX g L d at_ w h);have hne:(d.refuses at_ != 0)=Y:=by simpa using hr
 generalize d.refuses at_=r at *;clear h;unfold ptr at *;go_enter func181,ntmps181
 go_wp2_with fail
 refine HC.out.mono ?_;rintro e w1 ⟨rfl,rfl⟩;go_wp2;go_ret2;exact ⟨rfl,rfl⟩
theorem zpT (g:Nat) (L:List Nat) (d:St) (i:Nat) (w:J) (h:Dv w g L d) (hr:d.refuses i=0) :
 U H 181 #[ptr g,O N i] w fun e w'=>e=X (qh #[qc (txt (d.now i)),O N 0])∧T w.heap.size w w':=by
 have hin:i<d.n:=by
  unfold St.refuses at hr
  split at hr
  ·cases hr
  ·split at hr
   ·cases hr
   ·omega
 have HC:=zh (zbX g L d i w h);rw [hr] at HC;have HN:=zh (zrS g L d i w h hin);have hl:=h.1.now i;generalize d.now i=l at *;clear h hr;unfold ptr at *;go_enter func181,ntmps181
 go_wp2_with fail
 refine HC.out.mono ?_;rintro e w1 ⟨rfl,rfl⟩
 go_wp2_with fail
 refine HN.out.mono ?_;rintro e w1 ⟨rfl,hb1⟩;have hcv:(convert 78 9 (qe (q ⟨w1.heap.size,0,E⟩) 64 64)).run H (w1.alloc (V (I l).toArray 147))=.ok (qc (txt l)) (w1.alloc (V (I l).toArray 147)):=zd5 hl (zbK (ztJ w1 _))
 go_wp2_with (refine zbW rfl _ _ rfl _ _ l hl rfl rfl rfl ?_)
 go_ret2;exact ⟨rfl,hb1.trans ((qd _ _).alloc hb1.size _)⟩
namespace Dk
def St.readS (d:St) (at_:Int):List UInt8:=if d.refuses at_=0 then d.now at_.toNat else []
end Dk
theorem zbd {d:St} {at_:Int} (hr:d.refuses at_=0):0≤at_∧at_<d.n∧d.dead=Z:=by
 unfold St.refuses at hr
 cases hd:d.dead
 ·rw [hd,if_neg (by decide)] at hr
  split at hr
  ·cases hr
  ·exact ⟨by omega,by omega,rfl⟩
 ·rw [hd,if_pos rfl] at hr;cases hr
theorem zd6 (g:Nat) (L:List Nat) (d:St) (at_:Int) (w:J) (h:Dv w g L d) :
 U H 181 #[ptr g,O N at_] w fun e w'=>e=X (qh #[qc (txt (d.readS at_)),O N (d.refuses at_)])∧T w.heap.size w w':=by
 unfold St.readS
 by_cases hr:d.refuses at_=0
 ·obtain ⟨i,rfl⟩:=ztW (zbd hr).1;rw [if_pos hr,hr];exact zpT g L d i w h hr
 ·rw [if_neg hr];exact (zrT g L d at_ w h hr).mono fun e w' ⟨he,hw⟩=>⟨he,by subst hw;exact qd _ _⟩
end
end Go.Proofs.YtidndekacnmihaaGreat
