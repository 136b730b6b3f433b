/-
  WalPlays: WE WN WX Open OM.
  Conditions: named in each theorem.
-/
import Derived.Test.YtnobeoppffoomaaGreatP11
import Derived.Test.YtnobeoppffoomaaGreatP30
import Derived.BigQuiet
import Derived.Test.YtnobeoppffoomaaGreatP31
import Derived.Test.YtnobeoppffoomaaGreatP09
import Derived.Test.YtnobeoppffoomaaGreatP06
import Derived.WalkKit
import Derived.ProofKit
import Derived.OpenShut
import Derived.SizedLaws
import Derived.Carry
import Derived.ChangeSame
import Derived.Lib.SmallJoins
import Derived.Deep.Slices
import Derived.Test.YtnobeoppffoomaaGreatP0
set_option linter.unusedVariables false
set_option linter.unusedSimpArgs false
set_option maxHeartbeats 8000000
set_option maxRecDepth 100000
namespace Go.Proofs.YtnobeoppffoomaaGreat
open Go.RowKit
theorem neq_entry (a b:En) (w:World):(binOp .neq 28 (ev a) (ev b)).run Tryz.prog w=.ok (.bool (!sameB a b)) w:=by
 go_simp
 unfold sameB
 repeat' split
 all_goals simp_all
theorem esame_any (A A':Option Addr) (n c n' c':Nat) (es fs:List En) (w:World) (hE:Ents w.heap.size A n es w) (hF:Ents w.heap.size A' n' fs w) (hn:(n:Int)≤9223372036854775807) (hn':(n':Int)≤9223372036854775807) :
 Calls Tryz.prog 17 #[.slice A n c,.slice A' n' c'] w fun r w'=>r=.returned (.bool (entsB n n' es fs))∧Below w.heap.size w w':=by
 have HE:=zh hE
 have HF:=zh hF
 clear hE hF
 by_cases hnn:n=n'
 ·subst hnn
  have hT:Hid (entsB n n es fs=preB es fs n):=by show _=_;unfold entsB;rw [decide_eq_true rfl,Bool.true_and]
  go_enter Tryz.func17,Tryz.ntmps17
  go_wp2
  go_loopw [5] (fun i wr=>∃ k:Nat,k≤n∧i=.int .i64 k∧Hid (preB es fs k=true)∧Below w.heap.size w wr) (fun i _=>n-(Go.RowKit.intOf i).toNat)
  case atStart=>exact ⟨0,Nat.zero_le _,rfl,rfl,Below.refl _ _⟩
  case round =>
   obtain ⟨k,hk,rfl,HI,hb⟩:=hrel
   by_cases hlt:k<n
   ·obtain ⟨e,he⟩:∃ e,es[k]?=some e:=⟨_,List.getElem?_eq_getElem (by rw [HE.out.len];exact hlt)⟩
    obtain ⟨f,hf⟩:∃ f,fs[k]?=some f:=⟨_,List.getElem?_eq_getElem (by rw [HF.out.len];exact hlt)⟩
    obtain ⟨a,hA,hB,hc⟩:=(HE.out.below hb.drew).at_ k e he
    obtain ⟨a',hA',hB',hc'⟩:=(HF.out.below hb.drew).at_ k f hf
    have hst:Hid (preB es fs (k+1)=(preB es fs k&&sameB e f)):=preB_step es fs k e f he hf
    have d0:wr.drew.cell? (a.add (k*11))=some (.int .u64 e.term):=hc 0 (by omega)
    have d1:wr.drew.cell? ⟨(a.add (k*11)).block,(a.add (k*11)).off+1,none⟩=some (.int .u64 e.index):=hc 1 (by omega)
    have d2:wr.drew.cell? ⟨(a.add (k*11)).block,(a.add (k*11)).off+2,none⟩=some (.int .i64 e.kind):=hc 2 (by omega)
    have d3:wr.drew.cell? ⟨(a.add (k*11)).block,(a.add (k*11)).off+3,none⟩=some (.int .u64 e.client):=hc 3 (by omega)
    have d4:wr.drew.cell? ⟨(a.add (k*11)).block,(a.add (k*11)).off+4,none⟩=some (.int .u64 e.seq):=hc 4 (by omega)
    have d5:wr.drew.cell? ⟨(a.add (k*11)).block,(a.add (k*11)).off+5,none⟩=some (.int .u64 e.block):=hc 5 (by omega)
    have d6:wr.drew.cell? ⟨(a.add (k*11)).block,(a.add (k*11)).off+6,none⟩=some (.int .u64 e.many):=hc 6 (by omega)
    have d7:wr.drew.cell? ⟨(a.add (k*11)).block,(a.add (k*11)).off+7,none⟩=some (.int .i64 e.node):=hc 7 (by omega)
    have d8:wr.drew.cell? ⟨(a.add (k*11)).block,(a.add (k*11)).off+8,none⟩=some (.int .i64 e.level):=hc 8 (by omega)
    have d9:wr.drew.cell? ⟨(a.add (k*11)).block,(a.add (k*11)).off+9,none⟩=some (.string e.data):=hc 9 (by omega)
    have d10:wr.drew.cell? ⟨(a.add (k*11)).block,(a.add (k*11)).off+10,none⟩=some (.string e.old):=hc 10 (by omega)
    have f0:wr.drew.cell? (a'.add (k*11))=some (.int .u64 f.term):=hc' 0 (by omega)
    have f1:wr.drew.cell? ⟨(a'.add (k*11)).block,(a'.add (k*11)).off+1,none⟩=some (.int .u64 f.index):=hc' 1 (by omega)
    have f2:wr.drew.cell? ⟨(a'.add (k*11)).block,(a'.add (k*11)).off+2,none⟩=some (.int .i64 f.kind):=hc' 2 (by omega)
    have f3:wr.drew.cell? ⟨(a'.add (k*11)).block,(a'.add (k*11)).off+3,none⟩=some (.int .u64 f.client):=hc' 3 (by omega)
    have f4:wr.drew.cell? ⟨(a'.add (k*11)).block,(a'.add (k*11)).off+4,none⟩=some (.int .u64 f.seq):=hc' 4 (by omega)
    have f5:wr.drew.cell? ⟨(a'.add (k*11)).block,(a'.add (k*11)).off+5,none⟩=some (.int .u64 f.block):=hc' 5 (by omega)
    have f6:wr.drew.cell? ⟨(a'.add (k*11)).block,(a'.add (k*11)).off+6,none⟩=some (.int .u64 f.many):=hc' 6 (by omega)
    have f7:wr.drew.cell? ⟨(a'.add (k*11)).block,(a'.add (k*11)).off+7,none⟩=some (.int .i64 f.node):=hc' 7 (by omega)
    have f8:wr.drew.cell? ⟨(a'.add (k*11)).block,(a'.add (k*11)).off+8,none⟩=some (.int .i64 f.level):=hc' 8 (by omega)
    have f9:wr.drew.cell? ⟨(a'.add (k*11)).block,(a'.add (k*11)).off+9,none⟩=some (.string f.data):=hc' 9 (by omega)
    have f10:wr.drew.cell? ⟨(a'.add (k*11)).block,(a'.add (k*11)).off+10,none⟩=some (.string f.old):=hc' 10 (by omega)
    have HB:=zh hb
    have hq:=fun W=>neq_entry e f W
    clear hb hc hc' he hf hB hB'
    rw [hA,hA']
    clear hA hA'
    cases hs:sameB e f with
    | true =>
      rw [hs] at hst hq
      have H2:Hid (preB es fs (k+1)=true):=by show _=_;rw [hst.out,HI.out];rfl
      clear hs
      go_upto_region 6 with fail
      go_region
      go_wp2
      go_roundw
      case rel=>exact ⟨k+1,by omega,by go_num,H2,HB.out.drew⟩
      case measure=>simp [Go.RowKit.intOf];omega
    | false =>
      rw [hs] at hst hq
      have H2:Hid (entsB n n es fs=false):=by
       show _=_
       rw [hT.out]
       exact preB_stop (k:=k+1) (by rw [hst.out,HI.out];rfl) (by omega) HE.out.len HF.out.len
      clear hs
      go_upto_region 6 with fail
      go_region
      go_wp2
      go_ret
      exact ⟨by rw [H2.out];rfl,HB.out.drew⟩
   ·have hkn:k=n:=by omega
    subst hkn
    go_wp2
    go_ret
    exact ⟨by rw [hT.out,HI.out];rfl,hb⟩
 ·have hT:Hid (entsB n n' es fs=false):=entsB_len hnn
  have h1:((n:Int)==(n':Int))=false:=beqF (by omega)
  have h2:((n:Int) != (n':Int))=true:=by unfold bne;rw [h1];rfl
  go_enter Tryz.func17,Tryz.ntmps17
  go_wp2
  go_ret
  exact ⟨by rw [hT.out];rfl,Below.refl _ _⟩
theorem preB_self (es:List En):∀ k,preB es es k=true:=by
 intro k
 induction k with
 | zero=>rfl
 | succ k ih =>
   rcases Nat.lt_or_ge k es.length with h|h
   ·rw [preB_step es es k _ _ (List.getElem?_eq_getElem h) (List.getElem?_eq_getElem h),ih]
    simp [sameB]
   ·unfold preB at ih ⊢
    rw [List.take_of_length_le (by omega)] at ih ⊢
    exact ih
theorem entsB_self (n:Nat) (es:List En):entsB n n es es=true:=by unfold entsB;rw [preB_self,decide_eq_true rfl];rfl
end Go.Proofs.YtnobeoppffoomaaGreat
namespace Go.Proofs.YtnobeoppffoomaaGreat
open Go.RowKit
theorem right_ix {E:En} {ix:Int} (h:rightB E=true) (hi:1≤ix):rightB { E with index:=ix }=true:=by
 unfold rightB asks at h ⊢
 simp only [List.all_cons,List.all_nil,id,Bool.and_true,Bool.and_eq_true] at h ⊢
 obtain ⟨h1,h2,h3,h4⟩:=h
 exact ⟨h1,h2,decide_eq_true hi,h4⟩
theorem right_write {E:En} (hk:E.kind=11) (h:rightB E=true):rightB ⟨E.term,E.index,1,E.client,E.seq,E.block,0,0,0,E.data,⟨#[]⟩⟩=true:=by
 have l1:∀ n lo hi,lim (fl 1) 99 n lo hi=lim (fl 11) 99 n lo hi:=fun n lo hi=>by unfold lim;rw [show hasL (fl 1) 99=hasL (fl 11) 99 from by decide +kernel]
 have l2:∀ n lo hi,lim (fl 1) 98 n lo hi=lim (fl 11) 98 n lo hi:=fun n lo hi=>by unfold lim;rw [show hasL (fl 1) 98=hasL (fl 11) 98 from by decide +kernel]
 have l3:∀ n lo hi,lim (fl 1) 100 n lo hi=lim (fl 11) 100 n lo hi:=fun n lo hi=>by unfold lim;rw [show hasL (fl 1) 100=hasL (fl 11) 100 from by decide +kernel]
 have z1:lim (fl 1) 109 0 0 4294967295=true:=by decide +kernel
 have z2:lim (fl 1) 110 (IntKind.u64.wrap 0) 1 7=true:=by decide +kernel
 have z3:lim (fl 1) 108 (IntKind.u64.wrap 0) 1 2=true:=by decide +kernel
 have z4:lim (fl 1) 111 (IntKind.u64.wrap (((⟨#[]⟩:ByteArray).size:Nat):Int)) 0 64=true:=by decide +kernel
 have f1:fb 1=true:=by decide
 unfold rightB asks at h ⊢
 rw [hk] at h
 simp only [List.all_cons,List.all_nil,id,Bool.and_true,Bool.and_eq_true] at h ⊢
 obtain ⟨h1,h2,h3,h4,h5,h6,h7,h8,h9,h10,h11⟩:=h
 exact ⟨f1,h2,h3,by rw [l1];exact h4,by rw [l1];exact h5,by rw [l2];exact h6,z1,z2,z3,by rw [l3];exact h10,z4⟩
theorem lgE_good {lev:Int} {ix:Nat} {p:En} (ok:p.Ok) (hlev:lev=1∨lev=2) (h1:1≤ix) (h2:ix≤9223372036854775807):(lgE lev ix (mk p)).Ok∧rightB (lgE lev ix (mk p))=true∧(lev=1→mayB (lgE lev ix (mk p))=true):=by
 obtain ⟨mo,mr,md,mq,_,_⟩:=mk_facts p ok
 obtain ⟨E,hE⟩:∃ E,E=mk p:=⟨_,rfl⟩
 rw [←hE] at mo mr md mq ⊢
 have hix:(1:Int)≤(ix:Int):=by omega
 by_cases hl:lev<lvl E.kind
 ·have hk:E.kind=11:=by unfold lvl at hl;split at hl<;>omega
  have e1:lgE lev ix E=⟨E.term,(ix:Int),1,E.client,E.seq,E.block,0,0,0,E.data,⟨#[]⟩⟩:=by unfold lgE lg1;rw [if_pos hl]
  have hr:rightB (lgE lev ix E)=true:=by rw [e1];exact right_ix (right_write hk mr) hix
  refine ⟨?_,hr,fun _=>?_⟩
  ·rw [e1]
   exact ⟨mo.t0,mo.t1,by show (0:Int)≤(ix:Int);omega,by show (ix:Int)≤_;omega,by show (-9223372036854775808:Int)≤1;decide,by show (1:Int)≤_;decide,mo.c0,mo.c1,mo.s0,mo.s1,mo.b0,mo.b1,Int.le_refl 0,by show (0:Int)≤_;decide,by show (-9223372036854775808:Int)≤0;decide,by show (0:Int)≤9223372036854775807;decide,by show (-9223372036854775808:Int)≤0;decide,by show (0:Int)≤9223372036854775807;decide,mo.d1,Nat.zero_le _⟩
  ·unfold mayB;rw [hr,e1];rfl
 ·have e1:lgE lev ix E={ E with index:=(ix:Int) }:=by unfold lgE lg1;rw [if_neg hl]
  have hr:rightB (lgE lev ix E)=true:=by rw [e1];exact right_ix mr hix
  refine ⟨?_,hr,fun h=>?_⟩
  ·rw [e1]
   exact ⟨mo.t0,mo.t1,by show (0:Int)≤(ix:Int);omega,by show (ix:Int)≤_;omega,mo.k0,mo.k1,mo.c0,mo.c1,mo.s0,mo.s1,mo.b0,mo.b1,mo.m0,mo.m1,mo.n0,mo.n1,mo.l0,mo.l1,mo.d1,mo.o1⟩
  ·unfold mayB
   rw [hr,e1]
   have:lvl E.kind=1:=by
    unfold lvl at hl ⊢
    by_cases h9:E.kind=11
    ·rw [if_pos h9] at hl;omega
    ·rw [if_neg h9]
   show (true&&(lvl E.kind==1))=true
   rw [this];rfl
theorem lgd_mem {lev:Int} {base most:Nat} {L:List (En×Bool)} (hok:∀ p∈L,p.1.Ok) (hlev:lev=1∨lev=2) (hb:base≤4611686018427387904) (hm:most≤64) {e:En} (he:e∈lgd lev base most L):e.Ok∧rightB e=true∧(lev=1→mayB e=true):=by
 obtain ⟨i,hi⟩:=List.getElem?_of_mem he
 obtain ⟨h1,h2⟩:=lgk_get _ _ _ _ _ _ hi
 have h3:i<L.length:=by omega
 rw [List.getElem?_eq_getElem h3,Option.getD_some] at h2
 rw [h2]
 exact lgE_good (hok _ (List.getElem_mem h3)) hlev (by omega) (by omega)
theorem lgd_length (lev:Int) (base most:Nat) (L:List (En×Bool)):(lgd lev base most L).length=min L.length most:=lgk_length _ _ _ _
end Go.Proofs.YtnobeoppffoomaaGreat
namespace Go.Proofs.YtnobeoppffoomaaGreat
open Go.RowKit
open Dk Vi
abbrev e11:En:=⟨1,1,0,0,0,0,0,0,0,⟨#[]⟩,⟨#[]⟩⟩
theorem pack1_size {b:ByteArray} (h:b.size≤1048576):(pack 1 b).size=9+b.size:=by
 unfold pack
 rw [ByteArray.size_append,ByteArray.size_append,seal_size]
 have:(hdF 1 b.size).size=5:=by
  unfold hdF lenB
  have a1:(fxB (160+1:Int).toNat 1).size=1:=fxB_size _ 1 (by omega)
  have a2:(fxB b.size 4).size=4:=fxB_size _ 4 (by omega)
  rw [if_pos rfl,ByteArray.size_append,a1,a2]
 omega
theorem good11:Good 1 e11:=good_of (.inl rfl) ⟨by decide,by decide,by decide,by decide,by decide,by decide,by decide,by decide,by decide,by decide,by decide,by decide,by decide,by decide,by decide,by decide,by decide,by decide,by decide,by decide⟩ (by decide +kernel) (fun _=>by decide +kernel)
theorem rec1_size {e:En} (h:Good 1 e) (hm:mayB e=true):(pS 1 e).size=119:=by
 have e1:D.ePv 1 e=pb e:=by show putS e=_;unfold putS;rw [if_pos hm]
 have hp:=pb_size (few_of h.ok (mayB_right hm))
 rw [h.s,e1,pack1_size (by omega),hp]
theorem rcA1_size (es:List En) (h:∀ e∈es,Good 1 e∧mayB e=true):(rcA 1 (pS 1) es).size=128*es.length:=by
 have key:∀ (es:List En) (pre:List En),(∀ e∈es,Good 1 e∧mayB e=true)→(rcA 1 (pS 1) pre).size=128*pre.length→(rcA 1 (pS 1) (pre++es)).size=128*(pre++es).length:=by
  intro es
  induction es with
  | nil=>intro pre _ h;rw [List.append_nil];exact h
  | cons e t ih =>
    intro pre h h0
    have h1:=h e (by simp)
    have h2:(rcA 1 (pS 1) (pre++[e])).size=128*(pre++[e]).length:=by
     rw [rcA_snoc,padv_size,ByteArray.size_append,rec1_size h1.1 h1.2,h0,List.length_append]
     unfold bgn
     rw [if_pos rfl]
     simp only [List.length_cons,List.length_nil]
     omega
    have h3:=ih (pre++[e]) (fun x hx=>h x (List.mem_cons_of_mem _ hx)) h2
    rw [List.append_assoc] at h3
    exact h3
 have:=key es [] h rfl
 simpa using this
theorem frB_no {O:ByteArray→Bool} {v:Int} {t:ByteArray} (h:nOk t=false):frB O v t=false:=by unfold frB;rw [h,Bool.false_and]
theorem nOk_x:nOk ⟨#[120]⟩=false:=by decide +kernel
theorem rcS_good {v:Int} {es:List En} (hv:v=1∨v=2) (h:∀ e∈es,Good v e):rcS v (pS v) (pO v) es=rcA v (pS v) es∧rcO v (pO v) es=true:=by
 have hk:knB v=true:=decide_eq_true hv
 have ha:es.all (pO v)=true:=List.all_eq_true.2 fun e he=>(h e he).o
 unfold rcS rcO
 rw [hk,ha]
 exact ⟨rfl,rfl⟩
theorem ents_blk {w:World} {g:Nat} {cs:Array Value} {es:List En} (h:w.heap[g]?=some (.cells cs 28 (0,0))) (hcs:cs.toList=flat es):Ents w.heap.size (some ⟨g,0,none⟩) es.length es w:=by
 refine ⟨rfl,fun i x hx=>⟨⟨g,0,none⟩,rfl,(zgx h),fun j hj=>?_⟩⟩
 have hc:∀ k,w.cell? ⟨g,k,none⟩=(flat es)[k]?:=fun k=>by rw [←hcs,Array.getElem?_toList];exact zcr w g k _ 28 (0,0) h
 rw [Addr.add_mid,Addr.add_mid,hc,Nat.zero_add]
 exact flat_get es i x hx j hj
theorem examples_any (w:World):Calls Tryz.prog 10 #[] w fun q w'=>q=.returned (.bool true)∧Below w.heap.size w w':=by
 go_enter Tryz.func10,Tryz.ntmps10
 go_upto_region 2 with fail
 obtain ⟨W1,hW1⟩:∃ W1,W1=w.alloc (.cells (ec e11) 28):=⟨_,rfl⟩
 have hb1:Below w.heap.size w W1:=by rw [hW1];exact (Below.refl _ _).alloc (Nat.le_refl _) _
 have hp1:W1.heap[w.heap.size]?=some (.cells (ec e11) 28 (0,0)):=by rw [hW1];exact heap_alloc_new w _
 refine wp_at (w:=W1) hW1.symm ?_
 obtain ⟨n0,n1,n2,n3,n4,n5,n6,n7,n8,n9,n10⟩:=ecz hp1
 have HB1:=zh hb1
 have HP1:=zh hp1
 have hgs:∀ e∈[e11,e11],Good 1 e:=fun e he=>by simp at he;rw [he];exact good11
 have hE1:=ents_blk (w:=W1.alloc (.cells #[.int .u64 1,.int .u64 1,.int .i64 0,.int .u64 0,.int .u64 0,.int .u64 0,.int .u64 0,.int .i64 0,.int .i64 0,.string ⟨#[]⟩,.string ⟨#[]⟩,.int .u64 1,.int .u64 1,.int .i64 0,.int .u64 0,.int .u64 0,.int .u64 0,.int .u64 0,.int .i64 0,.int .i64 0,.string ⟨#[]⟩,.string ⟨#[]⟩] 28)) (es:=[e11,e11]) (heap_alloc_new W1 _) rfl
 have K1:=records_any 1 (pS 1) (pO 1) (some ⟨W1.heap.size,0,none⟩) 2 2 [e11,e11] (W1.alloc (.cells #[.int .u64 1,.int .u64 1,.int .i64 0,.int .u64 0,.int .u64 0,.int .u64 0,.int .u64 0,.int .i64 0,.int .i64 0,.string ⟨#[]⟩,.string ⟨#[]⟩,.int .u64 1,.int .u64 1,.int .i64 0,.int .u64 0,.int .u64 0,.int .u64 0,.int .u64 0,.int .i64 0,.int .i64 0,.string ⟨#[]⟩,.string ⟨#[]⟩] 28)) hE1 (by omega) (fun e _=>Nat.le_trans (pS_le 1 e) (by omega)) (puts_in 1 _ (fun e he=>(hgs e he).ok))
 obtain ⟨r1,r2⟩:=rcS_good (.inl rfl) hgs
 obtain ⟨s,hs⟩:∃ s,s=rcA 1 (pS 1) [e11,e11]:=⟨_,rfl⟩
 have hsz:s.size=256:=by rw [hs,rcA1_size _ (fun e he=>⟨hgs e he,by simp at he;rw [he];decide +kernel⟩)];rfl
 rw [r1,r2,←hs] at K1
 obtain ⟨p1,p2⟩:=par_rc (J:=⟨#[120]⟩) hgs (frB_no nOk_x)
 rw [←hs] at p1 p2
 have hsx:(s++⟨#[120]⟩:ByteArray).size≤1000000000000:=by rw [ByteArray.size_append,hsz];decide
 have K2:=zh (fun W=>parse_any qX qV D.aO 1 (s++⟨#[120]⟩) W hsx gets_in)
 rw [p1,p2,hsz] at K2
 have hB2:=HB1.out.alloc HB1.out.size (.cells #[.int .u64 1,.int .u64 1,.int .i64 0,.int .u64 0,.int .u64 0,.int .u64 0,.int .u64 0,.int .i64 0,.int .i64 0,.string ⟨#[]⟩,.string ⟨#[]⟩,.int .u64 1,.int .u64 1,.int .i64 0,.int .u64 0,.int .u64 0,.int .u64 0,.int .u64 0,.int .i64 0,.int .i64 0,.string ⟨#[]⟩,.string ⟨#[]⟩] 28)
 have hadd:¬ 9223372036854775807<s.size+(⟨#[120]⟩:ByteArray).size:=by rw [hsz];decide
 have KK1:=zh K1
 have HB2:=zh hB2
 have HSZ:=zh hsz
 have hszI:(s.size:Int)=256:=by omega
 clear hW1 hb1 hp1 K1 hE1 r1 r2 hs hsz p1 p2 hsx hB2
 go_upto_region 4 with (first
  | (go_at_call 12;(with_reducible refine KK1.out.mono ?_);rintro q w1 ⟨rfl,b1⟩;have HB3:Hid (Below w.heap.size w w1):=HB2.out.trans (b1.mono HB2.out.size);have HP3:Hid (w1.heap[w.heap.size]?=some (.cells (ec e11) 28 (0,0))):=(b1.block _ (Nat.lt_of_lt_of_le (zgx HP1.out) (by rw [World.size_alloc];exact Nat.le_succ _))).trans ((Lib.alloc_old _ _ _ (zgx HP1.out)).trans HP1.out);clear b1)
  | (go_at_call 15;(with_reducible refine (K2.out _).mono ?_);rintro q w2 ⟨A,n,c,rfl,hL,b2⟩))
 obtain rfl:n=2:=hL.len.symm
 have hp2:w2.heap[w.heap.size]?=some (.cells (ec e11) 28 (0,0)):=(b2.block _ (zgx HP3.out)).trans HP3.out
 obtain ⟨m0,m1,m2,m3,m4,m5,m6,m7,m8,m9,m10⟩:=ecz hp2
 have hj:jn 0 [] [e11,e11]=some [e11]:=by simp [jn]
 have hB4:Below w.heap.size w w2:=HB3.out.trans (b2.mono HB3.out.size)
 have hB5:=hB4.alloc hB4.size (.cells #[.int .u64 1,.int .u64 1,.int .i64 0,.int .u64 0,.int .u64 0,.int .u64 0,.int .u64 0,.int .i64 0,.int .i64 0,.string ⟨#[]⟩,.string ⟨#[]⟩,.int .u64 1,.int .u64 1,.int .i64 0,.int .u64 0,.int .u64 0,.int .u64 0,.int .u64 0,.int .i64 0,.int .i64 0,.string ⟨#[]⟩,.string ⟨#[]⟩] 28)
 have KJ:=join_any 0 0 none (some ⟨w2.heap.size,0,none⟩) 0 0 2 2 [] [e11,e11] (w2.alloc (.cells #[.int .u64 1,.int .u64 1,.int .i64 0,.int .u64 0,.int .u64 0,.int .u64 0,.int .u64 0,.int .i64 0,.int .i64 0,.string ⟨#[]⟩,.string ⟨#[]⟩,.int .u64 1,.int .u64 1,.int .i64 0,.int .u64 0,.int .u64 0,.int .u64 0,.int .u64 0,.int .i64 0,.int .i64 0,.string ⟨#[]⟩,.string ⟨#[]⟩] 28)) (Le.nil _ _) (ents_blk (es:=[e11,e11]) (heap_alloc_new w2 _) rfl) (by omega) (by omega) (by omega) (fun i e h=>by simp at h) (fun e he=>by simp at he;rw [he];exact good11.ok)
 rw [hj] at KJ
 have HKJ:Hid (Calls Tryz.prog 33 #[.int .u64 0,.slice none 0 0,.slice (some ⟨w2.heap.size,0,none⟩) 2 2] (w2.alloc (.cells #[.int .u64 1,.int .u64 1,.int .i64 0,.int .u64 0,.int .u64 0,.int .u64 0,.int .u64 0,.int .i64 0,.int .i64 0,.string ⟨#[]⟩,.string ⟨#[]⟩,.int .u64 1,.int .u64 1,.int .i64 0,.int .u64 0,.int .u64 0,.int .u64 0,.int .u64 0,.int .i64 0,.int .i64 0,.string ⟨#[]⟩,.string ⟨#[]⟩] 28)) fun q w'=>jnR (w2.alloc (.cells #[.int .u64 1,.int .u64 1,.int .i64 0,.int .u64 0,.int .u64 0,.int .u64 0,.int .u64 0,.int .i64 0,.int .i64 0,.string ⟨#[]⟩,.string ⟨#[]⟩,.int .u64 1,.int .u64 1,.int .i64 0,.int .u64 0,.int .u64 0,.int .u64 0,.int .u64 0,.int .i64 0,.int .i64 0,.string ⟨#[]⟩,.string ⟨#[]⟩] 28)).heap.size (some [e11]) q w'∧Below (w2.alloc (.cells #[.int .u64 1,.int .u64 1,.int .i64 0,.int .u64 0,.int .u64 0,.int .u64 0,.int .u64 0,.int .i64 0,.int .i64 0,.string ⟨#[]⟩,.string ⟨#[]⟩,.int .u64 1,.int .u64 1,.int .i64 0,.int .u64 0,.int .u64 0,.int .u64 0,.int .u64 0,.int .i64 0,.int .i64 0,.string ⟨#[]⟩,.string ⟨#[]⟩] 28)).heap.size (w2.alloc (.cells #[.int .u64 1,.int .u64 1,.int .i64 0,.int .u64 0,.int .u64 0,.int .u64 0,.int .u64 0,.int .i64 0,.int .i64 0,.string ⟨#[]⟩,.string ⟨#[]⟩,.int .u64 1,.int .u64 1,.int .i64 0,.int .u64 0,.int .u64 0,.int .u64 0,.int .u64 0,.int .i64 0,.int .i64 0,.string ⟨#[]⟩,.string ⟨#[]⟩] 28)) w'):=KJ
 have HB5:=zh hB5
 clear hL b2 hp2 hj hB4 hB5 KJ K2 HP3 HB3
 go_upto_region 5 with (go_at_call 33;(with_reducible refine HKJ.out.mono ?_);rintro q w3 ⟨(⟨r,A',n',c',hr,rfl,hL'⟩|⟨hr,_⟩),b3⟩)
 ·obtain rfl:r=[e11]:=(Option.some.inj hr).symm
  obtain rfl:n'=1:=hL'.len.symm
  have hBf:Below w.heap.size w w3:=HB5.out.trans (b3.mono HB5.out.size)
  clear hL' b3 hr
  go_wp2
  go_ret
  exact ⟨rfl,hBf⟩
 ·cases hr
end Go.Proofs.YtnobeoppffoomaaGreat
namespace Go.Proofs.YtnobeoppffoomaaGreat
open Go.ChangeShapes Go.WideShapes Go.ChangeAt Go.RowKit
theorem cells26:Tryz.prog.cellsOf 26=1:=by kernel_rfl
theorem cells30:Tryz.prog.cellsOf 30=12:=by kernel_rfl
theorem cells28:Tryz.prog.cellsOf 28=11:=by kernel_rfl
theorem cells3:Tryz.prog.cellsOf 3=1:=by kernel_rfl
theorem cells4:Tryz.prog.cellsOf 4=1:=by kernel_rfl
theorem cells9:Tryz.prog.cellsOf 9=1:=by kernel_rfl
theorem seat_laidOut:laidOutB Tryz.prog=true:=by kernel_rfl
theorem DataW.weights_mem_agg {H:Type} {P:Program} {t:TypeId} {fs:Array Field} {ds:List (DataW H)} (hu:P.underlying t=some (.struct fs)) (j:Nat) {t':TypeId} {d:DataW H}
 (ht:(fs.toList.map (·.type))[j]?=some t') (hd:ds[j]?=some d):∀ n∈d.weights P t',n∈(DataW.agg ds).weights P t:=by
 intro n hn
 simp only [DataW.weights,hu]
 exact DataW.weights_mem_each ht hd n hn
theorem open_entry {H:Type} {enc:TypeId×Value→H} {w:World} {base fuel:Nat} {sp:Nat→Bool} {held:Bool} {x:DataW H×List MemPlace} {c0 c1 c2 c3 c4 c5 c6 c7 c8 c9 c10:Value}
 (h:DataW.trod enc Tryz.prog w base sp held fuel 28 [c0,c1,c2,c3,c4,c5,c6,c7,c8,c9,c10]=some x) (hz:∀ n∈x.1.weights Tryz.prog 28,n≤reachBytes) :
 ∃ e:En,[c0,c1,c2,c3,c4,c5,c6,c7,c8,c9,c10]=(ec e).toList∧e.Ok:=by
 obtain ⟨xs,n,_,rfl,hl,hlen,hf⟩:=DataW.trod_struct Tryz.underlying28 h
 match xs,hlen with
 | [y0,y1,y2,y3,y4,y5,y6,y7,y8,y9,y10],_ =>
   have t0:=hf 0 _ rfl
   have t1:=hf 1 _ rfl
   have t2:=hf 2 _ rfl
   have t3:=hf 3 _ rfl
   have t4:=hf 4 _ rfl
   have t5:=hf 5 _ rfl
   have t6:=hf 6 _ rfl
   have t7:=hf 7 _ rfl
   have t8:=hf 8 _ rfl
   have t9:=hf 9 _ rfl
   have t10:=hf 10 _ rfl
   simp [cells26,cells3,cells9] at t0 t1 t2 t3 t4 t5 t6 t7 t8 t9 t10
   obtain ⟨u0,h0,_,k0⟩:=DataW.trod_int Tryz.underlying26 t0
   obtain ⟨u1,h1,_,k1⟩:=DataW.trod_int Tryz.underlying26 t1
   obtain ⟨u2,h2,_,k2⟩:=DataW.trod_int Tryz.underlying3 t2
   obtain ⟨u3,h3,_,k3⟩:=DataW.trod_int Tryz.underlying26 t3
   obtain ⟨u4,h4,_,k4⟩:=DataW.trod_int Tryz.underlying26 t4
   obtain ⟨u5,h5,_,k5⟩:=DataW.trod_int Tryz.underlying26 t5
   obtain ⟨u6,h6,_,k6⟩:=DataW.trod_int Tryz.underlying26 t6
   obtain ⟨u7,h7,_,k7⟩:=DataW.trod_int Tryz.underlying3 t7
   obtain ⟨u8,h8,_,k8⟩:=DataW.trod_int Tryz.underlying3 t8
   obtain ⟨u9,h9,d9,_⟩:=DataW.trod_string Tryz.underlying9 t9
   obtain ⟨u10,h10,d10,_⟩:=DataW.trod_string Tryz.underlying9 t10
   have b0:=bounds_u64 k0
   have b1:=bounds_u64 k1
   have b2:=bounds_i64 k2
   have b3:=bounds_u64 k3
   have b4:=bounds_u64 k4
   have b5:=bounds_u64 k5
   have b6:=bounds_u64 k6
   have b7:=bounds_i64 k7
   have b8:=bounds_i64 k8
   simp at h0 h1 h2 h3 h4 h5 h6 h7 h8 h9 h10
   subst h0 h1 h2 h3 h4 h5 h6 h7 h8 h9 h10
   have e9:u9.size≤140737488351232:=by
    have hq:=hz u9.data.toList.length (DataW.weights_mem_agg Tryz.underlying28 9 rfl (by rw [d9];rfl) _ (by simp [DataW.weights]))
    simp only [reachBytes,Array.length_toList] at hq
    exact hq
   have e10:u10.size≤140737488351232:=by
    have hq:=hz u10.data.toList.length (DataW.weights_mem_agg Tryz.underlying28 10 rfl (by rw [d10];rfl) _ (by simp [DataW.weights]))
    simp only [reachBytes,Array.length_toList] at hq
    exact hq
   refine ⟨⟨u0,u1,u2,u3,u4,u5,u6,u7,u8,u9,u10⟩,rfl,?_⟩
   constructor<;>first|exact e9|exact e10|(dsimp only;omega)
end Go.Proofs.YtnobeoppffoomaaGreat
namespace Go.Proofs.YtnobeoppffoomaaGreat
open Go.ChangeShapes Go.WideShapes Go.ChangeAt Go.RowKit
theorem lt_of_cell {w:World} {a:Addr} {v:Value} (h:w.cell? a=some v):a.block<w.heap.size:=by
 rcases Nat.lt_or_ge a.block w.heap.size with h1|h1
 ·exact h1
 ·simp [World.cell?,Array.getElem?_eq_none h1] at h
theorem weights_mem_all {H:Type} {P:Program} {e:TypeId} {d:DataW H}:∀ {ds:List (DataW H)},d∈ds→∀ n∈d.weights P e,n∈DataW.weightsAll P e ds
 | x :: ds,h,n,hn=>by
   rw [DataW.weightsAll,List.mem_append]
   rcases List.mem_cons.1 h with rfl|h
   ·exact .inl hn
   ·exact .inr (weights_mem_all h n hn)
theorem weights_mem_slice {H:Type} {P:Program} {t e:TypeId} {elems spare:List (DataW H)} (hu:P.underlying t=some (.slice e)) {d:DataW H} (h:d∈elems):∀ n∈d.weights P e,n∈(DataW.slice elems spare).weights P t:=by
 intro n hn
 simp only [DataW.weights,hu]
 exact List.mem_cons_of_mem _ (List.mem_append_left _ (weights_mem_all h n hn))
theorem open_mades {H:Type} {enc:TypeId×Value→H} {w:World} {base fuel:Nat} {A:Option Addr} {len cap:Nat} {held:Bool} {x:DataW H×List MemPlace}
 (h:DataW.trod enc Tryz.prog w base (fun _=>true) held fuel 22 [.slice A len cap]=some x) (hz:∀ n∈x.1.weights Tryz.prog 22,n≤reachBytes) :
 ∃ L:List (En×Bool),Mades w.heap.size A len L w∧(∀ p∈L,p.1.Ok)∧(len:Int)≤9223372036854775807:=by
 rcases Deep.open_slice Tryz.underlying22 h with ⟨hcs,_⟩|⟨a,len',cap',m,n,D,Pl,hcs,_,hl,hm,hmm,hxx,hx⟩
 ·simp at hcs
  obtain ⟨rfl,rfl,rfl⟩:=hcs
  exact ⟨[],⟨rfl,fun i e he=>(by cases i<;>cases he)⟩,fun e he=>(by cases he),by omega⟩
 ·simp at hcs
  obtain ⟨rfl,rfl,rfl⟩:=hcs
  simp only [if_true] at hmm
  have each:∀ i,i<len→∃ p:En×Bool,(∀ j,j<12→w.cell? ((a.add (i*12)).add j)=(mdc p.1 p.2)[j]?)∧p.1.Ok:=by
   intro i hi
   obtain ⟨cs',g1,g2⟩:=hx i (by omega)
   rw [cells30] at g1
   obtain ⟨_,hlen,hcell⟩:=World.cells?_some g1
   match cs',hlen with
   | [c0,c1,c2,c3,c4,c5,c6,c7,c8,c9,c10,c11],_ =>
     obtain ⟨y0,y1,m,hy,_,hy0,hy1⟩:=trod_struct2 Tryz.underlying30 g2
     simp [cells28,cells4] at hy0 hy1
     simp only [Prod.mk.injEq] at hy
     obtain ⟨hyD,_⟩:=hy
     obtain ⟨e,he,ok⟩:=open_entry hy0 fun n hn=>hz n (by
      rw [hxx]
      refine weights_mem_slice Tryz.underlying22 (d:=D i) (List.mem_map.2 ⟨i,List.mem_range.2 hi,rfl⟩) n ?_
      rw [hyD]
      exact DataW.weights_mem_agg Tryz.underlying30 0 rfl rfl n hn)
     obtain ⟨b,hb,_⟩:=DataW.trod_bool Tryz.underlying4 hy1
     simp at he hb
     obtain ⟨rfl,rfl,rfl,rfl,rfl,rfl,rfl,rfl,rfl,rfl,rfl⟩:=he
     subst hb
     refine ⟨(e,b),fun j hj=>?_,ok⟩
     rw [hcell j (by omega),←Array.getElem?_toList]
  haveI:Inhabited En:=⟨ezz⟩
  obtain ⟨q,hq⟩:=Deep.choose_lt each
  refine ⟨(List.range len).map q,⟨by simp,fun i e he=>?_⟩,fun e he=>?_,by simp only [maxLen] at hm;omega⟩
  ·have hi:i<len:=by have:=(List.getElem?_eq_some_iff.1 he).1;simpa using this
   have hqe:q i=e:=by
    rw [List.getElem?_map,List.getElem?_range hi] at he
    exact Option.some.inj he
   have hc:=(hq i hi).1
   rw [hqe] at hc
   refine ⟨a,rfl,?_,hc⟩
   have h0:w.cell? ((a.add (i*12)).add 0)=some (.int .u64 e.1.term):=hc 0 (by omega)
   have:=lt_of_cell h0
   rwa [blk_of_add,blk_of_add] at this
  ·obtain ⟨i,hi,rfl⟩:=List.mem_map.1 he
   exact (hq i (List.mem_range.1 hi)).2
end Go.Proofs.YtnobeoppffoomaaGreat
