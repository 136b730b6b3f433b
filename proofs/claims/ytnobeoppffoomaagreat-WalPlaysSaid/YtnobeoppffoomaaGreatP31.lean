/-
  WalPlays: WL WM WJ.
  Conditions: named in each theorem.
-/
import Derived.Test.YtnobeoppffoomaaGreatP18
import Derived.Test.YtnobeoppffoomaaGreatP02
import Derived.Test.YtnobeoppffoomaaGreatP30
import Derived.Test.YtnobeoppffoomaaGreatP0
set_option linter.unusedVariables false
set_option linter.unusedSimpArgs false
set_option maxHeartbeats 8000000
set_option maxRecDepth 100000
namespace Go.Proofs.YtnobeoppffoomaaGreat
open Go.RowKit
theorem mcl {w:World} {b:Nat} {e:En} {o:Bool} (h:w.heap[b]?=some (.cells (mdc e o) 30 (0,0))):w.cell? ⟨b,0,none⟩=some (.int .u64 e.term)∧w.cell? ⟨b,1,none⟩=some (.int .u64 e.index)∧w.cell? ⟨b,2,none⟩=some (.int .i64 e.kind)∧w.cell? ⟨b,3,none⟩=some (.int .u64 e.client)∧w.cell? ⟨b,4,none⟩=some (.int .u64 e.seq)∧w.cell? ⟨b,5,none⟩=some (.int .u64 e.block)∧w.cell? ⟨b,6,none⟩=some (.int .u64 e.many)∧w.cell? ⟨b,7,none⟩=some (.int .i64 e.node)∧w.cell? ⟨b,8,none⟩=some (.int .i64 e.level)∧w.cell? ⟨b,9,none⟩=some (.string e.data)∧w.cell? ⟨b,10,none⟩=some (.string e.old)∧w.cell? ⟨b,11,none⟩=some (.bool o) :=
 ⟨zcr w b 0 _ 30 (0,0) h,zcr w b 1 _ 30 (0,0) h,zcr w b 2 _ 30 (0,0) h,zcr w b 3 _ 30 (0,0) h,zcr w b 4 _ 30 (0,0) h,zcr w b 5 _ 30 (0,0) h,zcr w b 6 _ 30 (0,0) h,zcr w b 7 _ 30 (0,0) h,zcr w b 8 _ 30 (0,0) h,zcr w b 9 _ 30 (0,0) h,zcr w b 10 _ 30 (0,0) h,zcr w b 11 _ 30 (0,0) h⟩
def lg1 (lev:Int) (E:En):En:=if lev<lvl E.kind then ⟨E.term,0,1,E.client,E.seq,E.block,0,0,0,E.data,⟨#[]⟩⟩ else E
def lgE (lev:Int) (ix:Nat) (E:En):En:={ lg1 lev E with index:=(ix:Int) }
def lgk (lev:Int) (base:Nat) (L:List (En×Bool)) (k:Nat):List En:=(List.range k).map fun i=>lgE lev (base+i+1) (mk (L[i]?.getD (ezz,false)).1)
theorem lgk_length (lev:Int) (base:Nat) (L:List (En×Bool)) (k:Nat):(lgk lev base L k).length=k:=by unfold lgk;simp
theorem lgk_succ (lev:Int) (base:Nat) (L:List (En×Bool)) (k:Nat) (p:En×Bool) (h:L[k]?=some p):lgk lev base L (k+1)=lgk lev base L k++[lgE lev (base+k+1) (mk p.1)]:=by
 unfold lgk
 rw [List.range_succ,List.map_append]
 simp [h]
theorem lgk_get (lev:Int) (base:Nat) (L:List (En×Bool)) (k i:Nat) (e:En) (h:(lgk lev base L k)[i]?=some e):i<k∧e=lgE lev (base+i+1) (mk (L[i]?.getD (ezz,false)).1):=by
 unfold lgk at h
 rw [List.getElem?_map] at h
 rcases Nat.lt_or_ge i k with hi|hi
 ·rw [List.getElem?_range hi] at h
  exact ⟨hi,(Option.some.inj h).symm⟩
 ·rw [List.getElem?_eq_none (by simpa using hi)] at h
  cases h
def lgd (lev:Int) (base most:Nat) (L:List (En×Bool)):List En:=lgk lev base L (min L.length most)
theorem wz_far (E:En) (w:World) {g k:Nat} (h:k≠g):(wz w g E).heap[k]?=w.heap[k]?:=by
 unfold wz
 rw [Below.heap_setCell _ _ _ k h,Below.heap_setCell _ _ _ k h,Below.heap_setCell _ _ _ k h,Below.heap_setCell _ _ _ k h,Below.heap_setCell _ _ _ k h,Below.heap_setCell _ _ _ k h,Below.heap_setCell _ _ _ k h,Below.heap_setCell _ _ _ k h,Below.heap_setCell _ _ _ k h,Below.heap_setCell _ _ _ k h,Below.heap_setCell _ _ _ k h]
theorem logged_any (A:Option Addr) (n c base most:Nat) (lev:Int) (L:List (En×Bool)) (w:World) (hL:Mades w.heap.size A n L w) (hok:∀ p∈L,p.1.Ok) (hn:(n:Int)≤9223372036854775807) (hb:base≤4611686018427387904) (hm:most≤64) :
 Calls Tryz.prog 25 #[.slice A n c,.int .u64 base,.int .i64 most,.int .i64 lev] w fun q w'=>∃ A' n' c',q=.returned (.slice A' n' c')∧Le w.heap.size A' n' c' (lgd lev base most L) w'∧Below w.heap.size w w':=by
 have HL:=zh hL
 have HO:=zh hok
 have hlen:Hid (L.length=n):=hL.len
 have hB0:=Below.refl w.heap.size w
 clear hL hok
 go_enter Tryz.func25,Tryz.ntmps25
 go_wp2
 go_loopw [9,10] (fun l i wr=>∃ (A':Option Addr) (c' k:Nat),l=.slice A' k c'∧i=.int .i64 k∧k≤n∧k≤most∧Le w.heap.size A' k c' (lgk lev base L k) wr∧Below w.heap.size w wr) (fun _ i _=>most-(Go.RowKit.intOf i).toNat)
 case atStart=>exact ⟨none,0,0,rfl,rfl,Nat.zero_le _,Nat.zero_le _,Le.nil _ _,hB0⟩
 case round =>
  obtain ⟨A',c',k,rfl,rfl,hkn,hkm,hLe,hbw⟩:=hrel
  by_cases h1:k<n
  ·have t1:decide ((k:Int)<(n:Int))=true:=decide_eq_true (by omega)
   by_cases h2:k<most
   ·have t2:decide ((k:Int)<(most:Int))=true:=decide_eq_true (by omega)
    obtain ⟨p,hp⟩:∃ p,L[k]?=some p:=⟨_,List.getElem?_eq_getElem (by rw [hlen.out];exact h1)⟩
    obtain ⟨a,hA,hB,hc⟩:=(HL.out.below hbw).at_ k p hp
    obtain ⟨pe,po⟩:=p
    have d0:wr.cell? (a.add (k*12))=some (.int .u64 pe.term):=hc 0 (by omega)
    have d1:wr.cell? ⟨(a.add (k*12)).block,(a.add (k*12)).off+1,none⟩=some (.int .u64 pe.index):=hc 1 (by omega)
    have d2:wr.cell? ⟨(a.add (k*12)).block,(a.add (k*12)).off+2,none⟩=some (.int .i64 pe.kind):=hc 2 (by omega)
    have d3:wr.cell? ⟨(a.add (k*12)).block,(a.add (k*12)).off+3,none⟩=some (.int .u64 pe.client):=hc 3 (by omega)
    have d4:wr.cell? ⟨(a.add (k*12)).block,(a.add (k*12)).off+4,none⟩=some (.int .u64 pe.seq):=hc 4 (by omega)
    have d5:wr.cell? ⟨(a.add (k*12)).block,(a.add (k*12)).off+5,none⟩=some (.int .u64 pe.block):=hc 5 (by omega)
    have d6:wr.cell? ⟨(a.add (k*12)).block,(a.add (k*12)).off+6,none⟩=some (.int .u64 pe.many):=hc 6 (by omega)
    have d7:wr.cell? ⟨(a.add (k*12)).block,(a.add (k*12)).off+7,none⟩=some (.int .i64 pe.node):=hc 7 (by omega)
    have d8:wr.cell? ⟨(a.add (k*12)).block,(a.add (k*12)).off+8,none⟩=some (.int .i64 pe.level):=hc 8 (by omega)
    have d9:wr.cell? ⟨(a.add (k*12)).block,(a.add (k*12)).off+9,none⟩=some (.string pe.data):=hc 9 (by omega)
    have d10:wr.cell? ⟨(a.add (k*12)).block,(a.add (k*12)).off+10,none⟩=some (.string pe.old):=hc 10 (by omega)
    have d11:wr.cell? ⟨(a.add (k*12)).block,(a.add (k*12)).off+11,none⟩=some (.bool po):=hc 11 (by omega)
    have hpo:pe.Ok:=HO.out _ (List.mem_of_getElem? hp)
    have K:=zh (fun (W:World)=>made_yes pe W hpo)
    have hsn:=zh (lgk_succ lev base L k _ hp)
    obtain ⟨E,hE⟩:∃ E,E=mk pe:=⟨_,rfl⟩
    have K2:=zh (fun (W:World)=>rlevel_any E W)
    have hsn2:Hid (lgk lev base L (k+1)=lgk lev base L k++[lgE lev (base+k+1) E]):=by show _=_;rw [hsn.out,hE]
    have K1:Hid (∀ (W:World),Calls Tryz.prog 11 #[mdv pe true] W fun r w'=>r=.returned (ev E)∧Below W.heap.size W w'):=by rw [hE];exact K.out
    have HLe:=zh hLe
    have HBW:=zh hbw
    clear hc hp hE hB hpo K hsn hLe hbw
    rw [hA]
    clear hA
    go_upto_region 7 with fail
    obtain ⟨W1,hW1⟩:∃ W1,W1=wr.alloc (.cells (mdc pe true) 30):=⟨_,rfl⟩
    have hb1:Below w.heap.size w W1:=by rw [hW1];exact HBW.out.alloc HBW.out.size _
    have hl1:Le w.heap.size A' k c' (lgk lev base L k) W1:=by rw [hW1];exact HLe.out.below ((Below.refl _ _).alloc (Nat.le_refl _) _)
    have hm1:W1.heap[wr.heap.size]?=some (.cells (mdc pe true) 30 (0,0)):=by rw [hW1];exact heap_alloc_new wr _
    refine wp_at (w:=W1) hW1.symm ?_
    have HB1:=zh hb1
    have HL1:=zh hl1
    obtain ⟨m0,m1,m2,m3,m4,m5,m6,m7,m8,m9,m10,m11⟩:=mcl hm1
    clear hW1 hb1 hl1 hm1 HLe HBW d0 d1 d2 d3 d4 d5 d6 d7 d8 d9 d10 d11
    go_upto_region 8 with (go_at_call 11;(with_reducible refine (K1.out _).mono ?_);rintro q w1 ⟨rfl,b1⟩)
    obtain ⟨W2,hW2⟩:∃ W2,W2=w1.alloc (.cells (ec E) 28):=⟨_,rfl⟩
    obtain ⟨P,hP⟩:∃ P,P=w1.heap.size:=⟨_,rfl⟩
    have hb2:Below w.heap.size w W2:=by rw [hW2];exact (HB1.out.trans (b1.mono HB1.out.size)).alloc (Nat.le_trans HB1.out.size b1.size) _
    have hl2:Le w.heap.size A' k c' (lgk lev base L k) W2:=by rw [hW2];exact (HL1.out.below b1).below ((Below.refl _ _).alloc (Nat.le_refl _) _)
    have hp2:W2.heap[P]?=some (.cells (ec E) 28 (0,0)):=by rw [hW2,hP];exact heap_alloc_new w1 _
    have hpr:∀ g,Value.ownBlock (.slice A' k c')=some g→g≠P:=fun g hg e=>by
     have:=((HL1.out.below b1).own.lt g hg).2
     omega
    have hpw:w.heap.size≤P:=by rw [hP];exact Nat.le_trans HB1.out.size b1.size
    refine wp_at (w:=W2) hW2.symm ?_
    rw [←hP]
    have HB2:=zh hb2
    have HL2:=zh hl2
    have HP2:=zh hp2
    have HPR:=zh hpr
    obtain ⟨n0,n1,n2,n3,n4,n5,n6,n7,n8,n9,n10⟩:=ecz hp2
    clear hW2 hb2 hl2 hp2 hpr hP b1 HB1 HL1 K1 m0 m1 m2 m3 m4 m5 m6 m7 m8 m9 m10 m11
    have hcc:((base+k+1:Nat):Int)=(base:Int)+k+1:=by omega
    by_cases hlv:lev<lvl E.kind
    ·have tl:decide (lev<lvl E.kind)=true:=decide_eq_true hlv
     have hlg:lgE lev (base+k+1) E={ (⟨E.term,0,1,E.client,E.seq,E.block,0,0,0,E.data,⟨#[]⟩⟩:En) with index:=(base:Int)+k+1 }:=by unfold lgE lg1;rw [if_pos hlv,hcc]
     have HLG:=zh hlg
     clear hlv hlg hcc
     go_upto_region 9 with (go_at_call 63;(with_reducible refine (K2.out _).mono ?_);rintro q w3 ⟨rfl,b3⟩;have HB3:Hid (Below w.heap.size w w3):=HB2.out.trans (b3.mono HB2.out.size);have HL3:Hid (Le w.heap.size A' k c' (lgk lev base L k) w3):=HL2.out.below b3;have HP3:Hid (w3.heap[P]?=some (.cells (ec E) 28 (0,0))):=(b3.block _ (zgx HP2.out)).trans HP2.out;obtain ⟨p0,p1,p2,p3,p4,p5,p6,p7,p8,p9,p10⟩:=ecz HP3.out;have pf:∀ i,w3.frozen? ⟨P,i,none⟩=false:=fun i=>Lib.frozen_of_heap HP3.out i;clear b3)
     go_upto_region 11 with fail
     obtain ⟨G,hG⟩:∃ G:En,G={ (⟨E.term,0,1,E.client,E.seq,E.block,0,0,0,E.data,⟨#[]⟩⟩:En) with index:=(base:Int)+k+1 }:=⟨_,rfl⟩
     obtain ⟨W5,hW5⟩:∃ W5,W5=(wz w3 P (⟨E.term,0,1,E.client,E.seq,E.block,0,0,0,E.data,⟨#[]⟩⟩:En)).setCell ⟨P,1,none⟩ (.int .u64 ((base:Int)+k+1)):=⟨_,rfl⟩
     have hb5:Below w.heap.size w W5:=by rw [hW5];exact (below_all _ HB3.out hpw).setCell (p:=⟨P,1,none⟩) hpw _
     have hl5:Le w.heap.size A' k c' (lgk lev base L k) W5:=⟨own_of_heap HL3.out.own (fun g hg=>by rw [hW5];exact (Below.heap_setCell _ _ _ g (HPR.out g hg)).trans (wz_far _ w3 (HPR.out g hg))),HL3.out.len⟩
     have hp5:W5.heap[P]?=some (.cells (ec G) 28 (0,0)):=by rw [hW5,hG];exact set_blk (store_again _ HP3.out) 1 _
     have hsn3:lgk lev base L (k+1)=lgk lev base L k++[G]:=by rw [hsn2.out,HLG.out,hG]
     have hb6:Below w.heap.size w (W5.alloc (.cells (ec G) 28)):=hb5.alloc hb5.size _
     have hl6:Le w.heap.size A' k c' (lgk lev base L k) (W5.alloc (.cells (ec G) 28)):=hl5.below ((Below.refl _ _).alloc (Nat.le_refl _) _)
     have hp6:(W5.alloc (.cells (ec G) 28)).heap[W5.heap.size]?=some (.cells (ec G) 28 (0,0)):=heap_alloc_new W5 _
     refine wp_at (w:=W5) hW5.symm ?_
     obtain ⟨g0,g1,g2,g3,g4,g5,g6,g7,g8,g9,g10⟩:=ecz hp5
     have HB6:=zh hb6
     have HL6:=zh hl6
     have HP6:=zh hp6
     have HSN:=zh hsn3
     clear hW5 hG hb5 hl5 hp5 hsn3 hb6 hl6 hp6 p0 p1 p2 p3 p4 p5 p6 p7 p8 p9 p10 pf HB3 HL3 HP3
     go_wp2_with (at_builtin;refine wpList_app_en rfl _ _ rfl _ w.heap.size A' k c' W5.heap.size (lgk lev base L k) G rfl rfl HL6.out HP6.out (by omega) HB6.out.size ?_;intro g cap w7 hL7 hb7 hk7)
     go_roundw
     case rel=>exact ⟨_,cap,k+1,rfl,by go_num,h1,h2,by rw [HSN.out];exact hL7,HB6.out.trans hb7⟩
     case measure=>simp [Go.RowKit.intOf];omega
    ·have tl:decide (lev<lvl E.kind)=false:=decide_eq_false hlv
     have hlg:lgE lev (base+k+1) E={ E with index:=(base:Int)+k+1 }:=by unfold lgE lg1;rw [if_neg hlv,hcc]
     have HLG:=zh hlg
     clear hlv hlg hcc
     go_upto_region 10 with (go_at_call 63;(with_reducible refine (K2.out _).mono ?_);rintro q w3 ⟨rfl,b3⟩;have HB3:Hid (Below w.heap.size w w3):=HB2.out.trans (b3.mono HB2.out.size);have HL3:Hid (Le w.heap.size A' k c' (lgk lev base L k) w3):=HL2.out.below b3;have HP3:Hid (w3.heap[P]?=some (.cells (ec E) 28 (0,0))):=(b3.block _ (zgx HP2.out)).trans HP2.out;obtain ⟨p0,p1,p2,p3,p4,p5,p6,p7,p8,p9,p10⟩:=ecz HP3.out;have pf:∀ i,w3.frozen? ⟨P,i,none⟩=false:=fun i=>Lib.frozen_of_heap HP3.out i;clear b3)
     go_upto_region 11 with fail
     obtain ⟨G,hG⟩:∃ G:En,G={ E with index:=(base:Int)+k+1 }:=⟨_,rfl⟩
     obtain ⟨W5,hW5⟩:∃ W5,W5=w3.setCell ⟨P,1,none⟩ (.int .u64 ((base:Int)+k+1)):=⟨_,rfl⟩
     have hb5:Below w.heap.size w W5:=by rw [hW5];exact HB3.out.setCell (p:=⟨P,1,none⟩) hpw _
     have hl5:Le w.heap.size A' k c' (lgk lev base L k) W5:=⟨own_of_heap HL3.out.own (fun g hg=>by rw [hW5];exact (Below.heap_setCell w3 _ _ g (HPR.out g hg)).trans rfl),HL3.out.len⟩
     have hp5:W5.heap[P]?=some (.cells (ec G) 28 (0,0)):=by rw [hW5,hG];exact set_blk HP3.out 1 _
     have hsn3:lgk lev base L (k+1)=lgk lev base L k++[G]:=by rw [hsn2.out,HLG.out,hG]
     have hb6:Below w.heap.size w (W5.alloc (.cells (ec G) 28)):=hb5.alloc hb5.size _
     have hl6:Le w.heap.size A' k c' (lgk lev base L k) (W5.alloc (.cells (ec G) 28)):=hl5.below ((Below.refl _ _).alloc (Nat.le_refl _) _)
     have hp6:(W5.alloc (.cells (ec G) 28)).heap[W5.heap.size]?=some (.cells (ec G) 28 (0,0)):=heap_alloc_new W5 _
     refine wp_at (w:=W5) hW5.symm ?_
     obtain ⟨g0,g1,g2,g3,g4,g5,g6,g7,g8,g9,g10⟩:=ecz hp5
     have HB6:=zh hb6
     have HL6:=zh hl6
     have HP6:=zh hp6
     have HSN:=zh hsn3
     clear hW5 hG hb5 hl5 hp5 hsn3 hb6 hl6 hp6 p0 p1 p2 p3 p4 p5 p6 p7 p8 p9 p10 pf HB3 HL3 HP3
     go_wp2_with (at_builtin;refine wpList_app_en rfl _ _ rfl _ w.heap.size A' k c' W5.heap.size (lgk lev base L k) G rfl rfl HL6.out HP6.out (by omega) HB6.out.size ?_;intro g cap w7 hL7 hb7 hk7)
     go_roundw
     case rel=>exact ⟨_,cap,k+1,rfl,by go_num,h1,h2,by rw [HSN.out];exact hL7,HB6.out.trans hb7⟩
     case measure=>simp [Go.RowKit.intOf];omega
   ·have t2:decide ((k:Int)<(most:Int))=false:=decide_eq_false (by omega)
    have hfin:lgk lev base L k=lgd lev base most L:=by unfold lgd;rw [hlen.out];congr 1;omega
    rw [hfin] at hLe
    have HF:=zh hLe
    clear hLe hfin
    go_wp2
    go_ret
    exact ⟨A',k,c',rfl,HF.out,hbw⟩
  ·have t1:decide ((k:Int)<(n:Int))=false:=decide_eq_false (by omega)
   have hfin:lgk lev base L k=lgd lev base most L:=by unfold lgd;rw [hlen.out];congr 1;omega
   rw [hfin] at hLe
   have HF:=zh hLe
   clear hLe hfin
   go_wp2
   go_ret
   exact ⟨A',k,c',rfl,HF.out,hbw⟩
end Go.Proofs.YtnobeoppffoomaaGreat
namespace Go.Proofs.YtnobeoppffoomaaGreat
open Go.RowKit
open Dk Vi
def pS (v:Int) (e:En):ByteArray:=rfP v (D.eOv v e) (D.ePv v e)
def pO (v:Int) (e:En):Bool:=D.eOv v e&&pkO v (D.ePv v e)
def qX (s:ByteArray):En:=if D.aO s then D.aX s else ezz
def qV (s:ByteArray):Int:=if D.aO s then uV s else 0
theorem puts_in (v:Int) (es:List En) (ok:∀ e∈es,e.Ok):Puts 36 v (pS v) (pO v) es:=fun e he W=>D.aPutE v e W (ok e he)
theorem rputs_in (v:Int) (es:List En) (ok:∀ e∈es,e.Ok):Puts 42 v (pS v) (pO v) es:=fun e he W=>D.aRPutE v e W (ok e he)
theorem gets_in:Gets 120 qX qV D.aO:=fun s W hs=>D.aGetE s W hs
theorem rgets_in:Gets 46 qX qV D.aO:=fun s W hs=>D.aRGetE s W hs
theorem qV_frm (t:ByteArray) (h:nOk t=true) (ho:D.aO (frm t)=true):qV (frm t)=nxV t:=by
 unfold qV
 rw [if_pos ho]
 exact (frm_uV h).2.1
theorem pS_le (v:Int) (e:En):(pS v e).size≤1048600:=by
 unfold pS rfP
 split
 ·exact pkS_size _ _
 ·exact Nat.zero_le _
structure Good (v:Int) (e:En):Prop where
 ok:e.Ok
 o:pO v e=true
 pk:pkO v (D.ePv v e)=true
 s:pS v e=pack v (D.ePv v e)
 g:D.aO (pack v (D.ePv v e))=true
 x:D.aX (pack v (D.ePv v e))=e
theorem good_of {v:Int} {e:En} (hv:v=1∨v=2) (ok:e.Ok) (hr:rightB e=true) (hm:v=1→mayB e=true):Good v e:=by
 have hb:(D.ePv v e).size≤1048576:=by
  unfold D.ePv
  split
  ·exact D.putSb_le e ok
  ·exact D.putS_leA e ok
 have hk:pkO v (D.ePv v e)=true:=pkO_of hv hb
 have ho:D.eOv v e=true:=by
  rcases hv with rfl|rfl
  ·exact hm rfl
  ·exact hr
 obtain ⟨u1,u2,u3⟩:=u_pack hk
 have key:D.aO (pack v (D.ePv v e))=true∧D.aX (pack v (D.ePv v e))=e:=by
  rcases hv with rfl|rfl
  ·have hmb:=hm rfl
   have e1:D.ePv 1 e=pb e:=by show putS e=_;unfold putS;rw [if_pos hmb]
   have hp:=got_put ok hmb ⟨#[]⟩
   rw [app_nil] at hp
   obtain ⟨p1,p2,p3⟩:=hp
   have b1:D.aB (pack 1 (D.ePv 1 e))=false:=by unfold D.aB;rw [u2,if_neg (by decide),u3,e1,p1];rfl
   have t1:D.aT (pack 1 (D.ePv 1 e))=⟨#[]⟩:=by unfold D.aT;rw [u2,if_neg (by decide),u3,e1,p3]
   refine ⟨?_,?_⟩
   ·unfold D.aO rgO;rw [u1,b1,t1];rfl
   ·unfold D.aX;rw [u2,if_neg (by decide),u3,e1,p2]
  ·have e1:D.ePv 2 e=sbE e:=by show putS_b e=_;unfold putS_b;rw [if_pos hr]
   have hp:=gE_put ok hr ⟨#[]⟩
   rw [app_nil] at hp
   obtain ⟨p1,p2,p3⟩:=hp
   have b1:D.aB (pack 2 (D.ePv 2 e))=false:=by unfold D.aB;rw [u2,if_pos rfl,u3,e1,p3];rfl
   have t1:D.aT (pack 2 (D.ePv 2 e))=⟨#[]⟩:=by unfold D.aT;rw [u2,if_pos rfl,u3,e1,p2]
   refine ⟨?_,?_⟩
   ·unfold D.aO rgO;rw [u1,b1,t1];rfl
   ·unfold D.aX;rw [u2,if_pos rfl,u3,e1,p1]
 exact ⟨ok,by unfold pO;rw [ho,hk];rfl,hk,by unfold pS rfP pkS;rw [if_pos ho,if_pos hk],key.1,key.2⟩
theorem rcA_pre (v:Int) (S:En→ByteArray) (pre:List En) (e:En) (post:List En):∃ r,rcA v S (pre++e :: post)=rcA v S pre++(S e++r):=by
 have key:∀ (l:List En) (s:ByteArray),∃ r,l.foldl (fun s e=>padv v (s++S e)) s=s++r:=by
  intro l
  induction l with
  | nil=>intro s;exact ⟨⟨#[]⟩,by rw [app_nil];rfl⟩
  | cons a l ih =>
    intro s
    obtain ⟨r,hr⟩:=ih (padv v (s++S a))
    refine ⟨S a++(zz (bgn v (s++S a).size-(s++S a).size)++r),?_⟩
    rw [List.foldl_cons,hr]
    unfold padv
    simp only [ByteArray.append_assoc]
 obtain ⟨r,hr⟩:=key post (padv v (rcA v S pre++S e))
 refine ⟨zz (bgn v (rcA v S pre++S e).size-(rcA v S pre++S e).size)++r,?_⟩
 have h1:rcA v S (pre++e :: post)=post.foldl (fun s e=>padv v (s++S e)) (padv v (rcA v S pre++S e)):=by
  unfold rcA
  rw [List.foldl_append,List.foldl_cons]
 rw [h1,hr]
 unfold padv
 simp only [ByteArray.append_assoc]
def endsP (v:Int) (S:En→ByteArray) (pre:List En):List En→List (En×Nat)
 | []=>[]
 | e :: t=>(e,(rcA v S (pre++[e])).size) :: endsP v S (pre++[e]) t
theorem endsP_fst (v:Int) (S:En→ByteArray):∀ (post pre:List En),(endsP v S pre post).map Prod.fst=post
 | [],_=>rfl
 | e :: t,pre=>by rw [endsP,List.map_cons,endsP_fst v S t]
theorem endsP_last (v:Int) (S:En→ByteArray):∀ (post pre:List En),(post=[]∧lpP (endsP v S pre post)=0)∨(post≠[]∧lpP (endsP v S pre post)=(rcA v S (pre++post)).size)
 | [],_=>.inl ⟨rfl,rfl⟩
 | e :: t,pre=>by
   refine .inr ⟨by simp,?_⟩
   rcases endsP_last v S t (pre++[e]) with ⟨rfl,_⟩|⟨hne,h⟩
   ·rfl
   ·cases t with
    | nil=>exact absurd rfl hne
    | cons a t =>
      rw [List.append_assoc] at h
      rw [endsP]
      unfold lpP at h ⊢
      rw [endsP,List.getLast?_cons_cons,←endsP]
      exact h
theorem extract_drop (A B:ByteArray):(A++B).extract A.size (A++B).size=B:=by
 exact extract_right A B
theorem pl_rc {v:Int} {es:List En} {J:ByteArray} (hg:∀ e∈es,Good v e) (hJ:frB D.aO v J=false):∀ (post pre:List En) (F:Nat),es=pre++post→post.length<F →
 pl qX D.aO v (rcA v (pS v) es++J) F (rcA v (pS v) pre).size=endsP v (pS v) pre post:=by
 intro post
 induction post with
 | nil =>
   intro pre F he hF
   obtain ⟨F,rfl⟩:∃ F',F=F'+1:=⟨F-1,by simp at hF;omega⟩
   rw [List.append_nil] at he
   subst he
   have ht:tlB (rcA v (pS v) es++J) (rcA v (pS v) es).size=J:=extract_drop _ _
   rw [pl,ht,hJ]
   rfl
 | cons e post ih =>
   intro pre F he hF
   obtain ⟨F,rfl⟩:∃ F',F=F'+1:=⟨F-1,by simp at hF;omega⟩
   have G:=hg e (by rw [he];simp)
   obtain ⟨r,hr⟩:=rcA_pre v (pS v) pre e post
   have ht:tlB (rcA v (pS v) es++J) (rcA v (pS v) pre).size=pack v (D.ePv v e)++(r++J):=by
    rw [he,hr,ByteArray.append_assoc]
    unfold tlB
    rw [extract_drop,G.s,ByteArray.append_assoc]
   obtain ⟨k1,k2,k3,k4⟩:=nOk_pack G.pk (r++J)
   have hfm:=frm_pack k1
   rw [k2,k3] at hfm
   have hnx:=(nx_yes k1)
   have hN:=nxN_eq k1
   rw [k2,k3] at hN
   have hfb:frB D.aO v (pack v (D.ePv v e)++(r++J))=true:=by
    unfold frB
    rw [k1,hfm,G.g,hnx.1,k2,decide_eq_true rfl]
    rfl
   have hX:qX (frm (pack v (D.ePv v e)++(r++J)))=e:=by
    rw [hfm];unfold qX;rw [if_pos G.g,G.x]
   have hnp:nxtP v (rcA v (pS v) es++J) (rcA v (pS v) pre).size=(rcA v (pS v) (pre++[e])).size:=by
    unfold nxtP
    have hz:(rcA v (pS v) pre++pS v e).size=(rcA v (pS v) pre).size+(pS v e).size:=ByteArray.size_append
    have hzz:(rcA v (pS v) es++J).size=(rcA v (pS v) es).size+J.size:=ByteArray.size_append
    rw [ht,hnx.2.2,hN,Int.toNat_natCast,←G.s,rcA_snoc,padv_size,hz]
    refine Nat.min_eq_left ?_
    have h1:(rcA v (pS v) (pre++[e])).size≤(rcA v (pS v) es).size:=by
     rw [he]
     cases post with
     | nil=>exact Nat.le_refl _
     | cons a t =>
       have:=rcA_pre v (pS v) (pre++[e]) a t
       obtain ⟨r',hr'⟩:=this
       rw [List.append_assoc] at hr'
       show _≤(rcA v (pS v) (pre++([e]++a :: t))).size
       rw [hr',ByteArray.size_append]
       omega
    rw [rcA_snoc,padv_size,hz] at h1
    omega
   rw [pl,ht,hfb,if_pos rfl,hX,hnp,endsP]
   refine congrArg (List.cons _) ?_
   exact ih (pre++[e]) F (by rw [he];simp) (by simp at hF;omega)
theorem par_rc {v:Int} {es:List En} {J:ByteArray} (hg:∀ e∈es,Good v e) (hJ:frB D.aO v J=false):parE qX D.aO v (rcA v (pS v) es++J)=es∧parU qX D.aO v (rcA v (pS v) es++J)=(rcA v (pS v) es).size:=by
 have hF:es.length<(rcA v (pS v) es++J).size+1:=by
  have key:∀ (post pre:List En),(∀ e∈post,Good v e)→(rcA v (pS v) pre).size+post.length≤(rcA v (pS v) (pre++post)).size:=by
   intro post
   induction post with
   | nil=>intro pre _;rw [List.append_nil];exact Nat.le_refl _
   | cons e t ih =>
     intro pre h
     have h1:=ih (pre++[e]) fun x hx=>h x (List.mem_cons_of_mem _ hx)
     have G:=h e (by simp)
     have h2:(rcA v (pS v) pre).size+1≤(rcA v (pS v) (pre++[e])).size:=by
      rw [rcA_snoc,padv_size,ByteArray.size_append,G.s]
      have:=bgn_le v ((rcA v (pS v) pre).size+(pack v (D.ePv v e)).size)
      have hp:0<(pack v (D.ePv v e)).size:=by
       unfold pack
       rw [ByteArray.size_append,ByteArray.size_append,seal_size]
       omega
      omega
     rw [List.append_assoc] at h1
     simp only [List.length_cons,List.singleton_append] at h1 ⊢
     omega
  have:=key es [] hg
  rw [ByteArray.size_append]
  simp only [List.nil_append] at this
  omega
 have h:=pl_rc hg hJ es [] _ rfl hF
 have e0:(rcA v (pS v) []).size=0:=rfl
 rw [e0] at h
 unfold parE parU parL
 rw [h]
 refine ⟨endsP_fst _ _ _ _,?_⟩
 rcases endsP_last v (pS v) es [] with ⟨rfl,h1⟩|⟨_,h1⟩
 ·exact h1
 ·simpa using h1
end Go.Proofs.YtnobeoppffoomaaGreat
namespace Go.Proofs.YtnobeoppffoomaaGreat
open Go.RowKit
def jn (b:Nat):List En→List En→Option (List En)
 | out,[]=>some out
 | out,e :: t=>if e.index≤(b:Int)∨(b:Int)+out.length<e.index-1 then none else jn b (out.take (e.index-1-b).toNat++[e]) t
theorem own_take {w:World} {B g cap n k:Nat} {e:TypeId} {s:Nat} {xs:List Value} (h:w.ownsRow B e s (.slice (some ⟨g,0,none⟩) n cap) n xs) (hk:k≤n):w.ownsRow B e s (.slice (some ⟨g,0,none⟩) k cap) k (xs.take (k*s)):=by
 obtain ⟨hl,h⟩:=h
 have hks:k*s≤n*s:=Nat.mul_le_mul_right _ hk
 refine ⟨by rw [List.length_take];omega,.inr ?_⟩
 rcases h with ⟨hv,_⟩|⟨g',cap',cur,hv,hb,hg,h1,h2,h3,h4⟩
 ·cases hv
 ·cases hv
  exact ⟨_,_,cur,rfl,hb,hg,by omega,h2,h3,by rw [←h4,List.take_take,Nat.min_eq_left hks]⟩
theorem ownsRow_low' {w:World} {B B':Nat} {e:TypeId} {size:Nat} {v:Value} {n:Nat} {xs:List Value} (hB:B'≤B) (h:w.ownsRow B e size v n xs):w.ownsRow B' e size v n xs:=by
 obtain ⟨hl,h⟩:=h
 refine ⟨hl,?_⟩
 rcases h with h|⟨g,cap,cur,hv,hb,r⟩
 ·exact .inl h
 ·exact .inr ⟨g,cap,cur,hv,Nat.le_trans hB hb,r⟩
theorem flat_take (es:List En) (k:Nat):(flat es).take (k*11)=flat (es.take k):=by
 induction es generalizing k with
 | nil=>simp [flat]
 | cons e es ih =>
   cases k with
   | zero=>simp [flat]
   | succ k =>
     have e1:flat (e :: es)=(ec e).toList++flat es:=rfl
     have e2:flat ((e :: es).take (k+1))=(ec e).toList++flat (es.take k):=rfl
     rw [e1,e2,←ih k,List.take_append]
     have hl:(ec e).toList.length=11:=rfl
     rw [List.take_of_length_le (by rw [hl];omega),hl,show (k+1)*11-11=k*11 by omega]
theorem Le.take {B g cap n k:Nat} {es:List En} {w:World} (h:Le B (some ⟨g,0,none⟩) n cap es w) (hk:k≤n):Le B (some ⟨g,0,none⟩) k cap (es.take k) w :=
 ⟨by rw [←flat_take];exact own_take h.own hk,by rw [List.length_take,h.len];omega⟩
theorem Le.form {B:Nat} {A:Option Addr} {n c:Nat} {es:List En} {w:World} (h:Le B A n c es w):(A=none∧n=0∧c=0∧es=[])∨∃ g,A=some ⟨g,0,none⟩∧n≤c∧c≤maxLen∧g<w.heap.size:=by
 rcases h.own.2 with ⟨hv,h0⟩|⟨g,cap,cur,hv,hb,hg,h1,h2,_⟩
 ·simp at hv
  have:=h.len
  exact .inl ⟨hv.1,h0,hv.2.2,List.length_eq_zero_iff.1 (by omega)⟩
 ·simp at hv
  obtain ⟨rfl,rfl⟩:=hv
  exact .inr ⟨g,rfl,h1,h2,(zgx hg)⟩
theorem eclone_any (B:Nat) (A:Option Addr) (n c:Nat) (es:List En) (w:World) (h:Le B A n c es w) (hn:n≤1000000) :
 Calls Tryz.prog 76 #[.slice A n c] w fun q w'=>∃ A' c',q=.returned (.slice A' n c')∧Le w.heap.size A' n c' es w'∧Below w.heap.size w w':=by
 rcases h.form with ⟨rfl,rfl,rfl,rfl⟩|⟨g,rfl,hc,hm,hg⟩
 ·refine Calls.mono (show Calls Tryz.prog 76 #[.slice none 0 0] w _ from AnyE.slices_Clone_nil Tryz.cloneE 0 0 w) ?_
  rintro q w' ⟨rfl,rfl⟩
  exact ⟨none,0,rfl,Le.nil _ _,Below.refl _ _⟩
 ·obtain ⟨i0,hi,hz0,hz1,hz2⟩:=info_parts Tryz.info28
  have hone:∀ u∈flat es,u.oneCell'=true:=fun u hu=>by
   unfold flat at hu
   obtain ⟨e,_,he⟩:=List.mem_flatMap.1 hu
   simp at he
   rcases he with rfl|rfl|rfl|rfl|rfl|rfl|rfl|rfl|rfl|rfl|rfl<;>rfl
  have hcell:∀ j u,(flat es)[j]?=some u→w.cell? ⟨g,0+j,none⟩=some u:=fun j u hu=>by
   have hj:j<(flat es).length:=(List.getElem?_eq_some_iff.1 hu).1
   rw [flat_length,h.len] at hj
   rw [Nat.zero_add,h.own.cellAt j (by omega)]
   exact hu
  refine Calls.mono (show Calls Tryz.prog 76 #[.slice (some ⟨g,0,none⟩) n c] w _ from AnyE.slices_Clone Tryz.cloneE i0 (ev ezz) 11 104 hi hz0 hz1 hz2 rfl (by omega) (fun w=>by kernel_rfl) g 0 n c (flat es) w (by rw [flat_length,h.len]) (by unfold maxLen;omega) (by omega) hcell hone) ?_
  rintro q w' ⟨v',rfl,hown,hne,hb⟩
  rcases hown.2 with ⟨hv,h0⟩|⟨g',cap,cur,rfl,r⟩
  ·exact absurd hv hne
  ·exact ⟨_,cap,rfl,⟨hown,h.len⟩,hb⟩
def jnR (B:Nat) (o:Option (List En)) (q:Ending) (w':World):Prop :=
 (∃ r A n c,o=some r∧q=.returned (.tuple #[.slice A n c,.bool true])∧Le B A n c r w')∨(o=none∧q=.returned (.tuple #[.slice none 0 0,.bool false]))
theorem join_any (base B0:Nat) (A A2:Option Addr) (n c n2 c2:Nat) (l more:List En) (w:World) (hL:Le B0 A n c l w) (hM:Ents w.heap.size A2 n2 more w) (hb:base≤1099511627776) (hn:n≤64) (hn2:n2≤64)
 (hix:∀ i e,l[i]?=some e→e.index=((base+i+1:Nat):Int)) (hok:∀ e∈more,e.Ok) :
 Calls Tryz.prog 33 #[.int .u64 base,.slice A n c,.slice A2 n2 c2] w fun q w'=>jnR w.heap.size (jn base l more) q w'∧Below w.heap.size w w':=by
 have HL:=zh hL
 have HE:=zh hL.ents
 have HM:=zh hM
 have HIX:=zh hix
 have HOK:=zh hok
 have hll:Hid (l.length=n):=hL.len
 have hml:Hid (more.length=n2):=hM.len
 have hB0:=Below.refl w.heap.size w
 clear hL hM hix hok
 go_enter Tryz.func33,Tryz.ntmps33
 go_wp2
 go_loopw [8,17] (fun x i wr=>∃ k:Nat,i=.int .i64 k∧x=.int .u64 ((base:Int)+k)∧k≤n∧Below w.heap.size w wr) (fun _ i _=>n-(Go.RowKit.intOf i).toNat)
 case atStart=>exact ⟨0,rfl,by simp,Nat.zero_le _,hB0⟩
 case round =>
  obtain ⟨k,rfl,rfl,hk,hbw⟩:=hrel
  by_cases hlt:k<n
  ·obtain ⟨e,he⟩:∃ e,l[k]?=some e:=⟨_,List.getElem?_eq_getElem (by rw [hll.out];exact hlt)⟩
   obtain ⟨a,hA,hB,d0,d1,d2,d3,d4,d5,d6,d7,d8,d9,d10⟩:=(HE.out.below hbw).cs he
   have hei:e.index=(base:Int)+k+1:=by rw [HIX.out k e he];omega
   obtain ⟨et,ei,ek,ecl_,es_,eb,em,en,el,ed,eo⟩:=e
   subst hei
   have HBW:=zh hbw
   clear hB he hbw
   rw [hA]
   clear hA
   have hq1:((base:Int)+k+1==(base:Int)+k+1)=true:=by simp
   go_wp2
   go_roundw
   case rel=>exact ⟨k+1,by go_num,by congr 1,by omega,HBW.out.alloc HBW.out.size _⟩
   case measure=>simp [Go.RowKit.intOf];omega
  ·have hkn:k=n:=by omega
   subst hkn
   have HLw:=zh (HL.out.below hbw)
   have HBW:=zh hbw
   clear hbw
   have KC:=zh (eclone_any B0 A k c l wr HLw.out (by omega))
   clear hlt
   go_upto_region 10 with (go_at_call 76;(with_reducible refine KC.out.mono ?_);rintro q w1 ⟨A1,c1,rfl,hL1,hb1⟩)
   have hB1:Below w.heap.size w w1:=HBW.out.trans (hb1.mono HBW.out.size)
   have hL1':Le w.heap.size A1 k c1 l w1:=⟨ownsRow_low' HBW.out.size hL1.own,hL1.len⟩
   clear hL1 hb1 KC
   go_wp2
   go_loopw [8,11,32] (fun x o i wr=>∃ (k:Nat) (A':Option Addr) (m c':Nat) (out:List En),i=.int .i64 k∧o=.slice A' m c'∧x=.int .u64 ((base:Int)+m)∧k≤n2∧m≤64+k∧Hid (jn base out (more.drop k)=jn base l more)∧Le w.heap.size A' m c' out wr∧Below w.heap.size w wr) (fun _ _ i _=>n2-(Go.RowKit.intOf i).toNat)
   case atStart=>exact ⟨0,A1,k,c1,l,rfl,rfl,rfl,Nat.zero_le _,by omega,rfl,hL1',hB1⟩
   case round =>
    obtain ⟨j,A',m,c',out,rfl,rfl,rfl,hj,hmk,hjn,hLo,hbw⟩:=hrel
    by_cases hlt:j<n2
    ·obtain ⟨e,he⟩:∃ e,more[j]?=some e:=⟨_,List.getElem?_eq_getElem (by rw [hml.out];exact hlt)⟩
     obtain ⟨a,hA,hB,d0,d1,d2,d3,d4,d5,d6,d7,d8,d9,d10⟩:=(HM.out.below hbw).cs he
     have hdr:more.drop j=e :: more.drop (j+1):=by
      rw [List.drop_eq_getElem_cons (by rw [hml.out];exact hlt)]
      congr 1
      exact (List.getElem?_eq_some_iff.1 he).2
     have hol:=hLo.len
     have hok:=HOK.out e (List.mem_of_getElem? he)
     have i0:=hok.i0
     have i1:=hok.i1
     have hjs:Hid (jn base out (e :: more.drop (j+1))=if e.index≤(base:Int)∨(base:Int)+out.length<e.index-1 then none else jn base (out.take (e.index-1-base).toNat++[e]) (more.drop (j+1))):=rfl
     rw [hdr] at hjn
     have HLO:=zh hLo
     have HBW:=zh hbw
     have hpx:=heap_alloc_new wr (.cells (ec e) 28)
     have HPX:=zh hpx
     have hBx:Hid (Below w.heap.size w (wr.alloc (.cells (ec e) 28))):=HBW.out.alloc HBW.out.size _
     have HLX:Hid (Le w.heap.size A' m c' out (wr.alloc (.cells (ec e) 28))):=HLO.out.below ((Below.refl _ _).alloc (Nat.le_refl _) _)
     clear he hB hdr hok hLo hbw hpx hL1' hB1
     rw [hA]
     clear hA
     by_cases hbad:e.index≤(base:Int)∨(base:Int)+m<e.index-1
     ·have hF:Hid (jn base l more=none):=by show _=_;rw [←hjn.out,hjs.out,if_pos (by rw [hol];exact hbad)]
      by_cases hb1:e.index≤(base:Int)
      ·have t1:decide (e.index≤(base:Int))=true:=decide_eq_true hb1
       clear hbad hol
       go_wp2
       go_ret2
       exact ⟨.inr ⟨hF.out,rfl⟩,hBx.out⟩
      ·have t1:decide (e.index≤(base:Int))=false:=decide_eq_false hb1
       have t2:decide ((base:Int)+m<e.index-1)=true:=decide_eq_true (by omega)
       clear hbad hol
       go_wp2
       go_ret2
       exact ⟨.inr ⟨hF.out,rfl⟩,hBx.out⟩
     ·have t1:decide (e.index≤(base:Int))=false:=decide_eq_false (by omega)
      have t2:decide ((base:Int)+m<e.index-1)=false:=decide_eq_false (by omega)
      obtain ⟨h,hh⟩:∃ h,h=(e.index-1-base).toNat:=⟨_,rfl⟩
      have hhi:e.index-1-(base:Int)=(h:Int):=by omega
      have hhm:h≤m:=by omega
      have hix2:Hid (e.index=(base:Int)+((h+1:Nat):Int)):=by show _=_;omega
      have hnx:Hid (jn base (out.take h++[e]) (more.drop (j+1))=jn base l more):=by
       show _=_
       rw [←hjn.out,hjs.out,if_neg (by rw [hol];exact hbad),←hh]
      clear hbad hol hh hjs hjn
      go_upto_region 15 with fail
      obtain ⟨WX,hWX⟩:∃ WX,WX=wr.alloc (.cells (ec e) 28):=⟨_,rfl⟩
      have hsx:WX.heap.size=wr.heap.size+1:=by rw [hWX];simp
      rw [←hWX] at HPX hBx HLX
      refine wp_at (w:=WX) hWX.symm ?_
      obtain ⟨i28,hi28,hz28,hs28,hb28⟩:=info_parts Tryz.info28
      obtain ⟨q0,q1,q2,q3,q4,q5,q6,q7,q8,q9,q10⟩:=ecz (w:=WX.drew) HPX.out
      have hw1:IntKind.u64.wrap (e.index-1)=e.index-1:=by rw [IntKind.wrap_u64];omega
      have hw2:IntKind.u64.wrap (h:Int)=(h:Int):=by rw [IntKind.wrap_u64];omega
      have HNEWS:Hid (∀ j u,(ec e).toList[j]?=some u→(WX.alloc (.cells (ec e) 28)).cell? ((⟨WX.heap.size,0,none⟩:Addr).add j)=some u):=World.news_of_block (heap_alloc_new WX _)
      have HBG:Hid (Below w.heap.size w (WX.alloc (.cells (ec e) 28)).drew):=(hBx.out.alloc hBx.out.size _).drew
      have HBS:Hid (w.heap.size≤(WX.alloc (.cells (ec e) 28)).heap.size):=(hBx.out.alloc hBx.out.size (.cells (ec e) 28)).size
      have HGS:Hid (wr.heap.size<(WX.alloc (.cells (ec e) 28)).drew.heap.size):=by show wr.heap.size<(WX.alloc (.cells (ec e) 28)).heap.size;rw [World.size_alloc,hsx];omega
      have HGX:Hid ((WX.alloc (.cells (ec e) 28)).drew.heap[wr.heap.size]?=some (.cells (ec e) 28 (0,0))):=(Lib.alloc_old WX _ _ (by omega)).trans HPX.out
      have HGN:Hid (∀ g,Value.ownBlock (.slice A' m c')=some g→g<wr.heap.size):=fun g hg=>(HLO.out.own.lt g hg).2
      obtain ⟨r0,r1,r2,r3,r4,r5,r6,r7,r8,r9,r10⟩:=ecz (w:=(WX.alloc (.cells (ec e) 28)).drew) HGX.out
      clear hWX hsx t1 t2
      rcases HLO.out.form with ⟨rfl,rfl,rfl,rfl⟩|⟨g,rfl,hmc,hcm,hgl⟩
      ·have hh0:h=0:=by omega
       subst hh0
       have hhi0:e.index-1-(base:Int)=0:=by omega
       have hwz:IntKind.u64.wrap 0=0:=by decide
       clear hhi hw2
       have HOW:Hid ((WX.alloc (.cells (ec e) 28)).drew.ownsRow w.heap.size 28 11 (.slice none 0 0) 0 (flat ([]:List En))):=World.ownsRow_nil _ _ _ _
       go_region_law (refine step_append_lies _ (by rfl) _ _ 25 (by rfl) w.heap.size 28 i28 (ev ezz) 11 104 Tryz.underlying25 hi28 hz28 hs28 hb28 (by rfl) (by omega) (.slice none 0 0) 0 (flat ([]:List En)) (by rfl) (by exact HOW.out) ⟨WX.heap.size,0,none⟩ 1 1 (ec e).toList (by rfl) rfl (by exact HNEWS.out) (fun u hu=>by simp at hu;rcases hu with rfl|rfl|rfl|rfl|rfl|rfl|rfl|rfl|rfl|rfl|rfl<;>rfl) (by omega) (by unfold maxLen;omega) (by omega) (by exact HBS.out) (WX.heap.size+1) (by simp) ?_;intro g4 cap w4 hown4 hgrow hat hlt4)
       all_goals
        have hL4:Hid (Le w.heap.size (some ⟨g4,0,none⟩) (0+1) cap (([]:List En).take 0++[e]) w4):=⟨by rw [flat_snoc];exact hown4,rfl⟩
        have hB4:Hid (Below w.heap.size w w4):=HBG.out.grown hgrow HBS.out (fun g hg=>by have:=(HOW.out.lt g hg).1;omega)
        have y1:w4.cell? ⟨wr.heap.size,1,none⟩=some (.int .u64 e.index):=(World.cell?_of_block (hgrow.block wr.heap.size HGS.out (fun hg=>by have:=HGN.out _ hg.symm;omega))).trans (zcr _ wr.heap.size 1 _ 28 (0,0) HGX.out)
        clear hown4 hgrow hat hlt4
        go_wp2
        go_roundw
        case rel=>first|exact ⟨j+1,_,_,cap,_,by go_num,rfl,by rw [hix2.out],by omega,by omega,hnx,hL4.out,hB4.out⟩
        case measure=>simp [Go.RowKit.intOf];omega
      ·have HOW:Hid ((WX.alloc (.cells (ec e) 28)).drew.ownsRow w.heap.size 28 11 (.slice (some ⟨g,0,none⟩) h c') h (flat (out.take h))):=((HLX.out.take hhm).below ((Below.refl _ _).alloc (Nat.le_refl _) _)).own
       have hhc:¬ (c':Int)<(h:Int):=by omega
       have hhc2:(h:Int)≤(c':Int):=by omega
       go_region_law (refine step_append_lies _ (by rfl) _ _ 25 (by rfl) w.heap.size 28 i28 (ev ezz) 11 104 Tryz.underlying25 hi28 hz28 hs28 hb28 (by rfl) (by omega) (.slice (some ⟨g,0,none⟩) h c') h (flat (out.take h)) (by rfl) (by exact HOW.out) ⟨WX.heap.size,0,none⟩ 1 1 (ec e).toList (by rfl) rfl (by exact HNEWS.out) (fun u hu=>by simp at hu;rcases hu with rfl|rfl|rfl|rfl|rfl|rfl|rfl|rfl|rfl|rfl|rfl<;>rfl) (by omega) (by unfold maxLen;omega) (by omega) (by exact HBS.out) (WX.heap.size+1) (by simp) ?_;intro g4 cap w4 hown4 hgrow hat hlt4)
       all_goals
        have hL4:Hid (Le w.heap.size (some ⟨g4,0,none⟩) (h+1) cap (out.take h++[e]) w4):=⟨by rw [flat_snoc];exact hown4,by rw [List.length_append,List.length_take,HLO.out.len];simp;omega⟩
        have hB4:Hid (Below w.heap.size w w4):=HBG.out.grown hgrow HBS.out (fun g hg=>by have:=(HOW.out.lt g hg).1;omega)
        have y1:w4.cell? ⟨wr.heap.size,1,none⟩=some (.int .u64 e.index):=(World.cell?_of_block (hgrow.block wr.heap.size HGS.out (fun hg=>by have:=HGN.out _ hg.symm;omega))).trans (zcr _ wr.heap.size 1 _ 28 (0,0) HGX.out)
        clear hown4 hgrow hat hlt4
        go_wp2
        go_roundw
        case rel=>first|exact ⟨j+1,_,_,cap,_,by go_num,rfl,by rw [hix2.out],by omega,by omega,hnx,hL4.out,hB4.out⟩
        case measure=>simp [Go.RowKit.intOf];omega
    ·have hF:more.drop j=[]:=List.drop_eq_nil_of_le (by rw [hml.out];omega)
     rw [hF] at hjn
     have HLO:=zh hLo
     clear hLo
     go_wp2
     go_ret2
     exact ⟨.inl ⟨out,A',m,c',hjn.out.symm,rfl,HLO.out⟩,hbw⟩
end Go.Proofs.YtnobeoppffoomaaGreat
