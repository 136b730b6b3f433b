/-
  WalPlays: LPlyA.
  Conditions: named in each theorem.
-/
import Derived.Test.YtnobeoppffoomaaGreatP45
import Derived.Test.YtnobeoppffoomaaGreatP44
import Derived.Deep.QuietTactic
import Derived.BigQuiet
import Derived.Test.YtnobeoppffoomaaGreatP0
set_option linter.unusedVariables false
set_option linter.unusedSimpArgs false
set_option maxHeartbeats 8000000
set_option maxRecDepth 100000
namespace Go.Proofs.YtnobeoppffoomaaGreat
open Go.RowKit
open Dk
def InI (x:Int):Prop:=-9223372036854775808≤x∧x≤9223372036854775807
def DdAt (w:World) (A:Option Addr) (n:Nat):Prop :=
 ∀ i,i<n→∃ (ad:Addr) (k:Nat) (N:Int) (S:List UInt8) (A1:Option Addr) (n1 c1:Nat) (A2:Option Addr) (lost:List Int) (c2:Nat) (Lm:List (En×Bool)),A=some ad∧ad.block<w.heap.size∧k<256∧InI N ∧
  (Mades w.heap.size A1 n1 Lm w∧(∀ p∈Lm,p.1.Ok)∧(n1:Int)≤9223372036854775807)∧(lost.length≤maxLen∧IntsAt w A2 lost) ∧
  w.cell? (ad.add (i*5))=some (.int .u8 k)∧w.cell? (ad.add (i*5+1))=some (.int .i64 N)∧w.cell? (ad.add (i*5+2))=some (.string (txt S))∧w.cell? (ad.add (i*5+3))=some (.slice A1 n1 c1)∧w.cell? (ad.add (i*5+4))=some (.slice A2 lost.length c2)
theorem does_any (w0:World) (g gr:Nat) (K:List (Nat×Obj)) (d:St) (at_ m v u:Int) (k:Nat) (N:Int) (S:List UInt8) (A:Option Addr) (n c:Nat) (A':Option Addr) (n' c':Nat) (Lm:List (En×Bool)) (w:World) (hp:Px w0 g gr K d d w)
 (ha:at_≤9223372036854775807) (hk:k<256) (hM:Mades w.heap.size A n Lm w) (hok:∀ p∈Lm,p.1.Ok) (hn:(n:Int)≤9223372036854775807) (hN:InI N) :
 Calls Tryz.prog 22 #[ptr g,ptr gr,RG at_ m v,.int .i64 u,.agg (dec k N S A n c A' n' c')] w fun e w'=>∃ u' d',e=.returned (.tuple #[.int .i64 u',.bool true])∧Px w0 g gr K d' d' w':=by
 by_cases h2:k % 9=2
 ·exact (does_fill w0 g gr K d at_ m v u k N S A n c A' n' c' Lm w hp ha hk hM hok hn hN h2).mono fun e w' h=>⟨_,_,h⟩
 by_cases h3:k % 9=3
 ·exact (does_wipe w0 g gr K d at_ m v u k N S A n c A' n' c' Lm w hp ha hk hM hok hn hN h3).mono fun e w' h=>⟨_,_,h⟩
 by_cases h4:k % 9=4
 ·exact (does_read w0 g gr K d at_ m v u k N S A n c A' n' c' Lm w hp ha hk hM hok hn hN h4).mono fun e w' h=>⟨_,_,h⟩
 by_cases h5:k % 9=5
 ·exact (does_write w0 g gr K d at_ m v u k N S A n c A' n' c' Lm w hp ha hk hM hok hn hN h5).mono fun e w' h=>⟨_,_,h⟩
 by_cases h6:k % 9=6
 ·exact (does_arm w0 g gr K d at_ m v u k N S A n c A' n' c' Lm w hp ha hk hM hok hn hN h6).mono fun e w' h=>⟨_,_,h⟩
 by_cases h8:k % 9=8
 ·exact (does_flush w0 g gr K d at_ m v u k N S A n c A' n' c' Lm w hp ha hk hM hok hn hN h8).mono fun e w' h=>⟨_,_,h⟩
 by_cases h200:200<k
 ·exact (does_add w0 g gr K d at_ m v u k N S A n c A' n' c' Lm w hp ha hk hM hok hn hN N ⟨h2,h3,h4,h5,h6,h8⟩ (.inl ⟨h200,rfl⟩)).mono fun e w' h=>⟨_,_,h⟩
 ·exact (does_add w0 g gr K d at_ m v u k N S A n c A' n' c' Lm w hp ha hk hM hok hn hN u ⟨h2,h3,h4,h5,h6,h8⟩ (.inr ⟨h200,rfl⟩)).mono fun e w' h=>⟨_,_,h⟩
theorem paddr (a:Addr) (n:Nat):(a.add n).block=a.block:=by unfold Addr.add;split<;>rfl
theorem Mades.up {B B':Nat} {A:Option Addr} {n:Nat} {L:List (En×Bool)} {w:World} (h:Mades B A n L w) (hB:B≤B'):Mades B' A n L w :=
 ⟨h.len,fun i e he=>by
  obtain ⟨a,hA,h1,hc⟩:=h.at_ i e he
  exact ⟨a,hA,Nat.lt_of_lt_of_le h1 hB,hc⟩⟩
theorem Tryz.rg40:(Tryz.prog.info? 40).map (·.size)=some 3:=by kernel_rfl
theorem plays_any (a m v:Int) (near:Bool) (A:Option Addr) (len cap:Nat) (w:World) (z:InI a∧InI m∧InI v) (hD:DdAt w A len) (hlen:(len:Int)≤9223372036854775807) :
 Calls Tryz.prog 4 #[RG a m v,.bool near,.slice A len cap] w fun e w'=>e=.returned (.bool true)∧Below w.heap.size w w':=by
 obtain ⟨W,hW⟩:∃ W,W=w.alloc (.cells (rgc a m v) 40):=⟨_,rfl⟩
 have hB:Below w.heap.size w W:=by rw [hW];exact (Below.refl _ w).alloc (Nat.le_refl _) _
 have hc:W.heap[w.heap.size]?=some (.cells (rgc a m v) 40 (0,0)):=by rw [hW];exact heap_alloc_new w _
 have KE:=zh (examples_any W)
 have HD:=zh hD
 have HZ:=zh z
 have HB:=zh hB
 have HC:=zh hc
 have HW:=zh hW
 obtain ⟨p3,hp3⟩:∃ p,p=w.heap.size:=⟨_,rfl⟩
 have HP3:=zh hp3
 rw [←hp3] at HC
 clear hW hB hc hD z hp3
 go_enter Tryz.func4,Tryz.ntmps4
 go_upto_region 1 with fail
 rw [←HP3.out]
 refine wp_at (w:=W) HW.out.symm ?_
 go_upto_region 4 with (go_at_call 10;(with_reducible refine KE.out.mono ?_);rintro r w1 ⟨rfl,b1⟩)
 have HB1:Hid (Below w.heap.size w w1):=HB.out.trans (b1.mono HB.out.size)
 have HC1:Hid (w1.heap[p3]?=some (.cells (rgc a m v) 40 (0,0))):=(b1.block _ (zgx HC.out)).trans HC.out
 clear b1 HB HC KE HW
 go_upto_if 18 with fail
 go_cut [18] from 19 to 102 (fun s18 wx=>s18=s18∧∃ wz,wz=wx∧∃ (b1 n1 v1:Int),(InI b1∧InI n1∧InI v1)∧Below w.heap.size w wz∧wz.heap[p3]?=some (.cells (rgc b1 n1 v1) 40 (0,0)))
 case first =>
  cases near
  ·go_wp2_with fail
   go_meet
   exact ⟨trivial,_,rfl,a,m,v,HZ.out,HB1.out,HC1.out⟩
  ·obtain ⟨c0,c1,c2⟩:=rgc_cells HC1.out
   obtain ⟨W2,hW2⟩:∃ W2,W2=w1.setRow p3 (rgc (wrap64 ((IntKind.u64.wrap a).tmod 4)) (wrap64 ((IntKind.u64.wrap m).tmod 10)) (wrap64 (1+wrap64 ((IntKind.u64.wrap v).tmod 2)))):=⟨_,rfl⟩
   have HB2:Hid (Below w.heap.size w W2):=by show Below _ _ _;rw [hW2];exact HB1.out.trans ⟨rfl,rfl,rfl,by simp,fun k hk=>setRow_other _ _ _ _ (by have:=HP3.out;omega)⟩
   have HC2:Hid (W2.heap[p3]?=some (.cells (rgc (wrap64 ((IntKind.u64.wrap a).tmod 4)) (wrap64 ((IntKind.u64.wrap m).tmod 10)) (wrap64 (1+wrap64 ((IntKind.u64.wrap v).tmod 2)))) 40 (0,0))):=by show _=_;rw [hW2];exact setRow_heap _ _ _ _ 40 (0,0) HC1.out
   have HW2:=zh hW2
   clear hW2
   go_wp2_with (refine wpList_store_rg 40 Tryz.rg40 rfl _ _ rfl _ _ (wrap64 ((IntKind.u64.wrap a).tmod 4)) (wrap64 ((IntKind.u64.wrap m).tmod 10)) (wrap64 (1+wrap64 ((IntKind.u64.wrap v).tmod 2))) a m v rfl rfl HC1.out ?_;refine wpList_at HW2.out.symm ?_;go_frame)
   go_meet
   exact ⟨trivial,_,rfl,_,_,_,⟨wrap64_in _,wrap64_in _,wrap64_in _⟩,HB2.out,HC2.out⟩
 case rest =>
  obtain ⟨_,W0,hW0,b1,n1,v1,zb,hb0,hc0⟩:=hcut
  subst hW0
  clear HB1 HC1 HZ
  have KN:=zh (Dvx.new (w:=w) (W:=W0) (K:=[(p3,.cells (rgc b1 n1 v1) 40 (0,0))]) 12 (by omega) (by omega) hb0 (by
   intro p hp
   simp at hp
   subst hp
   exact ⟨hc0,by have:=HP3.out;show _≤p3;omega⟩))
  have K2:=zh (fun (g:Nat) (W:World) (hp:Dvx w g [(p3,.cells (rgc b1 n1 v1) 40 (0,0))] (St.fresh 12 fun _=>zsec) W)=>Px.new2 hp 12 (by omega) (by omega))
  obtain ⟨K0,hK0⟩:∃ K0,K0=[(p3,Obj.cells (rgc b1 n1 v1) 40 (0,0))]:=⟨_,rfl⟩
  have HGC:Hid (∀ g gr d e Z,Px w g gr K0 d e Z→Z.heap[p3]?=some (.cells (rgc b1 n1 v1) 40 (0,0))):=fun g gr d e Z h=>by
   rw [hK0] at h
   exact h.get (by simp)
  rw [←hK0] at KN K2
  have HA1:Hid (b1≤9223372036854775807):=zb.1.2
  obtain ⟨D0,hD0⟩:∃ D,D=(St.fresh 12 fun _=>zsec):=⟨_,rfl⟩
  rw [←hD0] at KN K2
  clear hK0 hc0 hb0 hD0 zb
  go_wp2_with fail
  refine KN.out.mono ?_
  rintro e w1 ⟨g,rfl,P1⟩
  have HP1:=zh P1
  clear P1 KN
  unfold ptr at *
  go_wp2_with fail
  refine (K2.out _ _ HP1.out).mono ?_
  rintro e w2 ⟨gr,rfl,P2⟩
  have HP2:=zh P2
  clear P2 HP1 K2
  unfold ptr at *
  go_upto_region 12 with fail
  go_loopw [8,10,11,12] (fun g8 g10 s11 i wr=>∃ (g gr:Nat) (d:St) (u:Int) (j:Nat),g8=.pointer (some ⟨g,0,none⟩)∧g10=.pointer (some ⟨gr,0,none⟩)∧s11=.int .i64 u∧i=.int .i64 j∧j≤len∧Hid (Px w g gr K0 d d wr)) (fun _ _ _ i _=>len-(RowKit.intOf i).toNat)
  case atStart=>exact ⟨g,gr,_,0,0,rfl,rfl,rfl,rfl,Nat.zero_le _,HP2⟩
  case round =>
   obtain ⟨g,gr,d,u,j,rfl,rfl,rfl,rfl,hj,HPr⟩:=hrel
   clear HP2
   by_cases h1:j<len
   rotate_left
   ·have t1:decide ((j:Int)<(len:Int))=false:=decide_eq_false (by omega)
    go_wp2
    go_ret
    exact ⟨rfl,HPr.out.be⟩
   by_cases h2:j<20
   rotate_left
   ·have t1:decide ((j:Int)<(len:Int))=true:=decide_eq_true (by omega)
    have t2:decide ((j:Int)<20)=false:=decide_eq_false (by omega)
    go_wp2
    go_ret
    exact ⟨rfl,HPr.out.be⟩
   have t1:decide ((j:Int)<(len:Int))=true:=decide_eq_true (by omega)
   have t2:decide ((j:Int)<20)=true:=decide_eq_true (by omega)
   have h1':(j:Int)<len:=by omega
   have hj0:(0:Int)≤j:=by omega
   obtain ⟨ad,kk,N,S,A1,ng,cg,A2,lost,cl,Lm,hAe,hadb,hkk,hN,hM,hL,d0,d1,d2,d3,d4⟩:=HD.out j h1
   subst hAe
   have hoff:∀ o,ad.add (j*5+o)=⟨(ad.add (j*5)).block,(ad.add (j*5)).off+o,none⟩∨o=0:=by
    intro o
    by_cases h0:o=0
    ·exact .inr h0
    ·left
     unfold Addr.add
     by_cases h0':j*5=0<;>simp [h0',Nat.add_assoc,h0]
   rw [(hoff 1).resolve_right (by decide)] at d1
   rw [(hoff 2).resolve_right (by decide)] at d2
   rw [(hoff 3).resolve_right (by decide)] at d3
   rw [(hoff 4).resolve_right (by decide)] at d4
   have hbl:(ad.add (j*5)).block<w.heap.size:=by rw [paddr];exact hadb
   have HCC:Hid (∀ g gr d e Z,Px w g gr K0 d e Z→(Z.cell? ⟨p3,0,none⟩=some (.int .i64 b1)∧Z.cell? ⟨p3,1,none⟩=some (.int .i64 n1)∧Z.cell? ⟨p3,2,none⟩=some (.int .i64 v1)) ∧
    Z.cell? (ad.add (j*5))=some (.int .u8 kk)∧Z.cell? ⟨(ad.add (j*5)).block,(ad.add (j*5)).off+1,none⟩=some (.int .i64 N)∧Z.cell? ⟨(ad.add (j*5)).block,(ad.add (j*5)).off+2,none⟩=some (.string (txt S)) ∧
    Z.cell? ⟨(ad.add (j*5)).block,(ad.add (j*5)).off+3,none⟩=some (.slice A1 ng cg)∧Z.cell? ⟨(ad.add (j*5)).block,(ad.add (j*5)).off+4,none⟩=some (.slice A2 lost.length cl)):=fun g gr d e Z h =>
    ⟨rgc_cells (HGC.out _ _ _ _ _ h),(h.be.cell hbl).trans d0,(h.be.cell (p:=⟨(ad.add (j*5)).block,_,none⟩) hbl).trans d1,(h.be.cell (p:=⟨(ad.add (j*5)).block,_,none⟩) hbl).trans d2,(h.be.cell (p:=⟨(ad.add (j*5)).block,_,none⟩) hbl).trans d3,(h.be.cell (p:=⟨(ad.add (j*5)).block,_,none⟩) hbl).trans d4⟩
   have KD:=zh (fun (g gr:Nat) (d:St) (Z:World) (h:Px w g gr K0 d d Z)=>does_any w g gr K0 d b1 n1 v1 u kk N S A1 ng cg A2 lost.length cl Lm Z h HA1.out hkk ((hM.1.below h.be).up h.be.size) hM.2.1 hM.2.2 hN)
   have KL1:=zh (fun (g gr:Nat) (d e:St) (Z:World) (h:Px w g gr K0 d e Z)=>h.a1 fun L hD=>after_any g L d A2 lost cl Z hD (hL.2.below h.be) hL.1)
   have KL2:=zh (fun (g gr:Nat) (d e:St) (Z:World) (h:Px w g gr K0 d e Z)=>h.a2 fun L hR=>rafter_any w.heap.size gr L e A2 lost cl Z hR (hL.2.below h.be) hL.1)
   have KJ:=zh (fun (g gr:Nat) (d:St) (Z:World) (h:Px w g gr K0 d d Z)=>h.q1 fun L hD=>image_any g L d Z hD)
   have KK:=zh (fun (g gr:Nat) (d:St) (Z:World) (h:Px w g gr K0 d d Z)=>h.q2 fun L hR=>(rimage_any w.heap.size gr L d Z hR).mono fun _ w' ⟨h1,h2⟩=>(⟨h1,by rw [←h2];exact Below.refl _ _⟩:_∧Below Z.heap.size Z w'))
   obtain ⟨⟨c0,c1,c2⟩,e0,e1,e2,e3,e4⟩:=HCC.out _ _ _ _ _ HPr.out
   clear hoff d0 d1 d2 d3 d4 hM hL hN hadb hbl
   by_cases h7:kk % 9=7
   ·have q7:(kk:Int) % 9=7:=by omega
    clear h7
    unfold ptr at *
    go_upto_region 16 with (go_at_call 20;(with_reducible refine (KL1.out _ _ _ _ _ HPr.out).mono ?_);rintro e y5 ⟨g2,rfl,Q5⟩)
    have HQ5:=zh Q5
    clear c0 c1 c2 e0 e1 e2 e3 e4
    obtain ⟨⟨c0,c1,c2⟩,e0,e1,e2,e3,e4⟩:=HCC.out _ _ _ _ _ Q5
    clear Q5
    unfold ptr at *
    go_upto_region 17 with (go_at_call 21;(with_reducible refine (KL2.out _ _ _ _ _ HQ5.out).mono ?_);rintro e y6 ⟨gr2,rfl,Q6⟩)
    have HQ6:=zh Q6
    clear c0 c1 c2 e0 e1 e2 e3 e4
    obtain ⟨⟨c0,c1,c2⟩,e0,e1,e2,e3,e4⟩:=HCC.out _ _ _ _ _ Q6
    clear Q6 HQ5 HPr
    unfold ptr at *
    clear KD KJ KK HCC KL1 KL2
    go_wp2
    go_roundw
    case rel=>exact ⟨_,_,_,u,j+1,rfl,rfl,rfl,by go_num,by omega,HQ6⟩
    case measure=>simp [RowKit.intOf];omega
   ·have q7:((kk:Int) % 9==7)=false:=beqF (by omega)
    clear h7
    unfold ptr at *
    go_upto_region 19 with fail
    have PF:=HPr.out.drew
    obtain ⟨⟨a0,a1,a2⟩,f0,f1,f2,f3,f4⟩:=HCC.out _ _ _ _ _ PF
    clear c0 c1 c2 e0 e1 e2 e3 e4
    go_region_held3 (fun Z=>(Z.cell? ⟨p3,0,none⟩=some (.int .i64 b1)∧Z.cell? ⟨p3,1,none⟩=some (.int .i64 n1)∧Z.cell? ⟨p3,2,none⟩=some (.int .i64 v1))∧Z.cell? (ad.add (j*5))=some (.int .u8 kk)∧Z.cell? ⟨(ad.add (j*5)).block,(ad.add (j*5)).off+1,none⟩=some (.int .i64 N)∧Z.cell? ⟨(ad.add (j*5)).block,(ad.add (j*5)).off+2,none⟩=some (.string (txt S))∧Z.cell? ⟨(ad.add (j*5)).block,(ad.add (j*5)).off+3,none⟩=some (.slice A1 ng cg)∧Z.cell? ⟨(ad.add (j*5)).block,(ad.add (j*5)).off+4,none⟩=some (.slice A2 lost.length cl)) (first|exact ⟨⟨a0,a1,a2⟩,f0,f1,f2,f3,f4⟩|exact HCC.out _ _ _ _ _ (by assumption)) (first
     | (go_at_call 22;(with_reducible refine (KD.out _ _ _ _ PF).mono ?_);rintro e y1 ⟨u1,dd,rfl,Q1⟩))
    all_goals
     have HQ1:=zh Q1
     have KJ1:=zh (KJ.out _ _ _ _ Q1)
     clear a0 a1 a2 f0 f1 f2 f3 f4 PF Q1 KD KJ HCC KL1 KL2
     have hki:=KK.out
     obtain ⟨im,him⟩:∃ im,im=txt dd.image:=⟨_,rfl⟩
     rw [←him] at KJ1
     have HIM:=zh him
     have qim:(im.toList==im.toList)=true:=beq_self_eq_true _
     clear him hki
     go_wp2_with (first
      | (go_at_call 23;(with_reducible refine KJ1.out.mono ?_);rintro e y2 ⟨rfl,Q2,_⟩;have KK1:=zh (KK.out _ _ _ _ Q2);rw [←HIM.out] at KK1)
      | (go_at_call 24;(with_reducible refine KK1.out.mono ?_);rintro e y3 ⟨rfl,Q3,_⟩))
     have HQ3:=zh Q3
     clear Q2 Q3 KK1 KJ1 KK
     go_roundw
     case rel=>exact ⟨_,_,dd,u1,j+1,rfl,rfl,rfl,by go_num,by omega,HQ3⟩
     case measure=>simp [RowKit.intOf];omega
end Go.Proofs.YtnobeoppffoomaaGreat
