/-
  WalPlays: SPf2.
  Conditions: named in each theorem.
-/
import Derived.Test.YtnobeoppffoomaaGreatP23
import Derived.Test.YtnobeoppffoomaaGreatP05
import Derived.Deep.RegionHeld3
import Derived.Deep.CutRange
import Derived.Test.YtnobeoppffoomaaGreatP0
set_option linter.unusedVariables false
set_option linter.unusedSimpArgs false
set_option maxHeartbeats 8000000
set_option maxRecDepth 100000
namespace Go.Proofs.YtnobeoppffoomaaGreat
open Go.RowKit
open Vi
theorem putB_le (n:Nat) (h:n<18446744073709551616):(putB n).size≤10:=putB_size n h
theorem nb_le (v:Int) (h:v≤18446744073709551615):(nb v).size≤10:=by
 unfold nb
 split
 ·exact Nat.zero_le _
 ·exact putB_le _ (by omega)
theorem tb_le (d:ByteArray) (h:d.size≤64):(tb d).size≤74:=by
 unfold tb
 split
 ·exact Nat.zero_le _
 ·rw [ByteArray.size_append]
  have:=putB_le d.size (by omega)
  omega
theorem fP_le {X:En} (ok:X.Ok) (fw:Few_b X) (t:Nat):(fP t X).size≤74:=by
 obtain ⟨a1,a2,a3,a4,a5,a6,a7,a8,a9,a10,a11⟩:=e_bounds ok fw
 have nn:∀ v:Int,v≤18446744073709551615→(nb v).size≤74:=fun v h=>Nat.le_trans (nb_le v h) (by omega)
 unfold fP
 split
 ·exact nn _ (by omega)
 ·exact nn _ a2.2
 ·exact nn _ a3.2
 ·exact nn _ a4.2
 ·exact nn _ a5.2
 ·exact nn _ a6.2
 ·exact nn _ a7.2
 ·exact nn _ (by omega)
 ·exact nn _ (by omega)
 ·exact tb_le _ a10
 ·exact tb_le _ a11
 ·exact Nat.zero_le _
theorem fdB_le {X:En} (ok:X.Ok) (fw:Few_b X) (t:Nat) (ht:t<12):(fdB eF X t).size≤84:=by
 unfold fdB
 split
 ·exact Nat.zero_le _
 ·rw [ByteArray.size_append]
  have:=putB_le t (by omega)
  have h:(fP t X).size≤74:=fP_le ok fw t
  have h2:(eF.P t X).size≤74:=h
  omega
theorem secU_le {X:En} (ok:X.Ok) (fw:Few_b X):∀ k,k≤11→(secU eF X k).size≤84*k
 | 0,_=>Nat.zero_le _
 | k+1,h=>by
   have ih:=secU_le ok fw k (by omega)
   have h1:=fdB_le ok fw (k+1) (by omega)
   show (secU eF X k++fdB eF X (k+1)).size≤_
   rw [ByteArray.size_append]
   omega
theorem secU_no {X:En} (k:Nat) (h:(fP (k+1) X).size=0):secU eF X (k+1)=secU eF X k:=by
 show secU eF X k++fdB eF X (k+1)=_
 have h2:(eF.P (k+1) X).size=0:=h
 unfold fdB
 rw [if_pos h2]
 apply ByteArray.ext
 simp
theorem secU_yes {X:En} (k:Nat) (h:(fP (k+1) X).size≠0):secU eF X (k+1)=secU eF X k++putB (k+1)++fP (k+1) X:=by
 show secU eF X k++fdB eF X (k+1)=_
 have h2:¬ (eF.P (k+1) X).size=0:=h
 unfold fdB
 rw [if_neg h2,append_assoc3]
structure Ps (w0:World) (fb:Nat) (X:En) (x:ByteArray) (w:World):Prop where
 t:Wt_b (w0.heap.size+1) (w0.heap.size+1) x w
 be:Below w0.heap.size w0 w
 box:w.heap[w0.heap.size]?=some (.cells (ec X) 28 (0,0))
 fl:Flds fb w
section
variable {w0 w w1:World} {fb:Nat} {X:En} {x y:ByteArray}
theorem Wt_b.blk {B b:Nat} {x:ByteArray} {w:World} (h:Wt_b B b x w):∃ cs,w.heap[b]?=some (.cells cs 81 (0,0)):=by
 rcases h with ⟨_,v,hbk,_⟩|⟨_,v,hbk,_⟩<;>exact ⟨_,hbk⟩
theorem Ps.sz (h:Ps w0 fb X x w):w0.heap.size+1<w.heap.size:=by
 obtain ⟨cs,hb⟩:=h.t.blk
 exact (zgx hb)
theorem Ps.call (h:Ps w0 fb X x w) (hb:Below w.heap.size w w1):Ps w0 fb X x w1:=by
 have hs:=h.sz
 exact ⟨h.t.below hb,h.be.trans (hb.mono (by omega)),(hb.block _ (by omega)).trans h.box,h.fl.on (Stab.below hb)⟩
theorem Ps.write (h:Ps w0 fb X x w) (ht:Wt_b (w0.heap.size+1) (w0.heap.size+1) y w1) (hb:Below (w0.heap.size+1) w w1) (ho:Lib.OthersKept 5 (some (w0.heap.size+1)) w w1):Ps w0 fb X y w1:=by
 obtain ⟨cs,hc⟩:=h.t.blk
 exact ⟨ht,h.be.trans (hb.mono (by omega)),(hb.block _ (by omega)).trans h.box,h.fl.on (Stab.others ho hc (.inr (.inr rfl)))⟩
theorem Ps.cell (h:Ps w0 fb X x w) (i:Nat):w.cell? ⟨w0.heap.size,i,none⟩=(ec X)[i]?:=zcr w _ i _ 28 (0,0) h.box
end
theorem ps_write (w0:World) (fb:Nat) (X:En) (x s:ByteArray) (w:World) (h:Ps w0 fb X x w) (hl:x.size+s.size≤140737488355328) :
 Calls Tryz.prog 37 #[.pointer (some ⟨w0.heap.size+1,0,none⟩),.string s] w fun e w'=>e=.returned (.tuple #[.int .i64 s.size,.nilIface])∧Ps w0 fb X (x++s) w':=by
 have hs:=h.sz
 exact (wwrite_b _ _ x s w h.t hl (by omega)).mono fun e w' ⟨h1,h2,h3,h4⟩=>⟨h1,h.write h2 h3 h4⟩
theorem ps_tag (w0:World) (fb:Nat) (X:En) (x:ByteArray) (t:Nat) (w:World) (h:Ps w0 fb X x w) (hl:x.size≤10000) (ht:t<12) :
 Calls Tryz.prog 134 #[.int .i64 t,.pointer (some ⟨w0.heap.size+1,0,none⟩)] w fun e w'=>e=.returned (.tuple #[])∧Ps w0 fb X (x++putB t) w':=by
 have hw:IntKind.u64.wrap (t:Int)=(t:Int):=IntWalk.u64_in _ (by omega)
 have K1:=zh (put_any t w (by omega))
 have hps:=putB_le t (by omega)
 have K2:Hid (∀ W,Below w.heap.size w W→Calls Tryz.prog 37 #[.pointer (some ⟨w0.heap.size+1,0,none⟩),.string (putB t)] W fun e w'=>e=.returned (.tuple #[.int .i64 (putB t).size,.nilIface])∧Ps w0 fb X (x++putB t) w'):=fun W hb=>ps_write w0 fb X x (putB t) W (h.call hb) (by omega)
 clear h hl ht hps
 go_enter Tryz.func134,Tryz.ntmps134
 go_wp2_with fail
 refine K1.out.mono ?_
 rintro e w1 ⟨rfl,hb⟩
 go_wp2_with fail
 refine (K2.out _ hb).mono ?_
 rintro e w2 ⟨rfl,hP⟩
 go_wp2
 go_end0
 exact ⟨rfl,hP⟩
theorem putFields_any (fb:Nat) (X:En) (w:World) (ok:X.Ok) (fw:Few_b X) (hF:Flds fb w) :
 Calls Tryz.prog 107 #[.slice (some ⟨fb,0,none⟩) 12 12,ev X] w fun e w'=>e=.returned (.string (sbE X))∧Below w.heap.size w w':=by
 have hmf:∀ (fn:Fn) (first cap:Array Value) (w:World),(Instr.makeFunc fn first cap).run Tryz.prog w=.ok (.func fn first cap) w:=fun _ _ _ _=>rfl
 obtain ⟨W0,hW0⟩:∃ W0,W0=(w.alloc (Obj.cells (ec X) 28)).alloc (Obj.cells #[.pointer none,.slice none 0 0] 81):=⟨_,rfl⟩
 have P0:Ps w fb X (secU eF X 0) W0:=by
  have hb:Below w.heap.size w W0:=by rw [hW0];exact ((Below.refl _ _).alloc (Nat.le_refl _) _).alloc (by simp) _
  have k0:W0.heap[w.heap.size]?=some (.cells (ec X) 28 (0,0)):=by
   rw [hW0];exact (Lib.alloc_old _ _ _ (by simp)).trans (heap_alloc_new w _)
  have k1:W0.heap[w.heap.size+1]?=some (.cells #[.pointer none,.slice none 0 0] 81 (0,0)):=by
   have h:=heap_alloc_new (w.alloc (Obj.cells (ec X) 28)) (Obj.cells #[.pointer none,.slice none 0 0] 81)
   rw [show (w.alloc (Obj.cells (ec X) 28)).heap.size=w.heap.size+1 by simp] at h
   rw [hW0];exact h
  refine ⟨.inl ⟨Nat.le_refl _,_,k1,World.ownsRow_nil _ _ _ _,by simp [Value.ownBlock]⟩,hb,k0,hF.on (Stab.below hb)⟩
 have HW:=zh hW0
 have HP0:=zh P0
 have HOK:=zh ok
 have HFW:=zh fw
 obtain ⟨b1,b2,b3,b4,b5,b6,b7,b8,b9,b10,b11⟩:=e_bounds ok fw
 clear hW0 P0 ok fw hF
 go_enter Tryz.func107,Tryz.ntmps107
 go_wp2_with fail
 rw [←HW.out]
 clear HW hmf
 go_loopw [7] (fun i wr=>∃ k:Nat,k≤11∧i=.int .i64 ((k+1:Nat):Int)∧Ps w fb X (secU eF X k) wr) (fun i _=>12-(Go.RowKit.intOf i).toNat)
 case atStart=>exact ⟨0,Nat.zero_le _,rfl,HP0.out⟩
 case round =>
  obtain ⟨k,hk,rfl,hr⟩:=hrel
  clear HP0
  have hsz:=secU_le HOK.out HFW.out k hk
  by_cases hlt:k<11
  ·have h11:k=0∨k=1∨k=2∨k=3∨k=4∨k=5∨k=6∨k=7∨k=8∨k=9∨k=10:=by omega
   obtain ⟨v,hblk,g1,g2,g3,g4,g5,g6,g7,g8,g9,g10,g11⟩:=hr.fl
   rcases h11 with rfl|rfl|rfl|rfl|rfl|rfl|rfl|rfl|rfl|rfl|rfl
   ·clear g2 g3 g4 g5 g6 g7 g8 g9 g10 g11 b2 b3 b4 b5 b6 b7 b8 b9 b10 b11
    obtain ⟨a,n,p,r,_,hv1,hv2,ha0,hn0,hp0,hr0⟩:=g1
    have hf:wr.cell? ⟨fb,2,none⟩=some (.func (.func 195) #[] #[.pointer (some ⟨a,0,none⟩),.pointer (some ⟨n,0,none⟩),.pointer (some ⟨p,0,none⟩)]):=by
     rw [←hv1];exact zcr wr fb 2 _ 189 (0,0) hblk
    have hc:wr.cell? ⟨w.heap.size,2,none⟩=some (.int .i64 X.kind):=hr.cell 2
    have ha:wr.cell? ⟨a,0,none⟩=some (.func (.func 137) #[] #[]):=zcr wr a 0 _ _ (0,0) ha0
    have hn:wr.cell? ⟨n,0,none⟩=some (.func (.func 173) #[] #[]):=zcr wr n 0 _ _ (0,0) hn0
    have hp:wr.cell? ⟨p,0,none⟩=some (.func (.func 174) #[] #[]):=zcr wr p 0 _ _ (0,0) hp0
    obtain ⟨m,hm⟩:=Int.eq_ofNat_of_zero_le b1.1
    rw [hm] at hc
    have hK:=put1_any w.heap.size a n p m wr hc ha hn hp (by omega)
    rw [←hm] at hK
    have hK2:Calls Tryz.prog 195 #[.pointer (some ⟨w.heap.size,0,none⟩),.pointer (some ⟨a,0,none⟩),.pointer (some ⟨n,0,none⟩),.pointer (some ⟨p,0,none⟩)] wr fun e w'=>e=.returned (.string (fP 1 X))∧Below wr.heap.size wr w':=hK
    have hle:=fP_le HOK.out HFW.out 1
    have HR:=zh hr
    have hst0:=secU_no (X:=X) 0
    have hst1:=secU_yes (X:=X) 0
    obtain ⟨P,hP⟩:∃ P,P=fP 1 X:=⟨_,rfl⟩
    rw [show 0+1=1 from rfl,←hP] at hst0 hst1
    rw [←hP] at hK2 hle
    have HK:=zh hK2
    have HS0:=zh hst0
    have HS1:=zh hst1
    obtain ⟨x,hx⟩:∃ x,x=secU eF X 0:=⟨_,rfl⟩
    rw [←hx] at HR hsz HS0 HS1
    clear hP hst0 hst1 hx hK hK2 hv1 hv2 ha0 hn0 hp0 hr0 hblk hr ha hn hp hc hm b1
    by_cases hz:P.size=0
    ·have hPe:=(size0 P).1 hz
     have HE:=zh (HS0.out hz)
     clear hz HS0 HS1 hle
     subst hPe
     go_wp2_with fail
     refine HK.out.mono ?_
     rintro e w1 ⟨rfl,hb⟩
     go_wp2
     go_roundw
     case rel=>exact ⟨1,by omega,by go_num,by rw [HE.out];exact HR.out.call hb⟩
     case measure=>simp [Go.RowKit.intOf]
    ·have HE:=zh (HS1.out hz)
     have h2:¬ P=ByteArray.empty:=fun e=>hz (by rw [e];rfl)
     have h3:¬ P.toList=[]:=by
      rw [Lib.toList_data]
      intro e
      have:=congrArg List.length e
      exact hz (by simpa using this)
     have h6:(!P.toList.isEmpty)=true:=by
      cases hq:P.toList with
      | nil=>exact absurd hq h3
      | cons a l=>rfl
     have K2:=zh (fun (W:World) (h:Ps w fb X x W)=>ps_tag w fb X x 1 W h (by omega) (by omega))
     have hpl:=putB_le 1 (by omega)
     have K3:=zh (fun (W:World) (h:Ps w fb X (x++putB 1) W)=>ps_write w fb X (x++putB 1) P W h (by rw [ByteArray.size_append];omega))
     clear hz HS0 HS1 hle hsz hpl
     go_wp2_with fail
     refine HK.out.mono ?_
     rintro e w1 ⟨rfl,hb⟩
     go_wp2_with fail
     refine (K2.out _ (HR.out.call hb)).mono ?_
     rintro e w2 ⟨rfl,h4⟩
     go_wp2_with fail
     refine (K3.out _ h4).mono ?_
     rintro e w3 ⟨rfl,h5⟩
     go_wp2
     go_roundw
     case rel=>exact ⟨1,by omega,by go_num,by rw [HE.out];exact h5⟩
     case measure=>simp [Go.RowKit.intOf]
   ·clear g1 g3 g4 g5 g6 g7 g8 g9 g10 g11 b1 b3 b4 b5 b6 b7 b8 b9 b10 b11
    obtain ⟨a,n,p,r,_,hv1,hv2,ha0,hn0,hp0,hr0⟩:=g2
    have hf:wr.cell? ⟨fb,4,none⟩=some (.func (.func 198) #[] #[.pointer (some ⟨a,0,none⟩),.pointer (some ⟨n,0,none⟩),.pointer (some ⟨p,0,none⟩)]):=by
     rw [←hv1];exact zcr wr fb 4 _ 189 (0,0) hblk
    have hc:wr.cell? ⟨w.heap.size,0,none⟩=some (.int .u64 X.term):=hr.cell 0
    have ha:wr.cell? ⟨a,0,none⟩=some (.func (.func 139) #[] #[]):=zcr wr a 0 _ _ (0,0) ha0
    have hn:wr.cell? ⟨n,0,none⟩=some (.func (.func 177) #[] #[]):=zcr wr n 0 _ _ (0,0) hn0
    have hp:wr.cell? ⟨p,0,none⟩=some (.func (.func 178) #[] #[]):=zcr wr p 0 _ _ (0,0) hp0
    obtain ⟨m,hm⟩:=Int.eq_ofNat_of_zero_le b2.1
    rw [hm] at hc
    have hK:=put2_any w.heap.size a n p m wr hc ha hn hp (by omega)
    rw [←hm] at hK
    have hK2:Calls Tryz.prog 198 #[.pointer (some ⟨w.heap.size,0,none⟩),.pointer (some ⟨a,0,none⟩),.pointer (some ⟨n,0,none⟩),.pointer (some ⟨p,0,none⟩)] wr fun e w'=>e=.returned (.string (fP 2 X))∧Below wr.heap.size wr w':=hK
    have hle:=fP_le HOK.out HFW.out 2
    have HR:=zh hr
    have hst0:=secU_no (X:=X) 1
    have hst1:=secU_yes (X:=X) 1
    obtain ⟨P,hP⟩:∃ P,P=fP 2 X:=⟨_,rfl⟩
    rw [show 1+1=2 from rfl,←hP] at hst0 hst1
    rw [←hP] at hK2 hle
    have HK:=zh hK2
    have HS0:=zh hst0
    have HS1:=zh hst1
    obtain ⟨x,hx⟩:∃ x,x=secU eF X 1:=⟨_,rfl⟩
    rw [←hx] at HR hsz HS0 HS1
    clear hP hst0 hst1 hx hK hK2 hv1 hv2 ha0 hn0 hp0 hr0 hblk hr ha hn hp hc hm b2
    by_cases hz:P.size=0
    ·have hPe:=(size0 P).1 hz
     have HE:=zh (HS0.out hz)
     clear hz HS0 HS1 hle
     subst hPe
     go_wp2_with fail
     refine HK.out.mono ?_
     rintro e w1 ⟨rfl,hb⟩
     go_wp2
     go_roundw
     case rel=>exact ⟨2,by omega,by go_num,by rw [HE.out];exact HR.out.call hb⟩
     case measure=>simp [Go.RowKit.intOf]
    ·have HE:=zh (HS1.out hz)
     have h2:¬ P=ByteArray.empty:=fun e=>hz (by rw [e];rfl)
     have h3:¬ P.toList=[]:=by
      rw [Lib.toList_data]
      intro e
      have:=congrArg List.length e
      exact hz (by simpa using this)
     have h6:(!P.toList.isEmpty)=true:=by
      cases hq:P.toList with
      | nil=>exact absurd hq h3
      | cons a l=>rfl
     have K2:=zh (fun (W:World) (h:Ps w fb X x W)=>ps_tag w fb X x 2 W h (by omega) (by omega))
     have hpl:=putB_le 2 (by omega)
     have K3:=zh (fun (W:World) (h:Ps w fb X (x++putB 2) W)=>ps_write w fb X (x++putB 2) P W h (by rw [ByteArray.size_append];omega))
     clear hz HS0 HS1 hle hsz hpl
     go_wp2_with fail
     refine HK.out.mono ?_
     rintro e w1 ⟨rfl,hb⟩
     go_wp2_with fail
     refine (K2.out _ (HR.out.call hb)).mono ?_
     rintro e w2 ⟨rfl,h4⟩
     go_wp2_with fail
     refine (K3.out _ h4).mono ?_
     rintro e w3 ⟨rfl,h5⟩
     go_wp2
     go_roundw
     case rel=>exact ⟨2,by omega,by go_num,by rw [HE.out];exact h5⟩
     case measure=>simp [Go.RowKit.intOf]
   ·clear g1 g2 g4 g5 g6 g7 g8 g9 g10 g11 b1 b2 b4 b5 b6 b7 b8 b9 b10 b11
    obtain ⟨a,n,p,r,_,hv1,hv2,ha0,hn0,hp0,hr0⟩:=g3
    have hf:wr.cell? ⟨fb,6,none⟩=some (.func (.func 198) #[] #[.pointer (some ⟨a,0,none⟩),.pointer (some ⟨n,0,none⟩),.pointer (some ⟨p,0,none⟩)]):=by
     rw [←hv1];exact zcr wr fb 6 _ 189 (0,0) hblk
    have hc:wr.cell? ⟨w.heap.size,1,none⟩=some (.int .u64 X.index):=hr.cell 1
    have ha:wr.cell? ⟨a,0,none⟩=some (.func (.func 140) #[] #[]):=zcr wr a 0 _ _ (0,0) ha0
    have hn:wr.cell? ⟨n,0,none⟩=some (.func (.func 177) #[] #[]):=zcr wr n 0 _ _ (0,0) hn0
    have hp:wr.cell? ⟨p,0,none⟩=some (.func (.func 178) #[] #[]):=zcr wr p 0 _ _ (0,0) hp0
    obtain ⟨m,hm⟩:=Int.eq_ofNat_of_zero_le b3.1
    rw [hm] at hc
    have hK:=put3_any w.heap.size a n p m wr hc ha hn hp (by omega)
    rw [←hm] at hK
    have hK2:Calls Tryz.prog 198 #[.pointer (some ⟨w.heap.size,0,none⟩),.pointer (some ⟨a,0,none⟩),.pointer (some ⟨n,0,none⟩),.pointer (some ⟨p,0,none⟩)] wr fun e w'=>e=.returned (.string (fP 3 X))∧Below wr.heap.size wr w':=hK
    have hle:=fP_le HOK.out HFW.out 3
    have HR:=zh hr
    have hst0:=secU_no (X:=X) 2
    have hst1:=secU_yes (X:=X) 2
    obtain ⟨P,hP⟩:∃ P,P=fP 3 X:=⟨_,rfl⟩
    rw [show 2+1=3 from rfl,←hP] at hst0 hst1
    rw [←hP] at hK2 hle
    have HK:=zh hK2
    have HS0:=zh hst0
    have HS1:=zh hst1
    obtain ⟨x,hx⟩:∃ x,x=secU eF X 2:=⟨_,rfl⟩
    rw [←hx] at HR hsz HS0 HS1
    clear hP hst0 hst1 hx hK hK2 hv1 hv2 ha0 hn0 hp0 hr0 hblk hr ha hn hp hc hm b3
    by_cases hz:P.size=0
    ·have hPe:=(size0 P).1 hz
     have HE:=zh (HS0.out hz)
     clear hz HS0 HS1 hle
     subst hPe
     go_wp2_with fail
     refine HK.out.mono ?_
     rintro e w1 ⟨rfl,hb⟩
     go_wp2
     go_roundw
     case rel=>exact ⟨3,by omega,by go_num,by rw [HE.out];exact HR.out.call hb⟩
     case measure=>simp [Go.RowKit.intOf]
    ·have HE:=zh (HS1.out hz)
     have h2:¬ P=ByteArray.empty:=fun e=>hz (by rw [e];rfl)
     have h3:¬ P.toList=[]:=by
      rw [Lib.toList_data]
      intro e
      have:=congrArg List.length e
      exact hz (by simpa using this)
     have h6:(!P.toList.isEmpty)=true:=by
      cases hq:P.toList with
      | nil=>exact absurd hq h3
      | cons a l=>rfl
     have K2:=zh (fun (W:World) (h:Ps w fb X x W)=>ps_tag w fb X x 3 W h (by omega) (by omega))
     have hpl:=putB_le 3 (by omega)
     have K3:=zh (fun (W:World) (h:Ps w fb X (x++putB 3) W)=>ps_write w fb X (x++putB 3) P W h (by rw [ByteArray.size_append];omega))
     clear hz HS0 HS1 hle hsz hpl
     go_wp2_with fail
     refine HK.out.mono ?_
     rintro e w1 ⟨rfl,hb⟩
     go_wp2_with fail
     refine (K2.out _ (HR.out.call hb)).mono ?_
     rintro e w2 ⟨rfl,h4⟩
     go_wp2_with fail
     refine (K3.out _ h4).mono ?_
     rintro e w3 ⟨rfl,h5⟩
     go_wp2
     go_roundw
     case rel=>exact ⟨3,by omega,by go_num,by rw [HE.out];exact h5⟩
     case measure=>simp [Go.RowKit.intOf]
   ·clear g1 g2 g3 g5 g6 g7 g8 g9 g10 g11 b1 b2 b3 b5 b6 b7 b8 b9 b10 b11
    obtain ⟨a,n,p,r,_,hv1,hv2,ha0,hn0,hp0,hr0⟩:=g4
    have hf:wr.cell? ⟨fb,8,none⟩=some (.func (.func 198) #[] #[.pointer (some ⟨a,0,none⟩),.pointer (some ⟨n,0,none⟩),.pointer (some ⟨p,0,none⟩)]):=by
     rw [←hv1];exact zcr wr fb 8 _ 189 (0,0) hblk
    have hc:wr.cell? ⟨w.heap.size,3,none⟩=some (.int .u64 X.client):=hr.cell 3
    have ha:wr.cell? ⟨a,0,none⟩=some (.func (.func 141) #[] #[]):=zcr wr a 0 _ _ (0,0) ha0
    have hn:wr.cell? ⟨n,0,none⟩=some (.func (.func 177) #[] #[]):=zcr wr n 0 _ _ (0,0) hn0
    have hp:wr.cell? ⟨p,0,none⟩=some (.func (.func 178) #[] #[]):=zcr wr p 0 _ _ (0,0) hp0
    obtain ⟨m,hm⟩:=Int.eq_ofNat_of_zero_le b4.1
    rw [hm] at hc
    have hK:=put4_any w.heap.size a n p m wr hc ha hn hp (by omega)
    rw [←hm] at hK
    have hK2:Calls Tryz.prog 198 #[.pointer (some ⟨w.heap.size,0,none⟩),.pointer (some ⟨a,0,none⟩),.pointer (some ⟨n,0,none⟩),.pointer (some ⟨p,0,none⟩)] wr fun e w'=>e=.returned (.string (fP 4 X))∧Below wr.heap.size wr w':=hK
    have hle:=fP_le HOK.out HFW.out 4
    have HR:=zh hr
    have hst0:=secU_no (X:=X) 3
    have hst1:=secU_yes (X:=X) 3
    obtain ⟨P,hP⟩:∃ P,P=fP 4 X:=⟨_,rfl⟩
    rw [show 3+1=4 from rfl,←hP] at hst0 hst1
    rw [←hP] at hK2 hle
    have HK:=zh hK2
    have HS0:=zh hst0
    have HS1:=zh hst1
    obtain ⟨x,hx⟩:∃ x,x=secU eF X 3:=⟨_,rfl⟩
    rw [←hx] at HR hsz HS0 HS1
    clear hP hst0 hst1 hx hK hK2 hv1 hv2 ha0 hn0 hp0 hr0 hblk hr ha hn hp hc hm b4
    by_cases hz:P.size=0
    ·have hPe:=(size0 P).1 hz
     have HE:=zh (HS0.out hz)
     clear hz HS0 HS1 hle
     subst hPe
     go_wp2_with fail
     refine HK.out.mono ?_
     rintro e w1 ⟨rfl,hb⟩
     go_wp2
     go_roundw
     case rel=>exact ⟨4,by omega,by go_num,by rw [HE.out];exact HR.out.call hb⟩
     case measure=>simp [Go.RowKit.intOf]
    ·have HE:=zh (HS1.out hz)
     have h2:¬ P=ByteArray.empty:=fun e=>hz (by rw [e];rfl)
     have h3:¬ P.toList=[]:=by
      rw [Lib.toList_data]
      intro e
      have:=congrArg List.length e
      exact hz (by simpa using this)
     have h6:(!P.toList.isEmpty)=true:=by
      cases hq:P.toList with
      | nil=>exact absurd hq h3
      | cons a l=>rfl
     have K2:=zh (fun (W:World) (h:Ps w fb X x W)=>ps_tag w fb X x 4 W h (by omega) (by omega))
     have hpl:=putB_le 4 (by omega)
     have K3:=zh (fun (W:World) (h:Ps w fb X (x++putB 4) W)=>ps_write w fb X (x++putB 4) P W h (by rw [ByteArray.size_append];omega))
     clear hz HS0 HS1 hle hsz hpl
     go_wp2_with fail
     refine HK.out.mono ?_
     rintro e w1 ⟨rfl,hb⟩
     go_wp2_with fail
     refine (K2.out _ (HR.out.call hb)).mono ?_
     rintro e w2 ⟨rfl,h4⟩
     go_wp2_with fail
     refine (K3.out _ h4).mono ?_
     rintro e w3 ⟨rfl,h5⟩
     go_wp2
     go_roundw
     case rel=>exact ⟨4,by omega,by go_num,by rw [HE.out];exact h5⟩
     case measure=>simp [Go.RowKit.intOf]
   ·clear g1 g2 g3 g4 g6 g7 g8 g9 g10 g11 b1 b2 b3 b4 b6 b7 b8 b9 b10 b11
    obtain ⟨a,n,p,r,_,hv1,hv2,ha0,hn0,hp0,hr0⟩:=g5
    have hf:wr.cell? ⟨fb,10,none⟩=some (.func (.func 198) #[] #[.pointer (some ⟨a,0,none⟩),.pointer (some ⟨n,0,none⟩),.pointer (some ⟨p,0,none⟩)]):=by
     rw [←hv1];exact zcr wr fb 10 _ 189 (0,0) hblk
    have hc:wr.cell? ⟨w.heap.size,4,none⟩=some (.int .u64 X.seq):=hr.cell 4
    have ha:wr.cell? ⟨a,0,none⟩=some (.func (.func 142) #[] #[]):=zcr wr a 0 _ _ (0,0) ha0
    have hn:wr.cell? ⟨n,0,none⟩=some (.func (.func 177) #[] #[]):=zcr wr n 0 _ _ (0,0) hn0
    have hp:wr.cell? ⟨p,0,none⟩=some (.func (.func 178) #[] #[]):=zcr wr p 0 _ _ (0,0) hp0
    obtain ⟨m,hm⟩:=Int.eq_ofNat_of_zero_le b5.1
    rw [hm] at hc
    have hK:=put5_any w.heap.size a n p m wr hc ha hn hp (by omega)
    rw [←hm] at hK
    have hK2:Calls Tryz.prog 198 #[.pointer (some ⟨w.heap.size,0,none⟩),.pointer (some ⟨a,0,none⟩),.pointer (some ⟨n,0,none⟩),.pointer (some ⟨p,0,none⟩)] wr fun e w'=>e=.returned (.string (fP 5 X))∧Below wr.heap.size wr w':=hK
    have hle:=fP_le HOK.out HFW.out 5
    have HR:=zh hr
    have hst0:=secU_no (X:=X) 4
    have hst1:=secU_yes (X:=X) 4
    obtain ⟨P,hP⟩:∃ P,P=fP 5 X:=⟨_,rfl⟩
    rw [show 4+1=5 from rfl,←hP] at hst0 hst1
    rw [←hP] at hK2 hle
    have HK:=zh hK2
    have HS0:=zh hst0
    have HS1:=zh hst1
    obtain ⟨x,hx⟩:∃ x,x=secU eF X 4:=⟨_,rfl⟩
    rw [←hx] at HR hsz HS0 HS1
    clear hP hst0 hst1 hx hK hK2 hv1 hv2 ha0 hn0 hp0 hr0 hblk hr ha hn hp hc hm b5
    by_cases hz:P.size=0
    ·have hPe:=(size0 P).1 hz
     have HE:=zh (HS0.out hz)
     clear hz HS0 HS1 hle
     subst hPe
     go_wp2_with fail
     refine HK.out.mono ?_
     rintro e w1 ⟨rfl,hb⟩
     go_wp2
     go_roundw
     case rel=>exact ⟨5,by omega,by go_num,by rw [HE.out];exact HR.out.call hb⟩
     case measure=>simp [Go.RowKit.intOf]
    ·have HE:=zh (HS1.out hz)
     have h2:¬ P=ByteArray.empty:=fun e=>hz (by rw [e];rfl)
     have h3:¬ P.toList=[]:=by
      rw [Lib.toList_data]
      intro e
      have:=congrArg List.length e
      exact hz (by simpa using this)
     have h6:(!P.toList.isEmpty)=true:=by
      cases hq:P.toList with
      | nil=>exact absurd hq h3
      | cons a l=>rfl
     have K2:=zh (fun (W:World) (h:Ps w fb X x W)=>ps_tag w fb X x 5 W h (by omega) (by omega))
     have hpl:=putB_le 5 (by omega)
     have K3:=zh (fun (W:World) (h:Ps w fb X (x++putB 5) W)=>ps_write w fb X (x++putB 5) P W h (by rw [ByteArray.size_append];omega))
     clear hz HS0 HS1 hle hsz hpl
     go_wp2_with fail
     refine HK.out.mono ?_
     rintro e w1 ⟨rfl,hb⟩
     go_wp2_with fail
     refine (K2.out _ (HR.out.call hb)).mono ?_
     rintro e w2 ⟨rfl,h4⟩
     go_wp2_with fail
     refine (K3.out _ h4).mono ?_
     rintro e w3 ⟨rfl,h5⟩
     go_wp2
     go_roundw
     case rel=>exact ⟨5,by omega,by go_num,by rw [HE.out];exact h5⟩
     case measure=>simp [Go.RowKit.intOf]
   ·clear g1 g2 g3 g4 g5 g7 g8 g9 g10 g11 b1 b2 b3 b4 b5 b7 b8 b9 b10 b11
    obtain ⟨a,n,p,r,_,hv1,hv2,ha0,hn0,hp0,hr0⟩:=g6
    have hf:wr.cell? ⟨fb,12,none⟩=some (.func (.func 198) #[] #[.pointer (some ⟨a,0,none⟩),.pointer (some ⟨n,0,none⟩),.pointer (some ⟨p,0,none⟩)]):=by
     rw [←hv1];exact zcr wr fb 12 _ 189 (0,0) hblk
    have hc:wr.cell? ⟨w.heap.size,5,none⟩=some (.int .u64 X.block):=hr.cell 5
    have ha:wr.cell? ⟨a,0,none⟩=some (.func (.func 143) #[] #[]):=zcr wr a 0 _ _ (0,0) ha0
    have hn:wr.cell? ⟨n,0,none⟩=some (.func (.func 177) #[] #[]):=zcr wr n 0 _ _ (0,0) hn0
    have hp:wr.cell? ⟨p,0,none⟩=some (.func (.func 178) #[] #[]):=zcr wr p 0 _ _ (0,0) hp0
    obtain ⟨m,hm⟩:=Int.eq_ofNat_of_zero_le b6.1
    rw [hm] at hc
    have hK:=put6_any w.heap.size a n p m wr hc ha hn hp (by omega)
    rw [←hm] at hK
    have hK2:Calls Tryz.prog 198 #[.pointer (some ⟨w.heap.size,0,none⟩),.pointer (some ⟨a,0,none⟩),.pointer (some ⟨n,0,none⟩),.pointer (some ⟨p,0,none⟩)] wr fun e w'=>e=.returned (.string (fP 6 X))∧Below wr.heap.size wr w':=hK
    have hle:=fP_le HOK.out HFW.out 6
    have HR:=zh hr
    have hst0:=secU_no (X:=X) 5
    have hst1:=secU_yes (X:=X) 5
    obtain ⟨P,hP⟩:∃ P,P=fP 6 X:=⟨_,rfl⟩
    rw [show 5+1=6 from rfl,←hP] at hst0 hst1
    rw [←hP] at hK2 hle
    have HK:=zh hK2
    have HS0:=zh hst0
    have HS1:=zh hst1
    obtain ⟨x,hx⟩:∃ x,x=secU eF X 5:=⟨_,rfl⟩
    rw [←hx] at HR hsz HS0 HS1
    clear hP hst0 hst1 hx hK hK2 hv1 hv2 ha0 hn0 hp0 hr0 hblk hr ha hn hp hc hm b6
    by_cases hz:P.size=0
    ·have hPe:=(size0 P).1 hz
     have HE:=zh (HS0.out hz)
     clear hz HS0 HS1 hle
     subst hPe
     go_wp2_with fail
     refine HK.out.mono ?_
     rintro e w1 ⟨rfl,hb⟩
     go_wp2
     go_roundw
     case rel=>exact ⟨6,by omega,by go_num,by rw [HE.out];exact HR.out.call hb⟩
     case measure=>simp [Go.RowKit.intOf]
    ·have HE:=zh (HS1.out hz)
     have h2:¬ P=ByteArray.empty:=fun e=>hz (by rw [e];rfl)
     have h3:¬ P.toList=[]:=by
      rw [Lib.toList_data]
      intro e
      have:=congrArg List.length e
      exact hz (by simpa using this)
     have h6:(!P.toList.isEmpty)=true:=by
      cases hq:P.toList with
      | nil=>exact absurd hq h3
      | cons a l=>rfl
     have K2:=zh (fun (W:World) (h:Ps w fb X x W)=>ps_tag w fb X x 6 W h (by omega) (by omega))
     have hpl:=putB_le 6 (by omega)
     have K3:=zh (fun (W:World) (h:Ps w fb X (x++putB 6) W)=>ps_write w fb X (x++putB 6) P W h (by rw [ByteArray.size_append];omega))
     clear hz HS0 HS1 hle hsz hpl
     go_wp2_with fail
     refine HK.out.mono ?_
     rintro e w1 ⟨rfl,hb⟩
     go_wp2_with fail
     refine (K2.out _ (HR.out.call hb)).mono ?_
     rintro e w2 ⟨rfl,h4⟩
     go_wp2_with fail
     refine (K3.out _ h4).mono ?_
     rintro e w3 ⟨rfl,h5⟩
     go_wp2
     go_roundw
     case rel=>exact ⟨6,by omega,by go_num,by rw [HE.out];exact h5⟩
     case measure=>simp [Go.RowKit.intOf]
   ·clear g1 g2 g3 g4 g5 g6 g8 g9 g10 g11 b1 b2 b3 b4 b5 b6 b8 b9 b10 b11
    obtain ⟨a,n,p,r,_,hv1,hv2,ha0,hn0,hp0,hr0⟩:=g7
    have hf:wr.cell? ⟨fb,14,none⟩=some (.func (.func 198) #[] #[.pointer (some ⟨a,0,none⟩),.pointer (some ⟨n,0,none⟩),.pointer (some ⟨p,0,none⟩)]):=by
     rw [←hv1];exact zcr wr fb 14 _ 189 (0,0) hblk
    have hc:wr.cell? ⟨w.heap.size,6,none⟩=some (.int .u64 X.many):=hr.cell 6
    have ha:wr.cell? ⟨a,0,none⟩=some (.func (.func 144) #[] #[]):=zcr wr a 0 _ _ (0,0) ha0
    have hn:wr.cell? ⟨n,0,none⟩=some (.func (.func 177) #[] #[]):=zcr wr n 0 _ _ (0,0) hn0
    have hp:wr.cell? ⟨p,0,none⟩=some (.func (.func 178) #[] #[]):=zcr wr p 0 _ _ (0,0) hp0
    obtain ⟨m,hm⟩:=Int.eq_ofNat_of_zero_le b7.1
    rw [hm] at hc
    have hK:=put7_any w.heap.size a n p m wr hc ha hn hp (by omega)
    rw [←hm] at hK
    have hK2:Calls Tryz.prog 198 #[.pointer (some ⟨w.heap.size,0,none⟩),.pointer (some ⟨a,0,none⟩),.pointer (some ⟨n,0,none⟩),.pointer (some ⟨p,0,none⟩)] wr fun e w'=>e=.returned (.string (fP 7 X))∧Below wr.heap.size wr w':=hK
    have hle:=fP_le HOK.out HFW.out 7
    have HR:=zh hr
    have hst0:=secU_no (X:=X) 6
    have hst1:=secU_yes (X:=X) 6
    obtain ⟨P,hP⟩:∃ P,P=fP 7 X:=⟨_,rfl⟩
    rw [show 6+1=7 from rfl,←hP] at hst0 hst1
    rw [←hP] at hK2 hle
    have HK:=zh hK2
    have HS0:=zh hst0
    have HS1:=zh hst1
    obtain ⟨x,hx⟩:∃ x,x=secU eF X 6:=⟨_,rfl⟩
    rw [←hx] at HR hsz HS0 HS1
    clear hP hst0 hst1 hx hK hK2 hv1 hv2 ha0 hn0 hp0 hr0 hblk hr ha hn hp hc hm b7
    by_cases hz:P.size=0
    ·have hPe:=(size0 P).1 hz
     have HE:=zh (HS0.out hz)
     clear hz HS0 HS1 hle
     subst hPe
     go_wp2_with fail
     refine HK.out.mono ?_
     rintro e w1 ⟨rfl,hb⟩
     go_wp2
     go_roundw
     case rel=>exact ⟨7,by omega,by go_num,by rw [HE.out];exact HR.out.call hb⟩
     case measure=>simp [Go.RowKit.intOf]
    ·have HE:=zh (HS1.out hz)
     have h2:¬ P=ByteArray.empty:=fun e=>hz (by rw [e];rfl)
     have h3:¬ P.toList=[]:=by
      rw [Lib.toList_data]
      intro e
      have:=congrArg List.length e
      exact hz (by simpa using this)
     have h6:(!P.toList.isEmpty)=true:=by
      cases hq:P.toList with
      | nil=>exact absurd hq h3
      | cons a l=>rfl
     have K2:=zh (fun (W:World) (h:Ps w fb X x W)=>ps_tag w fb X x 7 W h (by omega) (by omega))
     have hpl:=putB_le 7 (by omega)
     have K3:=zh (fun (W:World) (h:Ps w fb X (x++putB 7) W)=>ps_write w fb X (x++putB 7) P W h (by rw [ByteArray.size_append];omega))
     clear hz HS0 HS1 hle hsz hpl
     go_wp2_with fail
     refine HK.out.mono ?_
     rintro e w1 ⟨rfl,hb⟩
     go_wp2_with fail
     refine (K2.out _ (HR.out.call hb)).mono ?_
     rintro e w2 ⟨rfl,h4⟩
     go_wp2_with fail
     refine (K3.out _ h4).mono ?_
     rintro e w3 ⟨rfl,h5⟩
     go_wp2
     go_roundw
     case rel=>exact ⟨7,by omega,by go_num,by rw [HE.out];exact h5⟩
     case measure=>simp [Go.RowKit.intOf]
   ·clear g1 g2 g3 g4 g5 g6 g7 g9 g10 g11 b1 b2 b3 b4 b5 b6 b7 b9 b10 b11
    obtain ⟨a,n,p,r,_,hv1,hv2,ha0,hn0,hp0,hr0⟩:=g8
    have hf:wr.cell? ⟨fb,16,none⟩=some (.func (.func 195) #[] #[.pointer (some ⟨a,0,none⟩),.pointer (some ⟨n,0,none⟩),.pointer (some ⟨p,0,none⟩)]):=by
     rw [←hv1];exact zcr wr fb 16 _ 189 (0,0) hblk
    have hc:wr.cell? ⟨w.heap.size,7,none⟩=some (.int .i64 X.node):=hr.cell 7
    have ha:wr.cell? ⟨a,0,none⟩=some (.func (.func 145) #[] #[]):=zcr wr a 0 _ _ (0,0) ha0
    have hn:wr.cell? ⟨n,0,none⟩=some (.func (.func 173) #[] #[]):=zcr wr n 0 _ _ (0,0) hn0
    have hp:wr.cell? ⟨p,0,none⟩=some (.func (.func 174) #[] #[]):=zcr wr p 0 _ _ (0,0) hp0
    obtain ⟨m,hm⟩:=Int.eq_ofNat_of_zero_le b8.1
    rw [hm] at hc
    have hK:=put8_any w.heap.size a n p m wr hc ha hn hp (by omega)
    rw [←hm] at hK
    have hK2:Calls Tryz.prog 195 #[.pointer (some ⟨w.heap.size,0,none⟩),.pointer (some ⟨a,0,none⟩),.pointer (some ⟨n,0,none⟩),.pointer (some ⟨p,0,none⟩)] wr fun e w'=>e=.returned (.string (fP 8 X))∧Below wr.heap.size wr w':=hK
    have hle:=fP_le HOK.out HFW.out 8
    have HR:=zh hr
    have hst0:=secU_no (X:=X) 7
    have hst1:=secU_yes (X:=X) 7
    obtain ⟨P,hP⟩:∃ P,P=fP 8 X:=⟨_,rfl⟩
    rw [show 7+1=8 from rfl,←hP] at hst0 hst1
    rw [←hP] at hK2 hle
    have HK:=zh hK2
    have HS0:=zh hst0
    have HS1:=zh hst1
    obtain ⟨x,hx⟩:∃ x,x=secU eF X 7:=⟨_,rfl⟩
    rw [←hx] at HR hsz HS0 HS1
    clear hP hst0 hst1 hx hK hK2 hv1 hv2 ha0 hn0 hp0 hr0 hblk hr ha hn hp hc hm b8
    by_cases hz:P.size=0
    ·have hPe:=(size0 P).1 hz
     have HE:=zh (HS0.out hz)
     clear hz HS0 HS1 hle
     subst hPe
     go_wp2_with fail
     refine HK.out.mono ?_
     rintro e w1 ⟨rfl,hb⟩
     go_wp2
     go_roundw
     case rel=>exact ⟨8,by omega,by go_num,by rw [HE.out];exact HR.out.call hb⟩
     case measure=>simp [Go.RowKit.intOf]
    ·have HE:=zh (HS1.out hz)
     have h2:¬ P=ByteArray.empty:=fun e=>hz (by rw [e];rfl)
     have h3:¬ P.toList=[]:=by
      rw [Lib.toList_data]
      intro e
      have:=congrArg List.length e
      exact hz (by simpa using this)
     have h6:(!P.toList.isEmpty)=true:=by
      cases hq:P.toList with
      | nil=>exact absurd hq h3
      | cons a l=>rfl
     have K2:=zh (fun (W:World) (h:Ps w fb X x W)=>ps_tag w fb X x 8 W h (by omega) (by omega))
     have hpl:=putB_le 8 (by omega)
     have K3:=zh (fun (W:World) (h:Ps w fb X (x++putB 8) W)=>ps_write w fb X (x++putB 8) P W h (by rw [ByteArray.size_append];omega))
     clear hz HS0 HS1 hle hsz hpl
     go_wp2_with fail
     refine HK.out.mono ?_
     rintro e w1 ⟨rfl,hb⟩
     go_wp2_with fail
     refine (K2.out _ (HR.out.call hb)).mono ?_
     rintro e w2 ⟨rfl,h4⟩
     go_wp2_with fail
     refine (K3.out _ h4).mono ?_
     rintro e w3 ⟨rfl,h5⟩
     go_wp2
     go_roundw
     case rel=>exact ⟨8,by omega,by go_num,by rw [HE.out];exact h5⟩
     case measure=>simp [Go.RowKit.intOf]
   ·clear g1 g2 g3 g4 g5 g6 g7 g8 g10 g11 b1 b2 b3 b4 b5 b6 b7 b8 b10 b11
    obtain ⟨a,n,p,r,_,hv1,hv2,ha0,hn0,hp0,hr0⟩:=g9
    have hf:wr.cell? ⟨fb,18,none⟩=some (.func (.func 195) #[] #[.pointer (some ⟨a,0,none⟩),.pointer (some ⟨n,0,none⟩),.pointer (some ⟨p,0,none⟩)]):=by
     rw [←hv1];exact zcr wr fb 18 _ 189 (0,0) hblk
    have hc:wr.cell? ⟨w.heap.size,8,none⟩=some (.int .i64 X.level):=hr.cell 8
    have ha:wr.cell? ⟨a,0,none⟩=some (.func (.func 146) #[] #[]):=zcr wr a 0 _ _ (0,0) ha0
    have hn:wr.cell? ⟨n,0,none⟩=some (.func (.func 173) #[] #[]):=zcr wr n 0 _ _ (0,0) hn0
    have hp:wr.cell? ⟨p,0,none⟩=some (.func (.func 174) #[] #[]):=zcr wr p 0 _ _ (0,0) hp0
    obtain ⟨m,hm⟩:=Int.eq_ofNat_of_zero_le b9.1
    rw [hm] at hc
    have hK:=put9_any w.heap.size a n p m wr hc ha hn hp (by omega)
    rw [←hm] at hK
    have hK2:Calls Tryz.prog 195 #[.pointer (some ⟨w.heap.size,0,none⟩),.pointer (some ⟨a,0,none⟩),.pointer (some ⟨n,0,none⟩),.pointer (some ⟨p,0,none⟩)] wr fun e w'=>e=.returned (.string (fP 9 X))∧Below wr.heap.size wr w':=hK
    have hle:=fP_le HOK.out HFW.out 9
    have HR:=zh hr
    have hst0:=secU_no (X:=X) 8
    have hst1:=secU_yes (X:=X) 8
    obtain ⟨P,hP⟩:∃ P,P=fP 9 X:=⟨_,rfl⟩
    rw [show 8+1=9 from rfl,←hP] at hst0 hst1
    rw [←hP] at hK2 hle
    have HK:=zh hK2
    have HS0:=zh hst0
    have HS1:=zh hst1
    obtain ⟨x,hx⟩:∃ x,x=secU eF X 8:=⟨_,rfl⟩
    rw [←hx] at HR hsz HS0 HS1
    clear hP hst0 hst1 hx hK hK2 hv1 hv2 ha0 hn0 hp0 hr0 hblk hr ha hn hp hc hm b9
    by_cases hz:P.size=0
    ·have hPe:=(size0 P).1 hz
     have HE:=zh (HS0.out hz)
     clear hz HS0 HS1 hle
     subst hPe
     go_wp2_with fail
     refine HK.out.mono ?_
     rintro e w1 ⟨rfl,hb⟩
     go_wp2
     go_roundw
     case rel=>exact ⟨9,by omega,by go_num,by rw [HE.out];exact HR.out.call hb⟩
     case measure=>simp [Go.RowKit.intOf]
    ·have HE:=zh (HS1.out hz)
     have h2:¬ P=ByteArray.empty:=fun e=>hz (by rw [e];rfl)
     have h3:¬ P.toList=[]:=by
      rw [Lib.toList_data]
      intro e
      have:=congrArg List.length e
      exact hz (by simpa using this)
     have h6:(!P.toList.isEmpty)=true:=by
      cases hq:P.toList with
      | nil=>exact absurd hq h3
      | cons a l=>rfl
     have K2:=zh (fun (W:World) (h:Ps w fb X x W)=>ps_tag w fb X x 9 W h (by omega) (by omega))
     have hpl:=putB_le 9 (by omega)
     have K3:=zh (fun (W:World) (h:Ps w fb X (x++putB 9) W)=>ps_write w fb X (x++putB 9) P W h (by rw [ByteArray.size_append];omega))
     clear hz HS0 HS1 hle hsz hpl
     go_wp2_with fail
     refine HK.out.mono ?_
     rintro e w1 ⟨rfl,hb⟩
     go_wp2_with fail
     refine (K2.out _ (HR.out.call hb)).mono ?_
     rintro e w2 ⟨rfl,h4⟩
     go_wp2_with fail
     refine (K3.out _ h4).mono ?_
     rintro e w3 ⟨rfl,h5⟩
     go_wp2
     go_roundw
     case rel=>exact ⟨9,by omega,by go_num,by rw [HE.out];exact h5⟩
     case measure=>simp [Go.RowKit.intOf]
   ·clear g1 g2 g3 g4 g5 g6 g7 g8 g9 g11 b1 b2 b3 b4 b5 b6 b7 b8 b9 b11
    obtain ⟨a,n,p,r,_,hv1,hv2,ha0,hn0,hp0,hr0⟩:=g10
    have hf:wr.cell? ⟨fb,20,none⟩=some (.func (.func 201) #[] #[.pointer (some ⟨a,0,none⟩),.pointer (some ⟨n,0,none⟩),.pointer (some ⟨p,0,none⟩)]):=by
     rw [←hv1];exact zcr wr fb 20 _ 189 (0,0) hblk
    have hc:wr.cell? ⟨w.heap.size,9,none⟩=some (.string X.data):=hr.cell 9
    have ha:wr.cell? ⟨a,0,none⟩=some (.func (.func 148) #[] #[]):=zcr wr a 0 _ _ (0,0) ha0
    have hn:wr.cell? ⟨n,0,none⟩=some (.func (.func 181) #[] #[]):=zcr wr n 0 _ _ (0,0) hn0
    have hp:wr.cell? ⟨p,0,none⟩=some (.func (.func 182) #[] #[]):=zcr wr p 0 _ _ (0,0) hp0
    have hK:=put10_any w.heap.size a n p X.data wr hc ha hn hp (by omega)
    skip
    have hK2:Calls Tryz.prog 201 #[.pointer (some ⟨w.heap.size,0,none⟩),.pointer (some ⟨a,0,none⟩),.pointer (some ⟨n,0,none⟩),.pointer (some ⟨p,0,none⟩)] wr fun e w'=>e=.returned (.string (fP 10 X))∧Below wr.heap.size wr w':=hK
    have hle:=fP_le HOK.out HFW.out 10
    have HR:=zh hr
    have hst0:=secU_no (X:=X) 9
    have hst1:=secU_yes (X:=X) 9
    obtain ⟨P,hP⟩:∃ P,P=fP 10 X:=⟨_,rfl⟩
    rw [show 9+1=10 from rfl,←hP] at hst0 hst1
    rw [←hP] at hK2 hle
    have HK:=zh hK2
    have HS0:=zh hst0
    have HS1:=zh hst1
    obtain ⟨x,hx⟩:∃ x,x=secU eF X 9:=⟨_,rfl⟩
    rw [←hx] at HR hsz HS0 HS1
    clear hP hst0 hst1 hx hK hK2 hv1 hv2 ha0 hn0 hp0 hr0 hblk hr ha hn hp hc  b10
    by_cases hz:P.size=0
    ·have hPe:=(size0 P).1 hz
     have HE:=zh (HS0.out hz)
     clear hz HS0 HS1 hle
     subst hPe
     go_wp2_with fail
     refine HK.out.mono ?_
     rintro e w1 ⟨rfl,hb⟩
     go_wp2
     go_roundw
     case rel=>exact ⟨10,by omega,by go_num,by rw [HE.out];exact HR.out.call hb⟩
     case measure=>simp [Go.RowKit.intOf]
    ·have HE:=zh (HS1.out hz)
     have h2:¬ P=ByteArray.empty:=fun e=>hz (by rw [e];rfl)
     have h3:¬ P.toList=[]:=by
      rw [Lib.toList_data]
      intro e
      have:=congrArg List.length e
      exact hz (by simpa using this)
     have h6:(!P.toList.isEmpty)=true:=by
      cases hq:P.toList with
      | nil=>exact absurd hq h3
      | cons a l=>rfl
     have K2:=zh (fun (W:World) (h:Ps w fb X x W)=>ps_tag w fb X x 10 W h (by omega) (by omega))
     have hpl:=putB_le 10 (by omega)
     have K3:=zh (fun (W:World) (h:Ps w fb X (x++putB 10) W)=>ps_write w fb X (x++putB 10) P W h (by rw [ByteArray.size_append];omega))
     clear hz HS0 HS1 hle hsz hpl
     go_wp2_with fail
     refine HK.out.mono ?_
     rintro e w1 ⟨rfl,hb⟩
     go_wp2_with fail
     refine (K2.out _ (HR.out.call hb)).mono ?_
     rintro e w2 ⟨rfl,h4⟩
     go_wp2_with fail
     refine (K3.out _ h4).mono ?_
     rintro e w3 ⟨rfl,h5⟩
     go_wp2
     go_roundw
     case rel=>exact ⟨10,by omega,by go_num,by rw [HE.out];exact h5⟩
     case measure=>simp [Go.RowKit.intOf]
   ·clear g1 g2 g3 g4 g5 g6 g7 g8 g9 g10 b1 b2 b3 b4 b5 b6 b7 b8 b9 b10
    obtain ⟨a,n,p,r,_,hv1,hv2,ha0,hn0,hp0,hr0⟩:=g11
    have hf:wr.cell? ⟨fb,22,none⟩=some (.func (.func 201) #[] #[.pointer (some ⟨a,0,none⟩),.pointer (some ⟨n,0,none⟩),.pointer (some ⟨p,0,none⟩)]):=by
     rw [←hv1];exact zcr wr fb 22 _ 189 (0,0) hblk
    have hc:wr.cell? ⟨w.heap.size,10,none⟩=some (.string X.old):=hr.cell 10
    have ha:wr.cell? ⟨a,0,none⟩=some (.func (.func 149) #[] #[]):=zcr wr a 0 _ _ (0,0) ha0
    have hn:wr.cell? ⟨n,0,none⟩=some (.func (.func 181) #[] #[]):=zcr wr n 0 _ _ (0,0) hn0
    have hp:wr.cell? ⟨p,0,none⟩=some (.func (.func 182) #[] #[]):=zcr wr p 0 _ _ (0,0) hp0
    have hK:=put11_any w.heap.size a n p X.old wr hc ha hn hp (by omega)
    skip
    have hK2:Calls Tryz.prog 201 #[.pointer (some ⟨w.heap.size,0,none⟩),.pointer (some ⟨a,0,none⟩),.pointer (some ⟨n,0,none⟩),.pointer (some ⟨p,0,none⟩)] wr fun e w'=>e=.returned (.string (fP 11 X))∧Below wr.heap.size wr w':=hK
    have hle:=fP_le HOK.out HFW.out 11
    have HR:=zh hr
    have hst0:=secU_no (X:=X) 10
    have hst1:=secU_yes (X:=X) 10
    obtain ⟨P,hP⟩:∃ P,P=fP 11 X:=⟨_,rfl⟩
    rw [show 10+1=11 from rfl,←hP] at hst0 hst1
    rw [←hP] at hK2 hle
    have HK:=zh hK2
    have HS0:=zh hst0
    have HS1:=zh hst1
    obtain ⟨x,hx⟩:∃ x,x=secU eF X 10:=⟨_,rfl⟩
    rw [←hx] at HR hsz HS0 HS1
    clear hP hst0 hst1 hx hK hK2 hv1 hv2 ha0 hn0 hp0 hr0 hblk hr ha hn hp hc  b11
    by_cases hz:P.size=0
    ·have hPe:=(size0 P).1 hz
     have HE:=zh (HS0.out hz)
     clear hz HS0 HS1 hle
     subst hPe
     go_wp2_with fail
     refine HK.out.mono ?_
     rintro e w1 ⟨rfl,hb⟩
     go_wp2
     go_roundw
     case rel=>exact ⟨11,by omega,by go_num,by rw [HE.out];exact HR.out.call hb⟩
     case measure=>simp [Go.RowKit.intOf]
    ·have HE:=zh (HS1.out hz)
     have h2:¬ P=ByteArray.empty:=fun e=>hz (by rw [e];rfl)
     have h3:¬ P.toList=[]:=by
      rw [Lib.toList_data]
      intro e
      have:=congrArg List.length e
      exact hz (by simpa using this)
     have h6:(!P.toList.isEmpty)=true:=by
      cases hq:P.toList with
      | nil=>exact absurd hq h3
      | cons a l=>rfl
     have K2:=zh (fun (W:World) (h:Ps w fb X x W)=>ps_tag w fb X x 11 W h (by omega) (by omega))
     have hpl:=putB_le 11 (by omega)
     have K3:=zh (fun (W:World) (h:Ps w fb X (x++putB 11) W)=>ps_write w fb X (x++putB 11) P W h (by rw [ByteArray.size_append];omega))
     clear hz HS0 HS1 hle hsz hpl
     go_wp2_with fail
     refine HK.out.mono ?_
     rintro e w1 ⟨rfl,hb⟩
     go_wp2_with fail
     refine (K2.out _ (HR.out.call hb)).mono ?_
     rintro e w2 ⟨rfl,h4⟩
     go_wp2_with fail
     refine (K3.out _ h4).mono ?_
     rintro e w3 ⟨rfl,h5⟩
     go_wp2
     go_roundw
     case rel=>exact ⟨11,by omega,by go_num,by rw [HE.out];exact h5⟩
     case measure=>simp [Go.RowKit.intOf]
  ·have hk11:k=11:=by omega
   subst hk11
   have hr2:=hr
   have K2:=zh (ps_tag w fb X (secU eF X 11) 0 wr hr (by omega) (by omega))
   have hlen:0<(secU eF X 11++putB 0).size:=by rw [ByteArray.size_append];have:=putB_pos_b 0;omega
   have K3:=zh (fun (W:World) (h:Ps w fb X (secU eF X 11++putB 0) W)=>(wstring_b _ _ _ W h.t hlen).mono fun e w' ⟨h1,h2⟩=>And.intro h1 (h.be.trans (h2.mono (Nat.le_succ _))))
   have HE:Hid (sbE X=secU eF X 11++putB 0):=rfl
   clear hr hr2 hlen hsz b1 b2 b3 b4 b5 b6 b7 b8 b9 b10 b11 HOK HFW hlt hk
   go_wp2_with fail
   refine K2.out.mono ?_
   rintro e w1 ⟨rfl,h4⟩
   go_wp2_with fail
   refine (K3.out _ h4).mono ?_
   rintro e w2 ⟨rfl,h5⟩
   go_wp2
   go_ret
   exact ⟨by rw [HE.out];rfl,h5⟩
end Go.Proofs.YtnobeoppffoomaaGreat
