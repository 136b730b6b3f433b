/-
  FrameCodes: part G34.
  Conditions: named in each theorem.
-/
import Derived.Deep.RegionHeld3
import Derived.Deep.CutRange
import Derived.Test.YtpdbeijfchmlgaaGreatZ0
import Derived.Test.YtpdbeijfchmlgaaGreatG32
import Derived.Test.YtpdbeijfchmlgaaGreatG49
set_option linter.unusedVariables false
set_option linter.unusedSimpArgs false
set_option maxHeartbeats 16000000
set_option maxRecDepth 100000
namespace Go.Proofs.YtpdbeijfchmlgaaGreat.D
open Go.RowKit
open Vi
theorem mP_le {X:Mp} (ok:X.Wide) (fw:MFew X) (t:Nat):(mP t X).size≤70000:=by
 obtain ⟨a1,a2,a3,a4,a5,a6,a7,a8⟩:=m_bounds ok fw;have nn:∀ v:Int,v≤18446744073709551615→(nb v).size≤70000:=fun v h=>Nat.le_trans (nb_le v h) (by omega);unfold mP
 split
 ·exact nn _ (by omega)
 ·exact nn _ (by omega)
 ·exact nn _ (by omega)
 ·exact nn _ a4.2
 ·exact nn _ a5.2
 ·exact nn _ a6.2
 ·exact nn _ a7.2
 ·exact nn _ a8.2
 ·unfold fb1
  split
  ·exact Nat.le_trans (putB_le 1 (by omega)) (by omega)
  ·exact Nat.zero_le _
 ·have hs:=fw.s;unfold tb
  split
  ·exact Nat.zero_le _
  ·rw [ByteArray.size_append]
   have:=putB_le X.snap.size (by omega)
   omega
 ·have hs:=fw.n;have h2:=catE_le X.es (fun e he=>⟨ok.eo e he,fw.r e he⟩);unfold eb
  split
  ·exact Nat.zero_le _
  ·rw [ByteArray.size_append]
   have:=putB_le X.es.length (by omega)
   omega
 ·exact Nat.zero_le _
theorem fdM_le {X:Mp} (ok:X.Wide) (fw:MFew X) (t:Nat) (ht:t<12):(fdB mF X t).size≤70010:=by
 unfold fdB
 split
 ·exact Nat.zero_le _
 ·rw [ByteArray.size_append]
  have:=putB_le t (by omega)
  have h:(mP t X).size≤70000:=mP_le ok fw t;have h2:(mF.P t X).size≤70000:=h;omega
theorem secM_le {X:Mp} (ok:X.Wide) (fw:MFew X):∀ k,k≤11→(secU mF X k).size≤70010*k
 | 0,_=>Nat.zero_le _
 | k+1,h=>by
   have ih:=secM_le ok fw k (by omega);have h1:=fdM_le ok fw (k+1) (by omega)
   show (secU mF X k++fdB mF X (k+1)).size≤_
   rw [ByteArray.size_append];omega
theorem secM_no {X:Mp} (k:Nat) (h:(mP (k+1) X).size=0):secU mF X (k+1)=secU mF X k:=by
 show secU mF X k++fdB mF X (k+1)=_
 have h2:(mF.P (k+1) X).size=0:=h;unfold fdB;rw [if_pos h2]
 apply ByteArray.ext
 simp
theorem secM_yes {X:Mp} (k:Nat) (h:(mP (k+1) X).size≠0):secU mF X (k+1)=secU mF X k++putB (k+1)++mP (k+1) X:=by
 show secU mF X k++fdB mF X (k+1)=_
 have h2:¬ (mF.P (k+1) X).size=0:=h;unfold fdB;rw [if_neg h2,append_assoc3]
structure Pk (w0:World) (fb:Nat) (m:Ms) (x:ByteArray) (w:World):Prop where
 t:Wt_b (w0.heap.size+1) (w0.heap.size+1) x w
 be:Below w0.heap.size w0 w
 box:w.heap[w0.heap.size]?=some (.cells (mc m) 29 (0,0))
 fl:MFlds fb w
 en:Ents w0.heap.size m.A m.n m.es w
section
variable {w0 w w1:World} {fb:Nat} {m:Ms} {x y:ByteArray}
theorem Pk.sz (h:Pk w0 fb m x w):w0.heap.size+1<w.heap.size:=by
 obtain ⟨cs,hb⟩:=h.t.blk;exact (zgx hb)
theorem Pk.call (h:Pk w0 fb m x w) (hb:Below w.heap.size w w1):Pk w0 fb m x w1:=by
 have hs:=h.sz;exact ⟨h.t.below hb,h.be.trans (hb.mono (by omega)),(hb.block _ (by omega)).trans h.box,h.fl.on (Stab.below hb),h.en.below (hb.mono (by omega))⟩
theorem Pk.write (h:Pk w0 fb m x w) (ht:Wt_b (w0.heap.size+1) (w0.heap.size+1) y w1) (hb:Below (w0.heap.size+1) w w1) (ho:Lib.OthersKept 5 (some (w0.heap.size+1)) w w1):Pk w0 fb m y w1:=by
 obtain ⟨cs,hc⟩:=h.t.blk;exact ⟨ht,h.be.trans (hb.mono (by omega)),(hb.block _ (by omega)).trans h.box,h.fl.on (Stab.others ho hc (.inr (.inr rfl))),h.en.below (hb.mono (by omega))⟩
theorem Pk.cell (h:Pk w0 fb m x w) (i:Nat):w.cell? ⟨w0.heap.size,i,none⟩=(mc m)[i]?:=zcr w _ i _ 29 (0,0) h.box
end
theorem pk_write (w0:World) (fb:Nat) (m:Ms) (x s:ByteArray) (w:World) (h:Pk w0 fb m x w) (hl:x.size+s.size≤140737488355328) :
 Calls Tryz.prog 110 #[.pointer (some ⟨w0.heap.size+1,0,none⟩),.string s] w fun e w'=>e=.returned (.tuple #[.int .i64 s.size,.nilIface])∧Pk w0 fb m (x++s) w':=by
 have hs:=h.sz;exact (wwrite_b _ _ x s w h.t hl (by omega)).mono fun e w' ⟨h1,h2,h3,h4⟩=>⟨h1,h.write h2 h3 h4⟩
theorem pk_tag (w0:World) (fb:Nat) (m:Ms) (x:ByteArray) (t:Nat) (w:World) (h:Pk w0 fb m x w) (hl:x.size≤1000000) (ht:t<12) :
 Calls Tryz.prog 132 #[.int .i64 t,.pointer (some ⟨w0.heap.size+1,0,none⟩)] w fun e w'=>e=.returned (.tuple #[])∧Pk w0 fb m (x++putB t) w':=by
 have hw:IntKind.u64.wrap (t:Int)=(t:Int):=IntWalk.u64_in _ (by omega);have K1:=zh (put_any t w (by omega));have hps:=putB_le t (by omega);have K2:Hid (∀ W,Below w.heap.size w W→Calls Tryz.prog 110 #[.pointer (some ⟨w0.heap.size+1,0,none⟩),.string (putB t)] W fun e w'=>e=.returned (.tuple #[.int .i64 (putB t).size,.nilIface])∧Pk w0 fb m (x++putB t) w'):=fun W hb=>pk_write w0 fb m x (putB t) W (h.call hb) (by omega);clear h hl ht hps
 go_enter Tryz.func132,Tryz.ntmps132
 go_wp2_with fail
 refine K1.out.mono ?_;rintro e w1 ⟨rfl,hb⟩
 go_wp2_with fail
 refine (K2.out _ hb).mono ?_;rintro e w2 ⟨rfl,hP⟩;go_wp2;go_end0;exact ⟨rfl,hP⟩
theorem putFieldsM_any (fb:Nat) (m:Ms) (w:World) (hE:Ents w.heap.size m.A m.n m.es w) (ok:m.pl.Wide) (fw:MFew m.pl) (hF:MFlds fb w) :
 Calls Tryz.prog 75 #[.slice (some ⟨fb,0,none⟩) 12 12,mv m] w fun e w'=>e=.returned (.string (sbM m.pl))∧Below w.heap.size w w':=by
 have hmf:=zmL;obtain ⟨W0,hW0⟩:∃ W0,W0=(w.alloc (Obj.cells (mc m) 29)).alloc (Obj.cells #[.pointer none,.slice none 0 0] 93):=⟨_,rfl⟩
 have P0:Pk w fb m (secU mF m.pl 0) W0:=by
  have hb:Below w.heap.size w W0:=by rw [hW0];exact zba.alloc (by simp) _
  have k0:W0.heap[w.heap.size]?=some (.cells (mc m) 29 (0,0)):=by
   rw [hW0];exact (Lib.alloc_old _ _ _ (by simp)).trans (heap_alloc_new w _)
  have k1:W0.heap[w.heap.size+1]?=some (.cells #[.pointer none,.slice none 0 0] 93 (0,0)):=by
   have h:=heap_alloc_new (w.alloc (Obj.cells (mc m) 29)) (Obj.cells #[.pointer none,.slice none 0 0] 93);rw [show (w.alloc (Obj.cells (mc m) 29)).heap.size=w.heap.size+1 by simp] at h;rw [hW0];exact h
  refine ⟨.inl ⟨Nat.le_refl _,_,k1,World.ownsRow_nil _ _ _ _,by simp [Value.ownBlock]⟩,hb,k0,hF.on (Stab.below hb),hE.below hb⟩
 have HW:=zh hW0;have HP0:=zh P0;have HOK:=zh ok;have HFW:=zh fw;have HLN:Hid (m.n≤64):=by show _≤_;have h1:=hE.len;have h2:m.es.length≤64:=fw.n;omega
 have HSN:Hid (m.snap.size≤16384):=fw.s;have HOE:Hid (∀ e∈m.es,e.Ok∧rightB e=true):=fun e he=>⟨ok.eo e he,fw.r e he⟩;obtain ⟨b1,b2,b3,b4,b5,b6,b7,b8⟩:=m_bounds ok fw;have b1:0≤m.kind∧m.kind≤999:=b1;have b2:0≤m.frm∧m.frm≤999:=b2;have b3:0≤m.dst∧m.dst≤999:=b3;have b4:0≤m.term∧m.term≤18446744073709551615:=b4;have b5:0≤m.index∧m.index≤18446744073709551615:=b5;have b6:0≤m.prev∧m.prev≤18446744073709551615:=b6;have b7:0≤m.commit∧m.commit≤18446744073709551615:=b7;have b8:0≤m.mark∧m.mark≤18446744073709551615:=b8;clear hW0 P0 ok fw hF hE
 go_enter Tryz.func75,Tryz.ntmps75
 go_wp2_with fail
 rw [←HW.out];clear HW hmf
 go_loopw [7] (fun i wr=>∃ k:Nat,k≤11∧i=.int .i64 ((k+1:Nat):Int)∧Pk w fb m (secU mF m.pl k) wr) (fun i _=>12-(intOf i).toNat)
 case atStart=>exact ⟨0,Nat.zero_le _,rfl,HP0.out⟩
 case round =>
  obtain ⟨k,hk,rfl,hr⟩:=hrel;clear HP0;have hsz:=secM_le HOK.out HFW.out k hk
  by_cases hlt:k<11
  ·have h11:k=0∨k=1∨k=2∨k=3∨k=4∨k=5∨k=6∨k=7∨k=8∨k=9∨k=10:=by omega
   obtain ⟨v,hblk,g1,g2,g3,g4,g5,g6,g7,g8,g9,g10,g11⟩:=hr.fl
   rcases h11 with rfl|rfl|rfl|rfl|rfl|rfl|rfl|rfl|rfl|rfl|rfl
   ·clear g2 g3 g4 g5 g6 g7 g8 g9 g10 g11 b2 b3 b4 b5 b6 b7 b8;obtain ⟨a,n,p,r,_,hv1,hv2,ha0,hn0,hp0,hr0⟩:=g1
    have hf:wr.cell? ⟨fb,2,none⟩=some (.func (.func 203) #[] #[.pointer (some ⟨a,0,none⟩),.pointer (some ⟨n,0,none⟩),.pointer (some ⟨p,0,none⟩)]):=by
     rw [←hv1];exact zcr wr fb 2 _ 161 (0,0) hblk
    have hc:wr.cell? ⟨w.heap.size,0,none⟩=some (.int .i64 m.kind):=hr.cell 0;have ha:wr.cell? ⟨a,0,none⟩=some (.func (.func 134) #[] #[]):=zcr wr a 0 _ _ (0,0) ha0;have hn:wr.cell? ⟨n,0,none⟩=some (.func (.func 166) #[] #[]):=zcr wr n 0 _ _ (0,0) hn0;have hp:wr.cell? ⟨p,0,none⟩=some (.func (.func 167) #[] #[]):=zcr wr p 0 _ _ (0,0) hp0;obtain ⟨mm,hm⟩:=Int.eq_ofNat_of_zero_le b1.1;rw [hm] at hc;have hK:=mput1_any w.heap.size a n p mm wr hc ha hn hp (by omega);rw [←hm] at hK;have hK2:Calls Tryz.prog 203 #[.pointer (some ⟨w.heap.size,0,none⟩),.pointer (some ⟨a,0,none⟩),.pointer (some ⟨n,0,none⟩),.pointer (some ⟨p,0,none⟩)] wr fun e w'=>e=.returned (.string (mP 1 m.pl))∧Below wr.heap.size wr w':=hK;have hle:=mP_le HOK.out HFW.out 1;have HR:=zh hr;have hst0:=secM_no (X:=m.pl) 0;have hst1:=secM_yes (X:=m.pl) 0;obtain ⟨P,hP⟩:∃ P,P=mP 1 m.pl:=⟨_,rfl⟩;rw [show 0+1=1 from rfl,←hP] at hst0 hst1;rw [←hP] at hK2 hle;have HK:=zh hK2;have HS0:=zh hst0;have HS1:=zh hst1;obtain ⟨x,hx⟩:∃ x,x=secU mF m.pl 0:=⟨_,rfl⟩;rw [←hx] at HR hsz HS0 HS1;clear hP hst0 hst1 hx hK hK2 hv1 hv2 ha0 hn0 hp0 hr0 hblk hr ha hn hp hc hm b1
    by_cases hz:P.size=0
    ·have hPe:=(size0 P).1 hz;have HE:=zh (HS0.out hz);clear hz HS0 HS1 hle;subst hPe
     go_wp2_with fail
     refine HK.out.mono ?_;rintro e w1 ⟨rfl,hb⟩;go_wp2
     go_roundw
     case rel=>exact ⟨1,by omega,by go_num,by rw [HE.out];exact HR.out.call hb⟩
     case measure=>simp [intOf]
    ·have HE:=zh (HS1.out hz);have h2:¬ P=ByteArray.empty:=fun e=>hz (by rw [e];rfl)
     have h3:¬ P.toList=[]:=by
      rw [Lib.toList_data];intro e
      have:=congrArg List.length e
      exact hz (by simpa using this)
     have h6:(!P.toList.isEmpty)=true:=by
      cases hq:P.toList with
      | nil=>exact absurd hq h3
      | cons a l=>rfl
     have K2:=zh (fun (W:World) (h:Pk w fb m x W)=>pk_tag w fb m x 1 W h (by omega) (by omega));have hpl:=putB_le 1 (by omega);have K3:=zh (fun (W:World) (h:Pk w fb m (x++putB 1) W)=>pk_write w fb m (x++putB 1) P W h (by rw [ByteArray.size_append];omega));clear hz HS0 HS1 hle hsz hpl
     go_wp2_with fail
     refine HK.out.mono ?_;rintro e w1 ⟨rfl,hb⟩
     go_wp2_with fail
     refine (K2.out _ (HR.out.call hb)).mono ?_;rintro e w2 ⟨rfl,h4⟩
     go_wp2_with fail
     refine (K3.out _ h4).mono ?_;rintro e w3 ⟨rfl,h5⟩;go_wp2
     go_roundw
     case rel=>exact ⟨1,by omega,by go_num,by rw [HE.out];exact h5⟩
     case measure=>simp [intOf]
   ·clear g1 g3 g4 g5 g6 g7 g8 g9 g10 g11 b1 b3 b4 b5 b6 b7 b8;obtain ⟨a,n,p,r,_,hv1,hv2,ha0,hn0,hp0,hr0⟩:=g2
    have hf:wr.cell? ⟨fb,4,none⟩=some (.func (.func 203) #[] #[.pointer (some ⟨a,0,none⟩),.pointer (some ⟨n,0,none⟩),.pointer (some ⟨p,0,none⟩)]):=by
     rw [←hv1];exact zcr wr fb 4 _ 161 (0,0) hblk
    have hc:wr.cell? ⟨w.heap.size,1,none⟩=some (.int .i64 m.frm):=hr.cell 1;have ha:wr.cell? ⟨a,0,none⟩=some (.func (.func 135) #[] #[]):=zcr wr a 0 _ _ (0,0) ha0;have hn:wr.cell? ⟨n,0,none⟩=some (.func (.func 166) #[] #[]):=zcr wr n 0 _ _ (0,0) hn0;have hp:wr.cell? ⟨p,0,none⟩=some (.func (.func 167) #[] #[]):=zcr wr p 0 _ _ (0,0) hp0;obtain ⟨mm,hm⟩:=Int.eq_ofNat_of_zero_le b2.1;rw [hm] at hc;have hK:=mput2_any w.heap.size a n p mm wr hc ha hn hp (by omega);rw [←hm] at hK;have hK2:Calls Tryz.prog 203 #[.pointer (some ⟨w.heap.size,0,none⟩),.pointer (some ⟨a,0,none⟩),.pointer (some ⟨n,0,none⟩),.pointer (some ⟨p,0,none⟩)] wr fun e w'=>e=.returned (.string (mP 2 m.pl))∧Below wr.heap.size wr w':=hK;have hle:=mP_le HOK.out HFW.out 2;have HR:=zh hr;have hst0:=secM_no (X:=m.pl) 1;have hst1:=secM_yes (X:=m.pl) 1;obtain ⟨P,hP⟩:∃ P,P=mP 2 m.pl:=⟨_,rfl⟩;rw [show 1+1=2 from rfl,←hP] at hst0 hst1;rw [←hP] at hK2 hle;have HK:=zh hK2;have HS0:=zh hst0;have HS1:=zh hst1;obtain ⟨x,hx⟩:∃ x,x=secU mF m.pl 1:=⟨_,rfl⟩;rw [←hx] at HR hsz HS0 HS1;clear hP hst0 hst1 hx hK hK2 hv1 hv2 ha0 hn0 hp0 hr0 hblk hr ha hn hp hc hm b2
    by_cases hz:P.size=0
    ·have hPe:=(size0 P).1 hz;have HE:=zh (HS0.out hz);clear hz HS0 HS1 hle;subst hPe
     go_wp2_with fail
     refine HK.out.mono ?_;rintro e w1 ⟨rfl,hb⟩;go_wp2
     go_roundw
     case rel=>exact ⟨2,by omega,by go_num,by rw [HE.out];exact HR.out.call hb⟩
     case measure=>simp [intOf]
    ·have HE:=zh (HS1.out hz);have h2:¬ P=ByteArray.empty:=fun e=>hz (by rw [e];rfl)
     have h3:¬ P.toList=[]:=by
      rw [Lib.toList_data];intro e
      have:=congrArg List.length e
      exact hz (by simpa using this)
     have h6:(!P.toList.isEmpty)=true:=by
      cases hq:P.toList with
      | nil=>exact absurd hq h3
      | cons a l=>rfl
     have K2:=zh (fun (W:World) (h:Pk w fb m x W)=>pk_tag w fb m x 2 W h (by omega) (by omega));have hpl:=putB_le 2 (by omega);have K3:=zh (fun (W:World) (h:Pk w fb m (x++putB 2) W)=>pk_write w fb m (x++putB 2) P W h (by rw [ByteArray.size_append];omega));clear hz HS0 HS1 hle hsz hpl
     go_wp2_with fail
     refine HK.out.mono ?_;rintro e w1 ⟨rfl,hb⟩
     go_wp2_with fail
     refine (K2.out _ (HR.out.call hb)).mono ?_;rintro e w2 ⟨rfl,h4⟩
     go_wp2_with fail
     refine (K3.out _ h4).mono ?_;rintro e w3 ⟨rfl,h5⟩;go_wp2
     go_roundw
     case rel=>exact ⟨2,by omega,by go_num,by rw [HE.out];exact h5⟩
     case measure=>simp [intOf]
   ·clear g1 g2 g4 g5 g6 g7 g8 g9 g10 g11 b1 b2 b4 b5 b6 b7 b8;obtain ⟨a,n,p,r,_,hv1,hv2,ha0,hn0,hp0,hr0⟩:=g3
    have hf:wr.cell? ⟨fb,6,none⟩=some (.func (.func 203) #[] #[.pointer (some ⟨a,0,none⟩),.pointer (some ⟨n,0,none⟩),.pointer (some ⟨p,0,none⟩)]):=by
     rw [←hv1];exact zcr wr fb 6 _ 161 (0,0) hblk
    have hc:wr.cell? ⟨w.heap.size,2,none⟩=some (.int .i64 m.dst):=hr.cell 2;have ha:wr.cell? ⟨a,0,none⟩=some (.func (.func 136) #[] #[]):=zcr wr a 0 _ _ (0,0) ha0;have hn:wr.cell? ⟨n,0,none⟩=some (.func (.func 166) #[] #[]):=zcr wr n 0 _ _ (0,0) hn0;have hp:wr.cell? ⟨p,0,none⟩=some (.func (.func 167) #[] #[]):=zcr wr p 0 _ _ (0,0) hp0;obtain ⟨mm,hm⟩:=Int.eq_ofNat_of_zero_le b3.1;rw [hm] at hc;have hK:=mput3_any w.heap.size a n p mm wr hc ha hn hp (by omega);rw [←hm] at hK;have hK2:Calls Tryz.prog 203 #[.pointer (some ⟨w.heap.size,0,none⟩),.pointer (some ⟨a,0,none⟩),.pointer (some ⟨n,0,none⟩),.pointer (some ⟨p,0,none⟩)] wr fun e w'=>e=.returned (.string (mP 3 m.pl))∧Below wr.heap.size wr w':=hK;have hle:=mP_le HOK.out HFW.out 3;have HR:=zh hr;have hst0:=secM_no (X:=m.pl) 2;have hst1:=secM_yes (X:=m.pl) 2;obtain ⟨P,hP⟩:∃ P,P=mP 3 m.pl:=⟨_,rfl⟩;rw [show 2+1=3 from rfl,←hP] at hst0 hst1;rw [←hP] at hK2 hle;have HK:=zh hK2;have HS0:=zh hst0;have HS1:=zh hst1;obtain ⟨x,hx⟩:∃ x,x=secU mF m.pl 2:=⟨_,rfl⟩;rw [←hx] at HR hsz HS0 HS1;clear hP hst0 hst1 hx hK hK2 hv1 hv2 ha0 hn0 hp0 hr0 hblk hr ha hn hp hc hm b3
    by_cases hz:P.size=0
    ·have hPe:=(size0 P).1 hz;have HE:=zh (HS0.out hz);clear hz HS0 HS1 hle;subst hPe
     go_wp2_with fail
     refine HK.out.mono ?_;rintro e w1 ⟨rfl,hb⟩;go_wp2
     go_roundw
     case rel=>exact ⟨3,by omega,by go_num,by rw [HE.out];exact HR.out.call hb⟩
     case measure=>simp [intOf]
    ·have HE:=zh (HS1.out hz);have h2:¬ P=ByteArray.empty:=fun e=>hz (by rw [e];rfl)
     have h3:¬ P.toList=[]:=by
      rw [Lib.toList_data];intro e
      have:=congrArg List.length e
      exact hz (by simpa using this)
     have h6:(!P.toList.isEmpty)=true:=by
      cases hq:P.toList with
      | nil=>exact absurd hq h3
      | cons a l=>rfl
     have K2:=zh (fun (W:World) (h:Pk w fb m x W)=>pk_tag w fb m x 3 W h (by omega) (by omega));have hpl:=putB_le 3 (by omega);have K3:=zh (fun (W:World) (h:Pk w fb m (x++putB 3) W)=>pk_write w fb m (x++putB 3) P W h (by rw [ByteArray.size_append];omega));clear hz HS0 HS1 hle hsz hpl
     go_wp2_with fail
     refine HK.out.mono ?_;rintro e w1 ⟨rfl,hb⟩
     go_wp2_with fail
     refine (K2.out _ (HR.out.call hb)).mono ?_;rintro e w2 ⟨rfl,h4⟩
     go_wp2_with fail
     refine (K3.out _ h4).mono ?_;rintro e w3 ⟨rfl,h5⟩;go_wp2
     go_roundw
     case rel=>exact ⟨3,by omega,by go_num,by rw [HE.out];exact h5⟩
     case measure=>simp [intOf]
   ·clear g1 g2 g3 g5 g6 g7 g8 g9 g10 g11 b1 b2 b3 b5 b6 b7 b8;obtain ⟨a,n,p,r,_,hv1,hv2,ha0,hn0,hp0,hr0⟩:=g4
    have hf:wr.cell? ⟨fb,8,none⟩=some (.func (.func 205) #[] #[.pointer (some ⟨a,0,none⟩),.pointer (some ⟨n,0,none⟩),.pointer (some ⟨p,0,none⟩)]):=by
     rw [←hv1];exact zcr wr fb 8 _ 161 (0,0) hblk
    have hc:wr.cell? ⟨w.heap.size,3,none⟩=some (.int .u64 m.term):=hr.cell 3;have ha:wr.cell? ⟨a,0,none⟩=some (.func (.func 138) #[] #[]):=zcr wr a 0 _ _ (0,0) ha0;have hn:wr.cell? ⟨n,0,none⟩=some (.func (.func 170) #[] #[]):=zcr wr n 0 _ _ (0,0) hn0;have hp:wr.cell? ⟨p,0,none⟩=some (.func (.func 171) #[] #[]):=zcr wr p 0 _ _ (0,0) hp0;obtain ⟨mm,hm⟩:=Int.eq_ofNat_of_zero_le b4.1;rw [hm] at hc;have hK:=mput4_any w.heap.size a n p mm wr hc ha hn hp (by omega);rw [←hm] at hK;have hK2:Calls Tryz.prog 205 #[.pointer (some ⟨w.heap.size,0,none⟩),.pointer (some ⟨a,0,none⟩),.pointer (some ⟨n,0,none⟩),.pointer (some ⟨p,0,none⟩)] wr fun e w'=>e=.returned (.string (mP 4 m.pl))∧Below wr.heap.size wr w':=hK;have hle:=mP_le HOK.out HFW.out 4;have HR:=zh hr;have hst0:=secM_no (X:=m.pl) 3;have hst1:=secM_yes (X:=m.pl) 3;obtain ⟨P,hP⟩:∃ P,P=mP 4 m.pl:=⟨_,rfl⟩;rw [show 3+1=4 from rfl,←hP] at hst0 hst1;rw [←hP] at hK2 hle;have HK:=zh hK2;have HS0:=zh hst0;have HS1:=zh hst1;obtain ⟨x,hx⟩:∃ x,x=secU mF m.pl 3:=⟨_,rfl⟩;rw [←hx] at HR hsz HS0 HS1;clear hP hst0 hst1 hx hK hK2 hv1 hv2 ha0 hn0 hp0 hr0 hblk hr ha hn hp hc hm b4
    by_cases hz:P.size=0
    ·have hPe:=(size0 P).1 hz;have HE:=zh (HS0.out hz);clear hz HS0 HS1 hle;subst hPe
     go_wp2_with fail
     refine HK.out.mono ?_;rintro e w1 ⟨rfl,hb⟩;go_wp2
     go_roundw
     case rel=>exact ⟨4,by omega,by go_num,by rw [HE.out];exact HR.out.call hb⟩
     case measure=>simp [intOf]
    ·have HE:=zh (HS1.out hz);have h2:¬ P=ByteArray.empty:=fun e=>hz (by rw [e];rfl)
     have h3:¬ P.toList=[]:=by
      rw [Lib.toList_data];intro e
      have:=congrArg List.length e
      exact hz (by simpa using this)
     have h6:(!P.toList.isEmpty)=true:=by
      cases hq:P.toList with
      | nil=>exact absurd hq h3
      | cons a l=>rfl
     have K2:=zh (fun (W:World) (h:Pk w fb m x W)=>pk_tag w fb m x 4 W h (by omega) (by omega));have hpl:=putB_le 4 (by omega);have K3:=zh (fun (W:World) (h:Pk w fb m (x++putB 4) W)=>pk_write w fb m (x++putB 4) P W h (by rw [ByteArray.size_append];omega));clear hz HS0 HS1 hle hsz hpl
     go_wp2_with fail
     refine HK.out.mono ?_;rintro e w1 ⟨rfl,hb⟩
     go_wp2_with fail
     refine (K2.out _ (HR.out.call hb)).mono ?_;rintro e w2 ⟨rfl,h4⟩
     go_wp2_with fail
     refine (K3.out _ h4).mono ?_;rintro e w3 ⟨rfl,h5⟩;go_wp2
     go_roundw
     case rel=>exact ⟨4,by omega,by go_num,by rw [HE.out];exact h5⟩
     case measure=>simp [intOf]
   ·clear g1 g2 g3 g4 g6 g7 g8 g9 g10 g11 b1 b2 b3 b4 b6 b7 b8;obtain ⟨a,n,p,r,_,hv1,hv2,ha0,hn0,hp0,hr0⟩:=g5
    have hf:wr.cell? ⟨fb,10,none⟩=some (.func (.func 205) #[] #[.pointer (some ⟨a,0,none⟩),.pointer (some ⟨n,0,none⟩),.pointer (some ⟨p,0,none⟩)]):=by
     rw [←hv1];exact zcr wr fb 10 _ 161 (0,0) hblk
    have hc:wr.cell? ⟨w.heap.size,4,none⟩=some (.int .u64 m.index):=hr.cell 4;have ha:wr.cell? ⟨a,0,none⟩=some (.func (.func 139) #[] #[]):=zcr wr a 0 _ _ (0,0) ha0;have hn:wr.cell? ⟨n,0,none⟩=some (.func (.func 170) #[] #[]):=zcr wr n 0 _ _ (0,0) hn0;have hp:wr.cell? ⟨p,0,none⟩=some (.func (.func 171) #[] #[]):=zcr wr p 0 _ _ (0,0) hp0;obtain ⟨mm,hm⟩:=Int.eq_ofNat_of_zero_le b5.1;rw [hm] at hc;have hK:=mput5_any w.heap.size a n p mm wr hc ha hn hp (by omega);rw [←hm] at hK;have hK2:Calls Tryz.prog 205 #[.pointer (some ⟨w.heap.size,0,none⟩),.pointer (some ⟨a,0,none⟩),.pointer (some ⟨n,0,none⟩),.pointer (some ⟨p,0,none⟩)] wr fun e w'=>e=.returned (.string (mP 5 m.pl))∧Below wr.heap.size wr w':=hK;have hle:=mP_le HOK.out HFW.out 5;have HR:=zh hr;have hst0:=secM_no (X:=m.pl) 4;have hst1:=secM_yes (X:=m.pl) 4;obtain ⟨P,hP⟩:∃ P,P=mP 5 m.pl:=⟨_,rfl⟩;rw [show 4+1=5 from rfl,←hP] at hst0 hst1;rw [←hP] at hK2 hle;have HK:=zh hK2;have HS0:=zh hst0;have HS1:=zh hst1;obtain ⟨x,hx⟩:∃ x,x=secU mF m.pl 4:=⟨_,rfl⟩;rw [←hx] at HR hsz HS0 HS1;clear hP hst0 hst1 hx hK hK2 hv1 hv2 ha0 hn0 hp0 hr0 hblk hr ha hn hp hc hm b5
    by_cases hz:P.size=0
    ·have hPe:=(size0 P).1 hz;have HE:=zh (HS0.out hz);clear hz HS0 HS1 hle;subst hPe
     go_wp2_with fail
     refine HK.out.mono ?_;rintro e w1 ⟨rfl,hb⟩;go_wp2
     go_roundw
     case rel=>exact ⟨5,by omega,by go_num,by rw [HE.out];exact HR.out.call hb⟩
     case measure=>simp [intOf]
    ·have HE:=zh (HS1.out hz);have h2:¬ P=ByteArray.empty:=fun e=>hz (by rw [e];rfl)
     have h3:¬ P.toList=[]:=by
      rw [Lib.toList_data];intro e
      have:=congrArg List.length e
      exact hz (by simpa using this)
     have h6:(!P.toList.isEmpty)=true:=by
      cases hq:P.toList with
      | nil=>exact absurd hq h3
      | cons a l=>rfl
     have K2:=zh (fun (W:World) (h:Pk w fb m x W)=>pk_tag w fb m x 5 W h (by omega) (by omega));have hpl:=putB_le 5 (by omega);have K3:=zh (fun (W:World) (h:Pk w fb m (x++putB 5) W)=>pk_write w fb m (x++putB 5) P W h (by rw [ByteArray.size_append];omega));clear hz HS0 HS1 hle hsz hpl
     go_wp2_with fail
     refine HK.out.mono ?_;rintro e w1 ⟨rfl,hb⟩
     go_wp2_with fail
     refine (K2.out _ (HR.out.call hb)).mono ?_;rintro e w2 ⟨rfl,h4⟩
     go_wp2_with fail
     refine (K3.out _ h4).mono ?_;rintro e w3 ⟨rfl,h5⟩;go_wp2
     go_roundw
     case rel=>exact ⟨5,by omega,by go_num,by rw [HE.out];exact h5⟩
     case measure=>simp [intOf]
   ·clear g1 g2 g3 g4 g5 g7 g8 g9 g10 g11 b1 b2 b3 b4 b5 b7 b8;obtain ⟨a,n,p,r,_,hv1,hv2,ha0,hn0,hp0,hr0⟩:=g6
    have hf:wr.cell? ⟨fb,12,none⟩=some (.func (.func 205) #[] #[.pointer (some ⟨a,0,none⟩),.pointer (some ⟨n,0,none⟩),.pointer (some ⟨p,0,none⟩)]):=by
     rw [←hv1];exact zcr wr fb 12 _ 161 (0,0) hblk
    have hc:wr.cell? ⟨w.heap.size,5,none⟩=some (.int .u64 m.prev):=hr.cell 5;have ha:wr.cell? ⟨a,0,none⟩=some (.func (.func 140) #[] #[]):=zcr wr a 0 _ _ (0,0) ha0;have hn:wr.cell? ⟨n,0,none⟩=some (.func (.func 170) #[] #[]):=zcr wr n 0 _ _ (0,0) hn0;have hp:wr.cell? ⟨p,0,none⟩=some (.func (.func 171) #[] #[]):=zcr wr p 0 _ _ (0,0) hp0;obtain ⟨mm,hm⟩:=Int.eq_ofNat_of_zero_le b6.1;rw [hm] at hc;have hK:=mput6_any w.heap.size a n p mm wr hc ha hn hp (by omega);rw [←hm] at hK;have hK2:Calls Tryz.prog 205 #[.pointer (some ⟨w.heap.size,0,none⟩),.pointer (some ⟨a,0,none⟩),.pointer (some ⟨n,0,none⟩),.pointer (some ⟨p,0,none⟩)] wr fun e w'=>e=.returned (.string (mP 6 m.pl))∧Below wr.heap.size wr w':=hK;have hle:=mP_le HOK.out HFW.out 6;have HR:=zh hr;have hst0:=secM_no (X:=m.pl) 5;have hst1:=secM_yes (X:=m.pl) 5;obtain ⟨P,hP⟩:∃ P,P=mP 6 m.pl:=⟨_,rfl⟩;rw [show 5+1=6 from rfl,←hP] at hst0 hst1;rw [←hP] at hK2 hle;have HK:=zh hK2;have HS0:=zh hst0;have HS1:=zh hst1;obtain ⟨x,hx⟩:∃ x,x=secU mF m.pl 5:=⟨_,rfl⟩;rw [←hx] at HR hsz HS0 HS1;clear hP hst0 hst1 hx hK hK2 hv1 hv2 ha0 hn0 hp0 hr0 hblk hr ha hn hp hc hm b6
    by_cases hz:P.size=0
    ·have hPe:=(size0 P).1 hz;have HE:=zh (HS0.out hz);clear hz HS0 HS1 hle;subst hPe
     go_wp2_with fail
     refine HK.out.mono ?_;rintro e w1 ⟨rfl,hb⟩;go_wp2
     go_roundw
     case rel=>exact ⟨6,by omega,by go_num,by rw [HE.out];exact HR.out.call hb⟩
     case measure=>simp [intOf]
    ·have HE:=zh (HS1.out hz);have h2:¬ P=ByteArray.empty:=fun e=>hz (by rw [e];rfl)
     have h3:¬ P.toList=[]:=by
      rw [Lib.toList_data];intro e
      have:=congrArg List.length e
      exact hz (by simpa using this)
     have h6:(!P.toList.isEmpty)=true:=by
      cases hq:P.toList with
      | nil=>exact absurd hq h3
      | cons a l=>rfl
     have K2:=zh (fun (W:World) (h:Pk w fb m x W)=>pk_tag w fb m x 6 W h (by omega) (by omega));have hpl:=putB_le 6 (by omega);have K3:=zh (fun (W:World) (h:Pk w fb m (x++putB 6) W)=>pk_write w fb m (x++putB 6) P W h (by rw [ByteArray.size_append];omega));clear hz HS0 HS1 hle hsz hpl
     go_wp2_with fail
     refine HK.out.mono ?_;rintro e w1 ⟨rfl,hb⟩
     go_wp2_with fail
     refine (K2.out _ (HR.out.call hb)).mono ?_;rintro e w2 ⟨rfl,h4⟩
     go_wp2_with fail
     refine (K3.out _ h4).mono ?_;rintro e w3 ⟨rfl,h5⟩;go_wp2
     go_roundw
     case rel=>exact ⟨6,by omega,by go_num,by rw [HE.out];exact h5⟩
     case measure=>simp [intOf]
   ·clear g1 g2 g3 g4 g5 g6 g8 g9 g10 g11 b1 b2 b3 b4 b5 b6 b8;obtain ⟨a,n,p,r,_,hv1,hv2,ha0,hn0,hp0,hr0⟩:=g7
    have hf:wr.cell? ⟨fb,14,none⟩=some (.func (.func 205) #[] #[.pointer (some ⟨a,0,none⟩),.pointer (some ⟨n,0,none⟩),.pointer (some ⟨p,0,none⟩)]):=by
     rw [←hv1];exact zcr wr fb 14 _ 161 (0,0) hblk
    have hc:wr.cell? ⟨w.heap.size,6,none⟩=some (.int .u64 m.commit):=hr.cell 6;have ha:wr.cell? ⟨a,0,none⟩=some (.func (.func 141) #[] #[]):=zcr wr a 0 _ _ (0,0) ha0;have hn:wr.cell? ⟨n,0,none⟩=some (.func (.func 170) #[] #[]):=zcr wr n 0 _ _ (0,0) hn0;have hp:wr.cell? ⟨p,0,none⟩=some (.func (.func 171) #[] #[]):=zcr wr p 0 _ _ (0,0) hp0;obtain ⟨mm,hm⟩:=Int.eq_ofNat_of_zero_le b7.1;rw [hm] at hc;have hK:=mput7_any w.heap.size a n p mm wr hc ha hn hp (by omega);rw [←hm] at hK;have hK2:Calls Tryz.prog 205 #[.pointer (some ⟨w.heap.size,0,none⟩),.pointer (some ⟨a,0,none⟩),.pointer (some ⟨n,0,none⟩),.pointer (some ⟨p,0,none⟩)] wr fun e w'=>e=.returned (.string (mP 7 m.pl))∧Below wr.heap.size wr w':=hK;have hle:=mP_le HOK.out HFW.out 7;have HR:=zh hr;have hst0:=secM_no (X:=m.pl) 6;have hst1:=secM_yes (X:=m.pl) 6;obtain ⟨P,hP⟩:∃ P,P=mP 7 m.pl:=⟨_,rfl⟩;rw [show 6+1=7 from rfl,←hP] at hst0 hst1;rw [←hP] at hK2 hle;have HK:=zh hK2;have HS0:=zh hst0;have HS1:=zh hst1;obtain ⟨x,hx⟩:∃ x,x=secU mF m.pl 6:=⟨_,rfl⟩;rw [←hx] at HR hsz HS0 HS1;clear hP hst0 hst1 hx hK hK2 hv1 hv2 ha0 hn0 hp0 hr0 hblk hr ha hn hp hc hm b7
    by_cases hz:P.size=0
    ·have hPe:=(size0 P).1 hz;have HE:=zh (HS0.out hz);clear hz HS0 HS1 hle;subst hPe
     go_wp2_with fail
     refine HK.out.mono ?_;rintro e w1 ⟨rfl,hb⟩;go_wp2
     go_roundw
     case rel=>exact ⟨7,by omega,by go_num,by rw [HE.out];exact HR.out.call hb⟩
     case measure=>simp [intOf]
    ·have HE:=zh (HS1.out hz);have h2:¬ P=ByteArray.empty:=fun e=>hz (by rw [e];rfl)
     have h3:¬ P.toList=[]:=by
      rw [Lib.toList_data];intro e
      have:=congrArg List.length e
      exact hz (by simpa using this)
     have h6:(!P.toList.isEmpty)=true:=by
      cases hq:P.toList with
      | nil=>exact absurd hq h3
      | cons a l=>rfl
     have K2:=zh (fun (W:World) (h:Pk w fb m x W)=>pk_tag w fb m x 7 W h (by omega) (by omega));have hpl:=putB_le 7 (by omega);have K3:=zh (fun (W:World) (h:Pk w fb m (x++putB 7) W)=>pk_write w fb m (x++putB 7) P W h (by rw [ByteArray.size_append];omega));clear hz HS0 HS1 hle hsz hpl
     go_wp2_with fail
     refine HK.out.mono ?_;rintro e w1 ⟨rfl,hb⟩
     go_wp2_with fail
     refine (K2.out _ (HR.out.call hb)).mono ?_;rintro e w2 ⟨rfl,h4⟩
     go_wp2_with fail
     refine (K3.out _ h4).mono ?_;rintro e w3 ⟨rfl,h5⟩;go_wp2
     go_roundw
     case rel=>exact ⟨7,by omega,by go_num,by rw [HE.out];exact h5⟩
     case measure=>simp [intOf]
   ·clear g1 g2 g3 g4 g5 g6 g7 g9 g10 g11 b1 b2 b3 b4 b5 b6 b7;obtain ⟨a,n,p,r,_,hv1,hv2,ha0,hn0,hp0,hr0⟩:=g8
    have hf:wr.cell? ⟨fb,16,none⟩=some (.func (.func 205) #[] #[.pointer (some ⟨a,0,none⟩),.pointer (some ⟨n,0,none⟩),.pointer (some ⟨p,0,none⟩)]):=by
     rw [←hv1];exact zcr wr fb 16 _ 161 (0,0) hblk
    have hc:wr.cell? ⟨w.heap.size,7,none⟩=some (.int .u64 m.mark):=hr.cell 7;have ha:wr.cell? ⟨a,0,none⟩=some (.func (.func 142) #[] #[]):=zcr wr a 0 _ _ (0,0) ha0;have hn:wr.cell? ⟨n,0,none⟩=some (.func (.func 170) #[] #[]):=zcr wr n 0 _ _ (0,0) hn0;have hp:wr.cell? ⟨p,0,none⟩=some (.func (.func 171) #[] #[]):=zcr wr p 0 _ _ (0,0) hp0;obtain ⟨mm,hm⟩:=Int.eq_ofNat_of_zero_le b8.1;rw [hm] at hc;have hK:=mput8_any w.heap.size a n p mm wr hc ha hn hp (by omega);rw [←hm] at hK;have hK2:Calls Tryz.prog 205 #[.pointer (some ⟨w.heap.size,0,none⟩),.pointer (some ⟨a,0,none⟩),.pointer (some ⟨n,0,none⟩),.pointer (some ⟨p,0,none⟩)] wr fun e w'=>e=.returned (.string (mP 8 m.pl))∧Below wr.heap.size wr w':=hK;have hle:=mP_le HOK.out HFW.out 8;have HR:=zh hr;have hst0:=secM_no (X:=m.pl) 7;have hst1:=secM_yes (X:=m.pl) 7;obtain ⟨P,hP⟩:∃ P,P=mP 8 m.pl:=⟨_,rfl⟩;rw [show 7+1=8 from rfl,←hP] at hst0 hst1;rw [←hP] at hK2 hle;have HK:=zh hK2;have HS0:=zh hst0;have HS1:=zh hst1;obtain ⟨x,hx⟩:∃ x,x=secU mF m.pl 7:=⟨_,rfl⟩;rw [←hx] at HR hsz HS0 HS1;clear hP hst0 hst1 hx hK hK2 hv1 hv2 ha0 hn0 hp0 hr0 hblk hr ha hn hp hc hm b8
    by_cases hz:P.size=0
    ·have hPe:=(size0 P).1 hz;have HE:=zh (HS0.out hz);clear hz HS0 HS1 hle;subst hPe
     go_wp2_with fail
     refine HK.out.mono ?_;rintro e w1 ⟨rfl,hb⟩;go_wp2
     go_roundw
     case rel=>exact ⟨8,by omega,by go_num,by rw [HE.out];exact HR.out.call hb⟩
     case measure=>simp [intOf]
    ·have HE:=zh (HS1.out hz);have h2:¬ P=ByteArray.empty:=fun e=>hz (by rw [e];rfl)
     have h3:¬ P.toList=[]:=by
      rw [Lib.toList_data];intro e
      have:=congrArg List.length e
      exact hz (by simpa using this)
     have h6:(!P.toList.isEmpty)=true:=by
      cases hq:P.toList with
      | nil=>exact absurd hq h3
      | cons a l=>rfl
     have K2:=zh (fun (W:World) (h:Pk w fb m x W)=>pk_tag w fb m x 8 W h (by omega) (by omega));have hpl:=putB_le 8 (by omega);have K3:=zh (fun (W:World) (h:Pk w fb m (x++putB 8) W)=>pk_write w fb m (x++putB 8) P W h (by rw [ByteArray.size_append];omega));clear hz HS0 HS1 hle hsz hpl
     go_wp2_with fail
     refine HK.out.mono ?_;rintro e w1 ⟨rfl,hb⟩
     go_wp2_with fail
     refine (K2.out _ (HR.out.call hb)).mono ?_;rintro e w2 ⟨rfl,h4⟩
     go_wp2_with fail
     refine (K3.out _ h4).mono ?_;rintro e w3 ⟨rfl,h5⟩;go_wp2
     go_roundw
     case rel=>exact ⟨8,by omega,by go_num,by rw [HE.out];exact h5⟩
     case measure=>simp [intOf]
   ·clear g1 g2 g3 g4 g5 g6 g7 g8 g10 g11 b1 b2 b3 b4 b5 b6 b7 b8;obtain ⟨a,n,p,r,_,hv1,hv2,ha0,hn0,hp0,hr0⟩:=g9
    have hf:wr.cell? ⟨fb,18,none⟩=some (.func (.func 207) #[] #[.pointer (some ⟨a,0,none⟩),.pointer (some ⟨n,0,none⟩),.pointer (some ⟨p,0,none⟩)]):=by
     rw [←hv1];exact zcr wr fb 18 _ 161 (0,0) hblk
    have hc:wr.cell? ⟨w.heap.size,8,none⟩=some (.bool m.ok):=hr.cell 8;have ha:wr.cell? ⟨a,0,none⟩=some (.func (.func 144) #[] #[]):=zcr wr a 0 _ _ (0,0) ha0;have hn:wr.cell? ⟨n,0,none⟩=some (.func (.func 180) #[] #[]):=zcr wr n 0 _ _ (0,0) hn0;have hp:wr.cell? ⟨p,0,none⟩=some (.func (.func 181) #[] #[]):=zcr wr p 0 _ _ (0,0) hp0;have hK:=mput9_any w.heap.size a n p m.ok wr hc ha hn hp
    skip
    have hK2:Calls Tryz.prog 207 #[.pointer (some ⟨w.heap.size,0,none⟩),.pointer (some ⟨a,0,none⟩),.pointer (some ⟨n,0,none⟩),.pointer (some ⟨p,0,none⟩)] wr fun e w'=>e=.returned (.string (mP 9 m.pl))∧Below wr.heap.size wr w':=hK;have hle:=mP_le HOK.out HFW.out 9;have HR:=zh hr;have hst0:=secM_no (X:=m.pl) 8;have hst1:=secM_yes (X:=m.pl) 8;obtain ⟨P,hP⟩:∃ P,P=mP 9 m.pl:=⟨_,rfl⟩;rw [show 8+1=9 from rfl,←hP] at hst0 hst1;rw [←hP] at hK2 hle;have HK:=zh hK2;have HS0:=zh hst0;have HS1:=zh hst1;obtain ⟨x,hx⟩:∃ x,x=secU mF m.pl 8:=⟨_,rfl⟩;rw [←hx] at HR hsz HS0 HS1;clear hP hst0 hst1 hx hK hK2 hv1 hv2 ha0 hn0 hp0 hr0 hblk hr ha hn hp hc
    by_cases hz:P.size=0
    ·have hPe:=(size0 P).1 hz;have HE:=zh (HS0.out hz);clear hz HS0 HS1 hle;subst hPe
     go_wp2_with fail
     refine HK.out.mono ?_;rintro e w1 ⟨rfl,hb⟩;go_wp2
     go_roundw
     case rel=>exact ⟨9,by omega,by go_num,by rw [HE.out];exact HR.out.call hb⟩
     case measure=>simp [intOf]
    ·have HE:=zh (HS1.out hz);have h2:¬ P=ByteArray.empty:=fun e=>hz (by rw [e];rfl)
     have h3:¬ P.toList=[]:=by
      rw [Lib.toList_data];intro e
      have:=congrArg List.length e
      exact hz (by simpa using this)
     have h6:(!P.toList.isEmpty)=true:=by
      cases hq:P.toList with
      | nil=>exact absurd hq h3
      | cons a l=>rfl
     have K2:=zh (fun (W:World) (h:Pk w fb m x W)=>pk_tag w fb m x 9 W h (by omega) (by omega));have hpl:=putB_le 9 (by omega);have K3:=zh (fun (W:World) (h:Pk w fb m (x++putB 9) W)=>pk_write w fb m (x++putB 9) P W h (by rw [ByteArray.size_append];omega));clear hz HS0 HS1 hle hsz hpl
     go_wp2_with fail
     refine HK.out.mono ?_;rintro e w1 ⟨rfl,hb⟩
     go_wp2_with fail
     refine (K2.out _ (HR.out.call hb)).mono ?_;rintro e w2 ⟨rfl,h4⟩
     go_wp2_with fail
     refine (K3.out _ h4).mono ?_;rintro e w3 ⟨rfl,h5⟩;go_wp2
     go_roundw
     case rel=>exact ⟨9,by omega,by go_num,by rw [HE.out];exact h5⟩
     case measure=>simp [intOf]
   ·clear g1 g2 g3 g4 g5 g6 g7 g8 g9 g11 b1 b2 b3 b4 b5 b6 b7 b8;obtain ⟨a,n,p,r,_,hv1,hv2,ha0,hn0,hp0,hr0⟩:=g10
    have hf:wr.cell? ⟨fb,20,none⟩=some (.func (.func 210) #[] #[.pointer (some ⟨a,0,none⟩),.pointer (some ⟨n,0,none⟩),.pointer (some ⟨p,0,none⟩)]):=by
     rw [←hv1];exact zcr wr fb 20 _ 161 (0,0) hblk
    have hc:wr.cell? ⟨w.heap.size,10,none⟩=some (.string m.snap):=hr.cell 10;have ha:wr.cell? ⟨a,0,none⟩=some (.func (.func 146) #[] #[]):=zcr wr a 0 _ _ (0,0) ha0;have hn:wr.cell? ⟨n,0,none⟩=some (.func (.func 174) #[] #[]):=zcr wr n 0 _ _ (0,0) hn0;have hp:wr.cell? ⟨p,0,none⟩=some (.func (.func 175) #[] #[]):=zcr wr p 0 _ _ (0,0) hp0;have hK:=mput10_any w.heap.size a n p m.snap wr hc ha hn hp (by have:=HSN.out;omega)
    skip
    have hK2:Calls Tryz.prog 210 #[.pointer (some ⟨w.heap.size,0,none⟩),.pointer (some ⟨a,0,none⟩),.pointer (some ⟨n,0,none⟩),.pointer (some ⟨p,0,none⟩)] wr fun e w'=>e=.returned (.string (mP 10 m.pl))∧Below wr.heap.size wr w':=hK;have hle:=mP_le HOK.out HFW.out 10;have HR:=zh hr;have hst0:=secM_no (X:=m.pl) 9;have hst1:=secM_yes (X:=m.pl) 9;obtain ⟨P,hP⟩:∃ P,P=mP 10 m.pl:=⟨_,rfl⟩;rw [show 9+1=10 from rfl,←hP] at hst0 hst1;rw [←hP] at hK2 hle;have HK:=zh hK2;have HS0:=zh hst0;have HS1:=zh hst1;obtain ⟨x,hx⟩:∃ x,x=secU mF m.pl 9:=⟨_,rfl⟩;rw [←hx] at HR hsz HS0 HS1;clear hP hst0 hst1 hx hK hK2 hv1 hv2 ha0 hn0 hp0 hr0 hblk hr ha hn hp hc
    by_cases hz:P.size=0
    ·have hPe:=(size0 P).1 hz;have HE:=zh (HS0.out hz);clear hz HS0 HS1 hle;subst hPe
     go_wp2_with fail
     refine HK.out.mono ?_;rintro e w1 ⟨rfl,hb⟩;go_wp2
     go_roundw
     case rel=>exact ⟨10,by omega,by go_num,by rw [HE.out];exact HR.out.call hb⟩
     case measure=>simp [intOf]
    ·have HE:=zh (HS1.out hz);have h2:¬ P=ByteArray.empty:=fun e=>hz (by rw [e];rfl)
     have h3:¬ P.toList=[]:=by
      rw [Lib.toList_data];intro e
      have:=congrArg List.length e
      exact hz (by simpa using this)
     have h6:(!P.toList.isEmpty)=true:=by
      cases hq:P.toList with
      | nil=>exact absurd hq h3
      | cons a l=>rfl
     have K2:=zh (fun (W:World) (h:Pk w fb m x W)=>pk_tag w fb m x 10 W h (by omega) (by omega));have hpl:=putB_le 10 (by omega);have K3:=zh (fun (W:World) (h:Pk w fb m (x++putB 10) W)=>pk_write w fb m (x++putB 10) P W h (by rw [ByteArray.size_append];omega));clear hz HS0 HS1 hle hsz hpl
     go_wp2_with fail
     refine HK.out.mono ?_;rintro e w1 ⟨rfl,hb⟩
     go_wp2_with fail
     refine (K2.out _ (HR.out.call hb)).mono ?_;rintro e w2 ⟨rfl,h4⟩
     go_wp2_with fail
     refine (K3.out _ h4).mono ?_;rintro e w3 ⟨rfl,h5⟩;go_wp2
     go_roundw
     case rel=>exact ⟨10,by omega,by go_num,by rw [HE.out];exact h5⟩
     case measure=>simp [intOf]
   ·clear g1 g2 g3 g4 g5 g6 g7 g8 g9 g10 b1 b2 b3 b4 b5 b6 b7 b8;obtain ⟨a,n,p,r,_,hv1,hv2,ha0,hn0,hp0,hr0⟩:=g11
    have hf:wr.cell? ⟨fb,22,none⟩=some (.func (.func 184) #[] #[.pointer (some ⟨a,0,none⟩),.pointer (some ⟨n,0,none⟩),.pointer (some ⟨p,0,none⟩)]):=by
     rw [←hv1];exact zcr wr fb 22 _ 161 (0,0) hblk
    have hc:wr.cell? ⟨w.heap.size,9,none⟩=some (.slice m.A m.n m.c):=hr.cell 9;have ha:wr.cell? ⟨a,0,none⟩=some (.func (.func 148) #[] #[]):=zcr wr a 0 _ _ (0,0) ha0;have hn:wr.cell? ⟨n,0,none⟩=some (.func (.func 149) #[] #[]):=zcr wr n 0 _ _ (0,0) hn0;have hp:wr.cell? ⟨p,0,none⟩=some (.func (.func 150) #[] #[]):=zcr wr p 0 _ _ (0,0) hp0;have hK:=mput11_any w.heap.size a n p m.A m.n m.c m.es wr hc ha hn hp (hr.en.mr hr.be.size) HLN.out HOE.out
    skip
    have hK2:Calls Tryz.prog 184 #[.pointer (some ⟨w.heap.size,0,none⟩),.pointer (some ⟨a,0,none⟩),.pointer (some ⟨n,0,none⟩),.pointer (some ⟨p,0,none⟩)] wr fun e w'=>e=.returned (.string (mP 11 m.pl))∧Below wr.heap.size wr w':=hK;have hle:=mP_le HOK.out HFW.out 11;have HR:=zh hr;have hst0:=secM_no (X:=m.pl) 10;have hst1:=secM_yes (X:=m.pl) 10;obtain ⟨P,hP⟩:∃ P,P=mP 11 m.pl:=⟨_,rfl⟩;rw [show 10+1=11 from rfl,←hP] at hst0 hst1;rw [←hP] at hK2 hle;have HK:=zh hK2;have HS0:=zh hst0;have HS1:=zh hst1;obtain ⟨x,hx⟩:∃ x,x=secU mF m.pl 10:=⟨_,rfl⟩;rw [←hx] at HR hsz HS0 HS1;clear hP hst0 hst1 hx hK hK2 hv1 hv2 ha0 hn0 hp0 hr0 hblk hr ha hn hp hc
    by_cases hz:P.size=0
    ·have hPe:=(size0 P).1 hz;have HE:=zh (HS0.out hz);clear hz HS0 HS1 hle;subst hPe
     go_wp2_with fail
     refine HK.out.mono ?_;rintro e w1 ⟨rfl,hb⟩;go_wp2
     go_roundw
     case rel=>exact ⟨11,by omega,by go_num,by rw [HE.out];exact HR.out.call hb⟩
     case measure=>simp [intOf]
    ·have HE:=zh (HS1.out hz);have h2:¬ P=ByteArray.empty:=fun e=>hz (by rw [e];rfl)
     have h3:¬ P.toList=[]:=by
      rw [Lib.toList_data];intro e
      have:=congrArg List.length e
      exact hz (by simpa using this)
     have h6:(!P.toList.isEmpty)=true:=by
      cases hq:P.toList with
      | nil=>exact absurd hq h3
      | cons a l=>rfl
     have K2:=zh (fun (W:World) (h:Pk w fb m x W)=>pk_tag w fb m x 11 W h (by omega) (by omega));have hpl:=putB_le 11 (by omega);have K3:=zh (fun (W:World) (h:Pk w fb m (x++putB 11) W)=>pk_write w fb m (x++putB 11) P W h (by rw [ByteArray.size_append];omega));clear hz HS0 HS1 hle hsz hpl
     go_wp2_with fail
     refine HK.out.mono ?_;rintro e w1 ⟨rfl,hb⟩
     go_wp2_with fail
     refine (K2.out _ (HR.out.call hb)).mono ?_;rintro e w2 ⟨rfl,h4⟩
     go_wp2_with fail
     refine (K3.out _ h4).mono ?_;rintro e w3 ⟨rfl,h5⟩;go_wp2
     go_roundw
     case rel=>exact ⟨11,by omega,by go_num,by rw [HE.out];exact h5⟩
     case measure=>simp [intOf]
  ·have hk11:k=11:=by omega
   subst hk11;have K2:=zh (pk_tag w fb m (secU mF m.pl 11) 0 wr hr (by omega) (by omega));have hlen:0<(secU mF m.pl 11++putB 0).size:=by rw [ByteArray.size_append];have:=putB_pos_b 0;omega
   have K3:=zh (fun (W:World) (h:Pk w fb m (secU mF m.pl 11++putB 0) W)=>(wstring_b _ _ _ W h.t hlen).mono fun e w' ⟨h1,h2⟩=>And.intro h1 (h.be.trans (h2.mono (Nat.le_succ _))));have HE:Hid (sbM m.pl=secU mF m.pl 11++putB 0):=rfl;clear hr hlen hsz b1 b2 b3 b4 b5 b6 b7 b8 HOK HFW hlt hk
   go_wp2_with fail
   refine K2.out.mono ?_;rintro e w1 ⟨rfl,h4⟩
   go_wp2_with fail
   refine (K3.out _ h4).mono ?_;rintro e w2 ⟨rfl,h5⟩;go_wp2;go_ret;exact ⟨by rw [HE.out];rfl,h5⟩
end Go.Proofs.YtpdbeijfchmlgaaGreat.D
