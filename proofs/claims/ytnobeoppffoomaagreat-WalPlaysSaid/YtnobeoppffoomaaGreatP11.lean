/-
  WalPlays: FR WP W2.
  Conditions: named in each theorem.
-/
import Derived.Test.YtnobeoppffoomaaGreatP10
import Derived.Test.YtnobeoppffoomaaGreatP09
import Derived.Test.YtnobeoppffoomaaGreatP08
import Derived.Test.YtnobeoppffoomaaGreatP00
import Derived.Test.YtnobeoppffoomaaGreatP0
set_option linter.unusedVariables false
set_option linter.unusedSimpArgs false
set_option maxHeartbeats 8000000
set_option maxRecDepth 100000
namespace Go.Proofs.YtnobeoppffoomaaGreat
open Go.RowKit
open Vi
theorem rnext1_any (s:ByteArray) (w:World) (hs:s.size≤281474976710656) (h1:nV s=1) :
 Calls Tryz.prog 45 #[.string s] w fun e w'=>e=.returned (.tuple #[.int .i64 (nxV s),.string (nxB s),.int .i64 (nxN s),.bool (nOk s)])∧Below w.heap.size w w':=by
 have KN:=zh (fun (W:World)=>rnew_any s W)
 have HS:=zh hs
 have HS1:Hid ((fixT s 1).size≤281474976710656):=Nat.le_trans (fixT_size s 1) hs
 have HM:Hid ((fixV (fixT s 1) 4:Nat)=nM s):=by show _=_;unfold nM;rw [if_pos h1]
 have HT:Hid (fixT (fixT s 1) 4=nT s):=by show _=_;unfold nT;rw [if_pos h1]
 have HO2:Hid ((false||!hasF s 1||!hasF (fixT s 1) 4)=!nO2 s):=by show _=_;unfold nO2;rw [if_pos h1];show (false||!hasF s 1||!hasF (fixT s 1) 4)=!(hasF s 1&&hasF (fixT s 1) 4);cases hasF s 1<;>cases hasF (fixT s 1) 4<;>rfl
 have HTS:Hid ((nT s).size≤s.size):=by show _≤_;rw [←HT.out];exact Nat.le_trans (fixT_size _ 4) (fixT_size s 1)
 have HU:Hid ((nU s).size≤(nT s).size):=bytT_size _ _
 have HR:Hid ((!nO2 s||!hasF (nT s) 4||!hasB (nU s) (nM s))=!nR s):=by show _=_;rw [show hasF (nT s) 4=hasB (nT s) 4 from hasFB _ 4 (by omega)];unfold nR;cases nO2 s<;>cases hasB (nT s) 4<;>cases hasB (nU s) (nM s)<;>rfl
 have HQ:Hid (nOk s=(decide (nM s≤(nU s).size)&&(nR s&&(pkO (nV s) (nBd s)&&(decide ((pack (nV s) (nBd s)).size≤s.size)&&((s.extract 0 (pack (nV s) (nBd s)).size).toList==(pack (nV s) (nBd s)).toList)))))):=(rOkF_eq s).symm
 have HPS:Hid (pkO (nV s) (nBd s)=true→pkS (nV s) (nBd s)=pack (nV s) (nBd s)):=fun h=>by unfold pkS;rw [if_pos h]
 have HPZ:=zh (pkS_size (nV s) (nBd s))
 have HUS:Hid ((nU s).size≤281474976710656):=Nat.le_trans HU.out (Nat.le_trans HTS.out hs)
 have HU4:Hid (fixT (nT s) 4=nU s):=fixBT _ 4 (by omega)
 have HNN:Hid (nOk s=true→(s.size:Int)-(nW s).size=(pack (nV s) (nBd s)).size):=fun h=>nxN_eq h
 have KP:=zh (fun (W:World)=>rpack_any (nV s) (nBd s) W)
 have hsane0:Sane s false:=fun h=>by cases h
 have SA1:=zh (sane_fix s false 1 hsane0)
 have SA2:Hid (Sane (nT s) (!nO2 s)):=by
  have h:=sane_fix _ _ 4 (sane_fix s false 1 hsane0)
  have e1:=HO2.out
  have e2:=HT.out
  show Sane _ _
  rw [←e1,←e2]
  exact h
 have SA3:=zh (sane_fix _ _ 4 SA2.out)
 obtain ⟨v,hv⟩:∃ v,v=nV s:=⟨_,rfl⟩
 obtain ⟨F,hF⟩:∃ F,F=fixV s 1:=⟨_,rfl⟩
 have hlt:F<256:=by rw [hF];exact fixV_lt1 s
 have hvF:(F:Int)-160=v:=by rw [hv,hF];rfl
 have hw1:IntKind.i64.wrap (F:Int)=F:=IntWalk.i64_in _ (by omega)
 have hw2:wrap64 ((F:Int)-160)=v:=by rw [←hvF];unfold wrap64;omega
 have HF:Hid (fixV s 1=F):=hF.symm
 have HVV:Hid (nV s=v):=hv.symm
 rw [←hv] at h1 HQ HPS KP HNN
 obtain ⟨M,hM⟩:∃ M,M=nM s:=⟨_,rfl⟩
 obtain ⟨T,hT⟩:∃ T,T=nT s:=⟨_,rfl⟩
 obtain ⟨U,hU⟩:∃ U,U=nU s:=⟨_,rfl⟩
 obtain ⟨r,hr⟩:∃ r,r=nR s:=⟨_,rfl⟩
 have HB4:Hid (bytV U M=nBd s):=by show _=_;rw [hM,hU];rfl
 have HW4:Hid (bytT U M=nW s):=by show _=_;rw [hM,hU];rfl
 rw [←hM,←hU,←hr] at HQ
 rw [←hr,←hT,←hU,←hM] at HR
 rw [←hT] at HT HTS HU HU4 SA2 SA3
 rw [←hU] at HUS HU HU4
 rw [←hM] at HM
 rw [HU4.out] at SA3
 have HML:Hid (M<18446744073709551616):=by show _<_;rw [hM];exact nM_lt s
 obtain ⟨B,hB⟩:∃ B,B=nBd s:=⟨_,rfl⟩
 have HBB:Hid (nBd s=B):=hB.symm
 rw [←hB] at HQ HPS HPZ HNN KP HB4
 obtain ⟨P,hP⟩:∃ P,P=pkS v B:=⟨_,rfl⟩
 obtain ⟨po,hpo⟩:∃ po,po=pkO v B:=⟨_,rfl⟩
 rw [←hP,←hpo] at KP
 rw [HVV.out,←hP] at HPZ
 rw [←hpo] at HPS HQ
 rw [←hP] at HPS
 obtain ⟨PK,hPK⟩:∃ PK,PK=pack v B:=⟨_,rfl⟩
 rw [←hPK] at HPS HQ HNN
 have hUw:IntKind.u64.wrap (U.size:Int)=U.size:=by have:=HUS.out;rw [IntKind.wrap_u64];omega
 subst h1
 clear hs hM hT hU hr hF hv hlt hvF hB hP hpo hPK hsane0
 go_enter Tryz.func45,Tryz.ntmps45
 go_wp2_with fail
 refine (KN.out _).mono ?_
 rintro e w1 ⟨rfl,hw1'⟩
 have R1:Hid (Rd 145 w.heap.size s false w1):=by show Rd _ _ _ _ _;rw [hw1'];exact Rd.new w 145 s false
 have B1:Hid (Below w.heap.size w w1):=by show Below _ _ _;rw [hw1'];exact (Below.refl _ _).alloc (Nat.le_refl _) _
 clear hw1'
 go_wp2_with fail
 refine (rfixedr_any _ _ _ 1 _ R1.out (fun h=>by cases h) HS.out).mono ?_
 rintro e w2 ⟨rfl,r2,g2⟩
 rw [HF.out]
 have R2:=zh r2
 have B2:Hid (Below w.heap.size w w2):=below_grownBy B1.out g2 B1.out.size (Nat.le_refl _)
 clear r2 g2
 unfold rdp at *
 go_wp2_with fail
 refine (rfixedr_any _ _ _ 4 _ R2.out SA1.out HS1.out).mono ?_
 rintro e w4 ⟨rfl,r4,g4⟩
 rw [HM.out]
 rw [HT.out,HO2.out] at r4
 have R4:=zh r4
 have B4:Hid (Below w.heap.size w w4):=below_grownBy B2.out g4 B2.out.size (Nat.le_refl _)
 clear r4 g4
 go_wp2_with fail
 refine (rfixedr_any _ _ _ 4 _ R4.out SA2.out (Nat.le_trans HTS.out HS.out)).mono ?_
 rintro e w5 ⟨rfl,r5,g5⟩
 rw [HU4.out] at r5
 have R5:=zh r5
 have B5:Hid (Below w.heap.size w w5):=below_grownBy B4.out g5 B4.out.size (Nat.le_refl _)
 have c0:=r5.cell0
 clear r5 g5
 by_cases hgt:(U.size:Int)<(M:Int)
 ·have hno:nOk s=false:=by rw [HQ.out,decide_eq_false (by omega)];rfl
  have HNO:=zh hno
  clear hno
  go_wp2
  refine bodyPost_ret (v:=_) (by simp [results,Tryz.results45,go_sem]) rfl ⟨nx_ret_no HNO.out,B5.out⟩
 have hus:=HUS.out
 have hMw:IntKind.i64.wrap (M:Int)=M:=IntWalk.i64_in _ (by omega)
 have hgt2:¬ ((U.size:Int)<(M:Int)):=hgt
 have HGT:Hid (decide (M≤U.size)=true):=decide_eq_true (by omega)
 go_wp2_with fail
 refine (rbytes_any _ _ _ (M:Int) _ R5.out SA3.out HUS.out).mono ?_
 rintro e w6 ⟨rfl,r6,g6⟩
 rw [HB4.out]
 have e6:(!nO2 s||!hasF T 4||!hasB U (M:Int))=!r:=HR.out
 rw [HW4.out,e6] at r6
 have R6:=zh r6
 have B6:Hid (Below w.heap.size w w6):=below_grownBy B5.out g6 B5.out.size (Nat.le_refl _)
 clear r6 g6 c0 hgt hgt2 hMw hUw e6
 go_wp2_with fail
 refine (KP.out _).mono ?_
 rintro e w7 ⟨rfl,b7⟩
 have B7:Hid (Below w.heap.size w w7):=B6.out.trans (b7.mono B6.out.size)
 have R7:=zh (R6.out.below b7 R6.out.lt)
 have c1:=R7.out.cell1
 clear b7
 rw [HGT.out,Bool.true_and] at HQ
 cases r with
 | false =>
   have HNO:Hid (nOk s=false):=HQ.out
   go_wp2
   refine bodyPost_ret (v:=_) (by simp [results,Tryz.results45,go_sem]) rfl ⟨nx_ret_no HNO.out,B7.out⟩
 | true =>
   cases po with
   | false =>
     have HNO:Hid (nOk s=false):=HQ.out
     go_wp2
     refine bodyPost_ret (v:=_) (by simp [results,Tryz.results45,go_sem]) rfl ⟨nx_ret_no HNO.out,B7.out⟩
   | true =>
     have hpk:=HPS.out rfl
     subst hpk
     by_cases hlen:(s.size:Int)<(P.size:Int)
     ·have HNO:Hid (nOk s=false):=by show _=_;rw [HQ.out,decide_eq_false (show ¬ P.size≤s.size by omega)];rfl
      go_wp2
      refine bodyPost_ret (v:=_) (by simp [results,Tryz.results45,go_sem]) rfl ⟨nx_ret_no HNO.out,B7.out⟩
     ·have hle:P.size≤s.size:=by omega
      obtain ⟨q,hq⟩:∃ q,((s.extract 0 P.size).toList==P.toList)=q:=⟨_,rfl⟩
      have HQ2:Hid (nOk s=q):=by show _=_;rw [HQ.out,decide_eq_true hle,hq];rfl
      cases q with
      | false =>
        go_wp2
        refine bodyPost_ret (v:=_) (by simp [results,Tryz.results45,go_sem]) rfl ⟨nx_ret_no HQ2.out,B7.out⟩
      | true =>
        go_wp2
        refine bodyPost_ret (v:=.tuple #[.int .i64 1,.string B,.int .i64 P.size,.bool true]) (by simp [results,Tryz.results45,go_sem,hw2]) rfl ⟨nx_ret_yes HQ2.out HVV.out HBB.out (HNN.out HQ2.out),B7.out⟩
theorem rnextO_any (s:ByteArray) (w:World) (hs:s.size≤281474976710656) (h1:nV s≠1) :
 Calls Tryz.prog 45 #[.string s] w fun e w'=>e=.returned (.tuple #[.int .i64 (nxV s),.string (nxB s),.int .i64 (nxN s),.bool (nOk s)])∧Below w.heap.size w w':=by
 have KN:=zh (fun (W:World)=>rnew_any s W)
 have HS:=zh hs
 have HS1:Hid ((fixT s 1).size≤281474976710656):=Nat.le_trans (fixT_size s 1) hs
 have HM:Hid ((varV (fixT s 1):Nat)=nM s):=by show _=_;unfold nM;rw [if_neg h1]
 have HT:Hid (varT (fixT s 1)=nT s):=by show _=_;unfold nT;rw [if_neg h1]
 have HO2:Hid ((false||!hasF s 1||!varO (fixT s 1))=!nO2 s):=by show _=_;unfold nO2;rw [if_neg h1];show (false||!hasF s 1||!varO (fixT s 1))=!(hasF s 1&&varO (fixT s 1));cases hasF s 1<;>cases varO (fixT s 1)<;>rfl
 have HTS:Hid ((nT s).size≤s.size):=by show _≤_;rw [←HT.out];exact Nat.le_trans (varT_size _) (fixT_size s 1)
 have HU:Hid ((nU s).size≤(nT s).size):=bytT_size _ _
 have HR:Hid ((!nO2 s||!hasF (nT s) 4||!hasB (nU s) (nM s))=!nR s):=by show _=_;rw [show hasF (nT s) 4=hasB (nT s) 4 from hasFB _ 4 (by omega)];unfold nR;cases nO2 s<;>cases hasB (nT s) 4<;>cases hasB (nU s) (nM s)<;>rfl
 have HQ:Hid (nOk s=(decide (nM s≤(nU s).size)&&(nR s&&(pkO (nV s) (nBd s)&&(decide ((pack (nV s) (nBd s)).size≤s.size)&&((s.extract 0 (pack (nV s) (nBd s)).size).toList==(pack (nV s) (nBd s)).toList)))))):=(rOkF_eq s).symm
 have HPS:Hid (pkO (nV s) (nBd s)=true→pkS (nV s) (nBd s)=pack (nV s) (nBd s)):=fun h=>by unfold pkS;rw [if_pos h]
 have HPZ:=zh (pkS_size (nV s) (nBd s))
 have HUS:Hid ((nU s).size≤281474976710656):=Nat.le_trans HU.out (Nat.le_trans HTS.out hs)
 have HU4:Hid (fixT (nT s) 4=nU s):=fixBT _ 4 (by omega)
 have HNN:Hid (nOk s=true→(s.size:Int)-(nW s).size=(pack (nV s) (nBd s)).size):=fun h=>nxN_eq h
 have KP:=zh (fun (W:World)=>rpack_any (nV s) (nBd s) W)
 have hsane0:Sane s false:=fun h=>by cases h
 have SA1:=zh (sane_fix s false 1 hsane0)
 have SA2:Hid (Sane (nT s) (!nO2 s)):=by
  have h:=sane_var _ _ (sane_fix s false 1 hsane0)
  have e1:=HO2.out
  have e2:=HT.out
  show Sane _ _
  rw [←e1,←e2]
  exact h
 have SA3:=zh (sane_fix _ _ 4 SA2.out)
 obtain ⟨v,hv⟩:∃ v,v=nV s:=⟨_,rfl⟩
 obtain ⟨F,hF⟩:∃ F,F=fixV s 1:=⟨_,rfl⟩
 have hlt:F<256:=by rw [hF];exact fixV_lt1 s
 have hvF:(F:Int)-160=v:=by rw [hv,hF];rfl
 have hw1:IntKind.i64.wrap (F:Int)=F:=IntWalk.i64_in _ (by omega)
 have hw2:wrap64 ((F:Int)-160)=v:=by rw [←hvF];unfold wrap64;omega
 have HF:Hid (fixV s 1=F):=hF.symm
 have HVV:Hid (nV s=v):=hv.symm
 rw [←hv] at h1 HQ HPS KP HNN
 obtain ⟨M,hM⟩:∃ M,M=nM s:=⟨_,rfl⟩
 obtain ⟨T,hT⟩:∃ T,T=nT s:=⟨_,rfl⟩
 obtain ⟨U,hU⟩:∃ U,U=nU s:=⟨_,rfl⟩
 obtain ⟨r,hr⟩:∃ r,r=nR s:=⟨_,rfl⟩
 have HB4:Hid (bytV U M=nBd s):=by show _=_;rw [hM,hU];rfl
 have HW4:Hid (bytT U M=nW s):=by show _=_;rw [hM,hU];rfl
 rw [←hM,←hU,←hr] at HQ
 rw [←hr,←hT,←hU,←hM] at HR
 rw [←hT] at HT HTS HU HU4 SA2 SA3
 rw [←hU] at HUS HU HU4
 rw [←hM] at HM
 rw [HU4.out] at SA3
 have HML:Hid (M<18446744073709551616):=by show _<_;rw [hM];exact nM_lt s
 obtain ⟨B,hB⟩:∃ B,B=nBd s:=⟨_,rfl⟩
 have HBB:Hid (nBd s=B):=hB.symm
 rw [←hB] at HQ HPS HPZ HNN KP HB4
 obtain ⟨P,hP⟩:∃ P,P=pkS v B:=⟨_,rfl⟩
 obtain ⟨po,hpo⟩:∃ po,po=pkO v B:=⟨_,rfl⟩
 rw [←hP,←hpo] at KP
 rw [HVV.out,←hP] at HPZ
 rw [←hpo] at HPS HQ
 rw [←hP] at HPS
 obtain ⟨PK,hPK⟩:∃ PK,PK=pack v B:=⟨_,rfl⟩
 rw [←hPK] at HPS HQ HNN
 have hUw:IntKind.u64.wrap (U.size:Int)=U.size:=by have:=HUS.out;rw [IntKind.wrap_u64];omega
 clear hs hM hT hU hr hF hv hlt hvF hB hP hpo hPK hsane0
 go_enter Tryz.func45,Tryz.ntmps45
 go_wp2_with fail
 refine (KN.out _).mono ?_
 rintro e w1 ⟨rfl,hw1'⟩
 have R1:Hid (Rd 145 w.heap.size s false w1):=by show Rd _ _ _ _ _;rw [hw1'];exact Rd.new w 145 s false
 have B1:Hid (Below w.heap.size w w1):=by show Below _ _ _;rw [hw1'];exact (Below.refl _ _).alloc (Nat.le_refl _) _
 clear hw1'
 go_wp2_with fail
 refine (rfixedr_any _ _ _ 1 _ R1.out (fun h=>by cases h) HS.out).mono ?_
 rintro e w2 ⟨rfl,r2,g2⟩
 rw [HF.out]
 have R2:=zh r2
 have B2:Hid (Below w.heap.size w w2):=below_grownBy B1.out g2 B1.out.size (Nat.le_refl _)
 clear r2 g2
 unfold rdp at *
 go_wp2_with fail
 refine (rvar_any _ _ _ _ R2.out HS1.out).mono ?_
 rintro e w4 ⟨rfl,r4,g4⟩
 rw [HM.out]
 rw [HT.out,HO2.out] at r4
 have R4:=zh r4
 have B4:Hid (Below w.heap.size w w4):=below_grownBy B2.out g4 B2.out.size (Nat.le_refl _)
 clear r4 g4
 go_wp2_with fail
 refine (rfixedr_any _ _ _ 4 _ R4.out SA2.out (Nat.le_trans HTS.out HS.out)).mono ?_
 rintro e w5 ⟨rfl,r5,g5⟩
 rw [HU4.out] at r5
 have R5:=zh r5
 have B5:Hid (Below w.heap.size w w5):=below_grownBy B4.out g5 B4.out.size (Nat.le_refl _)
 have c0:=r5.cell0
 clear r5 g5
 by_cases hgt:(U.size:Int)<(M:Int)
 ·have hno:nOk s=false:=by rw [HQ.out,decide_eq_false (by omega)];rfl
  have HNO:=zh hno
  clear hno
  go_wp2
  refine bodyPost_ret (v:=_) (by simp [results,Tryz.results45,go_sem]) rfl ⟨nx_ret_no HNO.out,B5.out⟩
 have hus:=HUS.out
 have hMw:IntKind.i64.wrap (M:Int)=M:=IntWalk.i64_in _ (by omega)
 have hgt2:¬ ((U.size:Int)<(M:Int)):=hgt
 have HGT:Hid (decide (M≤U.size)=true):=decide_eq_true (by omega)
 go_wp2_with fail
 refine (rbytes_any _ _ _ (M:Int) _ R5.out SA3.out HUS.out).mono ?_
 rintro e w6 ⟨rfl,r6,g6⟩
 rw [HB4.out]
 have e6:(!nO2 s||!hasF T 4||!hasB U (M:Int))=!r:=HR.out
 rw [HW4.out,e6] at r6
 have R6:=zh r6
 have B6:Hid (Below w.heap.size w w6):=below_grownBy B5.out g6 B5.out.size (Nat.le_refl _)
 clear r6 g6 c0 hgt hgt2 hMw hUw e6
 go_wp2_with fail
 refine (KP.out _).mono ?_
 rintro e w7 ⟨rfl,b7⟩
 have B7:Hid (Below w.heap.size w w7):=B6.out.trans (b7.mono B6.out.size)
 have R7:=zh (R6.out.below b7 R6.out.lt)
 have c1:=R7.out.cell1
 clear b7
 rw [HGT.out,Bool.true_and] at HQ
 cases r with
 | false =>
   have HNO:Hid (nOk s=false):=HQ.out
   go_wp2
   refine bodyPost_ret (v:=_) (by simp [results,Tryz.results45,go_sem]) rfl ⟨nx_ret_no HNO.out,B7.out⟩
 | true =>
   cases po with
   | false =>
     have HNO:Hid (nOk s=false):=HQ.out
     go_wp2
     refine bodyPost_ret (v:=_) (by simp [results,Tryz.results45,go_sem]) rfl ⟨nx_ret_no HNO.out,B7.out⟩
   | true =>
     have hpk:=HPS.out rfl
     subst hpk
     by_cases hlen:(s.size:Int)<(P.size:Int)
     ·have HNO:Hid (nOk s=false):=by show _=_;rw [HQ.out,decide_eq_false (show ¬ P.size≤s.size by omega)];rfl
      go_wp2
      refine bodyPost_ret (v:=_) (by simp [results,Tryz.results45,go_sem]) rfl ⟨nx_ret_no HNO.out,B7.out⟩
     ·have hle:P.size≤s.size:=by omega
      obtain ⟨q,hq⟩:∃ q,((s.extract 0 P.size).toList==P.toList)=q:=⟨_,rfl⟩
      have HQ2:Hid (nOk s=q):=by show _=_;rw [HQ.out,decide_eq_true hle,hq];rfl
      cases q with
      | false =>
        go_wp2
        refine bodyPost_ret (v:=_) (by simp [results,Tryz.results45,go_sem]) rfl ⟨nx_ret_no HQ2.out,B7.out⟩
      | true =>
        go_wp2
        refine bodyPost_ret (v:=.tuple #[.int .i64 v,.string B,.int .i64 P.size,.bool true]) (by simp [results,Tryz.results45,go_sem,hw2]) rfl ⟨nx_ret_yes HQ2.out HVV.out HBB.out (HNN.out HQ2.out),B7.out⟩
theorem rnext_any (s:ByteArray) (w:World) (hs:s.size≤281474976710656) :
 Calls Tryz.prog 45 #[.string s] w fun e w'=>e=.returned (.tuple #[.int .i64 (nxV s),.string (nxB s),.int .i64 (nxN s),.bool (nOk s)])∧Below w.heap.size w w':=by
 by_cases h1:nV s=1
 ·exact rnext1_any s w hs h1
 ·exact rnextO_any s w hs h1
theorem runpack_any (s:ByteArray) (w:World) (hs:s.size≤281474976710656) :
 Calls Tryz.prog 92 #[.string s] w fun e w'=>e=.returned (.tuple #[.int .i64 (uV s),.string (uB s),.bool (uO s)])∧Below w.heap.size w w':=by
 have KN:=zh (rnext_any s w hs)
 have hu:uO s=(nOk s&&decide (nxN s=s.size)):=rfl
 have U1:=zh (fun h=>u_ret_no (s:=s) h)
 have U2:=zh (fun h=>u_ret_yes (s:=s) h)
 obtain ⟨ok,hok⟩:∃ ok,ok=nOk s:=⟨_,rfl⟩
 rw [←hok] at KN hu
 obtain ⟨n,hn⟩:∃ n,n=nxN s:=⟨_,rfl⟩
 rw [←hn] at KN hu
 clear hok hn
 cases ok with
 | false =>
   have HU:=zh (U1.out hu)
   clear hu U1 U2
   go_enter Tryz.func92,Tryz.ntmps92
   go_wp2_with fail
   refine KN.out.mono ?_
   rintro e w1 ⟨rfl,b1⟩
   go_wp2
   refine bodyPost_ret (v:=_) (by simp [results,Tryz.results92,go_sem]) rfl ⟨HU.out,b1⟩
 | true =>
   by_cases hlt:n=(s.size:Int)
   ·have HU:=zh (U2.out (by rw [hu,decide_eq_true hlt];rfl))
    clear hu U1 U2
    go_enter Tryz.func92,Tryz.ntmps92
    go_wp2_with fail
    refine KN.out.mono ?_
    rintro e w1 ⟨rfl,b1⟩
    go_wp2
    refine bodyPost_ret (v:=_) (by simp [results,Tryz.results92,go_sem]) rfl ⟨HU.out,b1⟩
   ·have HU:=zh (U1.out (by rw [hu,decide_eq_false hlt];rfl))
    clear hu U1 U2
    go_enter Tryz.func92,Tryz.ntmps92
    go_wp2_with fail
    refine KN.out.mono ?_
    rintro e w1 ⟨rfl,b1⟩
    go_wp2
    refine bodyPost_ret (v:=_) (by simp [results,Tryz.results92,go_sem]) rfl ⟨HU.out,b1⟩
end Go.Proofs.YtnobeoppffoomaaGreat
namespace Go.Proofs.YtnobeoppffoomaaGreat
open Go.RowKit
open Dk Vi
def Gets (F:FuncId) (X:ByteArray→En) (V:ByteArray→Int) (O:ByteArray→Bool):Prop :=
 ∀ s W,s.size≤140737488351232→Calls Tryz.prog F #[.string s] W fun q w'=>q=.returned (.tuple #[ev (X s),.int .i64 (V s),.bool (O s)])∧Below W.heap.size W w'
def frm (t:ByteArray):ByteArray:=t.extract 0 (nxN t).toNat
def frB (O:ByteArray→Bool) (v:Int) (t:ByteArray):Bool:=nOk t&&(decide (nxV t=v)&&O (frm t))
def tlB (s:ByteArray) (p:Nat):ByteArray:=s.extract p s.size
def nxtP (v:Int) (s:ByteArray) (p:Nat):Nat:=min (bgn v (p+(nxN (tlB s p)).toNat)) s.size
def pl (X:ByteArray→En) (O:ByteArray→Bool) (v:Int) (s:ByteArray):Nat→Nat→List (En×Nat)
 | 0,_=>[]
 | f+1,p=>if frB O v (tlB s p) then (X (frm (tlB s p)),nxtP v s p) :: pl X O v s f (nxtP v s p) else []
def lpP (l:List (En×Nat)):Nat:=(l.getLast?.map Prod.snd).getD 0
theorem lpP_snoc (l:List (En×Nat)) (x:En×Nat):lpP (l++[x])=x.2:=by unfold lpP;simp
def parL (X:ByteArray→En) (O:ByteArray→Bool) (v:Int) (s:ByteArray):List (En×Nat):=pl X O v s (s.size+1) 0
def parE (X:ByteArray→En) (O:ByteArray→Bool) (v:Int) (s:ByteArray):List En:=(parL X O v s).map Prod.fst
def parU (X:ByteArray→En) (O:ByteArray→Bool) (v:Int) (s:ByteArray):Nat:=lpP (parL X O v s)
theorem tlB_size (s:ByteArray) (p:Nat) (hp:p≤s.size):(tlB s p).size=s.size-p:=by unfold tlB;rw [ByteArray.size_extract];omega
theorem nOk_pos {t:ByteArray} (h:nOk t=true):0<(nxN t).toNat∧((nxN t).toNat:Int)=nxN t∧(nxN t).toNat≤t.size:=by
 obtain ⟨_,e2,e3⟩:=nx_yes h
 have h2:=nxN_eq h
 have h3:0<(pack (nV t) (nBd t)).size:=by
  unfold pack
  rw [ByteArray.size_append,ByteArray.size_append,seal_size]
  omega
 have h4:=(nOk_sound h).2.1
 have h5:t.size=(pack (nV t) (nBd t)).size+(nW t).size:=by
  have:=congrArg ByteArray.size h4
  rw [ByteArray.size_append] at this
  exact this
 omega
theorem nOk_nil {t:ByteArray} (h:t.size=0):nOk t=false:=by
 cases hk:nOk t with
 | false=>rfl
 | true=>have:=nOk_pos hk;omega
theorem nxtP_lt {v:Int} {s:ByteArray} {p:Nat} (hp:p≤s.size) (h:nOk (tlB s p)=true):p<nxtP v s p∧nxtP v s p≤s.size:=by
 obtain ⟨h1,_,h3⟩:=nOk_pos h
 rw [tlB_size s p hp] at h3
 have h4:=bgn_le v (p+(nxN (tlB s p)).toNat)
 unfold nxtP
 omega
theorem frB_ok {O:ByteArray→Bool} {v:Int} {t:ByteArray} (h:frB O v t=true):nOk t=true:=by
 unfold frB at h
 rw [Bool.and_eq_true] at h
 exact h.1
theorem frm_pack {t:ByteArray} (h:nOk t=true):frm t=pack (nV t) (nBd t):=by
 have e3:=(nx_yes h).2.2
 have h2:=nxN_eq h
 have h4:=(nOk_sound h).2.1
 unfold frm
 rw [e3,h2,Int.toNat_natCast]
 exact ext_of h4
theorem frm_uV {t:ByteArray} (h:nOk t=true):uO (frm t)=true∧uV (frm t)=nxV t∧uB (frm t)=nxB t:=by
 have hk:=(nOk_sound h).1
 obtain ⟨h1,h2,h3,h4⟩:=nOk_pack hk ⟨#[]⟩
 have e0:pack (nV t) (nBd t)++(⟨#[]⟩:ByteArray)=frm t:=by rw [frm_pack h];apply ByteArray.ext;simp [ByteArray.data_append]
 rw [e0] at h1 h2 h3 h4
 obtain ⟨y1,y2,y3⟩:=nx_yes h1
 obtain ⟨z1,z2,z3⟩:=nx_yes h
 have hu:uO (frm t)=true:=by
  unfold uO
  rw [h1,y3,h4]
  have e1:(⟨#[]⟩:ByteArray).size=0:=rfl
  rw [e1]
  simp
 refine ⟨hu,?_,?_⟩
 ·unfold uV;rw [if_pos hu,y1,h2,z1]
 ·unfold uB;rw [if_pos hu,y2,h3,z2]
structure Le (B:Nat) (A:Option Addr) (n c:Nat) (es:List En) (w:World):Prop where
 own:w.ownsRow B 28 11 (.slice A n c) n (flat es)
 len:es.length=n
theorem Le.nil (B:Nat) (w:World):Le B none 0 0 [] w:=⟨World.ownsRow_nil w B 28 11,rfl⟩
theorem Le.below {B:Nat} {A:Option Addr} {n c:Nat} {es:List En} {w w':World} (h:Le B A n c es w) (hb:Below w.heap.size w w'):Le B A n c es w' :=
 ⟨own_of_heap h.own fun k hk=>hb.block k (h.own.lt k hk).2,h.len⟩
theorem Le.ents {B:Nat} {A:Option Addr} {n c:Nat} {es:List En} {w:World} (h:Le B A n c es w):Ents w.heap.size A n es w:=ents_of_own h.own h.len
theorem Tryz.info28:(Tryz.prog.info? 28).map (fun i=>(i.zero,i.size,i.bytes))=some (some (ev ezz),11,104):=by kernel_rfl
theorem wpList_app_en {ops:Array Oper} {rest:List Oper} {o:Oper} {a:Act} {Q:Exit→Act→World→Prop} (hgd:o.guard=none) (s x:Operand)
 (ho:o.op=.call { callee:=.builtin .append,args:=#[s,x],argTypes:=#[25,25] }) (w:World) (B:Nat) (A:Option Addr) (n c g0:Nat) (es:List En) (e:En)
 (hs:a.eval s=.slice A n c) (hx:a.eval x=.slice (some ⟨g0,0,none⟩) 1 1) (hL:Le B A n c es w) (hel:w.heap[g0]?=some (.cells (ec e) 28 (0,0))) (hn:n≤1000000000000) (hB:B≤w.heap.size)
 (h:∀ g cap w',Le B (some ⟨g,0,none⟩) (n+1) cap (es++[e]) w'→Below B w w'→(∀ k,k<w.heap.size→Value.ownBlock (.slice A n c)≠some k→w'.heap[k]?=w.heap[k]?)→wpList Tryz.prog ops Q rest (a.put o.dst (.slice (some ⟨g,0,none⟩) (n+1) cap)) w'):wpList Tryz.prog ops Q (o :: rest) a w:=by
 obtain ⟨i0,hi,hz0,hz1,hz2⟩:=info_parts Tryz.info28
 refine wpList_append_lies w hgd s x 25 ho B 28 i0 (ev ezz) 11 104 Tryz.underlying25 hi hz0 hz1 hz2 rfl (by omega) (.slice A n c) n (flat es) hs hL.own ⟨g0,0,none⟩ 1 1 (ec e).toList hx rfl (World.news_of_block hel) (fun u hu=>by simp at hu;rcases hu with rfl|rfl|rfl|rfl|rfl|rfl|rfl|rfl|rfl|rfl|rfl<;>rfl) (by omega) (by unfold maxLen;omega) (by omega) hB _ rfl ?_
 intro g cap w' hown hgrow hat hlt
 refine h g cap w' ⟨by rw [flat_snoc];exact hown,by rw [List.length_append,hL.len];rfl⟩ ((Below.refl B w).grown hgrow hB (fun k hk=>(hL.own.lt k hk).1)) (fun k hk hne=>hgrow.block k hk fun e=>hne e.symm)
theorem rparse_any (X:ByteArray→En) (V:ByteArray→Int) (O:ByteArray→Bool) (v:Int) (s:ByteArray) (w:World) (hs:s.size≤1000000000000) (hG:Gets 46 X V O)
 (hV:∀ t,nOk t=true→O (frm t)=true→V (frm t)=nxV t) (hv0:-9223372036854775808≤v) :
 Calls Tryz.prog 16 #[.int .i64 v,.string s] w fun q w'=>∃ A n c,q=.returned (.tuple #[.slice A n c,.int .i64 (parU X O v s)])∧Le w.heap.size A n c (parE X O v s) w'∧Below w.heap.size w w':=by
 have HG:=zh hG
 have HV:=zh hV
 clear hG hV
 have hB0:=Below.refl w.heap.size w
 have KN:=zh rnext_any
 have KU:=zh up_any
 go_enter Tryz.func16,Tryz.ntmps16
 go_wp2
 go_loopw [6,7] (fun l p wr=>∃ (A:Option Addr) (n c k f:Nat) (pre:List (En×Nat)),l=.slice A n c∧p=.int .i64 k∧k≤s.size∧s.size<f+k∧n≤k∧Hid (pre++pl X O v s f k=parL X O v s)∧Hid (lpP pre=k)∧Le w.heap.size A n c (pre.map Prod.fst) wr∧Below w.heap.size w wr) (fun _ p _=>s.size-(Go.RowKit.intOf p).toNat)
 case atStart=>exact ⟨none,0,0,0,s.size+1,[],rfl,rfl,Nat.zero_le _,by omega,Nat.le_refl _,rfl,rfl,Le.nil _ _,hB0⟩
 case round =>
  obtain ⟨A,n,c,k,f,pre,rfl,rfl,hk,hf,hnk,hpl,hlp,hL,hb⟩:=hrel
  obtain ⟨f,rfl⟩:∃ f',f=f'+1:=⟨f-1,by omega⟩
  have hpf:Hid (pl X O v s (f+1) k=if frB O v (tlB s k) then (X (frm (tlB s k)),nxtP v s k) :: pl X O v s f (nxtP v s k) else []):=rfl
  have hstop:frB O v (tlB s k)=false→Hid (parE X O v s=pre.map Prod.fst∧parU X O v s=k):=fun h=>by
   have h1:=hpf.out
   rw [h,if_neg (by decide)] at h1
   have h2:=hpl.out
   rw [h1,List.append_nil] at h2
   show _∧_
   unfold parE parU
   rw [←h2]
   exact ⟨rfl,hlp.out⟩
  by_cases hlt:k<s.size
  ·obtain ⟨t,ht⟩:∃ t,t=tlB s k:=⟨_,rfl⟩
   have hts:t.size=s.size-k:=by rw [ht];exact tlB_size s k hk
   rw [←ht] at hstop hpf
   have hext:s.extract k s.size=t:=ht.symm
   have HL:=zh hL
   have HB:=zh hb
   have htb:t.size≤281474976710656:=by omega
   clear hL hb
   cases hk1:nOk t with
   | false =>
     have hst:=hstop (by unfold frB;rw [hk1,Bool.false_and])
     have K:=zh (KN.out t wr htb)
     rw [hk1] at K
     clear hstop hpf hpl hlp ht hk1
     go_wp2_with (go_at_call 45;(with_reducible refine K.out.mono ?_);rintro q w1 ⟨rfl,hb1⟩)
     go_ret2
     exact ⟨A,n,c,by rw [hst.out.2];rfl,by rw [hst.out.1];exact HL.out.below hb1,HB.out.trans (hb1.mono HB.out.size)⟩
   | true =>
     obtain ⟨hp1,hp2,hp3⟩:=nOk_pos hk1
     have hlt2:=(nxtP_lt (v:=v) hk (by rw [←ht];exact hk1))
     have hnx:nxtP v s k=min (bgn v (k+(nxN t).toNat)) s.size:=by unfold nxtP;rw [←ht]
     have hfm:frm t=s.extract k (k+(nxN t).toNat):=by
      have h1:=ByteArray.extract_extract (a:=s) (i:=k) (j:=s.size) (k:=0) (l:=(nxN t).toNat)
      rw [Nat.add_zero,Nat.min_eq_left (by omega)] at h1
      unfold frm
      rw [←h1,hext]
     obtain ⟨N,hN⟩:∃ N,N=(nxN t).toNat:=⟨_,rfl⟩
     rw [←hN] at hp1 hp2 hp3 hnx hfm
     have K:=zh (KN.out t wr htb)
     rw [hk1,←hp2] at K
     obtain ⟨T,hT⟩:∃ T,T=frm t:=⟨_,rfl⟩
     have hTs:T.size≤140737488351232:=by rw [hT,hfm,ByteArray.size_extract];omega
     have hcut:s.extract k (k+N)=T:=by rw [hT,hfm]
     have KG:=zh (fun (W:World)=>HG.out T W hTs)
     have hVT:O T=true→V T=nxV t:=by rw [hT];exact HV.out t hk1
     have hfrB:frB O v t=(decide (nxV t=v)&&O T):=by unfold frB;rw [hk1,Bool.true_and,←hT]
     rw [←hT] at hpf
     obtain ⟨x,hx⟩:∃ x,x=nxV t:=⟨_,rfl⟩
     rw [←hx] at K hVT hfrB
     obtain ⟨E,hE⟩:∃ E,E=X T:=⟨_,rfl⟩
     rw [←hE] at KG hpf
     have e1:((k:Int)+(N:Int)).toNat=k+N:=by omega
     have hkN:¬ (s.size:Int)<(k:Int)+N:=by omega
     clear hN hfm hT hE hx hp2
     cases hO:O T with
     | false =>
       rw [hO] at KG hfrB
       have hst:=hstop (by rw [hfrB,Bool.and_false])
       clear hstop hpf hpl hlp ht hk1 hfrB hVT hlt2 hnx
       go_wp2_with (first
        | (go_at_call 45;(with_reducible refine K.out.mono ?_);rintro q w1 ⟨rfl,hb1⟩)
        | (go_at_call 46;(with_reducible refine (KG.out _).mono ?_);rintro q w2 ⟨rfl,hb2⟩))
       go_ret2
       have hbb:=hb1.trans (hb2.mono hb1.size)
       exact ⟨A,n,c,by rw [hst.out.2];rfl,by rw [hst.out.1];exact HL.out.below (hbb.alloc hbb.size _),(HB.out.trans (hbb.mono HB.out.size)).alloc (Nat.le_trans HB.out.size hbb.size) _⟩
     | true =>
       rw [hO] at KG hfrB
       have hvx:=hVT hO
       rw [hvx] at KG
       cases hd:decide (x=v) with
       | false =>
         rw [hd] at hfrB
         have hst:=hstop hfrB
         have hxv:(x==v)=false:=beqF (of_decide_eq_false hd)
         have hxv2:(x != v)=true:=by unfold bne;rw [hxv];rfl
         clear hstop hpf hpl hlp ht hk1 hfrB hVT hlt2 hnx hd hvx
         go_wp2_with (first
          | (go_at_call 45;(with_reducible refine K.out.mono ?_);rintro q w1 ⟨rfl,hb1⟩)
          | (go_at_call 46;(with_reducible refine (KG.out _).mono ?_);rintro q w2 ⟨rfl,hb2⟩))
         go_ret2
         have hbb:=hb1.trans (hb2.mono hb1.size)
         exact ⟨A,n,c,by rw [hst.out.2];rfl,by rw [hst.out.1];exact HL.out.below (hbb.alloc hbb.size _),(HB.out.trans (hbb.mono HB.out.size)).alloc (Nat.le_trans HB.out.size hbb.size) _⟩
       | true =>
         have hxv:x=v:=of_decide_eq_true hd
         rw [hd] at hfrB
         have hpf2:=hpf.out
         rw [hfrB,if_pos (by decide)] at hpf2
         have hnext:Hid ((pre++[(E,nxtP v s k)])++pl X O v s f (nxtP v s k)=parL X O v s):=by
          show _=_
          rw [List.append_assoc,List.singleton_append,←hpf2]
          exact hpl.out
         subst hxv
         clear hstop hpf hpl hlp ht hk1 hfrB hVT hd hvx hpf2
         obtain ⟨P,hP⟩:∃ P,P=nxtP x s k:=⟨_,rfl⟩
         rw [←hP] at hnx hnext hlt2
         have hfin:∀ (g cap:Nat) (wz:World),Le w.heap.size (some ⟨g,0,none⟩) (n+1) cap (pre.map Prod.fst++[E]) wz→Below w.heap.size w wz →
          ∃ (A:Option Addr) (n' c k' f:Nat) (pre:List (En×Nat)),(Value.slice (some ⟨g,0,none⟩) (n+1) cap)=.slice A n' c∧(Value.int .i64 P)=.int .i64 k'∧k'≤s.size∧s.size<f+k'∧n'≤k'∧Hid (pre++pl X O x s f k'=parL X O x s)∧Hid (lpP pre=k')∧Le w.heap.size A n' c (pre.map Prod.fst) wz∧Below w.heap.size w wz:=fun g cap wz h1 h2 =>
          ⟨_,n+1,cap,P,f,_,rfl,rfl,by omega,by omega,by omega,hnext,by show _=_;rw [lpP_snoc],by rw [List.map_append];exact h1,h2⟩
         have HF:=zh hfin
         clear hfin hnext hP
         go_upto_region 10 with (first
          | (go_at_call 45;(with_reducible refine K.out.mono ?_);rintro q w1 ⟨rfl,hb1⟩)
          | (go_at_call 46;(with_reducible refine (KG.out _).mono ?_);rintro q w2 ⟨rfl,hb2⟩))
         have hbb:=hb1.trans (hb2.mono hb1.size)
         have B2:Below w.heap.size w (w2.alloc (.cells (ec E) 28)):=(HB.out.trans (hbb.mono HB.out.size)).alloc (Nat.le_trans HB.out.size hbb.size) _
         have B3:=B2.alloc B2.size (.cells (ec E) 28)
         have L3:=(HL.out.below (hbb.alloc hbb.size (.cells (ec E) 28))).below ((Below.refl _ _).alloc (Nat.le_refl _) (.cells (ec E) 28))
         have hel:((w2.alloc (.cells (ec E) 28)).alloc (.cells (ec E) 28)).heap[w2.heap.size+1]?=some (.cells (ec E) 28 (0,0)):=by
          have h:=heap_alloc_new (w2.alloc (.cells (ec E) 28)) (.cells (ec E) 28)
          rw [show (w2.alloc (.cells (ec E) 28)).heap.size=w2.heap.size+1 by simp] at h
          exact h
         have hnb:n≤1000000000000:=by omega
         have HB3:=zh B3
         have HL3:=zh L3
         have HEL:=zh hel
         have hkN2:(k:Int)+N≤s.size:=by omega
         clear hbb B2 B3 L3 hel hb1 hb2 K KG
         by_cases h1:x=1
         ·subst h1
          obtain ⟨U,hU⟩:∃ U,U=(k+N+63) / 64*64:=⟨_,rfl⟩
          have hPm:Hid ((min (U:Int) (s.size:Int))=(P:Int)):=by
           show _=_
           rw [hnx]
           unfold bgn
           rw [if_pos rfl,←hU]
           omega
          have K43:=KU.out (k+N)
          rw [←hU] at K43
          have hU2:(k+N)≤4611686018427387904:=by omega
          have ekN:((k+N:Nat):Int)=(k:Int)+N:=by omega
          rw [ekN] at K43
          have HK:=zh (fun W=>K43 W hU2)
          clear K43 hU hnx ekN
          go_wp2_with (first
           | (at_builtin;refine wpList_app_en rfl _ _ rfl _ w.heap.size A n c (w2.heap.size+1) (pre.map Prod.fst) E rfl rfl HL3.out HEL.out (by omega) HB3.out.size ?_;intro g cap w4 hL4 hb4 hk4)
           | (go_at_call 43;(with_reducible refine (HK.out _).mono ?_);rintro q w5 ⟨rfl,rfl⟩))
          rw [hPm.out]
          exact ⟨HF.out g cap w4 hL4 (HB3.out.trans hb4),by simp [Go.RowKit.intOf];omega⟩
         ·have hx1:(x==1)=false:=beqF h1
          have hPm:Hid ((k:Int)+N=(P:Int)):=by
           show _=_
           rw [hnx]
           unfold bgn
           rw [if_neg h1]
           omega
          clear h1 hnx
          go_wp2_with (first
           | (at_builtin;refine wpList_app_en rfl _ _ rfl _ w.heap.size A n c (w2.heap.size+1) (pre.map Prod.fst) E rfl rfl HL3.out HEL.out (by omega) HB3.out.size ?_;intro g cap w4 hL4 hb4 hk4))
          rw [hPm.out]
          exact ⟨HF.out g cap w4 hL4 (HB3.out.trans hb4),by simp [Go.RowKit.intOf];omega⟩
  ·have hfr:frB O v (tlB s k)=false:=by
    have:(tlB s k).size=0:=by rw [tlB_size s k hk];omega
    unfold frB
    rw [nOk_nil this,Bool.false_and]
   have hst:=hstop hfr
   have HL:=zh hL
   have HB:=zh hb
   clear hstop hfr hpf hpl hlp hL hb
   go_wp2
   go_ret2
   exact ⟨A,n,c,by rw [hst.out.2];rfl,by rw [hst.out.1];exact HL.out,HB.out⟩
end Go.Proofs.YtnobeoppffoomaaGreat
namespace Go.Proofs.YtnobeoppffoomaaGreat
open Go.RowKit
theorem strCells_bytes (x:ByteArray):Lib.strCells x=Lib.byteCells x.data.toList:=by
 unfold Lib.strCells Lib.byteCells
 simp
theorem wstring (B b:Nat) (x:ByteArray) (w:World) (h:Wt B b x w) (hx:0<x.size) :
 Calls Tryz.prog 41 #[.pointer (some ⟨b,0,none⟩)] w fun e w'=>e=.returned (.string x)∧Below B w w':=by
 obtain ⟨p,hB,v,hbk,hown,hne⟩:∃ p,Lib.BuilderAt 158 5 B b p (Lib.byteCells x.data.toList) w:=by
  unfold Wt at h
  rw [strCells_bytes] at h
  rcases h with h|h
  ·exact ⟨_,h⟩
  ·exact ⟨_,h⟩
 obtain ⟨l,hl⟩:∃ l,l=x.data.toList:=⟨_,rfl⟩
 have hxe:x=⟨l.toArray⟩:=by rw [hl]
 have hl0:l.length≠0:=by rw [hl];simp;intro e;rw [e] at hx;exact absurd hx (by decide)
 have hne0:l≠[]:=fun e=>hl0 (by rw [e];rfl)
 rw [←hl] at hown
 rw [hxe]
 clear hxe hl hx h
 rw [Lib.byteCells_length] at hown
 obtain ⟨g,cap,cur,rfl,hbg,hg,hnc,hcm,hcs,htake⟩:∃ g cap cur,v=.slice (some ⟨g,0,none⟩) l.length cap∧B≤g∧w.heap[g]?=some (.cells cur 5 (0,0))∧l.length≤cap∧cap≤maxLen∧cur.size=cap*1∧cur.toList.take (l.length*1)=Lib.byteCells l:=by
  rcases hown.2 with ⟨_,hz⟩|⟨g,cap,cur,hv,r⟩
  ·exact absurd hz hl0
  ·exact ⟨g,cap,cur,hv,r⟩
 have c1:w.drew.cell? ⟨b,1,none⟩=some (.slice (some ⟨g,0,none⟩) l.length cap):=by
  have:w.drew.heap[b]?=some (.cells #[p,.slice (some ⟨g,0,none⟩) l.length cap] 158 (0,0)):=hbk
  rw [Lib.cell_of_heap this];rfl
 have hSD:(Builtin.unsafeSliceData_ #[68] 136 #[.slice (some ⟨g,0,none⟩) l.length cap]).run Tryz.prog w.drew=.ok (.pointer (some ⟨g,0,none⟩)) w.drew :=
  Lib.run_unsafeSliceData_row _ _ _ _ _ _ (by omega)
 have hUS:(Builtin.unsafeString_ #[136,3] 9 #[.pointer (some ⟨g,0,none⟩),.int .i64 l.length]).run Tryz.prog w.drew=.ok (.string ⟨l.toArray⟩) (w.drew.freeze ⟨g,0,none⟩ l.length):=by
  refine Lib.run_unsafeString_row w.drew 136 3 9 5 Tryz.underlying136 wcells5 g cur.size (by have hg':w.drew.heap[g]?=some (.cells cur 5 (0,0)):=hg;simp [World.shape?,hg']) l hne0 (by omega) (by unfold maxLen at hcm;omega) ?_
  intro j x hx
  have:=hown.cells (g:=g) rfl j (.int .u8 x.toNat) (by simp [Lib.byteCells,hx])
  exact this
 have mixed:Tryz.prog.follows Departure.mixedOrders=true:=by kernel_rfl
 go_enter Tryz.func41,Tryz.ntmps41
 go_wp2
 go_region_o
 all_goals (go_wp2;go_ret;exact ⟨rfl,Lib.below_freeze (Below.drew (Below.refl B w)) (p:=⟨g,0,none⟩) hbg _⟩)
def zer (n:Nat):ByteArray:=⟨(List.replicate n (0:UInt8)).toArray⟩
theorem zer_size (n:Nat):(zer n).size=n:=by
 show (List.replicate n (0:UInt8)).toArray.size=n
 simp
theorem zer_rep (n:Nat):(⟨(Lib.repeatL (⟨#[0]⟩:ByteArray).data.toList n).toArray⟩:ByteArray)=zer n:=by
 unfold zer
 congr 2
 induction n with
 | zero=>rfl
 | succ n ih =>
   rw [List.replicate_succ,←ih]
   rfl
theorem zeros_any (n:Nat) (w:World) (hn:n≤140737488355328) :
 Calls Tryz.prog 130 #[.int .i64 n] w fun e w'=>e=.returned (.string (zer n))∧Below w.heap.size w w':=by
 have hR:=Tryz.strings_Repeat ⟨#[0]⟩ n w (by omega) (by show 1*n≤_;omega)
 rw [zer_rep] at hR
 go_enter Tryz.func130,Tryz.ntmps130
 go_wp2_with (go_at_call 81;(with_reducible refine hR.mono ?_);rintro e w1 ⟨rfl,hb⟩)
 go_ret
 exact ⟨rfl,hb⟩
structure Ws (w0:World) (B b:Nat) (x:ByteArray) (w:World):Prop where
 t:Wt B b x w
 be:Below B w0 w
 ok:Lib.OthersKept 5 (some b) w0 w
 sz:B≤w.heap.size
 sw:w0.heap.size≤w.heap.size
theorem Wt.below {B b:Nat} {x:ByteArray} {w w1:World} (h:Wt B b x w) (hb:Below w.heap.size w w1):Wt B b x w1:=by
 have key:∀ p,Lib.BuilderAt 158 5 B b p (Lib.strCells x) w→Lib.BuilderAt 158 5 B b p (Lib.strCells x) w1:=by
  rintro p ⟨hB,v,hbk,hown,hne⟩
  refine ⟨hB,v,(hb.block b (zgx hbk)).trans hbk,?_,hne⟩
  exact hown.kept (row:=none) ⟨hb.os,hb.tape,hb.output,hb.size,fun k hk _=>hb.block k hk⟩ (by
   cases hv:v.ownBlock with
   | none=>exact .inl rfl
   | some k=>exact .inr (by simp))
 rcases h with h|h
 ·exact .inl (key _ h)
 ·exact .inr (key _ h)
theorem OthersKept.of_below {w w1:World} {b:Option Nat} (hb:Below w.heap.size w w1):Lib.OthersKept 5 b w w1:=fun i o hi h1 h2=>(hb.block i (zgx hi)).trans hi
theorem Ws.below {w0:World} {B b:Nat} {x:ByteArray} {w w1:World} (h:Ws w0 B b x w) (hb:Below w.heap.size w w1):Ws w0 B b x w1 :=
 ⟨h.t.below hb,h.be.trans (hb.mono h.sz),h.ok.trans (OthersKept.of_below hb),Nat.le_trans h.sz hb.size,Nat.le_trans h.sw hb.size⟩
theorem Ws.drew {w0:World} {B b:Nat} {x:ByteArray} {w:World} (h:Ws w0 B b x w):Ws w0 B b x w.drew:=⟨h.t,h.be.drew,h.ok,h.sz,h.sw⟩
theorem Ws.start {B b:Nat} {x:ByteArray} {w:World} (h:Wt B b x w) (hB:B≤w.heap.size):Ws w B b x w:=⟨h,Below.refl _ _,Lib.OthersKept.refl _ _ _,hB,Nat.le_refl _⟩
theorem number_any (B b n:Nat) (k:Nat) (x:ByteArray) (w:World) (h:Wt B b x w) (hlen:x.size≤140737488000000) (hB:B≤w.heap.size) (hk:k≤8) :
 Calls Tryz.prog 128 #[.pointer (some ⟨b,0,none⟩),.int .u64 n,.int .i64 k] w fun e w'=>e=.returned (.tuple #[])∧Ws w B b (x++Vi.fxB n k) w':=by
 have hfs:(Vi.fxB n k).size≤8:=by rw [Vi.fxB_size n k hk];exact hk
 obtain ⟨s,hs⟩:∃ s,s=Vi.fxB n k:=⟨_,rfl⟩
 have K1:Hid (∀ W,Ws w B b x W→Calls Tryz.prog 125 #[.int .u64 n,.int .i64 k] W fun e w'=>e=.returned (.string s)∧Ws w B b x w'):=fun W hW=>(fixed_any n k W).mono fun e w' ⟨h1,h2⟩=>⟨by rw [h1,hs],hW.below h2⟩
 have K2:Hid (∀ W,Ws w B b x W→Calls Tryz.prog 37 #[.pointer (some ⟨b,0,none⟩),.string s] W fun e w'=>e=.returned (.tuple #[.int .i64 s.size,.nilIface])∧Ws w B b (x++s) w'):=fun W hW=>(wwrite B b x s W hW.t (by rw [hs];omega) hW.sz).mono fun e w' ⟨h1,h2,h3,h4⟩=>⟨h1,h2,hW.be.trans h3,hW.ok.trans h4,Nat.le_trans hW.sz h3.size,Nat.le_trans hW.sw h3.size⟩
 have S0:Ws w B b x w:=Ws.start h hB
 have S1:=S0.drew
 rw [←hs]
 clear h hlen hB hk hfs hs
 go_enter Tryz.func128,Tryz.ntmps128
 go_region_held3 (fun _=>True) (trivial) (first
  | (go_at_call 125;(with_reducible refine (K1.out _ (by assumption)).mono ?_);rintro r w6 ⟨rfl,s5⟩)
  | (go_at_call 37;(with_reducible refine (K2.out _ (by assumption)).mono ?_);rintro r w7 ⟨rfl,s6⟩))
 all_goals
  go_wp2
  go_end0
  exact ⟨rfl,s6⟩
end Go.Proofs.YtnobeoppffoomaaGreat
