/-
  FrameCodes: part G41.
  Conditions: named in each theorem.
-/
import Derived.Test.YtpdbeijfchmlgaaGreatZ0
import Derived.Test.YtpdbeijfchmlgaaGreatG05
import Derived.Test.YtpdbeijfchmlgaaGreatG08
import Derived.Test.YtpdbeijfchmlgaaGreatG40
set_option linter.unusedVariables false
set_option linter.unusedSimpArgs false
set_option maxHeartbeats 16000000
set_option maxRecDepth 100000
namespace Go.Proofs.YtpdbeijfchmlgaaGreat
open Go.RowKit
open Vi
theorem rnext1_any (s:ByteArray) (w:World) (hs:s.size≤281474976710656) (h1:nV s=1) :
 Calls Tryz.prog 89 #[.string s] w fun e w'=>e=.returned (.tuple #[.int .i64 (nxV s),.string (nxB s),.int .i64 (nxN s),.bool (nOk s)])∧Below w.heap.size w w':=by
 have KN:=zh (fun (W:World)=>rnew_any s W);have HS:=zh hs;have HS1:Hid ((fixT s 1).size≤281474976710656):=Nat.le_trans (fixT_size s 1) hs;have HM:Hid ((fixV (fixT s 1) 4:Nat)=nM s):=by show _=_;unfold nM;rw [if_pos h1]
 have HT:Hid (fixT (fixT s 1) 4=nT s):=by show _=_;unfold nT;rw [if_pos h1]
 have HO2:Hid ((false||!hasF s 1||!hasF (fixT s 1) 4)=!nO2 s):=by show _=_;unfold nO2;rw [if_pos h1];show (false||!hasF s 1||!hasF (fixT s 1) 4)=!(hasF s 1&&hasF (fixT s 1) 4);cases hasF s 1<;>cases hasF (fixT s 1) 4<;>rfl
 have HTS:Hid ((nT s).size≤s.size):=by show _≤_;rw [←HT.out];exact Nat.le_trans (fixT_size _ 4) (fixT_size s 1)
 have HU:Hid ((nU s).size≤(nT s).size):=bytT_size _ _;have HR:Hid ((!nO2 s||!hasF (nT s) 4||!hasB (nU s) (nM s))=!nR s):=by show _=_;rw [show hasF (nT s) 4=hasB (nT s) 4 from hasFB _ 4 (by omega)];unfold nR;cases nO2 s<;>cases hasB (nT s) 4<;>cases hasB (nU s) (nM s)<;>rfl
 have HQ:Hid (nOk s=(decide (nM s≤(nU s).size)&&(nR s&&(pkO (nV s) (nBd s)&&(decide ((pack (nV s) (nBd s)).size≤s.size)&&((s.extract 0 (pack (nV s) (nBd s)).size).toList==(pack (nV s) (nBd s)).toList)))))):=(rOkF_eq s).symm;have HPS:Hid (pkO (nV s) (nBd s)=true→pkS (nV s) (nBd s)=pack (nV s) (nBd s)):=fun h=>by unfold pkS;rw [if_pos h]
 have HPZ:=zh (pkS_size (nV s) (nBd s));have HUS:Hid ((nU s).size≤281474976710656):=Nat.le_trans HU.out (Nat.le_trans HTS.out hs);have HU4:Hid (fixT (nT s) 4=nU s):=fixBT _ 4 (by omega);have HNN:Hid (nOk s=true→(s.size:Int)-(nW s).size=(pack (nV s) (nBd s)).size):=fun h=>nxN_eq h;have KP:=zh (fun (W:World)=>rpack_any (nV s) (nBd s) W);have hsane0:Sane s false:=fun h=>by cases h
 have SA1:=zh (sane_fix s false 1 hsane0)
 have SA2:Hid (Sane (nT s) (!nO2 s)):=by
  have h:=sane_fix _ _ 4 (sane_fix s false 1 hsane0);have e1:=HO2.out;have e2:=HT.out
  show Sane _ _
  rw [←e1,←e2];exact h
 have SA3:=zh (sane_fix _ _ 4 SA2.out);obtain ⟨v,hv⟩:∃ v,v=nV s:=⟨_,rfl⟩;obtain ⟨F,hF⟩:∃ F,F=fixV s 1:=⟨_,rfl⟩;have hlt:F<256:=by rw [hF];exact fixV_lt1 s
 have hvF:(F:Int)-160=v:=by rw [hv,hF];rfl
 have hw1:IntKind.i64.wrap (F:Int)=F:=IntWalk.i64_in _ (by omega);have hw2:wrap64 ((F:Int)-160)=v:=by rw [←hvF];unfold wrap64;omega
 have HF:Hid (fixV s 1=F):=hF.symm;have HVV:Hid (nV s=v):=hv.symm;rw [←hv] at h1 HQ HPS KP HNN;obtain ⟨M,hM⟩:∃ M,M=nM s:=⟨_,rfl⟩;obtain ⟨T,hT⟩:∃ T,T=nT s:=⟨_,rfl⟩;obtain ⟨U,hU⟩:∃ U,U=nU s:=⟨_,rfl⟩;obtain ⟨r,hr⟩:∃ r,r=nR s:=⟨_,rfl⟩;have HB4:Hid (bytV U M=nBd s):=by show _=_;rw [hM,hU];rfl
 have HW4:Hid (bytT U M=nW s):=by show _=_;rw [hM,hU];rfl
 rw [←hM,←hU,←hr] at HQ;rw [←hr,←hT,←hU,←hM] at HR;rw [←hT] at HT HTS HU HU4 SA2 SA3;rw [←hU] at HUS HU HU4;rw [←hM] at HM;rw [HU4.out] at SA3;have HML:Hid (M<18446744073709551616):=by show _<_;rw [hM];exact nM_lt s
 obtain ⟨B,hB⟩:∃ B,B=nBd s:=⟨_,rfl⟩;have HBB:Hid (nBd s=B):=hB.symm;rw [←hB] at HQ HPS HPZ HNN KP HB4;obtain ⟨P,hP⟩:∃ P,P=pkS v B:=⟨_,rfl⟩;obtain ⟨po,hpo⟩:∃ po,po=pkO v B:=⟨_,rfl⟩;rw [←hP,←hpo] at KP;rw [HVV.out,←hP] at HPZ;rw [←hpo] at HPS HQ;rw [←hP] at HPS;obtain ⟨PK,hPK⟩:∃ PK,PK=pack v B:=⟨_,rfl⟩;rw [←hPK] at HPS HQ HNN;have hUw:IntKind.u64.wrap (U.size:Int)=U.size:=by have:=HUS.out;rw [IntKind.wrap_u64];omega
 subst h1;clear hs hM hT hU hr hF hv hlt hvF hB hP hpo hPK hsane0
 go_enter Tryz.func89,Tryz.ntmps89
 go_wp2_with fail
 refine (KN.out _).mono ?_;rintro e w1 ⟨rfl,hw1'⟩;have R1:Hid (Rd 72 w.heap.size s false w1):=by show Rd _ _ _ _ _;rw [hw1'];exact Rd.new w 72 s false
 have B1:Hid (Below w.heap.size w w1):=by show Below _ _ _;rw [hw1'];exact zba
 clear hw1'
 go_wp2_with fail
 refine (rfixedr_any _ _ _ 1 _ R1.out (fun h=>by cases h) HS.out).mono ?_;rintro e w2 ⟨rfl,r2,g2⟩;rw [HF.out];have R2:=zh r2;have B2:Hid (Below w.heap.size w w2):=below_grownBy B1.out g2 B1.out.size (Nat.le_refl _);clear r2 g2;unfold rdp at *
 go_wp2_with fail
 refine (rfixedr_any _ _ _ 4 _ R2.out SA1.out HS1.out).mono ?_;rintro e w4 ⟨rfl,r4,g4⟩;rw [HM.out];rw [HT.out,HO2.out] at r4;have R4:=zh r4;have B4:Hid (Below w.heap.size w w4):=below_grownBy B2.out g4 B2.out.size (Nat.le_refl _);clear r4 g4
 go_wp2_with fail
 refine (rfixedr_any _ _ _ 4 _ R4.out SA2.out (Nat.le_trans HTS.out HS.out)).mono ?_;rintro e w5 ⟨rfl,r5,g5⟩;rw [HU4.out] at r5;have R5:=zh r5;have B5:Hid (Below w.heap.size w w5):=below_grownBy B4.out g5 B4.out.size (Nat.le_refl _);have c0:=r5.cell0;clear r5 g5
 by_cases hgt:(U.size:Int)<(M:Int)
 ·have hno:nOk s=false:=by rw [HQ.out,decide_eq_false (by omega)];rfl
  have HNO:=zh hno;clear hno;go_wp2;refine bodyPost_ret (v:=_) (by simp [results,Tryz.results89,go_sem]) rfl ⟨nx_ret_no HNO.out,B5.out⟩
 have hus:=HUS.out;have hMw:IntKind.i64.wrap (M:Int)=M:=IntWalk.i64_in _ (by omega);have hgt2:¬ ((U.size:Int)<(M:Int)):=hgt;have HGT:Hid (decide (M≤U.size)=true):=decide_eq_true (by omega)
 go_wp2_with fail
 refine (rbytes_any _ _ _ (M:Int) _ R5.out SA3.out HUS.out).mono ?_;rintro e w6 ⟨rfl,r6,g6⟩;rw [HB4.out];have e6:(!nO2 s||!hasF T 4||!hasB U (M:Int))=!r:=HR.out;rw [HW4.out,e6] at r6;have R6:=zh r6;have B6:Hid (Below w.heap.size w w6):=below_grownBy B5.out g6 B5.out.size (Nat.le_refl _);clear r6 g6 c0 hgt hgt2 hMw hUw e6
 go_wp2_with fail
 refine (KP.out _).mono ?_;rintro e w7 ⟨rfl,b7⟩;have B7:Hid (Below w.heap.size w w7):=B6.out.trans (b7.mono B6.out.size);have R7:=zh (R6.out.below b7 R6.out.lt);have c1:=R7.out.cell1;clear b7;rw [HGT.out,Bool.true_and] at HQ
 cases r with
 | false =>
   have HNO:Hid (nOk s=false):=HQ.out;go_wp2;refine bodyPost_ret (v:=_) (by simp [results,Tryz.results89,go_sem]) rfl ⟨nx_ret_no HNO.out,B7.out⟩
 | true =>
   cases po with
   | false =>
     have HNO:Hid (nOk s=false):=HQ.out;go_wp2;refine bodyPost_ret (v:=_) (by simp [results,Tryz.results89,go_sem]) rfl ⟨nx_ret_no HNO.out,B7.out⟩
   | true =>
     have hpk:=HPS.out rfl;subst hpk
     by_cases hlen:(s.size:Int)<(P.size:Int)
     ·have HNO:Hid (nOk s=false):=by show _=_;rw [HQ.out,decide_eq_false (show ¬ P.size≤s.size by omega)];rfl
      go_wp2;refine bodyPost_ret (v:=_) (by simp [results,Tryz.results89,go_sem]) rfl ⟨nx_ret_no HNO.out,B7.out⟩
     ·have hle:P.size≤s.size:=by omega
      obtain ⟨q,hq⟩:∃ q,((s.extract 0 P.size).toList==P.toList)=q:=⟨_,rfl⟩;have HQ2:Hid (nOk s=q):=by show _=_;rw [HQ.out,decide_eq_true hle,hq];rfl
      cases q with
      | false =>
        go_wp2;refine bodyPost_ret (v:=_) (by simp [results,Tryz.results89,go_sem]) rfl ⟨nx_ret_no HQ2.out,B7.out⟩
      | true =>
        go_wp2;refine bodyPost_ret (v:=.tuple #[.int .i64 1,.string B,.int .i64 P.size,.bool true]) (by simp [results,Tryz.results89,go_sem,hw2]) rfl ⟨nx_ret_yes HQ2.out HVV.out HBB.out (HNN.out HQ2.out),B7.out⟩
theorem rnextO_any (s:ByteArray) (w:World) (hs:s.size≤281474976710656) (h1:nV s≠1) :
 Calls Tryz.prog 89 #[.string s] w fun e w'=>e=.returned (.tuple #[.int .i64 (nxV s),.string (nxB s),.int .i64 (nxN s),.bool (nOk s)])∧Below w.heap.size w w':=by
 have KN:=zh (fun (W:World)=>rnew_any s W);have HS:=zh hs;have HS1:Hid ((fixT s 1).size≤281474976710656):=Nat.le_trans (fixT_size s 1) hs;have HM:Hid ((varV (fixT s 1):Nat)=nM s):=by show _=_;unfold nM;rw [if_neg h1]
 have HT:Hid (varT (fixT s 1)=nT s):=by show _=_;unfold nT;rw [if_neg h1]
 have HO2:Hid ((false||!hasF s 1||!varO (fixT s 1))=!nO2 s):=by show _=_;unfold nO2;rw [if_neg h1];show (false||!hasF s 1||!varO (fixT s 1))=!(hasF s 1&&varO (fixT s 1));cases hasF s 1<;>cases varO (fixT s 1)<;>rfl
 have HTS:Hid ((nT s).size≤s.size):=by show _≤_;rw [←HT.out];exact Nat.le_trans (varT_size _) (fixT_size s 1)
 have HU:Hid ((nU s).size≤(nT s).size):=bytT_size _ _;have HR:Hid ((!nO2 s||!hasF (nT s) 4||!hasB (nU s) (nM s))=!nR s):=by show _=_;rw [show hasF (nT s) 4=hasB (nT s) 4 from hasFB _ 4 (by omega)];unfold nR;cases nO2 s<;>cases hasB (nT s) 4<;>cases hasB (nU s) (nM s)<;>rfl
 have HQ:Hid (nOk s=(decide (nM s≤(nU s).size)&&(nR s&&(pkO (nV s) (nBd s)&&(decide ((pack (nV s) (nBd s)).size≤s.size)&&((s.extract 0 (pack (nV s) (nBd s)).size).toList==(pack (nV s) (nBd s)).toList)))))):=(rOkF_eq s).symm;have HPS:Hid (pkO (nV s) (nBd s)=true→pkS (nV s) (nBd s)=pack (nV s) (nBd s)):=fun h=>by unfold pkS;rw [if_pos h]
 have HPZ:=zh (pkS_size (nV s) (nBd s));have HUS:Hid ((nU s).size≤281474976710656):=Nat.le_trans HU.out (Nat.le_trans HTS.out hs);have HU4:Hid (fixT (nT s) 4=nU s):=fixBT _ 4 (by omega);have HNN:Hid (nOk s=true→(s.size:Int)-(nW s).size=(pack (nV s) (nBd s)).size):=fun h=>nxN_eq h;have KP:=zh (fun (W:World)=>rpack_any (nV s) (nBd s) W);have hsane0:Sane s false:=fun h=>by cases h
 have SA1:=zh (sane_fix s false 1 hsane0)
 have SA2:Hid (Sane (nT s) (!nO2 s)):=by
  have h:=sane_var _ _ (sane_fix s false 1 hsane0);have e1:=HO2.out;have e2:=HT.out
  show Sane _ _
  rw [←e1,←e2];exact h
 have SA3:=zh (sane_fix _ _ 4 SA2.out);obtain ⟨v,hv⟩:∃ v,v=nV s:=⟨_,rfl⟩;obtain ⟨F,hF⟩:∃ F,F=fixV s 1:=⟨_,rfl⟩;have hlt:F<256:=by rw [hF];exact fixV_lt1 s
 have hvF:(F:Int)-160=v:=by rw [hv,hF];rfl
 have hw1:IntKind.i64.wrap (F:Int)=F:=IntWalk.i64_in _ (by omega);have hw2:wrap64 ((F:Int)-160)=v:=by rw [←hvF];unfold wrap64;omega
 have HF:Hid (fixV s 1=F):=hF.symm;have HVV:Hid (nV s=v):=hv.symm;rw [←hv] at h1 HQ HPS KP HNN;obtain ⟨M,hM⟩:∃ M,M=nM s:=⟨_,rfl⟩;obtain ⟨T,hT⟩:∃ T,T=nT s:=⟨_,rfl⟩;obtain ⟨U,hU⟩:∃ U,U=nU s:=⟨_,rfl⟩;obtain ⟨r,hr⟩:∃ r,r=nR s:=⟨_,rfl⟩;have HB4:Hid (bytV U M=nBd s):=by show _=_;rw [hM,hU];rfl
 have HW4:Hid (bytT U M=nW s):=by show _=_;rw [hM,hU];rfl
 rw [←hM,←hU,←hr] at HQ;rw [←hr,←hT,←hU,←hM] at HR;rw [←hT] at HT HTS HU HU4 SA2 SA3;rw [←hU] at HUS HU HU4;rw [←hM] at HM;rw [HU4.out] at SA3;have HML:Hid (M<18446744073709551616):=by show _<_;rw [hM];exact nM_lt s
 obtain ⟨B,hB⟩:∃ B,B=nBd s:=⟨_,rfl⟩;have HBB:Hid (nBd s=B):=hB.symm;rw [←hB] at HQ HPS HPZ HNN KP HB4;obtain ⟨P,hP⟩:∃ P,P=pkS v B:=⟨_,rfl⟩;obtain ⟨po,hpo⟩:∃ po,po=pkO v B:=⟨_,rfl⟩;rw [←hP,←hpo] at KP;rw [HVV.out,←hP] at HPZ;rw [←hpo] at HPS HQ;rw [←hP] at HPS;obtain ⟨PK,hPK⟩:∃ PK,PK=pack v B:=⟨_,rfl⟩;rw [←hPK] at HPS HQ HNN;have hUw:IntKind.u64.wrap (U.size:Int)=U.size:=by have:=HUS.out;rw [IntKind.wrap_u64];omega
 clear hs hM hT hU hr hF hv hlt hvF hB hP hpo hPK hsane0
 go_enter Tryz.func89,Tryz.ntmps89
 go_wp2_with fail
 refine (KN.out _).mono ?_;rintro e w1 ⟨rfl,hw1'⟩;have R1:Hid (Rd 72 w.heap.size s false w1):=by show Rd _ _ _ _ _;rw [hw1'];exact Rd.new w 72 s false
 have B1:Hid (Below w.heap.size w w1):=by show Below _ _ _;rw [hw1'];exact zba
 clear hw1'
 go_wp2_with fail
 refine (rfixedr_any _ _ _ 1 _ R1.out (fun h=>by cases h) HS.out).mono ?_;rintro e w2 ⟨rfl,r2,g2⟩;rw [HF.out];have R2:=zh r2;have B2:Hid (Below w.heap.size w w2):=below_grownBy B1.out g2 B1.out.size (Nat.le_refl _);clear r2 g2;unfold rdp at *
 go_wp2_with fail
 refine (rvar_any _ _ _ _ R2.out HS1.out).mono ?_;rintro e w4 ⟨rfl,r4,g4⟩;rw [HM.out];rw [HT.out,HO2.out] at r4;have R4:=zh r4;have B4:Hid (Below w.heap.size w w4):=below_grownBy B2.out g4 B2.out.size (Nat.le_refl _);clear r4 g4
 go_wp2_with fail
 refine (rfixedr_any _ _ _ 4 _ R4.out SA2.out (Nat.le_trans HTS.out HS.out)).mono ?_;rintro e w5 ⟨rfl,r5,g5⟩;rw [HU4.out] at r5;have R5:=zh r5;have B5:Hid (Below w.heap.size w w5):=below_grownBy B4.out g5 B4.out.size (Nat.le_refl _);have c0:=r5.cell0;clear r5 g5
 by_cases hgt:(U.size:Int)<(M:Int)
 ·have hno:nOk s=false:=by rw [HQ.out,decide_eq_false (by omega)];rfl
  have HNO:=zh hno;clear hno;go_wp2;refine bodyPost_ret (v:=_) (by simp [results,Tryz.results89,go_sem]) rfl ⟨nx_ret_no HNO.out,B5.out⟩
 have hus:=HUS.out;have hMw:IntKind.i64.wrap (M:Int)=M:=IntWalk.i64_in _ (by omega);have hgt2:¬ ((U.size:Int)<(M:Int)):=hgt;have HGT:Hid (decide (M≤U.size)=true):=decide_eq_true (by omega)
 go_wp2_with fail
 refine (rbytes_any _ _ _ (M:Int) _ R5.out SA3.out HUS.out).mono ?_;rintro e w6 ⟨rfl,r6,g6⟩;rw [HB4.out];have e6:(!nO2 s||!hasF T 4||!hasB U (M:Int))=!r:=HR.out;rw [HW4.out,e6] at r6;have R6:=zh r6;have B6:Hid (Below w.heap.size w w6):=below_grownBy B5.out g6 B5.out.size (Nat.le_refl _);clear r6 g6 c0 hgt hgt2 hMw hUw e6
 go_wp2_with fail
 refine (KP.out _).mono ?_;rintro e w7 ⟨rfl,b7⟩;have B7:Hid (Below w.heap.size w w7):=B6.out.trans (b7.mono B6.out.size);have R7:=zh (R6.out.below b7 R6.out.lt);have c1:=R7.out.cell1;clear b7;rw [HGT.out,Bool.true_and] at HQ
 cases r with
 | false =>
   have HNO:Hid (nOk s=false):=HQ.out;go_wp2;refine bodyPost_ret (v:=_) (by simp [results,Tryz.results89,go_sem]) rfl ⟨nx_ret_no HNO.out,B7.out⟩
 | true =>
   cases po with
   | false =>
     have HNO:Hid (nOk s=false):=HQ.out;go_wp2;refine bodyPost_ret (v:=_) (by simp [results,Tryz.results89,go_sem]) rfl ⟨nx_ret_no HNO.out,B7.out⟩
   | true =>
     have hpk:=HPS.out rfl;subst hpk
     by_cases hlen:(s.size:Int)<(P.size:Int)
     ·have HNO:Hid (nOk s=false):=by show _=_;rw [HQ.out,decide_eq_false (show ¬ P.size≤s.size by omega)];rfl
      go_wp2;refine bodyPost_ret (v:=_) (by simp [results,Tryz.results89,go_sem]) rfl ⟨nx_ret_no HNO.out,B7.out⟩
     ·have hle:P.size≤s.size:=by omega
      obtain ⟨q,hq⟩:∃ q,((s.extract 0 P.size).toList==P.toList)=q:=⟨_,rfl⟩;have HQ2:Hid (nOk s=q):=by show _=_;rw [HQ.out,decide_eq_true hle,hq];rfl
      cases q with
      | false =>
        go_wp2;refine bodyPost_ret (v:=_) (by simp [results,Tryz.results89,go_sem]) rfl ⟨nx_ret_no HQ2.out,B7.out⟩
      | true =>
        go_wp2;refine bodyPost_ret (v:=.tuple #[.int .i64 v,.string B,.int .i64 P.size,.bool true]) (by simp [results,Tryz.results89,go_sem,hw2]) rfl ⟨nx_ret_yes HQ2.out HVV.out HBB.out (HNN.out HQ2.out),B7.out⟩
theorem rnext_any (s:ByteArray) (w:World) (hs:s.size≤281474976710656) :
 Calls Tryz.prog 89 #[.string s] w fun e w'=>e=.returned (.tuple #[.int .i64 (nxV s),.string (nxB s),.int .i64 (nxN s),.bool (nOk s)])∧Below w.heap.size w w':=by
 by_cases h1:nV s=1
 ·exact rnext1_any s w hs h1
 ·exact rnextO_any s w hs h1
theorem runpack_any (s:ByteArray) (w:World) (hs:s.size≤281474976710656) :
 Calls Tryz.prog 41 #[.string s] w fun e w'=>e=.returned (.tuple #[.int .i64 (uV s),.string (uB s),.bool (uO s)])∧Below w.heap.size w w':=by
 have KN:=zh (rnext_any s w hs);have hu:uO s=(nOk s&&decide (nxN s=s.size)):=rfl;have U1:=zh (fun h=>u_ret_no (s:=s) h);have U2:=zh (fun h=>u_ret_yes (s:=s) h);obtain ⟨ok,hok⟩:∃ ok,ok=nOk s:=⟨_,rfl⟩;rw [←hok] at KN hu;obtain ⟨n,hn⟩:∃ n,n=nxN s:=⟨_,rfl⟩;rw [←hn] at KN hu;clear hok hn
 cases ok with
 | false =>
   have HU:=zh (U1.out hu);clear hu U1 U2
   go_enter Tryz.func41,Tryz.ntmps41
   go_wp2_with fail
   refine KN.out.mono ?_;rintro e w1 ⟨rfl,b1⟩;go_wp2;refine bodyPost_ret (v:=_) (by simp [results,Tryz.results41,go_sem]) rfl ⟨HU.out,b1⟩
 | true =>
   by_cases hlt:n=(s.size:Int)
   ·have HU:=zh (U2.out (by rw [hu,decide_eq_true hlt];rfl));clear hu U1 U2
    go_enter Tryz.func41,Tryz.ntmps41
    go_wp2_with fail
    refine KN.out.mono ?_;rintro e w1 ⟨rfl,b1⟩;go_wp2;refine bodyPost_ret (v:=_) (by simp [results,Tryz.results41,go_sem]) rfl ⟨HU.out,b1⟩
   ·have HU:=zh (U1.out (by rw [hu,decide_eq_false hlt];rfl));clear hu U1 U2
    go_enter Tryz.func41,Tryz.ntmps41
    go_wp2_with fail
    refine KN.out.mono ?_;rintro e w1 ⟨rfl,b1⟩;go_wp2;refine bodyPost_ret (v:=_) (by simp [results,Tryz.results41,go_sem]) rfl ⟨HU.out,b1⟩
end Go.Proofs.YtpdbeijfchmlgaaGreat
namespace Go.Proofs.YtpdbeijfchmlgaaGreat
open Go.RowKit
open Vi
theorem ba_nil {T:ByteArray} (h:T.size=0):T=⟨#[]⟩:=by
 apply ByteArray.ext
 exact Array.eq_empty_of_size_eq_zero h
theorem ba_some {T:ByteArray} (h:¬ T.size=0):(!T.toList.isEmpty)=true:=by
 have h2:¬ T.toList=[]:=fun e=>h (by have:=(toList_nil T).1 e;omega)
 cases hl:T.toList with
 | nil=>exact absurd hl h2
 | cons a l=>rfl
def rgO (s:ByteArray) (b:Bool) (T:ByteArray):Bool:=uO s&&whO b T
theorem rGetE2_any (s:ByteArray) (X:En) (T:ByteArray) (b:Bool) (w:World) (hs:s.size≤140737488351232) (hv:uV s=2)
 (hK:∀ g W,Rd 72 g (uB s) false W→Calls Tryz.prog 43 #[.pointer (some ⟨g,0,none⟩)] W fun q w'=>q=.returned (ev X)∧Rd 72 g T b w'∧W.grownBy w' (some g)) :
 Calls Tryz.prog 14 #[.string s] w fun q w'=>q=.returned (.tuple #[ev (if rgO s b T then X else ezz),.int .i64 (if rgO s b T then uV s else 0),.bool (rgO s b T)])∧Below w.heap.size w w':=by
 obtain ⟨W0,hW0⟩:∃ W0,W0=w.alloc (Obj.cells (ec ezz) 24):=⟨_,rfl⟩;have b0:Below w.heap.size w W0:=by rw [hW0];exact zba
 have k0:W0.heap[w.heap.size]?=some (.cells (ec ezz) 24 (0,0)):=by rw [hW0];exact heap_alloc_new w _
 have s0:W0.heap.size=w.heap.size+1:=by rw [hW0];simp
 have KU0:=runpack_any s W0 (by omega);have hr:rgO s b T=(uO s&&whO b T):=rfl;rw [hr];clear hr;obtain ⟨ou,hou⟩:∃ ou,ou=uO s:=⟨_,rfl⟩;obtain ⟨u,hu⟩:∃ u,u=uB s:=⟨_,rfl⟩;obtain ⟨v,hvv⟩:∃ v,v=uV s:=⟨_,rfl⟩;rw [←hou] at KU0 ⊢;rw [←hu] at KU0 hK;rw [←hvv] at KU0 hv ⊢;have hv2:(v==2)=true:=by simpa using hv
 obtain ⟨o,ho⟩:∃ o,o=(ou&&whO b T):=⟨_,rfl⟩;rw [←ho];obtain ⟨Y,hY⟩:∃ Y,Y=if o=true then X else ezz:=⟨_,rfl⟩
 obtain ⟨vv,hw⟩:∃ vv:Int,vv=if o=true then v else 0:=⟨_,rfl⟩
 rw [←hY,←hw];have HO:=zh ho;have HD:Hid ((o=true→Y=X∧vv=v)∧(o=false→Y=ezz∧vv=0)):=⟨fun h=>⟨by rw [hY,if_pos h],by rw [hw,if_pos h]⟩,fun h=>⟨by rw [hY,h];rfl,by rw [hw,h];rfl⟩⟩;clear ho hY hw;have KU:=zh KU0;have KN:=zh (fun (W:World)=>rnew2 u W);have K:=zh hK;have HW0:=zh hW0;have HK0:=zh k0;have HB0:=zh b0;have HS0:=zh s0;clear hW0 k0 b0 s0 hK hou hu hvv hs hv KU0
 go_enter Tryz.func14,Tryz.ntmps14
 go_wp2_with fail
 rw [←HW0.out];refine KU.out.mono ?_;rintro q w1 ⟨rfl,b1⟩;have HK1:Hid (w1.heap[w.heap.size]?=some (.cells (ec ezz) 24 (0,0))):=(b1.block _ (zgx HK0.out)).trans HK0.out;have HB1:Hid (Below w.heap.size w w1):=HB0.out.trans (b1.mono HB0.out.size);have HS1:Hid (w.heap.size<w1.heap.size):=(zgx HK1.out);clear b1
 go_wp2_with fail
 refine (KN.out _).mono ?_;rintro q w2 ⟨rfl,R2,b2,z2⟩;obtain ⟨W3,hW3⟩:∃ W3,W3=w2.alloc (Obj.cells (ec ezz) 24):=⟨_,rfl⟩;have bb:Below w2.heap.size w2 W3:=by rw [hW3];exact zba
 have HR3:Hid (Rd 72 w1.heap.size u false W3):=R2.below bb R2.lt;have b3:Below w1.heap.size w1 W3:=b2.trans (bb.mono b2.size);have HK3:Hid (W3.heap[w.heap.size]?=some (.cells (ec ezz) 24 (0,0))):=(b3.block _ HS1.out).trans HK1.out;have HE3:Hid (W3.heap[w2.heap.size]?=some (.cells (ec ezz) 24 (0,0))):=by show _=_;rw [hW3];exact heap_alloc_new w2 _
 have HB3:Hid (Below w.heap.size w W3):=HB1.out.trans (b3.mono HB1.out.size);have HZ:Hid (w2.heap.size=w1.heap.size+1):=z2;have HZ3:Hid (W3.heap.size=w2.heap.size+1):=by show _=_;rw [hW3];simp
 have HW3:=zh hW3;clear R2 bb b3 b2 z2 hW3
 go_wp2_with fail
 rw [←HW3.out];refine (K.out _ _ HR3.out).mono ?_;rintro q w4 ⟨rfl,R4,g4⟩;have HR4:=zh R4;have HK4:Hid (w4.heap[w.heap.size]?=some (.cells (ec ezz) 24 (0,0))):=(g4.block _ (zgx HK3.out) (by have:=HS1.out;simp;omega)).trans HK3.out;have HE4:Hid (w4.heap[w2.heap.size]?=some (.cells (ec ezz) 24 (0,0))):=(g4.block _ (zgx HE3.out) (by have:=HZ.out;simp;omega)).trans HE3.out;have HB4:Hid (Below w.heap.size w w4):=below_grownBy HB3.out g4 HB3.out.size (by have:=HS1.out;omega);clear R4 g4;obtain ⟨z0,z1,z2,z3,z4,z5,z6,z7,z8,z9,z10⟩:=zezl (w:=w4) (b:=w2.heap.size) HE4.out;have fz:∀ i,w4.frozen? ⟨w2.heap.size,i,none⟩=false:=fun i=>Lib.frozen_of_heap HE4.out i
 go_upto_region 7 with fail
 obtain ⟨W5,hW5⟩:∃ W5,W5=wz w4 w2.heap.size X:=⟨_,rfl⟩;have k5:W5.heap[w2.heap.size]?=some (.cells (ec X) 24 (0,0)):=by rw [hW5];exact store_all X HE4.out
 have HB5:Hid (Below w.heap.size w W5):=by rw [hW5];exact below_all X HB4.out (by have:=HS1.out;have:=HZ.out;omega)
 have key:∀ k,k≠w2.heap.size→W5.heap[k]?=w4.heap[k]?:=fun k hk=>by
  have hst:∀ (w:World) (i:Nat) (u:Value),(w.setCell ⟨w2.heap.size,i,none⟩ u).heap[k]?=w.heap[k]?:=fun w i u=>Below.heap_setCell w _ _ k (by simp;omega);rw [hW5];unfold wz;rw [hst,hst,hst,hst,hst,hst,hst,hst,hst,hst,hst]
 have HK5:Hid (W5.heap[w.heap.size]?=some (.cells (ec ezz) 24 (0,0))):=(key _ (by have:=HS1.out;have:=HZ.out;omega)).trans HK4.out;have HR5:Hid (W5.heap[w1.heap.size]?=w4.heap[w1.heap.size]?):=key _ (by have:=HZ.out;omega);have r0:W5.cell? ⟨w1.heap.size,0,none⟩=some (.string T):=(World.cell?_of_block HR5.out).trans HR4.out.cell0;have r1:W5.cell? ⟨w1.heap.size,1,none⟩=some (.bool b):=(World.cell?_of_block HR5.out).trans HR4.out.cell1;have HX5:=zh k5;unfold wz at hW5;rw [←hW5];clear hW5 k5 key z0 z1 z2 z3 z4 z5 z6 z7 z8 z9 z10 fz HK0 HK1 HK3 HK4 HE3 HE4 HR3 HR4 HR5 HB0 HB1 HB3 HB4;obtain ⟨z0,z1,z2,z3,z4,z5,z6,z7,z8,z9,z10⟩:=zezl (w:=W5) (b:=w.heap.size) HK5.out;obtain ⟨x0,x1,x2,x3,x4,x5,x6,x7,x8,x9,x10⟩:=zecl (w:=W5) (b:=w2.heap.size) (e:=X) HX5.out;have fz:∀ i,W5.frozen? ⟨w.heap.size,i,none⟩=false:=fun i=>Lib.frozen_of_heap HK5.out i
 cases ou with
 | false =>
   have ha:=True.intro;go_wp2;obtain ⟨WF,hWF⟩:∃ WF,WF=wz W5 w.heap.size ezz:=⟨_,rfl⟩
   have HBK:Hid (WF.heap[w.heap.size]?=some (.cells (ec ezz) 24 (0,0))):=by
    show _=_
    rw [hWF];exact store_all ezz HK5.out
   have HBF:Hid (Below w.heap.size w WF):=by rw [hWF];exact below_all ezz HB5.out (Nat.le_refl _)
   unfold wz at hWF;rw [←hWF];obtain ⟨f0,f1,f2,f3,f4,f5,f6,f7,f8,f9,f10⟩:=zezl (w:=WF) (b:=w.heap.size) HBK.out;exact bodyPost_ret (v:=.tuple #[ev ezz,.int .i64 0,.bool false]) (by simp [results,Tryz.results14,go_sem,f0,f1,f2,f3,f4,f5,f6,f7,f8,f9,f10]) rfl ⟨by have ho:o=false:=HO.out.trans (by simp [whO,ha]);obtain ⟨hY,hw⟩:=HD.out.2 ho;rw [ho,hY,hw],HBF.out⟩
 | true =>
   cases b with
   | true =>
     have ha:=True.intro;go_wp2;obtain ⟨WF,hWF⟩:∃ WF,WF=wz W5 w.heap.size ezz:=⟨_,rfl⟩
     have HBK:Hid (WF.heap[w.heap.size]?=some (.cells (ec ezz) 24 (0,0))):=by
      show _=_
      rw [hWF];exact store_all ezz HK5.out
     have HBF:Hid (Below w.heap.size w WF):=by rw [hWF];exact below_all ezz HB5.out (Nat.le_refl _)
     unfold wz at hWF;rw [←hWF];obtain ⟨f0,f1,f2,f3,f4,f5,f6,f7,f8,f9,f10⟩:=zezl (w:=WF) (b:=w.heap.size) HBK.out;exact bodyPost_ret (v:=.tuple #[ev ezz,.int .i64 0,.bool false]) (by simp [results,Tryz.results14,go_sem,f0,f1,f2,f3,f4,f5,f6,f7,f8,f9,f10]) rfl ⟨by have ho:o=false:=HO.out.trans (by simp [whO,ha]);obtain ⟨hY,hw⟩:=HD.out.2 ho;rw [ho,hY,hw],HBF.out⟩
   | false =>
     by_cases ha:T.size=0
     ·have hT:=ba_nil ha;subst hT;go_wp2;obtain ⟨WF,hWF⟩:∃ WF,WF=wz W5 w.heap.size X:=⟨_,rfl⟩
      have HBK:Hid (WF.heap[w.heap.size]?=some (.cells (ec X) 24 (0,0))):=by
       show _=_
       rw [hWF];exact store_all X HK5.out
      have HBF:Hid (Below w.heap.size w WF):=by rw [hWF];exact below_all X HB5.out (Nat.le_refl _)
      unfold wz at hWF;rw [←hWF];obtain ⟨f0,f1,f2,f3,f4,f5,f6,f7,f8,f9,f10⟩:=zecl (w:=WF) (b:=w.heap.size) (e:=X) HBK.out;exact bodyPost_ret (v:=.tuple #[ev X,.int .i64 v,.bool true]) (by simp [results,Tryz.results14,go_sem,f0,f1,f2,f3,f4,f5,f6,f7,f8,f9,f10]) rfl ⟨by have ho:o=true:=HO.out.trans (by simp [whO,ha]);obtain ⟨hY,hw⟩:=HD.out.1 ho;rw [ho,hY,hw],HBF.out⟩
     ·have hne:=ba_some ha;go_wp2;obtain ⟨WF,hWF⟩:∃ WF,WF=wz W5 w.heap.size ezz:=⟨_,rfl⟩
      have HBK:Hid (WF.heap[w.heap.size]?=some (.cells (ec ezz) 24 (0,0))):=by
       show _=_
       rw [hWF];exact store_all ezz HK5.out
      have HBF:Hid (Below w.heap.size w WF):=by rw [hWF];exact below_all ezz HB5.out (Nat.le_refl _)
      unfold wz at hWF;rw [←hWF];obtain ⟨f0,f1,f2,f3,f4,f5,f6,f7,f8,f9,f10⟩:=zezl (w:=WF) (b:=w.heap.size) HBK.out;exact bodyPost_ret (v:=.tuple #[ev ezz,.int .i64 0,.bool false]) (by simp [results,Tryz.results14,go_sem,f0,f1,f2,f3,f4,f5,f6,f7,f8,f9,f10]) rfl ⟨by have ho:o=false:=HO.out.trans (by simp [whO,ha]);obtain ⟨hY,hw⟩:=HD.out.2 ho;rw [ho,hY,hw],HBF.out⟩
theorem rGetE1_any (s:ByteArray) (X:En) (T:ByteArray) (b:Bool) (w:World) (hs:s.size≤140737488351232) (hv:uV s≠2)
 (hK:∀ g W,Rd 72 g (uB s) false W→Calls Tryz.prog 44 #[.pointer (some ⟨g,0,none⟩)] W fun q w'=>q=.returned (ev X)∧Rd 72 g T b w'∧W.grownBy w' (some g)) :
 Calls Tryz.prog 14 #[.string s] w fun q w'=>q=.returned (.tuple #[ev (if rgO s b T then X else ezz),.int .i64 (if rgO s b T then uV s else 0),.bool (rgO s b T)])∧Below w.heap.size w w':=by
 obtain ⟨W0,hW0⟩:∃ W0,W0=w.alloc (Obj.cells (ec ezz) 24):=⟨_,rfl⟩;have b0:Below w.heap.size w W0:=by rw [hW0];exact zba
 have k0:W0.heap[w.heap.size]?=some (.cells (ec ezz) 24 (0,0)):=by rw [hW0];exact heap_alloc_new w _
 have s0:W0.heap.size=w.heap.size+1:=by rw [hW0];simp
 have KU0:=runpack_any s W0 (by omega);have hr:rgO s b T=(uO s&&whO b T):=rfl;rw [hr];clear hr;obtain ⟨ou,hou⟩:∃ ou,ou=uO s:=⟨_,rfl⟩;obtain ⟨u,hu⟩:∃ u,u=uB s:=⟨_,rfl⟩;obtain ⟨v,hvv⟩:∃ v,v=uV s:=⟨_,rfl⟩;rw [←hou] at KU0 ⊢;rw [←hu] at KU0 hK;rw [←hvv] at KU0 hv ⊢;have hv2:(v==2)=false:=by simpa using hv
 obtain ⟨o,ho⟩:∃ o,o=(ou&&whO b T):=⟨_,rfl⟩;rw [←ho];obtain ⟨Y,hY⟩:∃ Y,Y=if o=true then X else ezz:=⟨_,rfl⟩
 obtain ⟨vv,hw⟩:∃ vv:Int,vv=if o=true then v else 0:=⟨_,rfl⟩
 rw [←hY,←hw];have HO:=zh ho;have HD:Hid ((o=true→Y=X∧vv=v)∧(o=false→Y=ezz∧vv=0)):=⟨fun h=>⟨by rw [hY,if_pos h],by rw [hw,if_pos h]⟩,fun h=>⟨by rw [hY,h];rfl,by rw [hw,h];rfl⟩⟩;clear ho hY hw;have KU:=zh KU0;have KN:=zh (fun (W:World)=>rnew2 u W);have K:=zh hK;have HW0:=zh hW0;have HK0:=zh k0;have HB0:=zh b0;have HS0:=zh s0;clear hW0 k0 b0 s0 hK hou hu hvv hs hv KU0
 go_enter Tryz.func14,Tryz.ntmps14
 go_wp2_with fail
 rw [←HW0.out];refine KU.out.mono ?_;rintro q w1 ⟨rfl,b1⟩;have HK1:Hid (w1.heap[w.heap.size]?=some (.cells (ec ezz) 24 (0,0))):=(b1.block _ (zgx HK0.out)).trans HK0.out;have HB1:Hid (Below w.heap.size w w1):=HB0.out.trans (b1.mono HB0.out.size);have HS1:Hid (w.heap.size<w1.heap.size):=(zgx HK1.out);clear b1
 go_wp2_with fail
 refine (KN.out _).mono ?_;rintro q w2 ⟨rfl,R2,b2,z2⟩;obtain ⟨W3,hW3⟩:∃ W3,W3=w2.alloc (Obj.cells (ec ezz) 24):=⟨_,rfl⟩;have bb:Below w2.heap.size w2 W3:=by rw [hW3];exact zba
 have HR3:Hid (Rd 72 w1.heap.size u false W3):=R2.below bb R2.lt;have b3:Below w1.heap.size w1 W3:=b2.trans (bb.mono b2.size);have HK3:Hid (W3.heap[w.heap.size]?=some (.cells (ec ezz) 24 (0,0))):=(b3.block _ HS1.out).trans HK1.out;have HE3:Hid (W3.heap[w2.heap.size]?=some (.cells (ec ezz) 24 (0,0))):=by show _=_;rw [hW3];exact heap_alloc_new w2 _
 have HB3:Hid (Below w.heap.size w W3):=HB1.out.trans (b3.mono HB1.out.size);have HZ:Hid (w2.heap.size=w1.heap.size+1):=z2;have HZ3:Hid (W3.heap.size=w2.heap.size+1):=by show _=_;rw [hW3];simp
 have HW3:=zh hW3;clear R2 bb b3 b2 z2 hW3
 go_wp2_with fail
 rw [←HW3.out];refine (K.out _ _ HR3.out).mono ?_;rintro q w4 ⟨rfl,R4,g4⟩;have HR4:=zh R4;have HK4:Hid (w4.heap[w.heap.size]?=some (.cells (ec ezz) 24 (0,0))):=(g4.block _ (zgx HK3.out) (by have:=HS1.out;simp;omega)).trans HK3.out;have HE4:Hid (w4.heap[w2.heap.size]?=some (.cells (ec ezz) 24 (0,0))):=(g4.block _ (zgx HE3.out) (by have:=HZ.out;simp;omega)).trans HE3.out;have HB4:Hid (Below w.heap.size w w4):=below_grownBy HB3.out g4 HB3.out.size (by have:=HS1.out;omega);clear R4 g4;obtain ⟨z0,z1,z2,z3,z4,z5,z6,z7,z8,z9,z10⟩:=zezl (w:=w4) (b:=w2.heap.size) HE4.out;have fz:∀ i,w4.frozen? ⟨w2.heap.size,i,none⟩=false:=fun i=>Lib.frozen_of_heap HE4.out i
 go_upto_region 7 with fail
 obtain ⟨W5,hW5⟩:∃ W5,W5=wz w4 w2.heap.size X:=⟨_,rfl⟩;have k5:W5.heap[w2.heap.size]?=some (.cells (ec X) 24 (0,0)):=by rw [hW5];exact store_all X HE4.out
 have HB5:Hid (Below w.heap.size w W5):=by rw [hW5];exact below_all X HB4.out (by have:=HS1.out;have:=HZ.out;omega)
 have key:∀ k,k≠w2.heap.size→W5.heap[k]?=w4.heap[k]?:=fun k hk=>by
  have hst:∀ (w:World) (i:Nat) (u:Value),(w.setCell ⟨w2.heap.size,i,none⟩ u).heap[k]?=w.heap[k]?:=fun w i u=>Below.heap_setCell w _ _ k (by simp;omega);rw [hW5];unfold wz;rw [hst,hst,hst,hst,hst,hst,hst,hst,hst,hst,hst]
 have HK5:Hid (W5.heap[w.heap.size]?=some (.cells (ec ezz) 24 (0,0))):=(key _ (by have:=HS1.out;have:=HZ.out;omega)).trans HK4.out;have HR5:Hid (W5.heap[w1.heap.size]?=w4.heap[w1.heap.size]?):=key _ (by have:=HZ.out;omega);have r0:W5.cell? ⟨w1.heap.size,0,none⟩=some (.string T):=(World.cell?_of_block HR5.out).trans HR4.out.cell0;have r1:W5.cell? ⟨w1.heap.size,1,none⟩=some (.bool b):=(World.cell?_of_block HR5.out).trans HR4.out.cell1;have HX5:=zh k5;unfold wz at hW5;rw [←hW5];clear hW5 k5 key z0 z1 z2 z3 z4 z5 z6 z7 z8 z9 z10 fz HK0 HK1 HK3 HK4 HE3 HE4 HR3 HR4 HR5 HB0 HB1 HB3 HB4;obtain ⟨z0,z1,z2,z3,z4,z5,z6,z7,z8,z9,z10⟩:=zezl (w:=W5) (b:=w.heap.size) HK5.out;obtain ⟨x0,x1,x2,x3,x4,x5,x6,x7,x8,x9,x10⟩:=zecl (w:=W5) (b:=w2.heap.size) (e:=X) HX5.out;have fz:∀ i,W5.frozen? ⟨w.heap.size,i,none⟩=false:=fun i=>Lib.frozen_of_heap HK5.out i
 cases ou with
 | false =>
   have ha:=True.intro;go_wp2;obtain ⟨WF,hWF⟩:∃ WF,WF=wz W5 w.heap.size ezz:=⟨_,rfl⟩
   have HBK:Hid (WF.heap[w.heap.size]?=some (.cells (ec ezz) 24 (0,0))):=by
    show _=_
    rw [hWF];exact store_all ezz HK5.out
   have HBF:Hid (Below w.heap.size w WF):=by rw [hWF];exact below_all ezz HB5.out (Nat.le_refl _)
   unfold wz at hWF;rw [←hWF];obtain ⟨f0,f1,f2,f3,f4,f5,f6,f7,f8,f9,f10⟩:=zezl (w:=WF) (b:=w.heap.size) HBK.out;exact bodyPost_ret (v:=.tuple #[ev ezz,.int .i64 0,.bool false]) (by simp [results,Tryz.results14,go_sem,f0,f1,f2,f3,f4,f5,f6,f7,f8,f9,f10]) rfl ⟨by have ho:o=false:=HO.out.trans (by simp [whO,ha]);obtain ⟨hY,hw⟩:=HD.out.2 ho;rw [ho,hY,hw],HBF.out⟩
 | true =>
   cases b with
   | true =>
     have ha:=True.intro;go_wp2;obtain ⟨WF,hWF⟩:∃ WF,WF=wz W5 w.heap.size ezz:=⟨_,rfl⟩
     have HBK:Hid (WF.heap[w.heap.size]?=some (.cells (ec ezz) 24 (0,0))):=by
      show _=_
      rw [hWF];exact store_all ezz HK5.out
     have HBF:Hid (Below w.heap.size w WF):=by rw [hWF];exact below_all ezz HB5.out (Nat.le_refl _)
     unfold wz at hWF;rw [←hWF];obtain ⟨f0,f1,f2,f3,f4,f5,f6,f7,f8,f9,f10⟩:=zezl (w:=WF) (b:=w.heap.size) HBK.out;exact bodyPost_ret (v:=.tuple #[ev ezz,.int .i64 0,.bool false]) (by simp [results,Tryz.results14,go_sem,f0,f1,f2,f3,f4,f5,f6,f7,f8,f9,f10]) rfl ⟨by have ho:o=false:=HO.out.trans (by simp [whO,ha]);obtain ⟨hY,hw⟩:=HD.out.2 ho;rw [ho,hY,hw],HBF.out⟩
   | false =>
     by_cases ha:T.size=0
     ·have hT:=ba_nil ha;subst hT;go_wp2;obtain ⟨WF,hWF⟩:∃ WF,WF=wz W5 w.heap.size X:=⟨_,rfl⟩
      have HBK:Hid (WF.heap[w.heap.size]?=some (.cells (ec X) 24 (0,0))):=by
       show _=_
       rw [hWF];exact store_all X HK5.out
      have HBF:Hid (Below w.heap.size w WF):=by rw [hWF];exact below_all X HB5.out (Nat.le_refl _)
      unfold wz at hWF;rw [←hWF];obtain ⟨f0,f1,f2,f3,f4,f5,f6,f7,f8,f9,f10⟩:=zecl (w:=WF) (b:=w.heap.size) (e:=X) HBK.out;exact bodyPost_ret (v:=.tuple #[ev X,.int .i64 v,.bool true]) (by simp [results,Tryz.results14,go_sem,f0,f1,f2,f3,f4,f5,f6,f7,f8,f9,f10]) rfl ⟨by have ho:o=true:=HO.out.trans (by simp [whO,ha]);obtain ⟨hY,hw⟩:=HD.out.1 ho;rw [ho,hY,hw],HBF.out⟩
     ·have hne:=ba_some ha;go_wp2;obtain ⟨WF,hWF⟩:∃ WF,WF=wz W5 w.heap.size ezz:=⟨_,rfl⟩
      have HBK:Hid (WF.heap[w.heap.size]?=some (.cells (ec ezz) 24 (0,0))):=by
       show _=_
       rw [hWF];exact store_all ezz HK5.out
      have HBF:Hid (Below w.heap.size w WF):=by rw [hWF];exact below_all ezz HB5.out (Nat.le_refl _)
      unfold wz at hWF;rw [←hWF];obtain ⟨f0,f1,f2,f3,f4,f5,f6,f7,f8,f9,f10⟩:=zezl (w:=WF) (b:=w.heap.size) HBK.out;exact bodyPost_ret (v:=.tuple #[ev ezz,.int .i64 0,.bool false]) (by simp [results,Tryz.results14,go_sem,f0,f1,f2,f3,f4,f5,f6,f7,f8,f9,f10]) rfl ⟨by have ho:o=false:=HO.out.trans (by simp [whO,ha]);obtain ⟨hY,hw⟩:=HD.out.2 ho;rw [ho,hY,hw],HBF.out⟩
end Go.Proofs.YtpdbeijfchmlgaaGreat
