/- Parts of a proof. -/
import Derived.Test.YtidndekacnmihaaGreatC09
set_option linter.all false
set_option maxHeartbeats 8000000
set_option maxRecDepth 100000
namespace Go.Proofs.YtidndekacnmihaaGreat
open Bool renaming false→a,true→i
open Go renaming World→j
open Go.RowKit renaming Below→b
open IntKind renaming i64→d,u64→p
open Value renaming int→f,string→g,tuple→k,bool→l
open Tryz
open Go.RowKit
section
open Vi
theorem zkn (s:ByteArray) (w:j) (hs:s.size≤281474976710656) (h1:nV s=1) :
 Calls prog 192 #[g s] w fun e w'=>e=.returned (k #[f d (nxV s),g (nxB s),f d (nxN s),l (nOk s)])∧b w.heap.size w w':=by
 have KN:=zh (fun (W:j)=>zcE s W);have HS:=zh hs;have HS1:Hid ((zan s 1).size≤281474976710656):=ztL (zak s 1) hs;have HM:Hid ((za1 (zan s 1) 4:Nat)=nM s):=by show _=_;unfold nM;rw [if_pos h1]
 have HT:Hid (zan (zan s 1) 4=nT s):=by show _=_;unfold nT;rw [if_pos h1]
 have HO2:Hid ((a||!za3 s 1||!za3 (zan s 1) 4)=!nO2 s):=by show _=_;unfold nO2;rw [if_pos h1];show (a||!za3 s 1||!za3 (zan s 1) 4)=!(za3 s 1&&za3 (zan s 1) 4);cases za3 s 1<;>cases za3 (zan s 1) 4<;>rfl
 have HTS:Hid ((nT s).size≤s.size):=by show _≤_;rw [←HT.out];exact ztL (zak _ 4) (zak s 1)
 have HU:Hid ((nU s).size≤(nT s).size):=zbs _ _;have HR:Hid ((!nO2 s||!za3 (nT s) 4||!zbC (nU s) (nM s))=!nR s):=by show _=_;rw [show za3 (nT s) 4=zbC (nT s) 4 from zqy _ 4 (by omega)];unfold nR;cases nO2 s<;>cases zbC (nT s) 4<;>cases zbC (nU s) (nM s)<;>rfl
 have HQ:Hid (nOk s=(decide (nM s≤(nU s).size)&&(nR s&&(pkO (nV s) (nBd s)&&(decide ((pack (nV s) (nBd s)).size≤s.size)&&((s.extract 0 (pack (nV s) (nBd s)).size).toList==(pack (nV s) (nBd s)).toList)))))):=(zlv s).symm;have HPS:Hid (pkO (nV s) (nBd s)=i→pkS (nV s) (nBd s)=pack (nV s) (nBd s)):=fun h=>by unfold pkS;rw [if_pos h]
 have HPZ:=zh (zgC (nV s) (nBd s));have HUS:Hid ((nU s).size≤281474976710656):=ztL HU.out (ztL HTS.out hs);have HU4:Hid (zan (nT s) 4=nU s):=zr0 _ 4 (by omega);have HNN:Hid (nOk s=i→(s.size:Int)-(nW s).size=(pack (nV s) (nBd s)).size):=fun h=>zlu h;have KP:=zh (fun (W:j)=>zcR (nV s) (nBd s) W);have hsane0:Sane s a:=fun h=>by cases h
 have SA1:=zh (sane_fix s a 1 hsane0)
 have SA2:Hid (Sane (nT s) (!nO2 s)):=by
  have h:=sane_fix _ _ 4 (sane_fix s a 1 hsane0);have e1:=HO2.out;have e2:=HT.out;show Sane _ _;rw [←e1,←e2];exact h
 have SA3:=zh (sane_fix _ _ 4 SA2.out);obtain ⟨v,hv⟩:∃ v,v=nV s:=⟨_,rfl⟩;obtain ⟨F,hF⟩:∃ F,F=za1 s 1:=⟨_,rfl⟩;have hlt:F<256:=by rw [hF];exact zbZ s
 have hvF:(F:Int)-160=v:=by rw [hv,hF];rfl
 have hw1:d.wrap (F:Int)=F:=IntWalk.i64_in _ (by omega);have hw2:wrap64 ((F:Int)-160)=v:=by rw [←hvF];unfold wrap64;omega
 have HF:Hid (za1 s 1=F):=hF.symm;have HVV:Hid (nV s=v):=hv.symm;rw [←hv] at h1 HQ HPS KP HNN;obtain ⟨M,hM⟩:∃ M,M=nM s:=⟨_,rfl⟩;obtain ⟨T,hT⟩:∃ T,T=nT s:=⟨_,rfl⟩;obtain ⟨U,hU⟩:∃ U,U=nU s:=⟨_,rfl⟩;obtain ⟨r,hr⟩:∃ r,r=nR s:=⟨_,rfl⟩;have HB4:Hid (zcG U M=nBd s):=by show _=_;rw [hM,hU];rfl
 have HW4:Hid (zdh U M=nW s):=by show _=_;rw [hM,hU];rfl
 rw [←hM,←hU,←hr] at HQ;rw [←hr,←hT,←hU,←hM] at HR;rw [←hT] at HT HTS HU HU4 SA2 SA3;rw [←hU] at HUS HU HU4;rw [←hM] at HM;rw [HU4.out] at SA3;have HML:Hid (M<18446744073709551616):=by show _<_;rw [hM];exact zn5 s
 obtain ⟨B,hB⟩:∃ B,B=nBd s:=⟨_,rfl⟩;have HBB:Hid (nBd s=B):=hB.symm;rw [←hB] at HQ HPS HPZ HNN KP HB4;obtain ⟨P,hP⟩:∃ P,P=pkS v B:=⟨_,rfl⟩;obtain ⟨po,hpo⟩:∃ po,po=pkO v B:=⟨_,rfl⟩;rw [←hP,←hpo] at KP;rw [HVV.out,←hP] at HPZ;rw [←hpo] at HPS HQ;rw [←hP] at HPS;obtain ⟨PK,hPK⟩:∃ PK,PK=pack v B:=⟨_,rfl⟩;rw [←hPK] at HPS HQ HNN;have hUw:p.wrap (U.size:Int)=U.size:=by have:=HUS.out;rw [zt3];omega
 subst h1;clear hs hM hT hU hr hF hv hlt hvF hB hP hpo hPK hsane0;go_enter func192,ntmps192
 go_wp2_with fail
 refine (KN.out _).mono ?_;rintro e w1 ⟨rfl,hw1'⟩;have R1:Hid (Rd 261 w.heap.size s a w1):=by show Rd _ _ _ _ _;rw [hw1'];exact Rd.new w 261 s a
 have B1:Hid (b w.heap.size w w1):=by show b _ _ _;rw [hw1'];exact zba
 clear hw1'
 go_wp2_with fail
 refine (zaI _ _ _ 1 _ R1.out (fun h=>by cases h) HS.out).mono ?_;rintro e w2 ⟨rfl,r2,g2⟩;rw [HF.out];have R2:=zh r2;have B2:Hid (b w.heap.size w w2):=zaa B1.out g2 B1.out.size (ztI _);clear r2 g2;unfold rdp at *
 go_wp2_with fail
 refine (zaI _ _ _ 4 _ R2.out SA1.out HS1.out).mono ?_;rintro e w4 ⟨rfl,r4,g4⟩;rw [HM.out];rw [HT.out,HO2.out] at r4;have R4:=zh r4;have B4:Hid (b w.heap.size w w4):=zaa B2.out g4 B2.out.size (ztI _);clear r4 g4
 go_wp2_with fail
 refine (zaI _ _ _ 4 _ R4.out SA2.out (ztL HTS.out HS.out)).mono ?_;rintro e w5 ⟨rfl,r5,g5⟩;rw [HU4.out] at r5;have R5:=zh r5;have B5:Hid (b w.heap.size w w5):=zaa B4.out g5 B4.out.size (ztI _);have c0:=r5.cell0;clear r5 g5
 by_cases hgt:(U.size:Int)<(M:Int)
 ·have hno:nOk s=a:=by rw [HQ.out,ztM (by omega)];rfl
  have HNO:=zh hno;clear hno;go_wp2;refine ztP (v:=_) (by simp [results,results192,go_sem]) rfl ⟨zaF HNO.out,B5.out⟩
 have hus:=HUS.out;have hMw:d.wrap (M:Int)=M:=IntWalk.i64_in _ (by omega);have hgt2:¬ ((U.size:Int)<(M:Int)):=hgt;have HGT:Hid (decide (M≤U.size)=i):=ztN (by omega)
 go_wp2_with fail
 refine (zdi _ _ _ (M:Int) _ R5.out SA3.out HUS.out).mono ?_;rintro e w6 ⟨rfl,r6,g6⟩;rw [HB4.out];have e6:(!nO2 s||!za3 T 4||!zbC U (M:Int))=!r:=HR.out;rw [HW4.out,e6] at r6;have R6:=zh r6;have B6:Hid (b w.heap.size w w6):=zaa B5.out g6 B5.out.size (ztI _);clear r6 g6 c0 hgt hgt2 hMw hUw e6
 go_wp2_with fail
 refine (KP.out _).mono ?_;rintro e w7 ⟨rfl,b7⟩;have B7:=zh (B6.out.trans (b7.mono B6.out.size));have R7:=zh (R6.out.below b7 R6.out.lt);have c1:=R7.out.cell1;clear b7;rw [HGT.out,zt8] at HQ
 cases r with
 | false =>
   have HNO:Hid (nOk s=a):=HQ.out;go_wp2;refine ztP (v:=_) (by simp [results,results192,go_sem]) rfl ⟨zaF HNO.out,B7.out⟩
 | true =>
   cases po with
   | false =>
     have HNO:Hid (nOk s=a):=HQ.out;go_wp2;refine ztP (v:=_) (by simp [results,results192,go_sem]) rfl ⟨zaF HNO.out,B7.out⟩
   | true =>
     have hpk:=HPS.out rfl;subst hpk
     by_cases hlen:(s.size:Int)<(P.size:Int)
     ·have HNO:Hid (nOk s=a):=by show _=_;rw [HQ.out,ztM (show ¬ P.size≤s.size by omega)];rfl
      go_wp2;refine ztP (v:=_) (by simp [results,results192,go_sem]) rfl ⟨zaF HNO.out,B7.out⟩
     ·have hle:P.size≤s.size:=by omega
      obtain ⟨q,hq⟩:∃ q,((s.extract 0 P.size).toList==P.toList)=q:=⟨_,rfl⟩;have HQ2:Hid (nOk s=q):=by show _=_;rw [HQ.out,ztN hle,hq];rfl
      cases q with
      | false =>
        go_wp2;refine ztP (v:=_) (by simp [results,results192,go_sem]) rfl ⟨zaF HQ2.out,B7.out⟩
      | true =>
        go_wp2;refine ztP (v:=k #[f d 1,g B,f d P.size,l i]) (by simp [results,results192,go_sem,hw2]) rfl ⟨zc5 HQ2.out HVV.out HBB.out (HNN.out HQ2.out),B7.out⟩
theorem zko (s:ByteArray) (w:j) (hs:s.size≤281474976710656) (h1:nV s≠1) :
 Calls prog 192 #[g s] w fun e w'=>e=.returned (k #[f d (nxV s),g (nxB s),f d (nxN s),l (nOk s)])∧b w.heap.size w w':=by
 have KN:=zh (fun (W:j)=>zcE s W);have HS:=zh hs;have HS1:Hid ((zan s 1).size≤281474976710656):=ztL (zak s 1) hs;have HM:Hid ((zb3 (zan s 1):Nat)=nM s):=by show _=_;unfold nM;rw [if_neg h1]
 have HT:Hid (za2 (zan s 1)=nT s):=by show _=_;unfold nT;rw [if_neg h1]
 have HO2:Hid ((a||!za3 s 1||!zcd (zan s 1))=!nO2 s):=by show _=_;unfold nO2;rw [if_neg h1];show (a||!za3 s 1||!zcd (zan s 1))=!(za3 s 1&&zcd (zan s 1));cases za3 s 1<;>cases zcd (zan s 1)<;>rfl
 have HTS:Hid ((nT s).size≤s.size):=by show _≤_;rw [←HT.out];exact ztL (zbz _) (zak s 1)
 have HU:Hid ((nU s).size≤(nT s).size):=zbs _ _;have HR:Hid ((!nO2 s||!za3 (nT s) 4||!zbC (nU s) (nM s))=!nR s):=by show _=_;rw [show za3 (nT s) 4=zbC (nT s) 4 from zqy _ 4 (by omega)];unfold nR;cases nO2 s<;>cases zbC (nT s) 4<;>cases zbC (nU s) (nM s)<;>rfl
 have HQ:Hid (nOk s=(decide (nM s≤(nU s).size)&&(nR s&&(pkO (nV s) (nBd s)&&(decide ((pack (nV s) (nBd s)).size≤s.size)&&((s.extract 0 (pack (nV s) (nBd s)).size).toList==(pack (nV s) (nBd s)).toList)))))):=(zlv s).symm;have HPS:Hid (pkO (nV s) (nBd s)=i→pkS (nV s) (nBd s)=pack (nV s) (nBd s)):=fun h=>by unfold pkS;rw [if_pos h]
 have HPZ:=zh (zgC (nV s) (nBd s));have HUS:Hid ((nU s).size≤281474976710656):=ztL HU.out (ztL HTS.out hs);have HU4:Hid (zan (nT s) 4=nU s):=zr0 _ 4 (by omega);have HNN:Hid (nOk s=i→(s.size:Int)-(nW s).size=(pack (nV s) (nBd s)).size):=fun h=>zlu h;have KP:=zh (fun (W:j)=>zcR (nV s) (nBd s) W);have hsane0:Sane s a:=fun h=>by cases h
 have SA1:=zh (sane_fix s a 1 hsane0)
 have SA2:Hid (Sane (nT s) (!nO2 s)):=by
  have h:=sane_var _ _ (sane_fix s a 1 hsane0);have e1:=HO2.out;have e2:=HT.out;show Sane _ _;rw [←e1,←e2];exact h
 have SA3:=zh (sane_fix _ _ 4 SA2.out);obtain ⟨v,hv⟩:∃ v,v=nV s:=⟨_,rfl⟩;obtain ⟨F,hF⟩:∃ F,F=za1 s 1:=⟨_,rfl⟩;have hlt:F<256:=by rw [hF];exact zbZ s
 have hvF:(F:Int)-160=v:=by rw [hv,hF];rfl
 have hw1:d.wrap (F:Int)=F:=IntWalk.i64_in _ (by omega);have hw2:wrap64 ((F:Int)-160)=v:=by rw [←hvF];unfold wrap64;omega
 have HF:Hid (za1 s 1=F):=hF.symm;have HVV:Hid (nV s=v):=hv.symm;rw [←hv] at h1 HQ HPS KP HNN;obtain ⟨M,hM⟩:∃ M,M=nM s:=⟨_,rfl⟩;obtain ⟨T,hT⟩:∃ T,T=nT s:=⟨_,rfl⟩;obtain ⟨U,hU⟩:∃ U,U=nU s:=⟨_,rfl⟩;obtain ⟨r,hr⟩:∃ r,r=nR s:=⟨_,rfl⟩;have HB4:Hid (zcG U M=nBd s):=by show _=_;rw [hM,hU];rfl
 have HW4:Hid (zdh U M=nW s):=by show _=_;rw [hM,hU];rfl
 rw [←hM,←hU,←hr] at HQ;rw [←hr,←hT,←hU,←hM] at HR;rw [←hT] at HT HTS HU HU4 SA2 SA3;rw [←hU] at HUS HU HU4;rw [←hM] at HM;rw [HU4.out] at SA3;have HML:Hid (M<18446744073709551616):=by show _<_;rw [hM];exact zn5 s
 obtain ⟨B,hB⟩:∃ B,B=nBd s:=⟨_,rfl⟩;have HBB:Hid (nBd s=B):=hB.symm;rw [←hB] at HQ HPS HPZ HNN KP HB4;obtain ⟨P,hP⟩:∃ P,P=pkS v B:=⟨_,rfl⟩;obtain ⟨po,hpo⟩:∃ po,po=pkO v B:=⟨_,rfl⟩;rw [←hP,←hpo] at KP;rw [HVV.out,←hP] at HPZ;rw [←hpo] at HPS HQ;rw [←hP] at HPS;obtain ⟨PK,hPK⟩:∃ PK,PK=pack v B:=⟨_,rfl⟩;rw [←hPK] at HPS HQ HNN;have hUw:p.wrap (U.size:Int)=U.size:=by have:=HUS.out;rw [zt3];omega
 clear hs hM hT hU hr hF hv hlt hvF hB hP hpo hPK hsane0;go_enter func192,ntmps192
 go_wp2_with fail
 refine (KN.out _).mono ?_;rintro e w1 ⟨rfl,hw1'⟩;have R1:Hid (Rd 261 w.heap.size s a w1):=by show Rd _ _ _ _ _;rw [hw1'];exact Rd.new w 261 s a
 have B1:Hid (b w.heap.size w w1):=by show b _ _ _;rw [hw1'];exact zba
 clear hw1'
 go_wp2_with fail
 refine (zaI _ _ _ 1 _ R1.out (fun h=>by cases h) HS.out).mono ?_;rintro e w2 ⟨rfl,r2,g2⟩;rw [HF.out];have R2:=zh r2;have B2:Hid (b w.heap.size w w2):=zaa B1.out g2 B1.out.size (ztI _);clear r2 g2;unfold rdp at *
 go_wp2_with fail
 refine (zeV _ _ _ _ R2.out HS1.out).mono ?_;rintro e w4 ⟨rfl,r4,g4⟩;rw [HM.out];rw [HT.out,HO2.out] at r4;have R4:=zh r4;have B4:Hid (b w.heap.size w w4):=zaa B2.out g4 B2.out.size (ztI _);clear r4 g4
 go_wp2_with fail
 refine (zaI _ _ _ 4 _ R4.out SA2.out (ztL HTS.out HS.out)).mono ?_;rintro e w5 ⟨rfl,r5,g5⟩;rw [HU4.out] at r5;have R5:=zh r5;have B5:Hid (b w.heap.size w w5):=zaa B4.out g5 B4.out.size (ztI _);have c0:=r5.cell0;clear r5 g5
 by_cases hgt:(U.size:Int)<(M:Int)
 ·have hno:nOk s=a:=by rw [HQ.out,ztM (by omega)];rfl
  have HNO:=zh hno;clear hno;go_wp2;refine ztP (v:=_) (by simp [results,results192,go_sem]) rfl ⟨zaF HNO.out,B5.out⟩
 have hus:=HUS.out;have hMw:d.wrap (M:Int)=M:=IntWalk.i64_in _ (by omega);have hgt2:¬ ((U.size:Int)<(M:Int)):=hgt;have HGT:Hid (decide (M≤U.size)=i):=ztN (by omega)
 go_wp2_with fail
 refine (zdi _ _ _ (M:Int) _ R5.out SA3.out HUS.out).mono ?_;rintro e w6 ⟨rfl,r6,g6⟩;rw [HB4.out];have e6:(!nO2 s||!za3 T 4||!zbC U (M:Int))=!r:=HR.out;rw [HW4.out,e6] at r6;have R6:=zh r6;have B6:Hid (b w.heap.size w w6):=zaa B5.out g6 B5.out.size (ztI _);clear r6 g6 c0 hgt hgt2 hMw hUw e6
 go_wp2_with fail
 refine (KP.out _).mono ?_;rintro e w7 ⟨rfl,b7⟩;have B7:=zh (B6.out.trans (b7.mono B6.out.size));have R7:=zh (R6.out.below b7 R6.out.lt);have c1:=R7.out.cell1;clear b7;rw [HGT.out,zt8] at HQ
 cases r with
 | false =>
   have HNO:Hid (nOk s=a):=HQ.out;go_wp2;refine ztP (v:=_) (by simp [results,results192,go_sem]) rfl ⟨zaF HNO.out,B7.out⟩
 | true =>
   cases po with
   | false =>
     have HNO:Hid (nOk s=a):=HQ.out;go_wp2;refine ztP (v:=_) (by simp [results,results192,go_sem]) rfl ⟨zaF HNO.out,B7.out⟩
   | true =>
     have hpk:=HPS.out rfl;subst hpk
     by_cases hlen:(s.size:Int)<(P.size:Int)
     ·have HNO:Hid (nOk s=a):=by show _=_;rw [HQ.out,ztM (show ¬ P.size≤s.size by omega)];rfl
      go_wp2;refine ztP (v:=_) (by simp [results,results192,go_sem]) rfl ⟨zaF HNO.out,B7.out⟩
     ·have hle:P.size≤s.size:=by omega
      obtain ⟨q,hq⟩:∃ q,((s.extract 0 P.size).toList==P.toList)=q:=⟨_,rfl⟩;have HQ2:Hid (nOk s=q):=by show _=_;rw [HQ.out,ztN hle,hq];rfl
      cases q with
      | false =>
        go_wp2;refine ztP (v:=_) (by simp [results,results192,go_sem]) rfl ⟨zaF HQ2.out,B7.out⟩
      | true =>
        go_wp2;refine ztP (v:=k #[f d v,g B,f d P.size,l i]) (by simp [results,results192,go_sem,hw2]) rfl ⟨zc5 HQ2.out HVV.out HBB.out (HNN.out HQ2.out),B7.out⟩
theorem zfb (s:ByteArray) (w:j) (hs:s.size≤281474976710656) :
 Calls prog 192 #[g s] w fun e w'=>e=.returned (k #[f d (nxV s),g (nxB s),f d (nxN s),l (nOk s)])∧b w.heap.size w w':=by
 by_cases h1:nV s=1
 ·exact zkn s w hs h1
 ·exact zko s w hs h1
end
end Go.Proofs.YtidndekacnmihaaGreat
