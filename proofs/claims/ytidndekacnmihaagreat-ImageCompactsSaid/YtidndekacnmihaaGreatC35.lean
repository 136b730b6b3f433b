/- Parts of a proof. -/
import Derived.Test.YtidndekacnmihaaGreatC25
import Derived.Test.YtidndekacnmihaaGreatC34
set_option linter.all false
set_option maxHeartbeats 8000000
set_option maxRecDepth 100000
namespace Go.Proofs.YtidndekacnmihaaGreat
open Bool renaming false→H,true→N
open Ending renaming returned→P
open Go renaming World→D,Calls→M
open Go.RowKit renaming Below→F
open Go.RowKit.Below renaming refl→Q
open IntKind renaming i64→j,u64→O
open Obj renaming cells→C
open Option renaming none→l,some→A
open Tryz renaming prog→I
open Value renaming int→f,string→T,slice→U
open Tryz hiding t4
variable {B g q1 q2 z:Nat} {L:List Nat} {W w:D}
namespace J
open Go.RowKit Vi Sp Dk
theorem zeh (B gr:Nat) (L:List Nat) (d:St) (at_:Int) (w:D) (h:Rf w B gr L d) (ha1:-9223372036854775808≤at_) (ha2:at_≤9223372036854775807) :
 M I 125 #[ptr gr,f j at_] w fun e w'=>e=rdV d at_∧F w.heap.size w w':=by
 have ho:=h.1.n2
 have S64:Hid (∀ i:Int,(zb0 d i).size≤281474976710656):=fun i=>by
  unfold zb0;rw [zah,h.1.now];omega
 have K1:=zh (zcq B gr L d at_ w h);have K2:=zh (zcq B gr L d (at_+1) w h);have T1:Hid (d.refuses at_=0→txt (d.readS at_)=zb0 d at_):=fun h=>by unfold St.readS zb0;rw [if_pos h]
 have T2:Hid (d.refuses (at_+1)=0→txt (d.readS (at_+1))=zb0 d (at_+1)):=fun h=>by unfold St.readS zb0;rw [if_pos h]
 by_cases h1:d.refuses at_=0
 ·obtain ⟨n1,n2,_⟩:=zbd h1;have hwa:j.wrap (at_+1)=at_+1:=IntWalk.i64_in _ (by omega);rw [T1.out h1,h1] at K1
  by_cases h2:d.refuses (at_+1)=0
  ·rw [T2.out h2,h2] at K2;have hB:zaS d at_=0:=by unfold zaS;rw [if_neg (by rw [h1];simp)];exact h2
   have KA:=zh (fun W=>zhQ (zb0 d at_) W (S64.out _));have KB:=zh (fun W=>zhQ (zb0 d (at_+1)) W (S64.out _));have R0:Hid (gAt d at_=0→gAt d (at_+1)=0→_):=fun h0 h1=>zjC hB h0 h1;have R1:=zh (zl4 hB);have R2:=zh (zjD hB);clear h1 h2 hB T1 T2 S64 h n1 n2;unfold gAt at R0 R1 R2;unfold bAt at R1 R2;generalize zeP (zb0 d at_)=g0 at *;generalize zfU (zb0 d at_)=b0 at *;generalize zeP (zb0 d (at_+1))=g1 at *;generalize zfU (zb0 d (at_+1))=b1 at *;generalize gO (zb0 d at_)=o0 at *;generalize gO (zb0 d (at_+1))=o1 at *;generalize zb0 d at_=s0 at *;generalize zb0 d (at_+1)=s1 at *;unfold ptr at *
   by_cases e0:g0=0
   ·subst e0
    by_cases e1:g1=0
    ·subst e1;have R:=zh (R0.out rfl rfl);clear R0 R1 R2;go_enter func125,ntmps125
     go_wp2_with fail
     refine K1.out.mono ?_;rintro e w1 ⟨rfl,rfl⟩
     go_wp2_with fail
     refine K2.out.mono ?_;rintro e w1 ⟨rfl,rfl⟩
     go_wp2_with fail
     refine (KA.out _).mono ?_;rintro e w1 ⟨rfl,b1'⟩
     go_wp2_with fail
     refine (KB.out _).mono ?_;rintro e w2 ⟨rfl,b2'⟩;go_wp2;refine ztP (v:=_) (by simp [results,results125,go_sem]) rfl ⟨R.out.symm,b1'.trans (b2'.mono b1'.size)⟩
    ·have R:=zh (R1.out (by omega));have q1:((g1:Int)==0)=H:=by simpa using e1
     have q1':decide (g1=0)=H:=ztM e1;have q2:decide ((g1:Int)≤0)=H:=ztM (by omega);have q3:¬ g1≤0:=by omega
     clear R0 R1 R2 e1;go_enter func125,ntmps125
     go_wp2_with fail
     refine K1.out.mono ?_;rintro e w1 ⟨rfl,rfl⟩
     go_wp2_with fail
     refine K2.out.mono ?_;rintro e w1 ⟨rfl,rfl⟩
     go_wp2_with fail
     refine (KA.out _).mono ?_;rintro e w1 ⟨rfl,b1'⟩
     go_wp2_with fail
     refine (KB.out _).mono ?_;rintro e w2 ⟨rfl,b2'⟩;go_wp2;refine ztP (v:=_) (by simp [results,results125,go_sem]) rfl ⟨R.out.symm,b1'.trans (b2'.mono b1'.size)⟩
   ·have p1:((g0:Int)==0)=H:=by simpa using e0
    have p1':decide (g0=0)=H:=ztM e0
    by_cases hlt:g0<g1
    ·have R:=zh (R1.out hlt);have q2:decide ((g1:Int)≤(g0:Int))=H:=ztM (by omega);have q2':decide (g1≤g0)=H:=ztM (by omega);clear R0 R1 R2 e0 hlt;go_enter func125,ntmps125
     go_wp2_with fail
     refine K1.out.mono ?_;rintro e w1 ⟨rfl,rfl⟩
     go_wp2_with fail
     refine K2.out.mono ?_;rintro e w1 ⟨rfl,rfl⟩
     go_wp2_with fail
     refine (KA.out _).mono ?_;rintro e w1 ⟨rfl,b1'⟩
     go_wp2_with fail
     refine (KB.out _).mono ?_;rintro e w2 ⟨rfl,b2'⟩;go_wp2;refine ztP (v:=_) (by simp [results,results125,go_sem]) rfl ⟨R.out.symm,b1'.trans (b2'.mono b1'.size)⟩
    ·have R:=zh (R2.out hlt e0);have q2:(g1:Int)≤(g0:Int):=by omega
     have q2':g1≤g0:=by omega
     clear R0 R1 R2 e0 hlt;go_enter func125,ntmps125
     go_wp2_with fail
     refine K1.out.mono ?_;rintro e w1 ⟨rfl,rfl⟩
     go_wp2_with fail
     refine K2.out.mono ?_;rintro e w1 ⟨rfl,rfl⟩
     go_wp2_with fail
     refine (KA.out _).mono ?_;rintro e w1 ⟨rfl,b1'⟩
     go_wp2_with fail
     refine (KB.out _).mono ?_;rintro e w2 ⟨rfl,b2'⟩;go_wp2;refine ztP (v:=_) (by simp [results,results125,go_sem]) rfl ⟨R.out.symm,b1'.trans (b2'.mono b1'.size)⟩
  ·have hB:zaS d at_=d.refuses (at_+1):=by unfold zaS;rw [if_neg (by rw [h1];simp)]
   have R:=zh (ziM (d:=d) (a:=at_) (by rw [hB];exact h2));rw [hB] at R;have hbz:(d.refuses (at_+1) != 0)=N:=by simpa using h2
   clear h1 h2 hB T1 T2 S64 h n1 n2;generalize d.refuses (at_+1)=E at *;unfold ptr at *;go_enter func125,ntmps125
   go_wp2_with fail
   refine K1.out.mono ?_;rintro e w1 ⟨rfl,rfl⟩
   go_wp2_with fail
   refine K2.out.mono ?_;rintro e w1 ⟨rfl,rfl⟩;go_wp2;refine ztP (v:=_) (by simp [results,results125,go_sem]) rfl ⟨R.out.symm,Q _ _⟩
 ·have hB:zaS d at_=d.refuses at_:=by unfold zaS;rw [if_pos h1]
  have R:=zh (ziM (d:=d) (a:=at_) (by rw [hB];exact h1));rw [hB] at R;have hbz:(d.refuses at_ != 0)=N:=by simpa using h1
  clear h1 hB T1 T2 S64 h K2;generalize d.refuses at_=E at *;unfold ptr at *;go_enter func125,ntmps125
  go_wp2_with fail
  refine K1.out.mono ?_;rintro e w1 ⟨rfl,rfl⟩;go_wp2;refine ztP (v:=_) (by simp [results,results125,go_sem]) rfl ⟨R.out.symm,Q _ _⟩
theorem zfo (B g:Nat) (L:List Nat) (d:St) (a:Int) (s:ByteArray) (w:D) (h:Rf w B g L d) (ha1:-9223372036854775808≤a) (ha2:a≤9223372036854775807) :
 M I 119 #[ptr g,f j a,T s] w fun e w'=>e=P (f j (wr d a s).2)∧zaB B g L (wr d a s).1 w w':=by
 have K:=zh (zeh B g L d a w h ha1 ha2);unfold rdV at K;have hn2:=h.1.n2;obtain ⟨res,hres⟩:∃ res,res=wr d a s:=⟨_,rfl⟩;rw [←hres];have HRES:=zh hres
 by_cases h51:51<s.size
 ·have e1:res=(d,3):=by rw [hres];unfold wr;rw [if_pos h51]
  have hl:(51:Int)<s.size:=by omega
  have HM:Hid (zaB B g L d w w):=⟨h,zaw.refl _ _⟩;rw [e1];clear hres K e1 h51 h;unfold ptr;go_enter func119,ntmps119;go_wp2;go_ret;exact ⟨rfl,HM.out⟩
 ·have hl:¬ (51:Int)<s.size:=by omega
  have hl':(s.size:Int)≤51:=by omega
  have hk:=zl5 d a;have hg:=zl6 d a;have hko:j.wrap (1-(rdK d a:Int))=1-(rdK d a:Int):=IntWalk.i64_in _ (by omega);have hstep:wr d a s=if rdE d a≠0∧rdE d a≠6 then (d,rdE d a) else if rdG d a=18446744073709551615 then (d,4) else wrT d (a+wrO d a) (cS (rdG d a+1) s):=by unfold wr;rw [if_neg h51]
  rw [hstep] at hres;clear hstep
  by_cases hE:rdE d a≠0∧rdE d a≠6
  ·rw [if_pos hE] at hres;have HD:=zh h;rw [hres];have h6:(rdE d a==6)=H:=by simpa using hE.2
   have h0:(rdE d a != 0)=N:=by simpa using hE.1
   clear hres hE h HRES h51;generalize rdE d a=E at *;generalize rdK d a=k at *;generalize rdG d a=G at *;generalize rdB d a=b at *;unfold ptr at *;go_enter func119,ntmps119
   go_wp2_with fail
   refine K.out.mono ?_;rintro e w1 ⟨rfl,b1⟩;go_wp2;go_ret;exact ⟨rfl,HD.out.below b1,zaw.of_below b1⟩
  ·rw [if_neg hE] at hres
   by_cases hG:rdG d a=18446744073709551615
   ·rw [if_pos hG] at hres;have HD:=zh h;rw [hres];rw [hG] at K;rcases (by omega:rdE d a=6∨rdE d a=0) with h6|h6
    all_goals
     rw [h6] at K;clear hres hE h HRES h51 hG h6;generalize rdK d a=k at *;generalize rdB d a=b at *;unfold ptr at *;go_enter func119,ntmps119
     go_wp2_with fail
     refine K.out.mono ?_;rintro e w1 ⟨rfl,b1⟩;go_wp2;go_ret;exact ⟨rfl,HD.out.below b1,zaw.of_below b1⟩
   ·rw [if_neg hG] at hres;obtain ⟨q1,q2⟩:=zp8 (d:=d) (a:=a) (by omega);obtain ⟨n1,n2,_⟩:=zbd q1;have hgw:O.wrap ((rdG d a:Int)+1)=((rdG d a+1:Nat):Int):=(IntWalk.u64_in _ (by omega)).trans (by push_cast;rfl);have KP:=zh (fun W=>zhU (rdG d a+1) s W (by omega) (by omega));obtain ⟨c,hc⟩:∃ c,c=cS (rdG d a+1) s:=⟨_,rfl⟩;rw [←hc] at KP hres;generalize cO (rdG d a+1) s=co at *;have hgE:((rdG d a:Int)==18446744073709551615)=H:=by simpa using fun h=>hG (by omega)
    have KW:=zh (fun (i:Int) (W:D) (hb:F w.heap.size w W)=>zcu B g L d i c.data.toList W (h.below hb));have KF:=zh (fun (L':List Nat) (d':St) (W:D) (h':Rf W B g L' d')=>zct B g L' d' W h')
    have KW2:Hid (∀ (i:Int) (W:D),F w.heap.size w W→M I 70 #[ptr g,f j i,T c] W fun e w'=>e=P (f j (d.write i c.data.toList).2)∧zaB B g L (d.write i c.data.toList).1 W w'):=fun i W hb=>by
     have:=KW.out i W hb
     rwa [zlf] at this
    obtain ⟨o,ho⟩:∃ o,o=wrO d a:=⟨_,rfl⟩
    have hoo:o=0∨o=1:=by
     rw [ho];unfold wrO;split
     ·exact .inl rfl
     ·omega
    have hwo:j.wrap (a+o)=a+o:=IntWalk.i64_in _ (by omega);have hv1:j.wrap (a+1)=a+1:=IntWalk.i64_in _ (by omega);have KWi:=zh (KW2.out (a+o));rw [←ho] at hres;unfold wrT at hres;have HRS:=zh hres;obtain ⟨r,hr⟩:∃ r,r=d.write (a+o) c.data.toList:=⟨_,rfl⟩;rw [←hr] at KWi HRS;have HWO:Hid (o=if rdE d a=6 then 0 else 1-(rdK d a:Int)):=ho;clear hres HRES hc h51 h KW KW2 q1 q2 n1 n2 hr ho hn2 ha1 ha2;rcases (by omega:rdE d a=6∨rdE d a=0) with h6|h6
    ·rw [h6,if_pos rfl] at HWO;have h0:o=0:=HWO.out;subst h0;rw [h6] at K;clear hE hG h6 HWO hoo;generalize rdK d a=k at *;generalize rdB d a=b at *;generalize rdG d a=G at *;have hwa:j.wrap a=a:=by simpa using hwo
     have KWj:Hid (∀ W:D,F w.heap.size w W→M I 70 #[ptr g,f j a,T c] W fun e w'=>e=P (f j r.2)∧zaB B g L r.1 W w'):=fun W hb=>by
      have:=KWi.out W hb
      rwa [Int.add_zero] at this
     clear KWi;unfold ptr at *;go_enter func119,ntmps119
     go_wp2_with fail
     refine K.out.mono ?_;rintro e w1 ⟨rfl,b1⟩
     go_wp2_with fail
     refine (KP.out _).mono ?_;rintro e w2 ⟨rfl,b2⟩;have b12:=b1.trans (b2.mono b1.size)
     go_wp2_with fail
     refine (KWj.out _ b12).mono ?_;rintro e w3 ⟨rfl,M3⟩
     by_cases hr0:r.2=0
     ·have HR2:Hid (res=r.1.flush):=by show _=_;rw [HRS.out,if_neg (by rw [hr0];simp)]
      rw [hr0];obtain ⟨D3,k3⟩:=M3;have KF3:=zh (KF.out L r.1 w3 D3);have MM:Hid (∀ w4,zaB B g L r.1.flush.1 w3 w4→zaB B g L r.1.flush.1 w w4):=fun w4 ⟨hd4,hk4⟩=>⟨hd4,((zaw.of_below b12).trans k3).trans hk4⟩;clear D3 k3 hr0 HRS KF KP KWj K b1 b2 b12;unfold ptr at *
      go_wp2_with fail
      refine KF3.out.mono ?_;rintro e w4 ⟨rfl,M4⟩;go_wp2;go_ret;exact ⟨by rw [HR2.out];rfl,by rw [HR2.out];exact MM.out _ M4⟩
     ·have HR2:Hid (res=r):=by show _=_;rw [HRS.out,if_pos hr0]
      have hbz:(r.2 != 0)=N:=by simpa using hr0
      have MM:Hid (zaB B g L r.1 w w3):=⟨M3.1,(zaw.of_below b12).trans M3.2⟩;clear hr0 HRS KF KP KWj K b1 b2 b12 M3;go_wp2;go_ret;exact ⟨by rw [HR2.out];rfl,by rw [HR2.out];exact MM.out⟩
    ·rw [h6,if_neg (by decide)] at HWO;have h0:o=1-(rdK d a:Int):=HWO.out;subst h0;rw [h6] at K;clear hE hG h6 HWO hoo;generalize rdK d a=k at *;generalize rdB d a=b at *;generalize rdG d a=G at *
     have KWj:Hid (∀ W:D,F w.heap.size w W→M I 70 #[ptr g,f j (a+1-k),T c] W fun e w'=>e=P (f j r.2)∧zaB B g L r.1 W w'):=fun W hb=>by
      have:=KWi.out W hb
      rwa [show a+(1-(k:Int))=a+1-k from by omega] at this
     clear KWi;have hv2:j.wrap (a+1-k)=a+1-k:=by rw [show a+1-(k:Int)=a+(1-(k:Int)) from by omega];exact hwo
     clear hwo;unfold ptr at *;go_enter func119,ntmps119
     go_wp2_with fail
     refine K.out.mono ?_;rintro e w1 ⟨rfl,b1⟩
     go_wp2_with fail
     refine (KP.out _).mono ?_;rintro e w2 ⟨rfl,b2⟩;have b12:=b1.trans (b2.mono b1.size)
     go_wp2_with fail
     refine (KWj.out _ b12).mono ?_;rintro e w3 ⟨rfl,M3⟩
     by_cases hr0:r.2=0
     ·have HR2:Hid (res=r.1.flush):=by show _=_;rw [HRS.out,if_neg (by rw [hr0];simp)]
      rw [hr0];obtain ⟨D3,k3⟩:=M3;have KF3:=zh (KF.out L r.1 w3 D3);have MM:Hid (∀ w4,zaB B g L r.1.flush.1 w3 w4→zaB B g L r.1.flush.1 w w4):=fun w4 ⟨hd4,hk4⟩=>⟨hd4,((zaw.of_below b12).trans k3).trans hk4⟩;clear D3 k3 hr0 HRS KF KP KWj K b1 b2 b12;unfold ptr at *
      go_wp2_with fail
      refine KF3.out.mono ?_;rintro e w4 ⟨rfl,M4⟩;go_wp2;go_ret;exact ⟨by rw [HR2.out];rfl,by rw [HR2.out];exact MM.out _ M4⟩
     ·have HR2:Hid (res=r):=by show _=_;rw [HRS.out,if_pos hr0]
      have hbz:(r.2 != 0)=N:=by simpa using hr0
      have MM:Hid (zaB B g L r.1 w w3):=⟨M3.1,(zaw.of_below b12).trans M3.2⟩;clear hr0 HRS KF KP KWj K b1 b2 b12 M3;go_wp2;go_ret;exact ⟨by rw [HR2.out];rfl,by rw [HR2.out];exact MM.out⟩
end J
namespace J
open Go.RowKit Vi Sl Dk
def rsbx (w:D) (s:Su):D:=w.alloc (C s.c 99)
theorem zkv (w:D) (s:Su):F w.heap.size w (rsbx w s):=zba
def rhbx (w:D) (h:Hd):D:=w.alloc (C h.c 110)
theorem zkw (w:D) (h:Hd):F w.heap.size w (rhbx w h):=zba
theorem _root_.Go.Proofs.YtidndekacnmihaaGreat.zaB.after {d:St} {w1 w2:D} (b:F w.heap.size w w1) (m:zaB B g L d w1 w2):zaB B g L d w w2:=⟨m.1,(zaw.of_below b).trans m.2⟩
theorem zdO (B g:Nat) (L:List Nat) (d:St) (s:Su) (w:D) (h:Rf w B g L d):M I 55 #[ptr g,s.val] w fun e w'=>e=P (f j (setS d s).2)∧zaB B g L (setS d s).1 w w':=by
 have hb:=zkv w s;obtain ⟨W,hW⟩:∃ W,W=rsbx w s:=⟨_,rfl⟩;rw [←hW] at hb;have hD:Rf W B g L d:=h.below hb;have K:=zh (fun (W:D)=>zdU s W);have KW:=zh (fun (W:D) (h:Rf W B g L d)=>zfo B g L d 0 (zbn s) W h (by omega) (by omega));have HS:Hid (setS d s=if rgt s then wr d 0 (zbn s) else (d,1)):=rfl;have HP:Hid (zis s=if rgt s then zbn s else ⟨#[]⟩):=rfl;obtain ⟨r,hr⟩:∃ r,r=rgt s:=⟨_,rfl⟩;rw [←hr] at K HS HP;have HD0:=zh h;have HD:=zh hD;have HB:=zh hb;have HW:=zh hW;clear hr hb hD hW h;unfold rsbx Su.val at *;unfold Su.c at HW K ⊢
 cases r with
 | false =>
   have hp:zis s=⟨#[]⟩:=HP.out;rw [hp] at K;have hs:Hid (setS d s=(d,1)):=HS.out;clear hp HS HP KW;unfold ptr at *;go_enter func55,ntmps55
   go_wp2_with fail
   rw [←HW.out];refine (K.out _).mono ?_;rintro e w1 ⟨rfl,b1⟩;have HB1:=zh (HB.out.trans (b1.mono HB.out.size));clear b1 HB HW K HD;go_wp2;go_ret;rw [hs.out];exact ⟨rfl,⟨HD0.out.below HB1.out,zaw.of_below HB1.out⟩⟩
 | true =>
   have hp:zis s=zbn s:=HP.out;rw [hp] at K;have hs:Hid (setS d s=wr d 0 (zbn s)):=HS.out;clear hp HS HP;generalize zbn s=p at *;unfold ptr at *;go_enter func55,ntmps55
   go_wp2_with fail
   rw [←HW.out];refine (K.out _).mono ?_;rintro e w1 ⟨rfl,b1⟩;have HB1:=zh (HB.out.trans (b1.mono HB.out.size));have HD1:=zh (HD0.out.below HB1.out);clear b1 HB HW K HD
   go_wp2_with fail
   refine (KW.out _ HD1.out).mono ?_;rintro e w2 ⟨rfl,M2⟩;have HM:=zh (zaB.after HB1.out M2);clear M2 KW HD1;go_wp2;go_ret;rw [hs.out];exact ⟨rfl,HM.out⟩
theorem zet (B g:Nat) (L:List Nat) (d:St) (v:Int) (hh:Hd) (w:D) (h:Rf w B g L d) (ho:hh.Ok):M I 54 #[ptr g,f j v,hh.val] w fun e w'=>e=P (f j (setH d v hh).2)∧zaB B g L (setH d v hh).1 w w':=by
 have hb:=zkw w hh;obtain ⟨W,hW⟩:∃ W,W=rhbx w hh:=⟨_,rfl⟩;rw [←hW] at hb;have hD:Rf W B g L d:=h.below hb;have K:=zh (fun (W:D)=>zev v hh W ho);have KW:=zh (fun (W:D) (h:Rf W B g L d)=>zfo B g L d 2 (hB v hh) W h (by omega) (by omega));have HS:Hid (setH d v hh=if hO v hh then wr d 2 (hB v hh) else (d,1)):=rfl;have HP:Hid (hS v hh=if hO v hh then hB v hh else ⟨#[]⟩):=rfl;obtain ⟨r,hr⟩:∃ r,r=hO v hh:=⟨_,rfl⟩;rw [←hr] at K HS HP;have HD0:=zh h;have HD:=zh hD;have HB:=zh hb;have HW:=zh hW;clear hr hb hD hW h ho;unfold rhbx Hd.val at *;unfold Hd.c at HW K ⊢
 cases r with
 | false =>
   have hp:hS v hh=⟨#[]⟩:=HP.out;rw [hp] at K;have hs:Hid (setH d v hh=(d,1)):=HS.out;clear hp HS HP KW;unfold ptr at *;go_enter func54,ntmps54
   go_wp2_with fail
   rw [←HW.out];refine (K.out _).mono ?_;rintro e w1 ⟨rfl,b1⟩;have HB1:=zh (HB.out.trans (b1.mono HB.out.size));clear b1 HB HW K HD;go_wp2;go_ret;rw [hs.out];exact ⟨rfl,⟨HD0.out.below HB1.out,zaw.of_below HB1.out⟩⟩
 | true =>
   have hp:hS v hh=hB v hh:=HP.out;rw [hp] at K;have hs:Hid (setH d v hh=wr d 2 (hB v hh)):=HS.out;clear hp HS HP;generalize hB v hh=p at *;unfold ptr at *;go_enter func54,ntmps54
   go_wp2_with fail
   rw [←HW.out];refine (K.out _).mono ?_;rintro e w1 ⟨rfl,b1⟩;have HB1:=zh (HB.out.trans (b1.mono HB.out.size));have HD1:=zh (HD0.out.below HB1.out);clear b1 HB HW K HD
   go_wp2_with fail
   refine (KW.out _ HD1.out).mono ?_;rintro e w2 ⟨rfl,M2⟩;have HM:=zh (zaB.after HB1.out M2);clear M2 KW HD1;go_wp2;go_ret;rw [hs.out];exact ⟨rfl,HM.out⟩
theorem zfg (tmps:Array Value) (w:D) (p q:Nat) (s:Su) (h:Hd) (hp:tmps.getD 2 undef=.pointer (A ⟨p,0,l⟩)) (hq:tmps.getD 3 undef=.pointer (A ⟨q,0,l⟩)) (hg:w.heap[p]?=A (C s.c 99 (0,0))) (hh:w.heap[q]?=A (C h.c 110 (0,0))) :
 (results f59 tmps).run I w=.ok (.tuple #[.agg s.c,.agg h.c,tmps.getD 4 undef]) w:=by
 rw [zcf results59,hp,hq];simp [asAddr,run_loadVar_row w p 99 99 s.c (0,0) _ hg underlying99 rfl ru7,run_loadVar_row w q 110 110 h.c (0,0) _ hh underlying110 rfl rd3]
structure Ldy (w:D) (g:Nat) (L:List Nat) (d:St) (q1 q2:Nat) (s:Su) (h:Hd) (x:Su) (y:Hd) (W:D):Prop where
 be:F w.heap.size w W
 r2:W.heap[w.heap.size]?=A (C s.c 99 (0,0))
 r3:W.heap[w.heap.size+1]?=A (C h.c 110 (0,0))
 bx:W.heap[q1]?=A (C x.c 99 (0,0))
 by_:W.heap[q2]?=A (C y.c 110 (0,0))
 l1:w.heap.size+1<q1
 l2:w.heap.size+1<q2
theorem Ldy.drew {d:St} {s:Su} {h:Hd} {x:Su} {y:Hd} (k:Ldy w g L d q1 q2 s h x y W):Ldy w g L d q1 q2 s h x y W.drew:=⟨k.be.drew,k.r2,k.r3,k.bx,k.by_,k.l1,k.l2⟩
theorem zkx {t:Su} (s:Su) (h:W.heap[z]?=A (C t.c 99 (0,0))):(set7 W z s).heap[z]?=A (C s.c 99 (0,0)):=by
 have k0:(W.setCell ⟨z,0,l⟩ (f j s.v)).heap[z]?=A (C #[f j s.v,f j t.sn,f j t.lg,f j t.ar,f j t.hf,f j t.gl,f j t.sp] 99 (0,0)):=heap_setCell_same _ z 0 _ 99 (f j s.v) h;have k1:((W.setCell ⟨z,0,l⟩ (f j s.v)).setCell ⟨z,1,l⟩ (f j s.sn)).heap[z]?=A (C #[f j s.v,f j s.sn,f j t.lg,f j t.ar,f j t.hf,f j t.gl,f j t.sp] 99 (0,0)):=heap_setCell_same _ z 1 _ 99 (f j s.sn) k0;have k2:(((W.setCell ⟨z,0,l⟩ (f j s.v)).setCell ⟨z,1,l⟩ (f j s.sn)).setCell ⟨z,2,l⟩ (f j s.lg)).heap[z]?=A (C #[f j s.v,f j s.sn,f j s.lg,f j t.ar,f j t.hf,f j t.gl,f j t.sp] 99 (0,0)):=heap_setCell_same _ z 2 _ 99 (f j s.lg) k1;have k3:((((W.setCell ⟨z,0,l⟩ (f j s.v)).setCell ⟨z,1,l⟩ (f j s.sn)).setCell ⟨z,2,l⟩ (f j s.lg)).setCell ⟨z,3,l⟩ (f j s.ar)).heap[z]?=A (C #[f j s.v,f j s.sn,f j s.lg,f j s.ar,f j t.hf,f j t.gl,f j t.sp] 99 (0,0)):=heap_setCell_same _ z 3 _ 99 (f j s.ar) k2;have k4:(((((W.setCell ⟨z,0,l⟩ (f j s.v)).setCell ⟨z,1,l⟩ (f j s.sn)).setCell ⟨z,2,l⟩ (f j s.lg)).setCell ⟨z,3,l⟩ (f j s.ar)).setCell ⟨z,4,l⟩ (f j s.hf)).heap[z]?=A (C #[f j s.v,f j s.sn,f j s.lg,f j s.ar,f j s.hf,f j t.gl,f j t.sp] 99 (0,0)):=heap_setCell_same _ z 4 _ 99 (f j s.hf) k3;have k5:((((((W.setCell ⟨z,0,l⟩ (f j s.v)).setCell ⟨z,1,l⟩ (f j s.sn)).setCell ⟨z,2,l⟩ (f j s.lg)).setCell ⟨z,3,l⟩ (f j s.ar)).setCell ⟨z,4,l⟩ (f j s.hf)).setCell ⟨z,5,l⟩ (f j s.gl)).heap[z]?=A (C #[f j s.v,f j s.sn,f j s.lg,f j s.ar,f j s.hf,f j s.gl,f j t.sp] 99 (0,0)):=heap_setCell_same _ z 5 _ 99 (f j s.gl) k4;have k6:(((((((W.setCell ⟨z,0,l⟩ (f j s.v)).setCell ⟨z,1,l⟩ (f j s.sn)).setCell ⟨z,2,l⟩ (f j s.lg)).setCell ⟨z,3,l⟩ (f j s.ar)).setCell ⟨z,4,l⟩ (f j s.hf)).setCell ⟨z,5,l⟩ (f j s.gl)).setCell ⟨z,6,l⟩ (f j s.sp)).heap[z]?=A (C #[f j s.v,f j s.sn,f j s.lg,f j s.ar,f j s.hf,f j s.gl,f j s.sp] 99 (0,0)):=heap_setCell_same _ z 6 _ 99 (f j s.sp) k5;exact k6
theorem zky {t:Hd} (h:Hd) (hz:W.heap[z]?=A (C t.c 110 (0,0))):(set3 W z h).heap[z]?=A (C h.c 110 (0,0)):=by
 have k0:=heap_setCell_same W z 0 _ 110 (f O h.tm) hz;have k1:=heap_setCell_same _ z 1 _ 110 (f j h.vo) k0;exact heap_setCell_same _ z 2 _ 110 (f O h.cm) k1
theorem Ldy.set7 {d:St} {s:Su} {h:Hd} {x:Su} {y:Hd} (k:Ldy w g L d q1 q2 s h x y W):Ldy w g L d q1 q2 x h x y (J.set7 W w.heap.size x) :=
 ⟨zgg _ k.be (ztI _),zkx _ k.r2,(zbM _ _ _ _ (by omega)).trans k.r3,(zbM _ _ _ _ (by have:=k.l1;omega)).trans k.bx,(zbM _ _ _ _ (by have:=k.l2;omega)).trans k.by_,k.l1,k.l2⟩
theorem Ldy.set3 {d:St} {s:Su} {h:Hd} {x:Su} {y:Hd} (k:Ldy w g L d q1 q2 s h x y W):Ldy w g L d q1 q2 s y x y (J.set3 W (w.heap.size+1) y) :=
 ⟨zgh _ k.be (by omega),(zbN _ _ _ _ (by omega)).trans k.r2,zky _ k.r3,(zbN _ _ _ _ (by have:=k.l1;omega)).trans k.bx,(zbN _ _ _ _ (by have:=k.l2;omega)).trans k.by_,k.l1,k.l2⟩
theorem Ldy.all {d:St} {s:Su} {h:Hd} {x:Su} {y:Hd} (k:Ldy w g L d q1 q2 s h x y W):W.cell? ⟨q1,0,l⟩=A (f j x.v)∧W.cell? ⟨q1,1,l⟩=A (f j x.sn)∧W.cell? ⟨q1,2,l⟩=A (f j x.lg)∧W.cell? ⟨q1,3,l⟩=A (f j x.ar)∧W.cell? ⟨q1,4,l⟩=A (f j x.hf)∧W.cell? ⟨q1,5,l⟩=A (f j x.gl)∧W.cell? ⟨q1,6,l⟩=A (f j x.sp)∧W.cell? ⟨q2,0,l⟩=A (f O (y.tm:Nat))∧W.cell? ⟨q2,1,l⟩=A (f j y.vo)∧W.cell? ⟨q2,2,l⟩=A (f O (y.cm:Nat)):=by
 obtain ⟨a0,a1,a2,a3,a4,a5,a6⟩:=zbG k.bx;obtain ⟨b0,b1,b2⟩:=zcC k.by_;exact ⟨a0,a1,a2,a3,a4,a5,a6,b0,b1,b2⟩
structure Lr (w:D) (B g:Nat) (L:List Nat) (d:St) (W:D):Prop where
 be:F w.heap.size w W
 r2:W.heap[w.heap.size]?=A (C su0.c 99 (0,0))
 r3:W.heap[w.heap.size+1]?=A (C hd0.c 110 (0,0))
 rf:Rf W B g L d
section
variable {w W W':D} {B g:Nat} {L:List Nat} {d:St}
theorem Lr.below (h:Lr w B g L d W) (hb:F W.heap.size W W'):Lr w B g L d W' :=
 ⟨h.be.trans (hb.mono h.be.size),(hb.block _ (zgx h.r2)).trans h.r2,(hb.block _ (zgx h.r3)).trans h.r3,h.rf.below hb⟩
theorem Lr.alloc (h:Lr w B g L d W) (o:Obj):Lr w B g L d (W.alloc o):=h.below zba
theorem Lr.fr3 (h:Lr w B g L d W) (s:Su):(W.setRow w.heap.size s.c).heap[w.heap.size+1]?=A (C hd0.c 110 (0,0)):=(setRow_other _ _ _ _ (by omega)).trans h.r3
theorem Lr.fg3 (h:Lr w B g L d W) (s:Su) (y:Hd):((W.setRow w.heap.size s.c).setRow (w.heap.size+1) y.c).heap[w.heap.size+1]?=A (C y.c 110 (0,0)):=setRow_heap _ _ _ _ 110 (0,0) (h.fr3 s)
theorem Lr.fg2 (h:Lr w B g L d W) (s:Su) (y:Hd):((W.setRow w.heap.size s.c).setRow (w.heap.size+1) y.c).heap[w.heap.size]?=A (C s.c 99 (0,0)):=(setRow_other _ _ _ _ (by omega)).trans (setRow_heap _ _ _ _ 99 (0,0) h.r2)
theorem Lr.fb (h:Lr w B g L d W) (s:Su) (y:Hd):F w.heap.size w ((W.setRow w.heap.size s.c).setRow (w.heap.size+1) y.c):=zbg (zbg h.be _ (ztI _) _) _ (by omega) _
end
structure Lrx (w:D) (B g:Nat) (L:List Nat) (d:St) (q:Nat) (x:Su) (W:D):Prop where
 lr:Lr w B g L d W
 bx:W.heap[q]?=A (C x.c 99 (0,0))
theorem Lrx.below {W':D} {q:Nat} {d:St} {x:Su} (h:Lrx w B g L d q x W) (hb:F W.heap.size W W'):Lrx w B g L d q x W' :=
 ⟨h.lr.below hb,(hb.block _ (zgx h.bx)).trans h.bx⟩
theorem ztb {d:St} (h:Rf w B g L d):∃ g1 c1,L.getD 1 0=g1∧w.cell? ⟨g,0,l⟩=A (U (A ⟨g1,0,l⟩) d.n c1):=by
 obtain ⟨g1,c1,g2,c2,g3,c3,rfl,hA⟩:=RAt.of_rf h;exact ⟨g1,c1,rfl,hA.c 0⟩
theorem ztu {d:St} (h:rdE d 0≠0):ldE d=rdE d 0∧ldS d=su0∧ldH d=hd0:=by
 have e1:lSe d=rdE d 0:=by unfold lSe;rw [if_pos h]
 have e2:ldE d=rdE d 0:=by unfold ldE;rw [e1,if_pos h]
 exact ⟨e2,by unfold ldS;rw [e2,if_neg h],by unfold ldH;rw [e2,if_neg h]⟩
theorem ztv {d:St} (h:rdE d 0=0) (h2:gO (rdB d 0)=H∨(d.n:Int)<sec (gS (rdB d 0))):ldE d=2∧ldS d=su0∧ldH d=hd0:=by
 have e1:lSe d=2:=by
  unfold lSe;rw [if_neg (by rw [h];simp)];rcases h2 with h2|h2
  ·rw [h2];rfl
  ·rw [ztN h2];simp
 have e2:ldE d=2:=by unfold ldE;rw [e1];rfl
 exact ⟨e2,by unfold ldS;rw [e2];rfl,by unfold ldH;rw [e2];rfl⟩
theorem zsa {d:St} (h:rdE d 0=0) (h2:gO (rdB d 0)=N) (h3:¬ (d.n:Int)<sec (gS (rdB d 0))):lSe d=0:=by
 unfold lSe;rw [if_neg (by rw [h];simp),h2,ztM h3];rfl
theorem ztw {d:St} (h:lSe d=0) (h6:rdE d 2=6):ldE d=0∧ldS d=gS (rdB d 0)∧ldH d=hd0:=by
 have e2:ldE d=0:=by unfold ldE lHe;rw [h,h6];rfl
 exact ⟨e2,by unfold ldS;rw [e2,if_pos rfl];unfold lS;rw [h,if_pos rfl],by unfold ldH;rw [e2,if_pos rfl];unfold lH;rw [h6];rfl⟩
theorem ztx {d:St} (h:lSe d=0) (h6:rdE d 2≠6) (h0:rdE d 2≠0):ldE d=rdE d 2∧ldS d=su0∧ldH d=hd0:=by
 have e2:ldE d=rdE d 2:=by unfold ldE lHe;rw [h,if_neg (by simp),if_neg h6,if_pos h0]
 exact ⟨e2,by unfold ldS;rw [e2,if_neg h0],by unfold ldH;rw [e2,if_neg h0]⟩
theorem zty {d:St} (h:lSe d=0) (h0:rdE d 2=0) (ho:jO (rdB d 2)=H):ldE d=2∧ldS d=su0∧ldH d=hd0:=by
 have e2:ldE d=2:=by unfold ldE lHe;rw [h,h0,ho];rfl
 exact ⟨e2,by unfold ldS;rw [e2];rfl,by unfold ldH;rw [e2];rfl⟩
theorem ztz {d:St} (h:lSe d=0) (h0:rdE d 2=0) (ho:jO (rdB d 2)=N):ldE d=0∧ldS d=gS (rdB d 0)∧ldH d=jH (rdB d 2):=by
 have e2:ldE d=0:=by unfold ldE lHe;rw [h,h0,ho];rfl
 exact ⟨e2,by unfold ldS;rw [e2,if_pos rfl];unfold lS;rw [h,if_pos rfl],by unfold ldH;rw [e2,if_pos rfl];unfold lH;rw [h0,if_pos rfl,ho,if_pos rfl]⟩
theorem zlM (B g:Nat) (L:List Nat) (d:St) (w:D) (h:Rf w B g L d):M I 59 #[ptr g] w fun e w'=>e=P (.tuple #[(ldS d).val,(ldH d).val,f j (ldE d)])∧F w.heap.size w w':=by
 have hb0:F w.heap.size w ((w.alloc (C su0.c 99)).alloc (C hd0.c 110)):=zba.alloc (by simp) _;have Q0:Lr w B g L d ((w.alloc (C su0.c 99)).alloc (C hd0.c 110)):=⟨hb0,(ztQ _ _ _ (by simp)).trans (ztJ w _),heap_alloc2_new w _ _,h.below hb0⟩;obtain ⟨W0,hW0⟩:∃ W0,W0=(w.alloc (C su0.c 99)).alloc (C hd0.c 110):=⟨_,rfl⟩;rw [←hW0] at Q0;have hz0:((w.alloc (C su0.c 99)).alloc (C hd0.c 110))=(w.alloc (C #[f j 0,f j 0,f j 0,f j 0,f j 0,f j 0,f j 0] 99)).alloc (C #[f O 0,f j 0,f O 0] 110):=rfl;rw [hz0] at hW0;have HW0:=zh hW0;have HQ0:=zh Q0;have KR1:=zh (fun (W:D) (hQ:Lr w B g L d W)=>zeh B g L d 0 W hQ.rf (by omega) (by omega));have KR2:=zh (fun (W:D) (hQ:Lr w B g L d W)=>zeh B g L d 2 W hQ.rf (by omega) (by omega));have F1:=zh (@ztu d);have F2:=zh (@ztv d);have FS:=zh (@zsa d);have F3:=zh (@ztw d);have F4:=zh (@ztx d);have F5:=zh (@zty d);have F6:=zh (@ztz d);have hB1:=zcz d 0;have hB2:=zcz d 2;unfold rdV at KR1 KR2;generalize rdB d 0=b1 at *;generalize rdG d 0=G1 at *;generalize rdK d 0=k1 at *;generalize rdE d 0=E at *;generalize rdB d 2=b2 at *;generalize rdG d 2=G2 at *;generalize rdK d 2=k2 at *;generalize rdE d 2=E2 at *;generalize ldE d=rE at *;generalize ldS d=rS at *;generalize ldH d=rH at *;generalize lSe d=sE at *;clear hb0 hW0 hz0 h Q0;unfold Su.val Hd.val at *;unfold ptr at *
 by_cases he:E=0
 ·subst he;have KS:=zh (fun (W:D)=>zgS b1 W (by omega));obtain ⟨x,hx⟩:∃ x,x=gS b1:=⟨_,rfl⟩;obtain ⟨o,ho⟩:∃ o,o=gO b1:=⟨_,rfl⟩;rw [←hx,←ho] at KS;rw [←hx,←ho] at F2 FS;rw [←hx] at F3 F6;clear hx ho hB1 F1;unfold Su.val at KS;unfold Su.c at KS;go_enter func59,ntmps59
  go_wp2_with fail
  rw [←HW0.out];refine (KR1.out _ HQ0.out).mono ?_;rintro e w1 ⟨rfl,t1⟩;have Q1:=zh (HQ0.out.below t1);clear t1 HQ0 HW0 KR1
  go_wp2_with fail
  refine (KS.out _).mono ?_;rintro e w2 ⟨rfl,t2⟩;have Q2:=Q1.out.below t2;obtain ⟨V,hV⟩:∃ V,V=w2.alloc (C x.c 99):=⟨_,rfl⟩;have HXV:Hid (V.heap[w2.heap.size]?=A (C x.c 99 (0,0))):=by show _=_;rw [hV];exact ztJ w2 _
  have QV:Hid (Lr w B g L d V):=by show Lr _ _ _ _ _ _;rw [hV];exact Q2.alloc _
  have HL1:Hid (w.heap.size+1<w2.heap.size):=(zgx Q2.r3);unfold Su.c at hV;have HV:=zh hV;clear t2 Q2 hV KS Q1
  cases o with
  | false =>
    have HR:=zh (F2.out (by first|rfl|trivial|simp) (by first|exact .inl rfl|simp));clear F2 FS F3 F4 F5 F6 HXV KR2
    go_upto_region 5 with fail
    rw [←HV.out]
    go_quiet (fail)
    have QN:Hid (∀ n,Lr w B g L d (V.drewN n)):=fun n=>QV.out.below (⟨rfl,rfl,rfl,ztI _,fun _ _=>rfl⟩:F V.heap.size V (V.drewN n));have HR2:Hid (∀ n,(V.drewN n).heap[w.heap.size]?=A (C su0.c 99 (0,0))):=fun n=>(QN.out n).r2;have HR3:Hid (∀ n,((V.drewN n).setRow w.heap.size su0.c).heap[w.heap.size+1]?=A (C hd0.c 110 (0,0))):=fun n=>(QN.out n).fr3 su0;clear QV HL1
    go_wp2_with (first|(refine zay rfl _ _ rfl _ _ su0 su0 rfl rfl (HR2.out _) ?_;go_frame)|(refine zaz rfl _ _ rfl _ _ hd0 hd0 rfl rfl (HR3.out _) ?_;go_frame))
    exact ztP (v:=_) (zfg _ _ w.heap.size (w.heap.size+1) su0 hd0 rfl rfl ((QN.out _).fg2 su0 hd0) ((QN.out _).fg3 su0 hd0)) rfl ⟨by rw [HR.out.1,HR.out.2.1,HR.out.2.2];rfl,(QN.out _).fb su0 hd0⟩
  | true =>
    have KM:=zh (fun (W:D)=>zeu x W);obtain ⟨m,hm⟩:∃ m,m=sec x:=⟨_,rfl⟩;rw [←hm] at KM F2 FS;unfold Su.val at KM;unfold Su.c at KM;obtain ⟨q,hq⟩:∃ q,q=w2.heap.size:=⟨_,rfl⟩;have HQQ:=zh hq;rw [←hq] at HXV HL1;clear hm hq;have QX0:Lrx w B g L d q x V:=⟨QV.out,HXV.out⟩;have Qd:Lrx w B g L d q x V.drew:=QX0.below (Q _ V).drew;obtain ⟨g1,c1,hg1,z0⟩:=ztb QV.out.rf;have HZZ:Hid (∀ W,Lrx w B g L d q x W→F V.heap.size V W→W.cell? ⟨g,0,l⟩=A (U (A ⟨g1,0,l⟩) d.n c1)):=fun W hQ hb=>(hb.cell (p:=⟨g,0,l⟩) (zuV V _ z0)).trans z0;obtain ⟨c0,c1',c2,c3,c4,c5,c6⟩:=zbG HXV.out;have KMX:Hid (∀ W,Lrx w B g L d q x W→F V.heap.size V W→M I 48 _ W fun e w'=>e=P (f j m)∧Lrx w B g L d q x w'∧F V.heap.size V w'):=fun W hQ hb=>(KM.out W).mono fun e w' ⟨h1,h2⟩=>⟨h1,hQ.below h2,hb.trans (h2.mono hb.size)⟩;have bd:F V.heap.size V V.drew:=(Q _ V).drew;have HALL:Hid (∀ W,Lrx w B g L d q x W→F V.heap.size V W→W.cell? ⟨g,0,l⟩=A (U (A ⟨g1,0,l⟩) d.n c1)∧W.cell? ⟨q,0,l⟩=A (f j x.v)∧W.cell? ⟨q,1,l⟩=A (f j x.sn)∧W.cell? ⟨q,2,l⟩=A (f j x.lg)∧W.cell? ⟨q,3,l⟩=A (f j x.ar)∧W.cell? ⟨q,4,l⟩=A (f j x.hf)∧W.cell? ⟨q,5,l⟩=A (f j x.gl)∧W.cell? ⟨q,6,l⟩=A (f j x.sp)):=fun W hQ hb=>⟨HZZ.out W hQ hb,zbG hQ.bx⟩;clear KM HXV QX0 hg1 HZZ
    go_upto_region 5 with fail
    rw [←HV.out,←HQQ.out];clear HV HQQ
    go_region_held3 (fun w'=>w'.cell? ⟨g,0,l⟩=A (U (A ⟨g1,0,l⟩) d.n c1)∧w'.cell? ⟨q,0,l⟩=A (f j x.v)∧w'.cell? ⟨q,1,l⟩=A (f j x.sn)∧w'.cell? ⟨q,2,l⟩=A (f j x.lg)∧w'.cell? ⟨q,3,l⟩=A (f j x.ar)∧w'.cell? ⟨q,4,l⟩=A (f j x.hf)∧w'.cell? ⟨q,5,l⟩=A (f j x.gl)∧w'.cell? ⟨q,6,l⟩=A (f j x.sp)) (first|exact ⟨z0,c0,c1',c2,c3,c4,c5,c6⟩|exact (HALL.out _ (by assumption) (by assumption))) (first
     | (go_at_call 48;(with_reducible refine (KMX.out _ Qd bd).mono ?_);rintro e v2 ⟨rfl,Q2,bz⟩))
    all_goals clear z0 c0 c1' c2 c3 c4 c5 c6 bd Qd KMX HALL QV
    have Q3:=zh Q2.lr;have HX3:=zh Q2.bx;clear Q2 bz
    by_cases hlt:(d.n:Int)<m
    ·have HR:=zh (F2.out (by first|rfl|trivial|simp) (by first|exact .inr hlt|simp [hlt]));clear F2 FS F3 F4 F5 F6 KR2 HX3 HL1
     go_upto_region 6 with fail
     have HR2:=zh Q3.out.r2;have HR3:=zh (Q3.out.fr3 su0);have HG2:=zh (Q3.out.fg2 su0 hd0);have HG3:=zh (Q3.out.fg3 su0 hd0);have HFB:=zh (Q3.out.fb su0 hd0)
     go_wp2_with (first|(refine zay rfl _ _ rfl _ _ su0 su0 rfl rfl HR2.out ?_;go_frame)|(refine zaz rfl _ _ rfl _ _ hd0 hd0 rfl rfl HR3.out ?_;go_frame))
     exact ztP (v:=_) (zfg _ _ w.heap.size (w.heap.size+1) su0 hd0 rfl rfl HG2.out HG3.out) rfl ⟨by rw [HR.out.1,HR.out.2.1,HR.out.2.2];rfl,HFB.out⟩
    ·have hse:=FS.out (by first|rfl|trivial|simp) (by first|rfl|trivial|simp) (by omega);subst hse;have hlt':decide ((d.n:Int)<m)=H:=ztM hlt;clear F2 FS
     go_wp2_with fail
     refine (KR2.out _ Q3.out).mono ?_;rintro e w3 ⟨rfl,t3⟩;have Q4:=zh (Q3.out.below t3);have HX4:=zh ((t3.block _ (zgx HX3.out)).trans HX3.out);clear t3 Q3 HX3 KR2 hlt hlt'
     by_cases h6:E2=6
     ·have HR:=zh (F3.out (by first|rfl|trivial|simp) h6);subst h6;clear F3 F4 F5 F6 HL1
      go_upto_region 9 with fail
      have HR2:=zh Q4.out.r2;have HR3:=zh (Q4.out.fr3 x);have HG2:=zh (Q4.out.fg2 x hd0);have HG3:=zh (Q4.out.fg3 x hd0);have HFB:=zh (Q4.out.fb x hd0)
      go_wp2_with (first|(refine zdn rfl _ rfl _ _ x rfl HX4.out ?_;go_frame)|(refine zay rfl _ _ rfl _ _ x su0 rfl rfl HR2.out ?_;go_frame)|(refine zaz rfl _ _ rfl _ _ hd0 hd0 rfl rfl HR3.out ?_;go_frame))
      exact ztP (v:=_) (zfg _ _ w.heap.size (w.heap.size+1) x hd0 rfl rfl HG2.out HG3.out) rfl ⟨by rw [HR.out.1,HR.out.2.1,HR.out.2.2];rfl,HFB.out⟩
     ·have n6:(E2==6)=H:=by simpa using h6
      by_cases h0:E2=0
      ·subst h0;have KH:=zh (fun (W:D)=>zhP b2 W (by omega));obtain ⟨y,hy⟩:∃ y,y=jH b2:=⟨_,rfl⟩;obtain ⟨o2,ho2⟩:∃ o,o=jO b2:=⟨_,rfl⟩;rw [←hy,←ho2] at KH;rw [←ho2] at F5;rw [←hy,←ho2] at F6;generalize jV b2=vv at *;clear hy ho2 hB2 F3 F4;unfold Hd.val at KH;unfold Hd.c at KH
       go_wp2_with fail
       refine (KH.out _).mono ?_;rintro e w4 ⟨rfl,t4⟩;have Q5:=Q4.out.below t4;have hx5:=(t4.block _ (zgx HX4.out)).trans HX4.out;obtain ⟨V5,hV5⟩:∃ V,V=w4.alloc (C y.c 110):=⟨_,rfl⟩;have HY5:Hid (V5.heap[w4.heap.size]?=A (C y.c 110 (0,0))):=by show _=_;rw [hV5];exact ztJ w4 _
       have HX5:Hid (V5.heap[q]?=A (C x.c 99 (0,0))):=by show _=_;rw [hV5];exact (ztQ _ _ _ (zgx hx5)).trans hx5
       have QV5:Hid (Lr w B g L d V5):=by show Lr _ _ _ _ _ _;rw [hV5];exact Q5.alloc _
       have HL2:Hid (w.heap.size+1<w4.heap.size):=(zgx Q5.r3);unfold Hd.c at hV5;have HV5:=zh hV5;clear t4 Q5 hx5 hV5 KH Q4 HX4
       cases o2 with
       | false =>
         have HR:=zh (F5.out (by first|rfl|trivial|simp) (by first|rfl|trivial|simp) (by first|rfl|trivial|simp));clear F5 F6 HX5 HY5 HL1 HL2
         go_upto_region 14 with fail
         rw [←HV5.out];have HR2:=zh QV5.out.r2;have HR3:=zh (QV5.out.fr3 su0);have HG2:=zh (QV5.out.fg2 su0 hd0);have HG3:=zh (QV5.out.fg3 su0 hd0);have HFB:=zh (QV5.out.fb su0 hd0)
         go_wp2_with (first|(refine zay rfl _ _ rfl _ _ su0 su0 rfl rfl HR2.out ?_;go_frame)|(refine zaz rfl _ _ rfl _ _ hd0 hd0 rfl rfl HR3.out ?_;go_frame))
         exact ztP (v:=_) (zfg _ _ w.heap.size (w.heap.size+1) su0 hd0 rfl rfl HG2.out HG3.out) rfl ⟨by rw [HR.out.1,HR.out.2.1,HR.out.2.2];rfl,HFB.out⟩
       | true =>
         have HR:=zh (F6.out (by first|rfl|trivial|simp) (by first|rfl|trivial|simp) (by first|rfl|trivial|simp));clear F5 F6;obtain ⟨q2,hq2⟩:∃ q2,q2=w4.heap.size:=⟨_,rfl⟩;rw [←hq2] at HY5 HL2;have HQ2:=zh hq2;clear hq2
         go_upto_region 15 with fail
         rw [←HV5.out,←HQ2.out];clear HV5 HQ2;have QL0:Ldy w g L d q q2 su0 hd0 x y V5:=⟨QV5.out.be,QV5.out.r2,QV5.out.r3,HX5.out,HY5.out,HL1.out,HL2.out⟩;have QL:Ldy w g L d q q2 su0 hd0 x y V5.drew:=QL0.drew;have HQL:=zh QL0;clear QV5 HX5 HY5 HL1 HL2;obtain ⟨a0,a1,a2,a3,a4,a5,a6⟩:=zbG QL.bx;obtain ⟨b0,b1,b2⟩:=zcC QL.by_;obtain ⟨r0,r1,r2,r3,r4,r5,r6⟩:=zbG QL0.r2;obtain ⟨s0,s1,s2⟩:=zcC QL0.r3;have f2:∀ i,V5.frozen? ⟨w.heap.size,i,l⟩=H:=fun i=>zt6 QL0.r2 i;have f3:∀ i,V5.frozen? ⟨w.heap.size+1,i,l⟩=H:=fun i=>zt6 QL0.r3 i;dsimp only [hd0] at s0 s1 s2;dsimp only [su0] at r0 r1 r2 r3 r4 r5 r6;clear QL QL0;refine wp_region_noPanic ?_;refine wp_region_held_drew (S:=(fun w'=>w'.cell? ⟨q,0,l⟩=A (f j x.v)∧w'.cell? ⟨q,1,l⟩=A (f j x.sn)∧w'.cell? ⟨q,2,l⟩=A (f j x.lg)∧w'.cell? ⟨q,3,l⟩=A (f j x.ar)∧w'.cell? ⟨q,4,l⟩=A (f j x.hf)∧w'.cell? ⟨q,5,l⟩=A (f j x.gl)∧w'.cell? ⟨q,6,l⟩=A (f j x.sp)∧w'.cell? ⟨q2,0,l⟩=A (f O (y.tm:Nat))∧w'.cell? ⟨q2,1,l⟩=A (f j y.vo)∧w'.cell? ⟨q2,2,l⟩=A (f O (y.cm:Nat)))) (by kernel_rfl) (by exact ⟨a0,a1,a2,a3,a4,a5,a6,b0,b1,b2⟩) (fun hHeld=>?_);refine ztk (v:=?v0) (i:=0) rfl ?hy0 ?rest0
         case hy0=>(intro w hSw;(try dsimp only at hSw);go_simp;first|done|(with_reducible rfl))
         try simp only [Act.put,zA,zB,zC]
         refine ztk (v:=?v1) (i:=1) rfl ?hy1 ?rest1
         case hy1=>(intro w hSw;(try dsimp only at hSw);go_simp;first|done|(with_reducible rfl))
         try simp only [Act.put,zA,zB,zC]
         have g0:=f2 0;have g1:=f2 1;have g2:=f2 2;have g3:=f2 3;have g4:=f2 4;have g5:=f2 5;have g6:=f2 6;have h0:=f3 0;have h1:=f3 1;have h2:=f3 2;refine zr1 (i:=2) rfl (fun K hK=>?_);go_simp;refine hK.out _ _ ?_ (fun hHeld=>?_)
         ·exact (HQL.out.set7.drew).all
         clear hK K
         try simp only [Act.put,zA,zB,zC]
         refine zr1 (i:=3) rfl (fun K hK=>?_);go_simp;refine hK.out _ _ ?_ (fun hHeld=>?_)
         ·exact (HQL.out.set7.set3.drew).all
         clear hK K
         try simp only [Act.put,zA,zB,zC]
         refine zr1 (i:=4) rfl (fun K hK=>?_);go_simp;refine hK.out _ _ ?_ (fun hHeld=>?_)
         ·exact (HQL.out.set7.set3.drew).all
         clear hK K
         try simp only [Act.put,zA,zB,zC]
         refine wpAnyH_done (by kernel_rfl) ?_ _;refine NoPanic.normal ?_;have HF:=zh HQL.out.set7.set3.drew
         go_wp2_with fail
         exact ztP (v:=_) (zfg _ _ w.heap.size (w.heap.size+1) x y rfl rfl HF.out.r2 HF.out.r3) rfl ⟨by rw [HR.out.1,HR.out.2.1,HR.out.2.2];rfl,HF.out.be⟩
      ·have n0:(E2 != 0)=N:=by simpa using h0
       have HR:=zh (F4.out (by first|rfl|trivial|simp) h6 h0);clear F3 F4 F5 F6 HX4 HL1 h6 h0
       go_upto_region 11 with fail
       have HR2:=zh Q4.out.r2;have HR3:=zh (Q4.out.fr3 su0);have HG2:=zh (Q4.out.fg2 su0 hd0);have HG3:=zh (Q4.out.fg3 su0 hd0);have HFB:=zh (Q4.out.fb su0 hd0)
       go_wp2_with (first|(refine zay rfl _ _ rfl _ _ su0 su0 rfl rfl HR2.out ?_;go_frame)|(refine zaz rfl _ _ rfl _ _ hd0 hd0 rfl rfl HR3.out ?_;go_frame))
       exact ztP (v:=_) (zfg _ _ w.heap.size (w.heap.size+1) su0 hd0 rfl rfl HG2.out HG3.out) rfl ⟨by rw [HR.out.1,HR.out.2.1,HR.out.2.2];rfl,HFB.out⟩
 ·have hne:(E != 0)=N:=by simpa using he
  have HR:=zh (F1.out he);clear F1 F2 FS F3 F4 F5 F6 KR2 he hB1 hB2;go_enter func59,ntmps59
  go_wp2_with fail
  rw [←HW0.out];refine (KR1.out _ HQ0.out).mono ?_;rintro e w1 ⟨rfl,t1⟩;have Q1:=zh (HQ0.out.below t1);clear t1 HQ0 HW0 KR1
  go_upto_region 3 with fail
  have HR2:=zh Q1.out.r2;have HR3:=zh (Q1.out.fr3 su0);have HG2:=zh (Q1.out.fg2 su0 hd0);have HG3:=zh (Q1.out.fg3 su0 hd0);have HFB:=zh (Q1.out.fb su0 hd0)
  go_wp2_with (first|(refine zay rfl _ _ rfl _ _ su0 su0 rfl rfl HR2.out ?_;go_frame)|(refine zaz rfl _ _ rfl _ _ hd0 hd0 rfl rfl HR3.out ?_;go_frame))
  exact ztP (v:=_) (zfg _ _ w.heap.size (w.heap.size+1) su0 hd0 rfl rfl HG2.out HG3.out) rfl ⟨by rw [HR.out.1,HR.out.2.1,HR.out.2.2];rfl,HFB.out⟩
end J
end Go.Proofs.YtidndekacnmihaaGreat
