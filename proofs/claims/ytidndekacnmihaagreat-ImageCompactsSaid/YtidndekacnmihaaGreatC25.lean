/- Parts of a proof. -/
import Derived.Test.YtidndekacnmihaaGreatC23
import Derived.Test.YtidndekacnmihaaGreatC24
set_option linter.all false
set_option maxHeartbeats 8000000
set_option maxRecDepth 100000
namespace Go.Proofs.YtidndekacnmihaaGreat
open Bool renaming true→N,false→T
open Ending renaming returned→R
open Go renaming World→H,Calls→Q,Value→X
open Go.RowKit renaming Below→I
open IntKind renaming i64→A,u64→M
open Obj renaming cells→F
open Option renaming none→C,some→D
open Tryz renaming prog→O
open Value renaming int→f,tuple→U,pointer→Y
open Tryz
variable {B a g j k n q1 q2 z:Nat} {L:List Nat} {W W' w w1:H} {v:Int}
namespace J
open Go.RowKit Vi Sp Dk
def wrO (d:St) (a:Int):Int:=if rdE d a=6 then 0 else 1-rdK d a
def wrT (d:St) (i:Int) (s:ByteArray):St×Int:=if (d.write i s.data.toList).2≠0 then d.write i s.data.toList else (d.write i s.data.toList).1.flush
def wr (d:St) (a:Int) (s:ByteArray):St×Int :=
 if 51<s.size then (d,3) else if rdE d a≠0∧rdE d a≠6 then (d,rdE d a) else if rdG d a=18446744073709551615 then (d,4) else
 wrT d (a+wrO d a) (cS (rdG d a+1) s)
theorem zl5 (d:St) (a:Int):rdK d a≤1:=by unfold rdK;split<;>(try split)<;>omega
theorem zl6 (d:St) (a:Int):rdG d a<18446744073709551616:=by
 unfold rdG;have h1:=zl2 (zb0 d a);have h2:=zl2 (zb0 d (a+1));unfold gAt
 split
 ·split<;>assumption
 ·omega
theorem zp8 {d:St} {a:Int} (h:rdE d a=0∨rdE d a=6):d.refuses a=0∧d.refuses (a+1)=0:=by
 unfold rdE at h
 have hb:zaS d a=0:=by
  by_cases hb:zaS d a=0
  ·exact hb
  ·rw [if_pos hb] at h;exfalso;unfold zaS at h hb
   have hr:∀ i:Int,d.refuses i=0∨d.refuses i=5∨d.refuses i=7:=fun i=>by
    unfold St.refuses;split
    ·exact .inr (.inr rfl)
    ·split
     ·exact .inr (.inl rfl)
     ·exact .inl rfl
   have h1:=hr a;have h2:=hr (a+1)
   split at h
   ·rename_i hq;rw [if_pos hq] at hb;omega
   ·rename_i hq;rw [if_neg hq] at hb;omega
 unfold zaS at hb
 split at hb
 ·rename_i hq;exact absurd hb hq
 ·rename_i hq;exact ⟨by omega,hb⟩
theorem _root_.Go.Proofs.YtidndekacnmihaaGreat.Dk.zav.trans {d1 d2:St} {w2:H} (h:zav g L d1 w w1) (h2:∀ L',Dv w1 g L' d1→zav g L' d2 w1 w2):zav g L d2 w w2:=by
 obtain ⟨L',hd,hk,hf⟩:=h;obtain ⟨L'',hd2,hk2,hf2⟩:=h2 L' hd;exact ⟨L'',hd2,hk.trans' hk2 hf,hf.trans hf2 hk.size⟩
theorem _root_.Go.Proofs.YtidndekacnmihaaGreat.Dk.zav.after {d1:St} {w0:H} (hb:I w.heap.size w w0) (h:zav g L d1 w0 w1):zav g L d1 w w1:=by
 obtain ⟨L',hd,hk,hf⟩:=h;exact ⟨L',hd,(zaw.of_below hb).trans hk,fun k hk'=>(hf k hk').elim .inl (fun h=>.inr (ztL hb.size h))⟩
theorem zgj (g:Nat) (L:List Nat) (d:St) (a:Int) (s:ByteArray) (w:H) (h:Dv w g L d) (ha1:-9223372036854775808≤a) (ha2:a≤9223372036854775807) :
 Q O 110 #[ptr g,f A a,.string s] w fun e w'=>e=R (f A (wr d a s).2)∧zav g L (wr d a s).1 w w':=by
 have K:=zh (zfn g L d a w h ha1 ha2);unfold rdV at K;have hn2:=h.1.n2;obtain ⟨res,hres⟩:∃ res,res=wr d a s:=⟨_,rfl⟩;rw [←hres];have HRES:=zh hres
 by_cases h51:51<s.size
 ·have e1:res=(d,3):=by rw [hres];unfold wr;rw [if_pos h51]
  have hl:(51:Int)<s.size:=by omega
  have HM:Hid (zav g L d w w):=zav.same h (zaw.refl _ _) h;rw [e1];clear hres K e1 h51 h;unfold ptr;go_enter func110,ntmps110;go_wp2;go_ret;exact ⟨rfl,HM.out⟩
 ·have hl:¬ (51:Int)<s.size:=by omega
  have hl':(s.size:Int)≤51:=by omega
  have hk:=zl5 d a;have hg:=zl6 d a;have hko:A.wrap (1-(rdK d a:Int))=1-(rdK d a:Int):=IntWalk.i64_in _ (by omega);have hstep:wr d a s=if rdE d a≠0∧rdE d a≠6 then (d,rdE d a) else if rdG d a=18446744073709551615 then (d,4) else wrT d (a+wrO d a) (cS (rdG d a+1) s):=by unfold wr;rw [if_neg h51]
  rw [hstep] at hres;clear hstep
  by_cases hE:rdE d a≠0∧rdE d a≠6
  ·rw [if_pos hE] at hres;have HD:=zh h;rw [hres];have h6:(rdE d a==6)=T:=by simpa using hE.2
   have h0:(rdE d a != 0)=N:=by simpa using hE.1
   clear hres hE h HRES h51;generalize rdE d a=E at *;generalize rdK d a=k at *;generalize rdG d a=G at *;generalize rdB d a=b at *;unfold ptr at *;go_enter func110,ntmps110
   go_wp2_with fail
   refine K.out.mono ?_;rintro e w1 ⟨rfl,b1⟩;go_wp2;go_ret;exact ⟨rfl,zav.same HD.out (zaw.of_below b1) (HD.out.below b1)⟩
  ·rw [if_neg hE] at hres
   by_cases hG:rdG d a=18446744073709551615
   ·rw [if_pos hG] at hres;have HD:=zh h;rw [hres];rw [hG] at K;rcases (by omega:rdE d a=6∨rdE d a=0) with h6|h6
    all_goals
     rw [h6] at K;clear hres hE h HRES h51 hG h6;generalize rdK d a=k at *;generalize rdB d a=b at *;unfold ptr at *;go_enter func110,ntmps110
     go_wp2_with fail
     refine K.out.mono ?_;rintro e w1 ⟨rfl,b1⟩;go_wp2;go_ret;exact ⟨rfl,zav.same HD.out (zaw.of_below b1) (HD.out.below b1)⟩
   ·rw [if_neg hG] at hres;obtain ⟨q1,q2⟩:=zp8 (d:=d) (a:=a) (by omega);obtain ⟨n1,n2,_⟩:=zbd q1;have hgw:M.wrap ((rdG d a:Int)+1)=((rdG d a+1:Nat):Int):=(IntWalk.u64_in _ (by omega)).trans (by push_cast;rfl);have KP:=zh (fun W=>zjA (rdG d a+1) s W (by omega) (by omega));obtain ⟨c,hc⟩:∃ c,c=cS (rdG d a+1) s:=⟨_,rfl⟩;rw [←hc] at KP hres;generalize cO (rdG d a+1) s=co at *;have hgE:((rdG d a:Int)==18446744073709551615)=T:=by simpa using fun h=>hG (by omega)
    have KW:=zh (fun (i:Int) (W:H) (hb:I w.heap.size w W)=>zea g L d i c.data.toList W (h.below hb));have KF:=zh (fun (L':List Nat) (d':St) (W:H) (h':Dv W g L' d')=>zd9 g L' d' W h')
    have KW2:Hid (∀ (i:Int) (W:H),I w.heap.size w W→Q O 69 #[ptr g,f A i,.string c] W fun e w'=>e=R (f A (d.write i c.data.toList).2)∧zav g L (d.write i c.data.toList).1 W w'):=fun i W hb=>by
     have:=KW.out i W hb
     rwa [zlf] at this
    obtain ⟨o,ho⟩:∃ o,o=wrO d a:=⟨_,rfl⟩
    have hoo:o=0∨o=1:=by
     rw [ho];unfold wrO;split
     ·exact .inl rfl
     ·omega
    have hwo:A.wrap (a+o)=a+o:=IntWalk.i64_in _ (by omega);have KWi:=zh (KW2.out (a+o));rw [←ho] at hres;unfold wrT at hres;have HRS:=zh hres;obtain ⟨r,hr⟩:∃ r,r=d.write (a+o) c.data.toList:=⟨_,rfl⟩;rw [←hr] at KWi HRS;have HWO:Hid (o=if rdE d a=6 then 0 else 1-(rdK d a:Int)):=ho;clear hres HRES hc h51 h KW KW2 q1 q2 n1 n2 hr ho hn2 ha1 ha2;rcases (by omega:rdE d a=6∨rdE d a=0) with h6|h6
    ·rw [h6,if_pos rfl] at HWO;have h0:o=0:=HWO.out;subst h0;rw [h6] at K;clear hE hG h6 HWO hoo;generalize rdK d a=k at *;generalize rdB d a=b at *;generalize rdG d a=G at *;have hwa:A.wrap a=a:=by simpa using hwo
     have KWj:Hid (∀ W:H,I w.heap.size w W→Q O 69 #[ptr g,f A a,.string c] W fun e w'=>e=R (f A r.2)∧zav g L r.1 W w'):=fun W hb=>by
      have:=KWi.out W hb
      rwa [Int.add_zero] at this
     clear KWi;unfold ptr at *;go_enter func110,ntmps110
     go_wp2_with fail
     refine K.out.mono ?_;rintro e w1 ⟨rfl,b1⟩
     go_wp2_with fail
     refine (KP.out _).mono ?_;rintro e w2 ⟨rfl,b2⟩;have b12:=b1.trans (b2.mono b1.size)
     go_wp2_with fail
     refine (KWj.out _ b12).mono ?_;rintro e w3 ⟨rfl,M3⟩
     by_cases hr0:r.2=0
     ·have HR2:Hid (res=r.1.flush):=by show _=_;rw [HRS.out,if_neg (by rw [hr0];simp)]
      rw [hr0];obtain ⟨L3,D3,k3,f3⟩:=M3;have KF3:=zh (KF.out L3 r.1 w3 D3);have MM:Hid (∀ w4,zav g L3 r.1.flush.1 w3 w4→zav g L r.1.flush.1 w w4):=fun w4 ⟨L4,hd4,hk4,hf4⟩=>zav.after b12 ⟨L4,hd4,k3.trans' hk4 f3,f3.trans hf4 k3.size⟩;clear D3 k3 f3 hr0 HRS KF KP KWj K b1 b2 b12;unfold ptr at *
      go_wp2_with fail
      refine KF3.out.mono ?_;rintro e w4 ⟨rfl,M4⟩;go_wp2;go_ret;exact ⟨by rw [HR2.out];rfl,by rw [HR2.out];exact MM.out _ M4⟩
     ·have HR2:Hid (res=r):=by show _=_;rw [HRS.out,if_pos hr0]
      have hbz:(r.2 != 0)=N:=by simpa using hr0
      have MM:=zh (zav.after b12 M3);clear hr0 HRS KF KP KWj K b1 b2 b12 M3;go_wp2;go_ret;exact ⟨by rw [HR2.out];rfl,by rw [HR2.out];exact MM.out⟩
    ·rw [h6,if_neg (by decide)] at HWO;have h0:o=1-(rdK d a:Int):=HWO.out;subst h0;rw [h6] at K;clear hE hG h6 HWO hoo;generalize rdK d a=k at *;generalize rdB d a=b at *;generalize rdG d a=G at *;have KWj:=zh KWi.out;clear KWi;unfold ptr at *;go_enter func110,ntmps110
     go_wp2_with fail
     refine K.out.mono ?_;rintro e w1 ⟨rfl,b1⟩
     go_wp2_with fail
     refine (KP.out _).mono ?_;rintro e w2 ⟨rfl,b2⟩;have b12:=b1.trans (b2.mono b1.size)
     go_wp2_with fail
     refine (KWj.out _ b12).mono ?_;rintro e w3 ⟨rfl,M3⟩
     by_cases hr0:r.2=0
     ·have HR2:Hid (res=r.1.flush):=by show _=_;rw [HRS.out,if_neg (by rw [hr0];simp)]
      rw [hr0];obtain ⟨L3,D3,k3,f3⟩:=M3;have KF3:=zh (KF.out L3 r.1 w3 D3);have MM:Hid (∀ w4,zav g L3 r.1.flush.1 w3 w4→zav g L r.1.flush.1 w w4):=fun w4 ⟨L4,hd4,hk4,hf4⟩=>zav.after b12 ⟨L4,hd4,k3.trans' hk4 f3,f3.trans hf4 k3.size⟩;clear D3 k3 f3 hr0 HRS KF KP KWj K b1 b2 b12;unfold ptr at *
      go_wp2_with fail
      refine KF3.out.mono ?_;rintro e w4 ⟨rfl,M4⟩;go_wp2;go_ret;exact ⟨by rw [HR2.out];rfl,by rw [HR2.out];exact MM.out _ M4⟩
     ·have HR2:Hid (res=r):=by show _=_;rw [HRS.out,if_pos hr0]
      have hbz:(r.2 != 0)=N:=by simpa using hr0
      have MM:=zh (zav.after b12 M3);clear hr0 HRS KF KP KWj K b1 b2 b12 M3;go_wp2;go_ret;exact ⟨by rw [HR2.out];rfl,by rw [HR2.out];exact MM.out⟩
theorem ztc {l:List UInt8} (h:l.length=64):pad l=l:=by unfold pad;rw [h];simp
theorem zqU {c:ByteArray} (h:c.size=64):txt (pad c.data.toList)=c:=by
 rw [ztc (by simpa using h),zlf]
theorem zlZ (c:ByteArray):c.data.toList.length=c.size:=by simp
structure zfT (d:St):Prop where
 dead:d.dead=T
 left:d.left<0
theorem zfT.put {d:St} (h:zfT d) (i:Nat) (s:Sec):zfT (d.put i s):=⟨h.dead,h.left⟩
theorem zfT.settle {d:St} (h:zfT d):zfT d.settle:=⟨h.dead,h.left⟩
theorem zeN {d:St} (hd:d.dead=T) (ha:a+1<d.n):zaS d a=0:=by
 unfold zaS;rw [za0 hd (by omega) (by omega),za0 hd (by omega) (by omega)]
 simp
theorem zjy {d d':St} {i:Int} (h:d'.now i.toNat=d.now i.toNat):gAt d' i=gAt d i∧bAt d' i=bAt d i:=by
 unfold gAt bAt zb0;rw [h];exact ⟨rfl,rfl⟩
theorem zjz {d:St} {i:Nat} {b:ByteArray} (hg:g<18446744073709551616) (ho:cO g b=N) (h:d.now i=pad (cS g b).data.toList):gAt d i=g∧bAt d i=b:=by
 have e:zb0 d i=cell g b:=by
  unfold zb0;rw [ztV,h,zqU (by rw [zfj ho,zfl g b ((zbF g b).1 ho).2]),zfj ho]
 unfold gAt bAt;rw [e];exact zoD g b hg ho
theorem zsh (d:St) (i:Int) (h:d.now i.toNat=zsec):gAt d i=0∧bAt d i=⟨#[]⟩:=by
 have e:zeP (txt zsec)=0:=by decide +kernel
 have e2:zfU (txt zsec)=⟨#[]⟩:=zhS e;unfold gAt bAt zb0;rw [h];exact ⟨e,e2⟩
def wrD (d:St) (a:Nat) (s:ByteArray):St:=(d.put (a+(wrO d a).toNat) (pad (cS (rdG d a+1) s).data.toList)).settle
theorem zbu {d:St}:wrO d a=0∨wrO d a=1:=by
 unfold wrO
 have:=zl5 d a
 split
 ·exact .inl rfl
 ·omega
theorem zp7 {d:St} (hd:d.dead=T) (ha:a+1<d.n):rdE d a=0∨rdE d a=6:=by
 unfold rdE;rw [if_neg (by rw [zeN hd ha];simp)]
 split
 ·exact .inr rfl
 ·exact .inl rfl
theorem zoB {d:St} (hw:zfT d) (ha:a+1<d.n) {s:ByteArray} (hs:s.size≤51) (hg:rdG d a≠18446744073709551615):wr d a s=(wrD d a s,0):=by
 unfold wr;have hE:=zp7 hw.dead ha;rw [if_neg (by omega),if_neg (by omega),if_neg hg];unfold wrT;have hsz:=zqV (rdG d a+1) s
 have e:(a:Int)+wrO d a=((a+(wrO d a).toNat:Nat):Int):=by
  rcases zbu (d:=d) (a:=a) with h|h<;>rw [h]<;>omega
 have hw1:d.write (a+wrO d a) (cS (rdG d a+1) s).data.toList=(d.put (a+(wrO d a).toNat) (pad (cS (rdG d a+1) s).data.toList),0):=by
  rw [e];refine zi7 hw.left hw.dead ?_ (by rw [zlZ];exact hsz);rcases zbu (d:=d) (a:=a) with h|h<;>rw [h]<;>simp<;>omega
 rw [hw1];simp only [ne_eq,not_true_eq_false,if_false];rw [zi8 (d:=d.put _ _) hw.left hw.dead];rfl
theorem zdW {d:St} (hw:zfT d) (a:Nat) (s:ByteArray):zfT (wrD d a s):=(hw.put _ _).settle
theorem zdu (d:St) (a:Nat) (s:ByteArray) (j:Nat):(wrD d a s).now j=if j=a+(wrO d a).toNat then pad (cS (rdG d a+1) s).data.toList else d.now j:=by
 show (if j=a+(wrO d a).toNat then D (pad (cS (rdG d a+1) s).data.toList) else d.wt j).getD (d.fl j)=_
 split<;>rfl
theorem zeO {d:St} (hw:zfT d) (ha:a+1<d.n) {s:ByteArray} (hs:s.size≤51) (hg:rdG d a≠18446744073709551615) :
 rdE (wrD d a s) a=0∧rdB (wrD d a s) a=s∧rdG (wrD d a s) a=rdG d a+1∧(rdK (wrD d a s) a:Int)=wrO d a:=by
 have hlt:=zl6 d a;have hco:cO (rdG d a+1) s=N:=(zbF _ _).2 ⟨by omega,hs⟩;have hb:zaS (wrD d a s) a=0:=zeN (zdW hw a s).dead ha;have hb0:zaS d a=0:=zeN hw.dead ha;have hE:=zp7 hw.dead ha;have ha1:((a:Int)+1)=((a+1:Nat):Int):=by push_cast;rfl
 rcases zbu (d:=d) (a:=a) with h|h
 ·
  have n0:(wrD d a s).now a=pad (cS (rdG d a+1) s).data.toList:=by rw [zdu,h,if_pos (by simp)]
  have n1:(wrD d a s).now (a+1)=d.now (a+1):=by rw [zdu,h,if_neg (by simp)]
  obtain ⟨g0,b0⟩:=zjz (d:=wrD d a s) (i:=a) (by omega) hco n0;obtain ⟨g1,b1⟩:=zjy (d:=d) (d':=wrD d a s) (i:=(a:Int)+1) (by rw [ha1,ztV];exact n1)
  have hle:gAt d ((a:Int)+1)≤rdG d a:=by
   unfold wrO at h
   split at h
   ·rename_i h6
    unfold rdE at h6;rw [if_neg (by rw [hb0];simp)] at h6
    split at h6
    ·rename_i hz;omega
    ·omega
   ·rename_i h6
    have e0:rdE d a=0:=by omega
    unfold rdG;rw [if_pos e0];split<;>omega
  have hE':rdE (wrD d a s) a=0:=zeQ hb (.inl (by rw [g0];omega));have hnl:¬ gAt (wrD d a s) a<gAt (wrD d a s) ((a:Int)+1):=by rw [g0,g1];omega
  refine ⟨hE',?_,?_,?_⟩
  ·unfold rdB;rw [if_pos hE',if_neg hnl,b0]
  ·unfold rdG;rw [if_pos hE',if_neg hnl];rw [g0];rfl
  ·unfold rdK;rw [if_pos hE',if_neg hnl,h];rfl
 ·have n0:(wrD d a s).now (a+1)=pad (cS (rdG d a+1) s).data.toList:=by rw [zdu,h,if_pos (by simp)]
  have n1:(wrD d a s).now a=d.now a:=by rw [zdu,h,if_neg (by simp)]
  obtain ⟨g0,b0⟩:=zjz (d:=wrD d a s) (i:=a+1) (by omega) hco n0;rw [←ha1] at g0 b0;obtain ⟨g1,b1⟩:=zjy (d:=d) (d':=wrD d a s) (i:=(a:Int)) (by rw [ztV];exact n1)
  have hle:gAt d a≤rdG d a:=by
   unfold wrO at h
   split at h
   ·omega
   ·rename_i h6
    have e0:rdE d a=0:=by omega
    unfold rdG;rw [if_pos e0];split<;>omega
  have hE':rdE (wrD d a s) a=0:=zeQ hb (.inr (by rw [g0];omega));have hnl:gAt (wrD d a s) a<gAt (wrD d a s) ((a:Int)+1):=by rw [g0,g1];omega
  refine ⟨hE',?_,?_,?_⟩
  ·unfold rdB;rw [if_pos hE',if_pos hnl,b0]
  ·unfold rdG;rw [if_pos hE',if_pos hnl];rw [g0];rfl
  ·unfold rdK;rw [if_pos hE',if_pos hnl,h];rfl
theorem zdX (n:Nat) (a:Nat) (ha:a+1<n):rdE (St.fresh n fun _=>zsec) a=6∧rdG (St.fresh n fun _=>zsec) a=0∧rdK (St.fresh n fun _=>zsec) a=0∧rdB (St.fresh n fun _=>zsec) a=⟨#[]⟩:=by
 have h0:=(zsh (St.fresh n fun _=>zsec) a rfl).1;have h1:=(zsh (St.fresh n fun _=>zsec) (a+1) rfl).1
 have hE:rdE (St.fresh n fun _=>zsec) a=6:=by
  unfold rdE;rw [if_neg (by rw [zeN (d:=St.fresh n fun _=>zsec) rfl (by exact ha)];simp),if_pos ⟨h0,h1⟩]
 refine ⟨hE,?_,?_,?_⟩
 ·unfold rdG;rw [if_neg (by rw [hE];decide)]
 ·unfold rdK;rw [if_neg (by rw [hE];decide)]
 ·unfold rdB;rw [if_neg (by rw [hE];decide)]
end J
namespace J
open Go.RowKit Vi Sl Dk
def setS (d:St) (s:Su):St×Int:=if rgt s then wr d 0 (zbn s) else (d,1)
def setH (d:St) (v:Int) (h:Hd):St×Int:=if hO v h then wr d 2 (hB v h) else (d,1)
def lSe (d:St):Int:=if rdE d 0≠0 then rdE d 0 else if gO (rdB d 0)&&!decide ((d.n:Int)<sec (gS (rdB d 0))) then 0 else 2
def lS (d:St):Su:=if lSe d=0 then gS (rdB d 0) else su0
def lHe (d:St):Int:=if rdE d 2=6 then 0 else if rdE d 2≠0 then rdE d 2 else if jO (rdB d 2) then 0 else 2
def lH (d:St):Hd:=if rdE d 2=0 then (if jO (rdB d 2) then jH (rdB d 2) else hd0) else hd0
def ldE (d:St):Int:=if lSe d≠0 then lSe d else lHe d
def ldS (d:St):Su:=if ldE d=0 then lS d else su0
def ldH (d:St):Hd:=if ldE d=0 then lH d else hd0
theorem zes (g:Nat) (L:List Nat) (d:St) (s:Su) (w:H) (h:Dv w g L d):Q O 46 #[ptr g,s.val] w fun e w'=>e=R (f A (setS d s).2)∧zav g L (setS d s).1 w w':=by
 have hb:=zch w s;obtain ⟨W,hW⟩:∃ W,W=sbx w s:=⟨_,rfl⟩;rw [←hW] at hb;have hD:Dv W g L d:=h.below hb;have K:=zh (fun (W:H)=>zcS s W);have KW:=zh (fun (W:H) (h:Dv W g L d)=>zgj g L d 0 (zbn s) W h (by omega) (by omega));have HS:Hid (setS d s=if rgt s then wr d 0 (zbn s) else (d,1)):=rfl;have HP:Hid (zis s=if rgt s then zbn s else ⟨#[]⟩):=rfl;obtain ⟨r,hr⟩:∃ r,r=rgt s:=⟨_,rfl⟩;rw [←hr] at K HS HP;have HD0:=zh h;have HD:=zh hD;have HB:=zh hb;have HW:=zh hW;clear hr hb hD hW h;unfold sbx Su.val at *;unfold Su.c at HW K ⊢
 cases r with
 | false =>
   have hp:zis s=⟨#[]⟩:=HP.out;rw [hp] at K;have hs:Hid (setS d s=(d,1)):=HS.out;clear hp HS HP KW;unfold ptr at *;go_enter func46,ntmps46
   go_wp2_with fail
   rw [←HW.out];refine (K.out _).mono ?_;rintro e w1 ⟨rfl,b1⟩;have HB1:=zh (HB.out.trans (b1.mono HB.out.size));clear b1 HB HW K HD;go_wp2;go_ret;rw [hs.out];exact ⟨rfl,zav.same HD0.out (zaw.of_below HB1.out) (HD0.out.below HB1.out)⟩
 | true =>
   have hp:zis s=zbn s:=HP.out;rw [hp] at K;have hs:Hid (setS d s=wr d 0 (zbn s)):=HS.out;clear hp HS HP;generalize zbn s=p at *;unfold ptr at *;go_enter func46,ntmps46
   go_wp2_with fail
   rw [←HW.out];refine (K.out _).mono ?_;rintro e w1 ⟨rfl,b1⟩;have HB1:=zh (HB.out.trans (b1.mono HB.out.size));have HD1:=zh (HD0.out.below HB1.out);clear b1 HB HW K HD
   go_wp2_with fail
   refine (KW.out _ HD1.out).mono ?_;rintro e w2 ⟨rfl,M2⟩;have HM:=zh (Dk.zav.after HB1.out M2);clear M2 KW HD1;go_wp2;go_ret;rw [hs.out];exact ⟨rfl,HM.out⟩
theorem zff (g:Nat) (L:List Nat) (d:St) (v:Int) (hh:Hd) (w:H) (h:Dv w g L d) (ho:hh.Ok):Q O 44 #[ptr g,f A v,hh.val] w fun e w'=>e=R (f A (setH d v hh).2)∧zav g L (setH d v hh).1 w w':=by
 have hb:=zhB w hh;obtain ⟨W,hW⟩:∃ W,W=hbx w hh:=⟨_,rfl⟩;rw [←hW] at hb;have hD:Dv W g L d:=h.below hb;have K:=zh (fun (W:H)=>zdt v hh W ho);have KW:=zh (fun (W:H) (h:Dv W g L d)=>zgj g L d 2 (hB v hh) W h (by omega) (by omega));have HS:Hid (setH d v hh=if hO v hh then wr d 2 (hB v hh) else (d,1)):=rfl;have HP:Hid (hS v hh=if hO v hh then hB v hh else ⟨#[]⟩):=rfl;obtain ⟨r,hr⟩:∃ r,r=hO v hh:=⟨_,rfl⟩;rw [←hr] at K HS HP;have HD0:=zh h;have HD:=zh hD;have HB:=zh hb;have HW:=zh hW;clear hr hb hD hW h ho;unfold hbx Hd.val at *;unfold Hd.c at HW K ⊢
 cases r with
 | false =>
   have hp:hS v hh=⟨#[]⟩:=HP.out;rw [hp] at K;have hs:Hid (setH d v hh=(d,1)):=HS.out;clear hp HS HP KW;unfold ptr at *;go_enter func44,ntmps44
   go_wp2_with fail
   rw [←HW.out];refine (K.out _).mono ?_;rintro e w1 ⟨rfl,b1⟩;have HB1:=zh (HB.out.trans (b1.mono HB.out.size));clear b1 HB HW K HD;go_wp2;go_ret;rw [hs.out];exact ⟨rfl,zav.same HD0.out (zaw.of_below HB1.out) (HD0.out.below HB1.out)⟩
 | true =>
   have hp:hS v hh=hB v hh:=HP.out;rw [hp] at K;have hs:Hid (setH d v hh=wr d 2 (hB v hh)):=HS.out;clear hp HS HP;generalize hB v hh=p at *;unfold ptr at *;go_enter func44,ntmps44
   go_wp2_with fail
   rw [←HW.out];refine (K.out _).mono ?_;rintro e w1 ⟨rfl,b1⟩;have HB1:=zh (HB.out.trans (b1.mono HB.out.size));have HD1:=zh (HD0.out.below HB1.out);clear b1 HB HW K HD
   go_wp2_with fail
   refine (KW.out _ HD1.out).mono ?_;rintro e w2 ⟨rfl,M2⟩;have HM:=zh (Dk.zav.after HB1.out M2);clear M2 KW HD1;go_wp2;go_ret;rw [hs.out];exact ⟨rfl,HM.out⟩
theorem zdD (g:Nat) (L:List Nat) (d:St) (w:H) (h:Dv w g L d):Q O 39 #[ptr g] w fun e w'=>e=R (f A d.n)∧w'=w:=by
 obtain ⟨_,fb,mb,cap,_,hd⟩:=h;have c0:=hd.c0;clear hd;unfold ptr;go_enter func39,ntmps39;go_wp2;go_ret;exact ⟨rfl,rfl⟩
theorem zox (tmps:Array X) (w:H) (p:Nat) (s:Su) (hp:tmps.getD 2 undef=Y (D ⟨p,0,C⟩)) (hg:w.heap[p]?=D (F s.c 65 (0,0))) :
 (results f178 tmps).run O w=.ok (U #[.agg s.c,tmps.getD 3 undef]) w:=by
 rw [results_cell_tmp results178,hp];simp [asAddr,run_loadVar_row w p 65 65 s.c (0,0) _ hg underlying65 rfl su7]
theorem zoy (tmps:Array X) (w:H) (p:Nat) (s:Hd) (hp:tmps.getD 2 undef=Y (D ⟨p,0,C⟩)) (hg:w.heap[p]?=D (F s.c 41 (0,0))) :
 (results f179 tmps).run O w=.ok (U #[.agg s.c,tmps.getD 3 undef]) w:=by
 rw [results_cell_tmp results179,hp];simp [asAddr,run_loadVar_row w p 41 41 s.c (0,0) _ hg underlying41 rfl hd3]
theorem zcz (d:St) (a:Int):(rdB d a).size≤51:=by
 unfold rdB
 split
 ·split
  ·exact Sp.zhT _
  ·exact Sp.zhT _
 ·show 0≤51;omega
structure Lq (w:H) (g:Nat) (L:List Nat) (d:St) (q:Nat) (x:Su) (W:H):Prop where
 be:I w.heap.size w W
 r0:W.heap[w.heap.size]?=D (F su0.c 65 (0,0))
 bx:W.heap[q]?=D (F x.c 65 (0,0))
 dv:Dv W g L d
theorem Lq.below {q:Nat} {d:St} {x:Su} (h:Lq w g L d q x W) (hb:I W.heap.size W W'):Lq w g L d q x W' :=
 ⟨h.be.trans (hb.mono h.be.size),(hb.block _ (zgx h.r0)).trans h.r0,(hb.block _ (zgx h.bx)).trans h.bx,h.dv.below hb⟩
theorem zgF (g:Nat) (L:List Nat) (d:St) (w:H) (h:Dv w g L d):Q O 178 #[ptr g] w fun e w'=>e=R (U #[(lS d).val,f A (lSe d)])∧I w.heap.size w w':=by
 obtain ⟨W0,hW0⟩:∃ W0,W0=w.alloc (F su0.c 65):=⟨_,rfl⟩;have b0:I w.heap.size w W0:=by rw [hW0];exact zba
 have k0:W0.heap[w.heap.size]?=D (F su0.c 65 (0,0)):=by rw [hW0];exact ztJ w _
 have K:=zfn g L d 0 W0 (h.below b0) (by omega) (by omega);have hB:=zcz d 0;have HE:Hid (lSe d=if rdE d 0≠0 then rdE d 0 else if gO (rdB d 0)&&!decide ((d.n:Int)<sec (gS (rdB d 0))) then 0 else 2):=rfl;have HS:Hid (lS d=if lSe d=0 then gS (rdB d 0) else su0):=rfl;unfold rdV at K;generalize rdB d 0=B at *;generalize rdG d 0=G at *;generalize rdK d 0=kk at *;generalize rdE d 0=E at *;have KR:=zh K;have HB0:=zh b0;have HK0:=zh k0;have HD:=zh h;have hz0:(w.alloc (F su0.c 65))=w.alloc (F #[f A 0,f A 0,f A 0,f A 0,f A 0,f A 0,f A 0] 65):=rfl;rw [hz0] at hW0;have HW0:=zh hW0;clear K b0 k0 h hz0 hW0
 by_cases he:E=0
 ·subst he;have KS:=zh (fun (W:H)=>zhK B W (by omega));obtain ⟨x,hx⟩:∃ x,x=gS B:=⟨_,rfl⟩;obtain ⟨o,ho⟩:∃ o,o=gO B:=⟨_,rfl⟩;rw [←hx,←ho] at KS HE;rw [←hx] at HS;have HE':Hid (lSe d=if o&&!decide ((d.n:Int)<sec x) then 0 else 2):=HE.out;clear HE hx ho hB;unfold Su.val at *;unfold Su.c at KS;unfold ptr at *;go_enter func178,ntmps178
  go_wp2_with fail
  rw [←HW0.out];refine KR.out.mono ?_;rintro e w1 ⟨rfl,b1⟩;have HK1:=zh ((b1.block _ (zgx HK0.out)).trans HK0.out);have HB1:=zh (HB0.out.trans (b1.mono HB0.out.size));clear b1 HK0 HB0 HW0 KR
  go_wp2_with fail
  refine (KS.out _).mono ?_;rintro e w2 ⟨rfl,b2⟩;have hK2:w2.heap[w.heap.size]?=D (F su0.c 65 (0,0)):=(b2.block _ (zgx HK1.out)).trans HK1.out;have hB2:=HB1.out.trans (b2.mono HB1.out.size);obtain ⟨V,hV⟩:∃ V,V=w2.alloc (F x.c 65):=⟨_,rfl⟩;have HKV:Hid (V.heap[w.heap.size]?=D (F su0.c 65 (0,0))):=by show _=_;rw [hV];exact (ztQ _ _ _ (zgx hK2)).trans hK2
  have HXV:Hid (V.heap[w2.heap.size]?=D (F x.c 65 (0,0))):=by show _=_;rw [hV];exact ztJ w2 _
  have HBV:Hid (I w.heap.size w V):=by rw [hV];exact hB2.alloc hB2.size _
  unfold Su.c at hV;have HV:=zh hV;clear b2 hK2 hB2 hV KS HK1 HB1;obtain ⟨Z0,hZ0⟩:∃ Z,Z=V.setRow w.heap.size su0.c:=⟨_,rfl⟩;have B0:Hid (I w.heap.size w Z0):=by rw [hZ0];exact HBV.out.trans ⟨rfl,rfl,rfl,by simp,fun k hk=>setRow_other _ _ _ _ (by omega)⟩
  have K0:Hid (Z0.heap[w.heap.size]?=D (F su0.c 65 (0,0))):=by show _=_;rw [hZ0];exact setRow_heap _ _ _ _ 65 (0,0) HKV.out
  have HZ0:=zh hZ0;clear hZ0;have HKVD:Hid (V.drew.heap[w.heap.size]?=D (F su0.c 65 (0,0))):=HKV.out
  cases o with
  | false =>
    have HLE:Hid (lSe d=2):=HE'.out;have HLS:Hid (lS d=su0):=by show _=_;rw [HS.out,HLE.out];rfl
    clear HE' HS
    go_upto_region 5 with fail
    rw [←HV.out]
    go_quiet (fail)
    have HKN:Hid (∀ n,(V.drewN n).heap[w.heap.size]?=D (F su0.c 65 (0,0))):=fun n=>HKV.out;have HBN:Hid (∀ n,I w.heap.size w ((V.drewN n).setRow w.heap.size su0.c)):=fun n=>(HBV.out.trans ⟨rfl,rfl,rfl,ztI _,fun _ _=>rfl⟩:I w.heap.size w (V.drewN n)).trans ⟨rfl,rfl,rfl,by simp,fun k hk=>setRow_other _ _ _ _ (by omega)⟩
    go_wp2_with (refine zai rfl _ _ rfl _ _ su0 su0 rfl rfl (HKN.out _) ?_;go_frame)
    exact ztP (v:=_) (zox _ _ w.heap.size su0 rfl (setRow_heap _ _ _ _ 65 (0,0) (HKN.out _))) rfl ⟨by rw [HLS.out,HLE.out];rfl,HBN.out _⟩
  | true =>
    have HQV:Hid (Lq w g L d w2.heap.size x V):=⟨HBV.out,HKV.out,HXV.out,HD.out.below HBV.out⟩;have KM:=zh (fun (W:H)=>zbS x W);obtain ⟨m,hm⟩:∃ m,m=sec x:=⟨_,rfl⟩;rw [←hm] at KM HE';unfold Su.val at KM;unfold Su.c at KM;obtain ⟨q,hq⟩:∃ q,q=w2.heap.size:=⟨_,rfl⟩;have HQQ:=zh hq;rw [←hq] at HQV;clear hm hq B0 K0 HZ0 HKV HXV HBV HD;have Qd:Lq w g L d q x V.drew:=HQV.out.below (Below.refl _ V).drew;have KD:Hid (∀ W,Lq w g L d q x W→Q O 39 #[Y (D ⟨g,0,C⟩)] W fun e w'=>e=R (f A d.n)∧Lq w g L d q x w'):=fun W hQ=>(zdD g L d W hQ.dv).mono fun e w' ⟨h1,h2⟩=>⟨h1,by rw [h2];exact hQ⟩;have hxc:=zau HQV.out.bx;obtain ⟨c0,c1,c2,c3,c4,c5,c6⟩:=hxc;have HAL:Hid (∀ W,Lq w g L d q x W→W.cell? ⟨q,0,C⟩=D (f A x.v)∧W.cell? ⟨q,1,C⟩=D (f A x.sn)∧W.cell? ⟨q,2,C⟩=D (f A x.lg)∧W.cell? ⟨q,3,C⟩=D (f A x.ar)∧W.cell? ⟨q,4,C⟩=D (f A x.hf)∧W.cell? ⟨q,5,C⟩=D (f A x.gl)∧W.cell? ⟨q,6,C⟩=D (f A x.sp)):=fun W hQ=>zau hQ.bx
    go_upto_region 5 with fail
    rw [←HV.out,←HQQ.out];clear HV HQQ
    go_region_held3 (fun w'=>w'.cell? ⟨q,0,C⟩=D (f A x.v)∧w'.cell? ⟨q,1,C⟩=D (f A x.sn)∧w'.cell? ⟨q,2,C⟩=D (f A x.lg)∧w'.cell? ⟨q,3,C⟩=D (f A x.ar)∧w'.cell? ⟨q,4,C⟩=D (f A x.hf)∧w'.cell? ⟨q,5,C⟩=D (f A x.gl)∧w'.cell? ⟨q,6,C⟩=D (f A x.sp)) (first|exact ⟨c0,c1,c2,c3,c4,c5,c6⟩|exact (HAL.out _ (by assumption))) (first
     | (go_at_call 39;(with_reducible refine (KD.out _ Qd).mono ?_);rintro e v1 ⟨rfl,Q1⟩)
     | (go_at_call 38;(with_reducible refine (KM.out _).mono ?_);rintro e v2 ⟨rfl,t2⟩;(have Q2:=Q1.below t2)))
    have HK2:=zh Q2.r0;have HX2:=zh Q2.bx;have HB2:Hid (∀ t:Su,I w.heap.size w (v2.setRow w.heap.size t.c)):=fun t=>Q2.be.trans ⟨rfl,rfl,rfl,by simp,fun k hk=>setRow_other _ _ _ _ (by omega)⟩;clear c0 c1 c2 c3 c4 c5 c6 Q1 Q2 t2 HQV Qd KD KM HAL
    by_cases hlt:(d.n:Int)<m
    ·have HLE:Hid (lSe d=2):=by show _=_;rw [HE'.out,ztN hlt];rfl
     have HLS:Hid (lS d=su0):=by show _=_;rw [HS.out,HLE.out];rfl
     clear HE' HS
     go_wp2_with (refine zai rfl _ _ rfl _ _ su0 su0 rfl rfl HK2.out ?_;go_frame)
     exact ztP (v:=_) (zox _ _ w.heap.size su0 rfl (setRow_heap _ _ _ _ 65 (0,0) HK2.out)) rfl ⟨by rw [HLS.out,HLE.out];rfl,HB2.out _⟩
    ·have HLE:Hid (lSe d=0):=by show _=_;rw [HE'.out,ztM hlt];rfl
     have HLS:Hid (lS d=x):=by show _=_;rw [HS.out,HLE.out];rfl
     clear HE' HS
     go_wp2_with (first|(refine zb5 rfl _ rfl _ _ x rfl HX2.out ?_;go_frame)|(refine zai rfl _ _ rfl _ _ x su0 rfl rfl HK2.out ?_;go_frame))
     exact ztP (v:=_) (zox _ _ w.heap.size x rfl (setRow_heap _ _ _ _ 65 (0,0) HK2.out)) rfl ⟨by rw [HLS.out,HLE.out];rfl,HB2.out _⟩
 ·have hne:(E != 0)=N:=by simpa using he
  have HLE:Hid (lSe d=E):=by show _=_;rw [HE.out,if_pos he]
  have HLS:Hid (lS d=su0):=by show _=_;rw [HS.out,HLE.out,if_neg he]
  obtain ⟨Z0,hZ0⟩:∃ (Z:H→H),Z=fun W=>W.setRow w.heap.size su0.c:=⟨_,rfl⟩;clear HE HS hB he;unfold Su.val at *;unfold ptr at *;go_enter func178,ntmps178
  go_wp2_with fail
  rw [←HW0.out];refine KR.out.mono ?_;rintro e w1 ⟨rfl,b1⟩;have HK1:=zh ((b1.block _ (zgx HK0.out)).trans HK0.out);have HB1:=zh (HB0.out.trans (b1.mono HB0.out.size));obtain ⟨Z1,hZ1⟩:∃ Z,Z=w1.setRow w.heap.size su0.c:=⟨_,rfl⟩;have B1:Hid (I w.heap.size w Z1):=by rw [hZ1];exact HB1.out.trans ⟨rfl,rfl,rfl,by simp,fun k hk=>setRow_other _ _ _ _ (by omega)⟩
  have K1:Hid (Z1.heap[w.heap.size]?=D (F su0.c 65 (0,0))):=by show _=_;rw [hZ1];exact setRow_heap _ _ _ _ 65 (0,0) HK1.out
  have HZ1:=zh hZ1;clear b1 HK0 HB0 HW0 KR hZ1 hZ0
  go_wp2_with (refine zai rfl _ _ rfl _ _ su0 su0 rfl rfl HK1.out ?_;refine zab HZ1.out.symm ?_;go_frame)
  exact ztP (v:=_) (zox _ _ w.heap.size su0 rfl K1.out) rfl ⟨by rw [HLS.out,HLE.out];rfl,B1.out⟩
theorem zhv (g:Nat) (L:List Nat) (d:St) (w:H) (h:Dv w g L d):Q O 179 #[ptr g] w fun e w'=>e=R (U #[(lH d).val,f A (lHe d)])∧I w.heap.size w w':=by
 obtain ⟨W0,hW0⟩:∃ W0,W0=w.alloc (F hd0.c 41):=⟨_,rfl⟩;have b0:I w.heap.size w W0:=by rw [hW0];exact zba
 have k0:W0.heap[w.heap.size]?=D (F hd0.c 41 (0,0)):=by rw [hW0];exact ztJ w _
 have K:=zfn g L d 2 W0 (h.below b0) (by omega) (by omega);have hB:=zcz d 2;have HE:Hid (lHe d=if rdE d 2=6 then 0 else if rdE d 2≠0 then rdE d 2 else if jO (rdB d 2) then 0 else 2):=rfl;have HS:Hid (lH d=if rdE d 2=0 then (if jO (rdB d 2) then jH (rdB d 2) else hd0) else hd0):=rfl;unfold rdV at K;generalize rdB d 2=B at *;generalize rdG d 2=G at *;generalize rdK d 2=kk at *;generalize rdE d 2=E at *;have KR:=zh K;have HB0:=zh b0;have HK0:=zh k0;have hz0:(w.alloc (F hd0.c 41))=w.alloc (F #[f M 0,f A 0,f M 0] 41):=rfl;rw [hz0] at hW0;have HW0:=zh hW0;clear K b0 k0 h hz0 hW0
 by_cases he:E=0
 ·subst he;have KS:=zh (fun (W:H)=>ziJ B W (by omega));obtain ⟨x,hx⟩:∃ x,x=jH B:=⟨_,rfl⟩;obtain ⟨o,ho⟩:∃ o,o=jO B:=⟨_,rfl⟩;obtain ⟨jv,hjv⟩:∃ o,o=jV B:=⟨_,rfl⟩;rw [←hx,←ho,←hjv] at KS;rw [←ho] at HE;rw [←hx,←ho] at HS;have HE':Hid (lHe d=if o then 0 else 2):=HE.out;have HS':Hid (lH d=if o then x else hd0):=HS.out;clear HE HS hx ho hB hjv;unfold Hd.val at *;unfold Hd.c at KS;unfold ptr at *;go_enter func179,ntmps179
  go_wp2_with fail
  rw [←HW0.out];refine KR.out.mono ?_;rintro e w1 ⟨rfl,b1⟩;have HK1:=zh ((b1.block _ (zgx HK0.out)).trans HK0.out);have HB1:=zh (HB0.out.trans (b1.mono HB0.out.size));clear b1 HK0 HB0 HW0 KR
  go_wp2_with fail
  refine (KS.out _).mono ?_;rintro e w2 ⟨rfl,b2⟩;have hK2:w2.heap[w.heap.size]?=D (F hd0.c 41 (0,0)):=(b2.block _ (zgx HK1.out)).trans HK1.out;have hB2:=HB1.out.trans (b2.mono HB1.out.size);have HX2:Hid ((w2.alloc (F #[f M (x.tm:Nat),f A x.vo,f M (x.cm:Nat)] 41)).heap[w2.heap.size]?=D (F x.c 41 (0,0))):=ztJ w2 _;have HK2:Hid ((w2.alloc (F #[f M (x.tm:Nat),f A x.vo,f M (x.cm:Nat)] 41)).heap[w.heap.size]?=D (F hd0.c 41 (0,0))):=(ztQ _ _ _ (zgx hK2)).trans hK2;have HB2:Hid (∀ t:Hd,I w.heap.size w ((w2.alloc (F #[f M (x.tm:Nat),f A x.vo,f M (x.cm:Nat)] 41)).setRow w.heap.size t.c)):=fun t=>(hB2.alloc hB2.size _).trans ⟨rfl,rfl,rfl,by simp,fun k hk=>setRow_other _ _ _ _ (by omega)⟩;clear b2 hK2 hB2 KS HK1 HB1
  cases o with
  | false =>
    have HLE:Hid (lHe d=2):=HE'.out;have HLS:Hid (lH d=hd0):=HS'.out;clear HE' HS'
    go_wp2_with (refine zaj rfl _ _ rfl _ _ hd0 hd0 rfl rfl HK2.out ?_;go_frame)
    exact ztP (v:=_) (zoy _ _ w.heap.size hd0 rfl (setRow_heap _ _ _ _ 41 (0,0) HK2.out)) rfl ⟨by rw [HLS.out,HLE.out];rfl,HB2.out _⟩
  | true =>
    have HLE:Hid (lHe d=0):=HE'.out;have HLS:Hid (lH d=x):=HS'.out;clear HE' HS'
    go_wp2_with (first|(refine zb6 rfl _ rfl _ _ x rfl HX2.out ?_;go_frame)|(refine zaj rfl _ _ rfl _ _ x hd0 rfl rfl HK2.out ?_;go_frame))
    exact ztP (v:=_) (zoy _ _ w.heap.size x rfl (setRow_heap _ _ _ _ 41 (0,0) HK2.out)) rfl ⟨by rw [HLS.out,HLE.out];rfl,HB2.out _⟩
 ·have HLS:Hid (lH d=hd0):=by show _=_;rw [HS.out,if_neg he]
  have HLE:Hid (lHe d=if E=6 then 0 else E):=by show _=_;rw [HE.out,if_pos he]
  have HEE:=zh he;clear HE HS hB he;unfold Hd.val at *;unfold ptr at *
  by_cases h6:E=6
  ·subst h6;go_enter func179,ntmps179
   go_wp2_with fail
   rw [←HW0.out];refine KR.out.mono ?_;rintro e w1 ⟨rfl,b1⟩;have HK1:=zh ((b1.block _ (zgx HK0.out)).trans HK0.out);have HB1:Hid (I w.heap.size w (w1.setRow w.heap.size hd0.c)):=(HB0.out.trans (b1.mono HB0.out.size)).trans ⟨rfl,rfl,rfl,by simp,fun k hk=>setRow_other _ _ _ _ (by omega)⟩;clear b1 HK0 HB0 HW0 KR
   go_wp2_with (refine zaj rfl _ _ rfl _ _ hd0 hd0 rfl rfl HK1.out ?_;go_frame)
   exact ztP (v:=_) (zoy _ _ w.heap.size hd0 rfl (setRow_heap _ _ _ _ 41 (0,0) HK1.out)) rfl ⟨by rw [HLS.out,HLE.out];rfl,HB1.out⟩
  ·have hne:(E != 0)=N:=by simpa using HEE.out
   have hn6:(E==6)=T:=by simpa using h6
   have HLE6:Hid (lHe d=E):=by show _=_;rw [HLE.out,if_neg h6]
   clear h6 HLE;go_enter func179,ntmps179
   go_wp2_with fail
   rw [←HW0.out];refine KR.out.mono ?_;rintro e w1 ⟨rfl,b1⟩;have HK1:=zh ((b1.block _ (zgx HK0.out)).trans HK0.out);have HB1:Hid (I w.heap.size w (w1.setRow w.heap.size hd0.c)):=(HB0.out.trans (b1.mono HB0.out.size)).trans ⟨rfl,rfl,rfl,by simp,fun k hk=>setRow_other _ _ _ _ (by omega)⟩;clear b1 HK0 HB0 HW0 KR
   go_wp2_with (refine zaj rfl _ _ rfl _ _ hd0 hd0 rfl rfl HK1.out ?_;go_frame)
   exact ztP (v:=_) (zoy _ _ w.heap.size hd0 rfl (setRow_heap _ _ _ _ 41 (0,0) HK1.out)) rfl ⟨by rw [HLS.out,HLE6.out];rfl,HB1.out⟩
theorem zcf {fn:Func} {p q u:Tmp} {ty ty2:TypeId} (h:fn.results=#[.cell p ty,.cell q ty2,.tmp u]) (tmps:Array X) (P:Program) (w:H) :
 (results fn tmps).run P w =
   ((asAddr (tmps.getD p undef)).run P w).andThen fun a w₁=>((loadVar ty a).run P w₁).andThen fun x w₂=>((asAddr (tmps.getD q undef)).run P w₂).andThen fun b w₃=>((loadVar ty2 b).run P w₃).andThen fun y w₄=>.ok (U #[x,y,tmps.getD u undef]) w₄:=by
 simp only [results,h];simp [Sem.run_bind,Result.andThen]
theorem zlI (tmps:Array X) (w:H) (p q:Nat) (s:Su) (h:Hd) (hp:tmps.getD 2 undef=Y (D ⟨p,0,C⟩)) (hq:tmps.getD 3 undef=Y (D ⟨q,0,C⟩)) (hg:w.heap[p]?=D (F s.c 65 (0,0))) (hh:w.heap[q]?=D (F h.c 41 (0,0))) :
 (results f121 tmps).run O w=.ok (U #[.agg s.c,.agg h.c,tmps.getD 4 undef]) w:=by
 rw [zcf results121,hp,hq];simp [asAddr,run_loadVar_row w p 65 65 s.c (0,0) _ hg underlying65 rfl su7,run_loadVar_row w q 41 41 h.c (0,0) _ hh underlying41 rfl hd3]
structure Ld (w:H) (g:Nat) (L:List Nat) (d:St) (W:H):Prop where
 be:I w.heap.size w W
 r2:W.heap[w.heap.size]?=D (F su0.c 65 (0,0))
 r3:W.heap[w.heap.size+1]?=D (F hd0.c 41 (0,0))
 dv:Dv W g L d
theorem Ld.below {d:St} (h:Ld w g L d W) (hb:I W.heap.size W W'):Ld w g L d W' :=
 ⟨h.be.trans (hb.mono h.be.size),(hb.block _ (zgx h.r2)).trans h.r2,(hb.block _ (zgx h.r3)).trans h.r3,h.dv.below hb⟩
theorem Ld.alloc {d:St} (h:Ld w g L d W) (o:Obj):Ld w g L d (W.alloc o):=h.below zba
structure Ldx (w:H) (g:Nat) (L:List Nat) (d:St) (q1 q2:Nat) (s:Su) (h:Hd) (x:Su) (y:Hd) (W:H):Prop where
 be:I w.heap.size w W
 r2:W.heap[w.heap.size]?=D (F s.c 65 (0,0))
 r3:W.heap[w.heap.size+1]?=D (F h.c 41 (0,0))
 bx:W.heap[q1]?=D (F x.c 65 (0,0))
 by_:W.heap[q2]?=D (F y.c 41 (0,0))
 l1:w.heap.size+1<q1
 l2:w.heap.size+1<q2
theorem Ldx.drew {d:St} {s:Su} {h:Hd} {x:Su} {y:Hd} (k:Ldx w g L d q1 q2 s h x y W):Ldx w g L d q1 q2 s h x y W.drew:=⟨k.be.drew,k.r2,k.r3,k.bx,k.by_,k.l1,k.l2⟩
theorem zbg (h:I B w W) (z:Nat) (hz:B≤z) (cs:Array X):I B w (W.setRow z cs):=h.trans ⟨rfl,rfl,rfl,by simp,fun k hk=>setRow_other _ _ _ _ (by omega)⟩
abbrev set7 (W:H) (z:Nat) (s:Su):H:=(((((((W.setCell ⟨z,0,C⟩ (f A s.v)).setCell ⟨z,1,C⟩ (f A s.sn)).setCell ⟨z,2,C⟩ (f A s.lg)).setCell ⟨z,3,C⟩ (f A s.ar)).setCell ⟨z,4,C⟩ (f A s.hf)).setCell ⟨z,5,C⟩ (f A s.gl)).setCell ⟨z,6,C⟩ (f A s.sp))
abbrev set3 (W:H) (z:Nat) (h:Hd):H:=(((W.setCell ⟨z,0,C⟩ (f M (h.tm:Nat))).setCell ⟨z,1,C⟩ (f A h.vo)).setCell ⟨z,2,C⟩ (f M (h.cm:Nat)))
theorem zlK {t:Su} (s:Su) (h:W.heap[z]?=D (F t.c 65 (0,0))):(set7 W z s).heap[z]?=D (F s.c 65 (0,0)):=by
 have k0:(W.setCell ⟨z,0,C⟩ (f A s.v)).heap[z]?=D (F #[f A s.v,f A t.sn,f A t.lg,f A t.ar,f A t.hf,f A t.gl,f A t.sp] 65 (0,0)):=heap_setCell_same _ z 0 _ 65 (f A s.v) h;have k1:((W.setCell ⟨z,0,C⟩ (f A s.v)).setCell ⟨z,1,C⟩ (f A s.sn)).heap[z]?=D (F #[f A s.v,f A s.sn,f A t.lg,f A t.ar,f A t.hf,f A t.gl,f A t.sp] 65 (0,0)):=heap_setCell_same _ z 1 _ 65 (f A s.sn) k0;have k2:(((W.setCell ⟨z,0,C⟩ (f A s.v)).setCell ⟨z,1,C⟩ (f A s.sn)).setCell ⟨z,2,C⟩ (f A s.lg)).heap[z]?=D (F #[f A s.v,f A s.sn,f A s.lg,f A t.ar,f A t.hf,f A t.gl,f A t.sp] 65 (0,0)):=heap_setCell_same _ z 2 _ 65 (f A s.lg) k1;have k3:((((W.setCell ⟨z,0,C⟩ (f A s.v)).setCell ⟨z,1,C⟩ (f A s.sn)).setCell ⟨z,2,C⟩ (f A s.lg)).setCell ⟨z,3,C⟩ (f A s.ar)).heap[z]?=D (F #[f A s.v,f A s.sn,f A s.lg,f A s.ar,f A t.hf,f A t.gl,f A t.sp] 65 (0,0)):=heap_setCell_same _ z 3 _ 65 (f A s.ar) k2;have k4:(((((W.setCell ⟨z,0,C⟩ (f A s.v)).setCell ⟨z,1,C⟩ (f A s.sn)).setCell ⟨z,2,C⟩ (f A s.lg)).setCell ⟨z,3,C⟩ (f A s.ar)).setCell ⟨z,4,C⟩ (f A s.hf)).heap[z]?=D (F #[f A s.v,f A s.sn,f A s.lg,f A s.ar,f A s.hf,f A t.gl,f A t.sp] 65 (0,0)):=heap_setCell_same _ z 4 _ 65 (f A s.hf) k3;have k5:((((((W.setCell ⟨z,0,C⟩ (f A s.v)).setCell ⟨z,1,C⟩ (f A s.sn)).setCell ⟨z,2,C⟩ (f A s.lg)).setCell ⟨z,3,C⟩ (f A s.ar)).setCell ⟨z,4,C⟩ (f A s.hf)).setCell ⟨z,5,C⟩ (f A s.gl)).heap[z]?=D (F #[f A s.v,f A s.sn,f A s.lg,f A s.ar,f A s.hf,f A s.gl,f A t.sp] 65 (0,0)):=heap_setCell_same _ z 5 _ 65 (f A s.gl) k4;have k6:(((((((W.setCell ⟨z,0,C⟩ (f A s.v)).setCell ⟨z,1,C⟩ (f A s.sn)).setCell ⟨z,2,C⟩ (f A s.lg)).setCell ⟨z,3,C⟩ (f A s.ar)).setCell ⟨z,4,C⟩ (f A s.hf)).setCell ⟨z,5,C⟩ (f A s.gl)).setCell ⟨z,6,C⟩ (f A s.sp)).heap[z]?=D (F #[f A s.v,f A s.sn,f A s.lg,f A s.ar,f A s.hf,f A s.gl,f A s.sp] 65 (0,0)):=heap_setCell_same _ z 6 _ 65 (f A s.sp) k5;exact k6
theorem zbM (W:H) (z:Nat) (s:Su) (k:Nat) (h:k≠z):(set7 W z s).heap[k]?=W.heap[k]?:=by
 have h':∀ i,(⟨z,i,C⟩:Addr).block≠k:=fun i e=>h e.symm;unfold set7;rw [heap_setCell_other _ ⟨z,6,C⟩ k _ (Ne.symm (h' 6)),heap_setCell_other _ ⟨z,5,C⟩ k _ (Ne.symm (h' 5)),heap_setCell_other _ ⟨z,4,C⟩ k _ (Ne.symm (h' 4)),heap_setCell_other _ ⟨z,3,C⟩ k _ (Ne.symm (h' 3)),heap_setCell_other _ ⟨z,2,C⟩ k _ (Ne.symm (h' 2)),heap_setCell_other _ ⟨z,1,C⟩ k _ (Ne.symm (h' 1)),heap_setCell_other _ ⟨z,0,C⟩ k _ (Ne.symm (h' 0))]
theorem zlL {t:Hd} (h:Hd) (hz:W.heap[z]?=D (F t.c 41 (0,0))):(set3 W z h).heap[z]?=D (F h.c 41 (0,0)):=by
 have k0:=heap_setCell_same W z 0 _ 41 (f M h.tm) hz;have k1:=heap_setCell_same _ z 1 _ 41 (f A h.vo) k0;exact heap_setCell_same _ z 2 _ 41 (f M h.cm) k1
theorem zbN (W:H) (z:Nat) (h:Hd) (k:Nat) (hk:k≠z):(set3 W z h).heap[k]?=W.heap[k]?:=by
 have h':∀ i,(⟨z,i,C⟩:Addr).block≠k:=fun i e=>hk e.symm;unfold set3;rw [heap_setCell_other _ ⟨z,2,C⟩ k _ (Ne.symm (h' 2)),heap_setCell_other _ ⟨z,1,C⟩ k _ (Ne.symm (h' 1)),heap_setCell_other _ ⟨z,0,C⟩ k _ (Ne.symm (h' 0))]
theorem zgg (s:Su) (h:I B w W) (hz:B≤z):I B w (set7 W z s):=by
 unfold set7;exact ((((((h.setCell (p:=⟨z,0,C⟩) hz _).setCell (p:=⟨z,1,C⟩) hz _).setCell (p:=⟨z,2,C⟩) hz _).setCell (p:=⟨z,3,C⟩) hz _).setCell (p:=⟨z,4,C⟩) hz _).setCell (p:=⟨z,5,C⟩) hz _).setCell (p:=⟨z,6,C⟩) hz _
theorem zgh (s:Hd) (h:I B w W) (hz:B≤z):I B w (set3 W z s):=by
 unfold set3;exact ((h.setCell (p:=⟨z,0,C⟩) hz _).setCell (p:=⟨z,1,C⟩) hz _).setCell (p:=⟨z,2,C⟩) hz _
theorem Ldx.set7 {d:St} {s:Su} {h:Hd} {x:Su} {y:Hd} (k:Ldx w g L d q1 q2 s h x y W):Ldx w g L d q1 q2 x h x y (J.set7 W w.heap.size x) :=
 ⟨zgg _ k.be (ztI _),zlK _ k.r2,(zbM _ _ _ _ (by omega)).trans k.r3,(zbM _ _ _ _ (by have:=k.l1;omega)).trans k.bx,(zbM _ _ _ _ (by have:=k.l2;omega)).trans k.by_,k.l1,k.l2⟩
theorem Ldx.set3 {d:St} {s:Su} {h:Hd} {x:Su} {y:Hd} (k:Ldx w g L d q1 q2 s h x y W):Ldx w g L d q1 q2 s y x y (J.set3 W (w.heap.size+1) y) :=
 ⟨zgh _ k.be (by omega),(zbN _ _ _ _ (by omega)).trans k.r2,zlL _ k.r3,(zbN _ _ _ _ (by have:=k.l1;omega)).trans k.bx,(zbN _ _ _ _ (by have:=k.l2;omega)).trans k.by_,k.l1,k.l2⟩
theorem Ldx.all {d:St} {s:Su} {h:Hd} {x:Su} {y:Hd} (k:Ldx w g L d q1 q2 s h x y W):W.cell? ⟨q1,0,C⟩=D (f A x.v)∧W.cell? ⟨q1,1,C⟩=D (f A x.sn)∧W.cell? ⟨q1,2,C⟩=D (f A x.lg)∧W.cell? ⟨q1,3,C⟩=D (f A x.ar)∧W.cell? ⟨q1,4,C⟩=D (f A x.hf)∧W.cell? ⟨q1,5,C⟩=D (f A x.gl)∧W.cell? ⟨q1,6,C⟩=D (f A x.sp)∧W.cell? ⟨q2,0,C⟩=D (f M (y.tm:Nat))∧W.cell? ⟨q2,1,C⟩=D (f A y.vo)∧W.cell? ⟨q2,2,C⟩=D (f M (y.cm:Nat)):=by
 obtain ⟨a0,a1,a2,a3,a4,a5,a6⟩:=zau k.bx;obtain ⟨b0,b1,b2⟩:=zax k.by_;exact ⟨a0,a1,a2,a3,a4,a5,a6,b0,b1,b2⟩
theorem zoz (g:Nat) (L:List Nat) (d:St) (w:H) (h:Dv w g L d):Q O 121 #[ptr g] w fun e w'=>e=R (U #[(ldS d).val,(ldH d).val,f A (ldE d)])∧I w.heap.size w w':=by
 have hb0:I w.heap.size w ((w.alloc (F su0.c 65)).alloc (F hd0.c 41)):=zba.alloc (by simp) _;have Q0:Ld w g L d ((w.alloc (F su0.c 65)).alloc (F hd0.c 41)):=⟨hb0,(ztQ _ _ _ (by simp)).trans (ztJ w _),heap_alloc2_new w _ _,h.below hb0⟩;obtain ⟨W0,hW0⟩:∃ W0,W0=(w.alloc (F su0.c 65)).alloc (F hd0.c 41):=⟨_,rfl⟩;rw [←hW0] at Q0;have hz0:((w.alloc (F su0.c 65)).alloc (F hd0.c 41))=(w.alloc (F #[f A 0,f A 0,f A 0,f A 0,f A 0,f A 0,f A 0] 65)).alloc (F #[f M 0,f A 0,f M 0] 41):=rfl;rw [hz0] at hW0;have HW0:=zh hW0;have HQ0:=zh Q0;have KS:=zh (fun (W:H) (hQ:Ld w g L d W)=>zgF g L d W hQ.dv);have KH:=zh (fun (W:H) (hQ:Ld w g L d W)=>zhv g L d W hQ.dv);have HE:Hid (ldE d=if lSe d≠0 then lSe d else lHe d):=rfl;have HS:Hid (ldS d=if ldE d=0 then lS d else su0):=rfl;have HH:Hid (ldH d=if ldE d=0 then lH d else hd0):=rfl;generalize lSe d=e1 at *;generalize lHe d=e2 at *;generalize lS d=x at *;generalize lH d=y at *;clear hb0 hW0 hz0 h Q0;unfold Su.val Hd.val at *;unfold Su.c at KS;unfold Hd.c at KH;unfold ptr at *;go_enter func121,ntmps121
 go_wp2_with fail
 rw [←HW0.out];refine (KS.out _ HQ0.out).mono ?_;rintro e w1 ⟨rfl,b1⟩;have Q1:=HQ0.out.below b1;have HL1:Hid (w.heap.size+1<w1.heap.size):=(zgx Q1.r3);have Q1a:=zh (Q1.alloc (F x.c 65));obtain ⟨V1,hV1⟩:∃ V,V=w1.alloc (F x.c 65):=⟨_,rfl⟩;have HX1:Hid (V1.heap[w1.heap.size]?=D (F x.c 65 (0,0))):=by show _=_;rw [hV1];exact ztJ w1 _
 rw [←hV1] at Q1a;unfold Su.c at hV1;have HV1:=zh hV1;clear b1 Q1 hV1 HQ0 HW0 KS
 by_cases he1:e1=0
 ·subst he1
  go_wp2_with fail
  rw [←HV1.out];refine (KH.out _ Q1a.out).mono ?_;rintro e w2 ⟨rfl,b2⟩;have Q2:=Q1a.out.below b2;have HL2':Hid (w.heap.size+1<w2.heap.size):=(zgx Q2.r3);have hx2:=(b2.block _ (zgx HX1.out)).trans HX1.out;have Q2a:=zh (Q2.alloc (F y.c 41));obtain ⟨V2,hV2⟩:∃ V,V=w2.alloc (F y.c 41):=⟨_,rfl⟩;have HX2:Hid (V2.heap[w1.heap.size]?=D (F x.c 65 (0,0))):=by show _=_;rw [hV2];exact (ztQ _ _ _ (zgx hx2)).trans hx2
  have HY2:Hid (V2.heap[w2.heap.size]?=D (F y.c 41 (0,0))):=by show _=_;rw [hV2];exact ztJ w2 _
  rw [←hV2] at Q2a;unfold Hd.c at hV2;have HV2:=zh hV2;clear b2 Q2 hx2 hV2 Q1a HX1 HV1 KH;have HL2:Hid (w.heap.size+1<w2.heap.size):=HL2'.out;generalize hq1:w1.heap.size=q1 at *;generalize hq2:w2.heap.size=q2 at *;have HQ2:=zh hq2;clear hq1 hq2
  by_cases he2:e2=0
  ·subst he2
   go_upto_region 7 with fail
   rw [←HV2.out,HQ2.out];clear HV2 HQ2;have QL:Ldx w g L d q1 q2 su0 hd0 x y V2.drew:=(⟨Q2a.out.be,Q2a.out.r2,Q2a.out.r3,HX2.out,HY2.out,HL1.out,HL2.out⟩:Ldx w g L d q1 q2 su0 hd0 x y V2).drew;have QL0:Ldx w g L d q1 q2 su0 hd0 x y V2:=⟨Q2a.out.be,Q2a.out.r2,Q2a.out.r3,HX2.out,HY2.out,HL1.out,HL2.out⟩;have HQL:=zh QL0;obtain ⟨a0,a1,a2,a3,a4,a5,a6⟩:=zau QL.bx;obtain ⟨b0,b1,b2⟩:=zax QL.by_;obtain ⟨r0,r1,r2,r3,r4,r5,r6⟩:=zau QL0.r2;obtain ⟨s0,s1,s2⟩:=zax QL0.r3;have f2:∀ i,V2.frozen? ⟨w.heap.size,i,C⟩=T:=fun i=>zt6 QL0.r2 i;have f3:∀ i,V2.frozen? ⟨w.heap.size+1,i,C⟩=T:=fun i=>zt6 QL0.r3 i;dsimp only [hd0] at s0 s1 s2;dsimp only [su0] at r0 r1 r2 r3 r4 r5 r6;clear Q2a HX2 HY2 QL QL0;refine wp_region_noPanic ?_;refine wp_region_held_drew (S:=(fun w'=>w'.cell? ⟨q1,0,C⟩=D (f A x.v)∧w'.cell? ⟨q1,1,C⟩=D (f A x.sn)∧w'.cell? ⟨q1,2,C⟩=D (f A x.lg)∧w'.cell? ⟨q1,3,C⟩=D (f A x.ar)∧w'.cell? ⟨q1,4,C⟩=D (f A x.hf)∧w'.cell? ⟨q1,5,C⟩=D (f A x.gl)∧w'.cell? ⟨q1,6,C⟩=D (f A x.sp)∧w'.cell? ⟨q2,0,C⟩=D (f M (y.tm:Nat))∧w'.cell? ⟨q2,1,C⟩=D (f A y.vo)∧w'.cell? ⟨q2,2,C⟩=D (f M (y.cm:Nat)))) (by kernel_rfl) (by exact ⟨a0,a1,a2,a3,a4,a5,a6,b0,b1,b2⟩) (fun hHeld=>?_);refine ztk (v:=?v0) (i:=0) rfl ?hy0 ?rest0
   case hy0=>(intro w hSw;(try dsimp only at hSw);go_simp;first|done|(with_reducible rfl))
   try simp only [Act.put,zA,zB,zC]
   refine ztk (v:=?v1) (i:=1) rfl ?hy1 ?rest1
   case hy1=>(intro w hSw;(try dsimp only at hSw);go_simp;first|done|(with_reducible rfl))
   try simp only [Act.put,zA,zB,zC]
   have g0:=f2 0;have g1:=f2 1;have g2:=f2 2;have g3:=f2 3;have g4:=f2 4;have g5:=f2 5;have g6:=f2 6;have h0:=f3 0;have h1:=f3 1;have h2:=f3 2;refine zr1 (i:=2) rfl (fun K hK=>?_);go_simp;refine hK.out _ _ ?_ (fun hHeld=>?_)
   ·exact (HQL.out.set7.drew).all
   clear hK K
   try simp only [Act.put,zA,zB,zC]
   refine zr1 (i:=3) rfl (fun K hK=>?_);go_simp;refine hK.out _ _ ?_ (fun hHeld=>?_)
   ·exact (HQL.out.set7.set3.drew).all
   clear hK K
   try simp only [Act.put,zA,zB,zC]
   refine zr1 (i:=4) rfl (fun K hK=>?_);go_simp;refine hK.out _ _ ?_ (fun hHeld=>?_)
   ·exact (HQL.out.set7.set3.drew).all
   clear hK K
   try simp only [Act.put,zA,zB,zC]
   refine wpAnyH_done (by kernel_rfl) ?_ _;refine NoPanic.normal ?_;have HF:=zh HQL.out.set7.set3.drew;have HE0:Hid (ldE d=0):=HE.out;have HSx:Hid (ldS d=x):=by show _=_;rw [HS.out,HE0.out];rfl
   have HHy:Hid (ldH d=y):=by show _=_;rw [HH.out,HE0.out];rfl
   clear HE HS HH
   go_wp2_with fail
   exact ztP (v:=_) (zlI _ _ w.heap.size (w.heap.size+1) x y rfl rfl HF.out.r2 HF.out.r3) rfl ⟨by rw [HSx.out,HHy.out,HE0.out];rfl,HF.out.be⟩
  ·have hne:(e2 != 0)=N:=by simpa using he2
   have HE0:Hid (ldE d=e2):=HE.out;have HSx:Hid (ldS d=su0):=by show _=_;rw [HS.out,HE0.out,if_neg he2]
   have HHy:Hid (ldH d=hd0):=by show _=_;rw [HH.out,HE0.out,if_neg he2]
   have HW2:Hid (∀ s h,I w.heap.size w ((V2.setRow w.heap.size s).setRow (w.heap.size+1) h)):=fun s h=>zbg (zbg Q2a.out.be _ (ztI _) s) _ (by omega) h;have HR2:=zh Q2a.out.r2;have HR3:Hid ((V2.setRow w.heap.size su0.c).heap[w.heap.size+1]?=D (F hd0.c 41 (0,0))):=(setRow_other _ _ _ _ (by omega)).trans Q2a.out.r3;have HG3:Hid (((V2.setRow w.heap.size su0.c).setRow (w.heap.size+1) hd0.c).heap[w.heap.size+1]?=D (F hd0.c 41 (0,0))):=setRow_heap _ _ _ _ 41 (0,0) HR3.out;have HG2:Hid (((V2.setRow w.heap.size su0.c).setRow (w.heap.size+1) hd0.c).heap[w.heap.size]?=D (F su0.c 65 (0,0))):=(setRow_other _ _ _ _ (by omega)).trans (setRow_heap _ _ _ _ 65 (0,0) HR2.out);clear HE HS HH Q2a HX2 HY2 he2
   go_upto_region 6 with fail
   rw [←HV2.out,HQ2.out];clear HV2 HQ2
   go_wp2_with (first|(refine zai rfl _ _ rfl _ _ su0 su0 rfl rfl HR2.out ?_;go_frame)|(refine zaj rfl _ _ rfl _ _ hd0 hd0 rfl rfl HR3.out ?_;go_frame))
   exact ztP (v:=_) (zlI _ _ w.heap.size (w.heap.size+1) su0 hd0 rfl rfl HG2.out HG3.out) rfl ⟨by rw [HSx.out,HHy.out,HE0.out];rfl,HW2.out _ _⟩
 ·have hne:(e1 != 0)=N:=by simpa using he1
  have HE0:Hid (ldE d=e1):=by show _=_;rw [HE.out,if_pos he1]
  have HSx:Hid (ldS d=su0):=by show _=_;rw [HS.out,HE0.out,if_neg he1]
  have HHy:Hid (ldH d=hd0):=by show _=_;rw [HH.out,HE0.out,if_neg he1]
  have HW2:Hid (∀ s h,I w.heap.size w ((V1.setRow w.heap.size s).setRow (w.heap.size+1) h)):=fun s h=>zbg (zbg Q1a.out.be _ (ztI _) s) _ (by omega) h;have HR2:=zh Q1a.out.r2;have HR3:Hid ((V1.setRow w.heap.size su0.c).heap[w.heap.size+1]?=D (F hd0.c 41 (0,0))):=(setRow_other _ _ _ _ (by omega)).trans Q1a.out.r3;have HG3:Hid (((V1.setRow w.heap.size su0.c).setRow (w.heap.size+1) hd0.c).heap[w.heap.size+1]?=D (F hd0.c 41 (0,0))):=setRow_heap _ _ _ _ 41 (0,0) HR3.out;have HG2:Hid (((V1.setRow w.heap.size su0.c).setRow (w.heap.size+1) hd0.c).heap[w.heap.size]?=D (F su0.c 65 (0,0))):=(setRow_other _ _ _ _ (by omega)).trans (setRow_heap _ _ _ _ 65 (0,0) HR2.out);clear HE HS HH Q1a HX1 he1 KH
  go_upto_region 3 with fail
  rw [←HV1.out];clear HV1
  go_wp2_with (first|(refine zai rfl _ _ rfl _ _ su0 su0 rfl rfl HR2.out ?_;go_frame)|(refine zaj rfl _ _ rfl _ _ hd0 hd0 rfl rfl HR3.out ?_;go_frame))
  exact ztP (v:=_) (zlI _ _ w.heap.size (w.heap.size+1) su0 hd0 rfl rfl HG2.out HG3.out) rfl ⟨by rw [HSx.out,HHy.out,HE0.out];rfl,HW2.out _ _⟩
end J
namespace J
open Go.RowKit Vi Sl Dk Sp
open Sl in
theorem zcj (v:Int) (n k:Nat) (hk:k=1∨k=2) (h:n<128 ^ k):(num v n k).size≤k:=by
 unfold num
 split
 ·rw [zac n k (by omega)];omega
 ·unfold zaE;rw [zb2];rcases hk with rfl|rfl
  ·exact zaJ n 0 (by simpa using h)
  ·exact zaJ n 1 (by simpa using h)
open Sl in
theorem zl7 {s:Su} (h:rgt s=N):(zbn s).size≤11:=by
 obtain ⟨h1,h2,h3,h4,h5,h6,h7,_⟩:=(zbj _).1 h;have e1:(fxB s.v.toNat 1).size=1:=zac s.v.toNat 1 (by omega);have e2:=zcj s.v s.sn.toNat 2 (.inr rfl) (by omega);have e3:=zcj s.v s.lg.toNat 2 (.inr rfl) (by omega);have e4:=zcj s.v s.ar.toNat 1 (.inl rfl) (by omega);have e5:=zcj s.v s.hf.toNat 1 (.inl rfl) (by omega);have e6:=zcj s.v s.gl.toNat 1 (.inl rfl) (by omega);have e7:=zcj s.v s.sp.toNat 1 (.inl rfl) (by omega);unfold zbn;simp only [ztS,e1];omega
theorem zkB (d:St) (a:Nat) (s:ByteArray):(wrD d a s).n=d.n:=rfl
theorem zfp {d d':St} {a:Int} (hn:d'.n=d.n) (hd:d'.dead=d.dead) (h0:d'.now a.toNat=d.now a.toNat) (h1:d'.now (a+1).toNat=d.now (a+1).toNat) :
 rdE d' a=rdE d a∧rdB d' a=rdB d a∧rdG d' a=rdG d a:=by
 obtain ⟨x0,y0⟩:=zjy (i:=a) h0;obtain ⟨x1,y1⟩:=zjy (i:=a+1) h1;have hb:zaS d' a=zaS d a:=by unfold zaS St.refuses;rw [hn,hd]
 have he:rdE d' a=rdE d a:=by unfold rdE;rw [hb,x0,x1]
 refine ⟨he,?_,?_⟩
 ·unfold rdB;rw [he,x0,x1,y0,y1]
 ·unfold rdG;rw [he,x0,x1]
structure Sts (d:St) (n:Nat) (s:Su) (h:Hd) (k j:Nat):Prop where
 well:zfT d
 nn:d.n=n
 n4:4≤n
 e0:rdE d ((0:Nat):Int)=0
 b0:rdB d ((0:Nat):Int)=zbn s
 g0:rdG d ((0:Nat):Int)=k
 rs:rgt s=N
 h2:(rdE d ((2:Nat):Int)=6∧h=hd0)∨(rdE d ((2:Nat):Int)=0∧∃ v,hO v h=N∧h.Ok∧rdB d ((2:Nat):Int)=hB v h)
 g2:rdG d ((2:Nat):Int)=j
theorem zeR {d:St} {b:Nat} {s:ByteArray} (hab:a+1<b∨b+1<a) (hw:wrO d a=0∨wrO d a=1) :
 rdE (wrD d a s) (b:Int)=rdE d b∧rdB (wrD d a s) (b:Int)=rdB d b∧rdG (wrD d a s) (b:Int)=rdG d b:=by
 refine zfp (zkB _ _ _) rfl ?_ ?_
 ·rw [zdu,if_neg (by rcases hw with h|h<;>rw [h]<;>simp<;>omega)]
 ·rw [zdu,if_neg (by rcases hw with h|h<;>rw [h]<;>simp<;>omega)]
theorem Sts.setS {d:St} {s s':Su} {h:Hd} (t:Sts d n s h k j) (hs:rgt s'=N) (hk:k<1000) (hz:(zbn s').size≤51) :
 J.setS d s'=(wrD d 0 (zbn s'),0)∧Sts (wrD d 0 (zbn s')) n s' h (k+1) j:=by
 have ha:0+1<d.n:=by have:=t.nn;have:=t.n4;omega
 have hg:rdG d ((0:Nat):Int)≠18446744073709551615:=by rw [t.g0];omega
 obtain ⟨r1,r2,r3,r4⟩:=zeO t.well ha hz hg;obtain ⟨x1,x2,x3⟩:=zeR (d:=d) (a:=0) (b:=2) (s:=zbn s') (.inl (by omega)) zbu;refine ⟨?_,⟨zdW t.well _ _,by rw [zkB];exact t.nn,t.n4,r1,r2,by rw [r3,t.g0],hs,?_,by rw [x3];exact t.g2⟩⟩
 ·unfold J.setS;rw [if_pos hs];exact zoB t.well ha hz hg
 ·rw [x1,x2];exact t.h2
theorem Sts.setH {d:St} {s:Su} {h h':Hd} (t:Sts d n s h k j) (hh:hO v h'=N) (ho:h'.Ok) (hj:j<1000) :
 J.setH d v h'=(wrD d 2 (hB v h'),0)∧Sts (wrD d 2 (hB v h')) n s h' k (j+1):=by
 have hz:(hB v h').size≤51:=by have:=(zgH hh ho).1;omega
 have ha:2+1<d.n:=by have:=t.nn;have:=t.n4;omega
 have hg:rdG d ((2:Nat):Int)≠18446744073709551615:=by rw [t.g2];omega
 obtain ⟨r1,r2,r3,r4⟩:=zeO t.well ha hz hg;obtain ⟨x1,x2,x3⟩:=zeR (d:=d) (a:=2) (b:=0) (s:=hB v h') (.inr (by omega)) zbu;refine ⟨?_,⟨zdW t.well _ _,by rw [zkB];exact t.nn,t.n4,by rw [x1];exact t.e0,by rw [x2];exact t.b0,by rw [x3];exact t.g0,t.rs,.inr ⟨r1,v,hh,ho,r2⟩,by rw [r3,t.g2]⟩⟩;unfold J.setH;rw [if_pos hh];exact zoB t.well ha hz hg
theorem Sts.load {d:St} {s:Su} {h:Hd} (t:Sts d n s h k j) (hn:sec s≤n):ldE d=0∧ldS d=s∧ldH d=h:=by
 have e1:lSe d=0:=by
  unfold lSe;have e0:=t.e0;have b0:=t.b0;rw [show ((0:Nat):Int)=0 from rfl] at e0 b0;rw [e0,b0,if_neg (by simp),zp4 t.rs,zp5 t.rs,t.nn,ztM (by omega)];rfl
 have b0:=t.b0;rw [show ((0:Nat):Int)=0 from rfl] at b0;have hS:lS d=s:=by unfold lS;rw [e1,if_pos rfl,b0,zp5 t.rs]
 have h2:=t.h2;rw [show ((2:Nat):Int)=2 from rfl] at h2
 have e2:lHe d=0∧lH d=h:=by
  rcases h2 with ⟨x1,x2⟩|⟨x1,v,x2,x3,x4⟩
  ·unfold lHe lH;rw [x1,x2];exact ⟨rfl,rfl⟩
  ·unfold lHe lH;rw [x1,x4,ziD x2 x3,(zqR x2 x3).1];exact ⟨rfl,rfl⟩
 have e3:ldE d=0:=by unfold ldE;rw [e1,e2.1];rfl
 exact ⟨e3,by unfold ldS;rw [e3,if_pos rfl];exact hS,by unfold ldH;rw [e3,if_pos rfl];exact e2.2⟩
theorem Sts.same {d d':St} {s:Su} {h:Hd} (t:Sts d n s h k j) (hw:zfT d') (hn:d'.n=d.n) (hs:∀ i,i<4→d'.now i=d.now i):Sts d' n s h k j:=by
 have hd:d'.dead=d.dead:=by rw [hw.dead,t.well.dead]
 obtain ⟨x1,x2,x3⟩:=zfp (a:=((0:Nat):Int)) hn hd (hs 0 (by omega)) (hs 1 (by omega));obtain ⟨y1,y2,y3⟩:=zfp (a:=((2:Nat):Int)) hn hd (hs 2 (by omega)) (hs 3 (by omega));exact ⟨hw,by rw [hn];exact t.nn,t.n4,by rw [x1];exact t.e0,by rw [x2];exact t.b0,by rw [x3];exact t.g0,t.rs,by rw [y1,y2];exact t.h2,by rw [y3];exact t.g2⟩
theorem zoH {d:St} {s:Su} {h:Hd} (hw:zfT d) (hn:d.n=n) (h4:4≤n) (hs:rgt s=N) (hz:(zbn s).size≤51) (hh:hO v h=N) (ho:h.Ok) (g0:rdG d ((0:Nat):Int)<1000) (g2:rdG d ((2:Nat):Int)<1000) :
 J.setH d v h=(wrD d 2 (hB v h),0)∧J.setS (wrD d 2 (hB v h)) s=(wrD (wrD d 2 (hB v h)) 0 (zbn s),0)∧Sts (wrD (wrD d 2 (hB v h)) 0 (zbn s)) n s h (rdG d ((0:Nat):Int)+1) (rdG d ((2:Nat):Int)+1):=by
 have hz2:(hB v h).size≤51:=by have:=(zgH hh ho).1;omega
 have ha2:2+1<d.n:=by omega
 obtain ⟨q1,q2,q3,q4⟩:=zeO hw ha2 hz2 (by omega);obtain ⟨x1,x2,x3⟩:=zeR (d:=d) (a:=2) (b:=0) (s:=hB v h) (.inr (by omega)) zbu;have hw1:zfT (wrD d 2 (hB v h)):=zdW hw _ _;have ha0:0+1<(wrD d 2 (hB v h)).n:=by rw [zkB];omega
 have hg0:rdG (wrD d 2 (hB v h)) ((0:Nat):Int)≠18446744073709551615:=by rw [x3];omega
 obtain ⟨r1,r2,r3,r4⟩:=zeO hw1 ha0 hz hg0;obtain ⟨y1,y2,y3⟩:=zeR (d:=wrD d 2 (hB v h)) (a:=0) (b:=2) (s:=zbn s) (.inl (by omega)) zbu;refine ⟨?_,?_,⟨zdW hw1 _ _,by rw [zkB,zkB];exact hn,h4,r1,r2,by rw [r3,x3],hs,.inr ⟨by rw [y1];exact q1,v,hh,ho,by rw [y2];exact q2⟩,by rw [y3];exact q3⟩⟩
 ·unfold J.setH;rw [if_pos hh];exact zoB hw ha2 hz2 (by omega)
 ·unfold J.setS;rw [if_pos hs];exact zoB hw1 ha0 hz hg0
theorem zcT {d:St} {s:ByteArray} (h:j≠a∧j≠a+1):(wrD d a s).now j=d.now j:=by
 rw [zdu,if_neg (by rcases zbu (d:=d) (a:=a) with h|h<;>rw [h]<;>simp<;>omega)]
end J
end Go.Proofs.YtidndekacnmihaaGreat
