/-
  FrameCodes: part G39.
  Conditions: named in each theorem.
-/
import Derived.Deep.CutRange
import Derived.Test.YtpdbeijfchmlgaaGreatZ0
import Derived.Test.YtpdbeijfchmlgaaGreatG48
import Derived.Test.YtpdbeijfchmlgaaGreatG12
import Derived.Test.YtpdbeijfchmlgaaGreatG13
import Derived.Test.YtpdbeijfchmlgaaGreatG14
import Derived.Test.YtpdbeijfchmlgaaGreatG15
import Derived.Test.YtpdbeijfchmlgaaGreatG22
import Derived.Test.YtpdbeijfchmlgaaGreatG33
import Derived.Test.YtpdbeijfchmlgaaGreatG34
set_option linter.unusedVariables false
set_option linter.unusedSimpArgs false
set_option maxHeartbeats 16000000
set_option maxRecDepth 100000
namespace Go.Proofs.YtpdbeijfchmlgaaGreat
open Go.RowKit
open Vi
theorem gFs_eq:∀ (n:Nat) (b:Bool) (t:ByteArray),gFs b n t=(b||!gOs n t)
 | 0,b,t=>by show b=(b||!true);simp
 | n+1,b,t=>by
   show gFs (b||!getO t) n (getT t)=(b||!(getO t&&gOs n (getT t)))
   rw [gFs_eq n]
   cases b<;>cases getO t<;>simp
theorem mX9_le {s:ByteArray} (h:mY s≤1):mX9 s=u9 s∧rN s=mN s∧r10 s=u10 s∧rG s=mG s∧rZ s=mZ s∧rS s=mS s∧rT s=mR s:=by
 have e:mX9 s=u9 s:=by unfold mX9;rw [if_pos h]
 have e1:rN s=mN s:=by unfold rN mN;rw [e]
 have e2:r10 s=u10 s:=by unfold r10 u10;rw [e]
 have e3:rG s=mG s:=by unfold rG mG;rw [e1,e2]
 have e4:rZ s=mZ s:=by unfold rZ mZ;rw [e3]
 refine ⟨e,e1,e2,e3,e4,?_,?_⟩
 ·unfold rS mS;rw [e3,e4]
 ·unfold rT mR;rw [e3,e4]
theorem mFR_eq (s:ByteArray):(!mFR s&&decide ((rT s).size=0))=mAll s:=by
 by_cases h:mY s≤1
 ·obtain ⟨e0,e1,e2,e3,e4,e5,e6⟩:=mX9_le h;unfold mFR mFG;rw [gFs_eq,e1,e2,e3,e4,e6];unfold mF10 mF9 mF8 fm8 mAll hdM;rw [e0,decide_eq_false (show ¬ 1<mY s by omega),decide_eq_true h];simp only [Bool.false_or,Bool.or_false,Bool.true_and,Bool.not_or,Bool.not_not,Bool.and_assoc]
 ·have e1:mFR s=true:=by
   unfold mFR mFG;rw [gFs_eq];unfold mF10 mF9;rw [decide_eq_true (show 1<mY s by omega)]
   simp
  have e2:mAll s=false:=by
   unfold mAll;rw [decide_eq_false h]
   simp
  rw [e1,e2];rfl
theorem mRd_eq {s:ByteArray} (h:mAll s=true) (A:Option Addr) (c:Nat):mRd s A c=mPrs s A c:=by
 have hY:=(mAll_sizes s h).2.2.2.2.1;obtain ⟨e0,e1,e2,e3,e4,e5,e6⟩:=mX9_le hY;unfold mRd mKp mPrs mP9 mP8;rw [e1,e2,e5]
theorem gEs_ok:∀ (n:Nat) (t:ByteArray),∀ e∈gEs n t,e.Ok
 | 0,_,e,he=>by cases he
 | n+1,t,e,he=>by
   rcases List.mem_cons.1 he with rfl|he
   ·exact getE_ok t
   ·exact gEs_ok n _ e he
theorem u_le (s:ByteArray):(u8 s).size≤s.size:=by
 unfold u8 u7 u6 u5 u4 u3 u2 u1;exact Nat.le_trans (fixT_le _ _) (Nat.le_trans (fixT_le _ _) (Nat.le_trans (fixT_le _ _) (Nat.le_trans (fixT_le _ _) (Nat.le_trans (fixT_le _ _) (Nat.le_trans (fixT_le _ _) (Nat.le_trans (fixT_le _ _) (fixT_le _ _)))))))
theorem fv1 (s:ByteArray):(fixV s 1:Nat)<256:=by
 have h:=fixV_lt s 1 (by omega)
 rwa [show (256:Nat) ^ 1=256 from by decide] at h
theorem fv8 (s:ByteArray):(fixV s 8:Nat)<18446744073709551616:=by
 have h:=fixV_lt s 8 (by omega)
 rwa [show (256:Nat) ^ 8=18446744073709551616 from by decide] at h
theorem bytV_sz (s:ByteArray) (k:Int):(bytV s k).size≤s.size:=by
 unfold bytV
 split
 ·rw [ByteArray.size_extract];omega
 ·exact Nat.zero_le _
theorem rS_le (s:ByteArray):(rS s).size≤s.size:=by
 unfold rS;refine Nat.le_trans (bytV_sz _ _) (Nat.le_trans (fixT_le _ _) ?_);unfold rG;refine Nat.le_trans (gTs_le _ _) ?_;unfold r10;refine Nat.le_trans (fixT_le _ _) ?_;unfold mX9
 split
 ·unfold u9;exact Nat.le_trans (fixT_le _ _) (u_le s)
 ·exact Nat.zero_le _
theorem wide_of (a b c n:Nat) (d e f g h:Nat) (o:Bool) (A:Option Addr) (cc:Nat) (es:List En) (sn:ByteArray) (ha:a<256) (hb:b<256) (hc:c<256) (hn:n<256) (hd:d<18446744073709551616) (he:e<18446744073709551616) (hf:f<18446744073709551616) (hg:g<18446744073709551616) (hh:h<18446744073709551616) (hs:sn.size≤140737488351232) (hes:∀ x∈es,x.Ok) :
 (⟨a,b,c,d,e,f,g,h,o,A,n,cc,es,sn⟩:Ms).Wide:=by
 constructor
 all_goals dsimp only
 all_goals first|omega|exact hes
theorem rN_lt (s:ByteArray):rN s<256:=by
 unfold rN;exact fv1 _
theorem mRd_form (s:ByteArray) (A:Option Addr) (c:Nat):mRd s A c=⟨fixV s 1,fixV (u1 s) 1,fixV (u2 s) 1,fixV (u3 s) 8,fixV (u4 s) 8,fixV (u5 s) 8,fixV (u6 s) 8,fixV (u7 s) 8,mY s==1,A,rN s,c,gEs (rN s) (r10 s),rS s⟩:=by
 simp only [mRd,mKp,mP9,mP8]
theorem mRd_wide (s:ByteArray) (A:Option Addr) (c:Nat) (hm:s.size≤140737488351232):(mRd s A c).Wide:=by
 have h:=rS_le s;rw [mRd_form];exact wide_of (fixV s 1) (fixV (u1 s) 1) (fixV (u2 s) 1) (rN s) (fixV (u3 s) 8) (fixV (u4 s) 8) (fixV (u5 s) 8) (fixV (u6 s) 8) (fixV (u7 s) 8) (mY s==1) A c (gEs (rN s) (r10 s)) (rS s) (fv1 _) (fv1 _) (fv1 _) (rN_lt s) (fv8 _) (fv8 _) (fv8 _) (fv8 _) (fv8 _) (Nat.le_trans h hm) (gEs_ok _ _)
end Go.Proofs.YtpdbeijfchmlgaaGreat
namespace Go.Proofs.YtpdbeijfchmlgaaGreat
open Go.RowKit
open Vi
def gok (s:ByteArray):Bool:=mAll s&&mmayB (mPrs s none 0)
theorem may_at (s:ByteArray) (A:Option Addr) (c:Nat):mmayB (mPrs s A c)=mmayB (mPrs s none 0):=rfl
def GMsg (s:ByteArray) (w:World) (q:Ending) (w':World):Prop :=
 ∃ M:Ms,q=.returned (.tuple #[mv M,.bool (gok s)])∧Ents w'.heap.size M.A M.n M.es w'∧M.Wide∧Below w.heap.size w w'∧(gok s=true→∃ A c,M=mPrs s A c)∧(gok s=false→M=mzz)
theorem mzz_wide5:mzz.Wide:=by
 constructor
 all_goals dsimp only
 all_goals first|omega|exact Nat.zero_le _|(intro e he;cases he)
theorem gmsg_no {s:ByteArray} {w w':World} (h:gok s=false) (hb:Below w.heap.size w w'):GMsg s w (.returned (.tuple #[mv mzz,.bool false])) w' :=
 by
 refine ⟨mzz,by rw [h],⟨rfl,fun i e he=>by cases he⟩,mzz_wide5,hb,fun e=>?_,fun _=>rfl⟩;rw [h] at e
 cases e
theorem gmsg_yes {s:ByteArray} {w w':World} {A:Option Addr} {c:Nat} (hm:s.size≤140737488351232) (h:gok s=true) (hb:Below w.heap.size w w') (hE:Ents w'.heap.size A (rN s) (gEs (rN s) (r10 s)) w'):GMsg s w (.returned (.tuple #[mv (mRd s A c),.bool true])) w':=by
 have ha:mAll s=true:=by
  have h2:=h;unfold gok at h2;rw [Bool.and_eq_true] at h2;exact h2.1
 obtain ⟨p1,p2,p3⟩:=mRd_parts s A c;have hw:=mRd_wide s A c hm;have he:=mRd_eq ha A c;obtain ⟨M,hM⟩:∃ M,M=mRd s A c:=⟨_,rfl⟩;rw [←hM] at p1 p2 p3 hw he ⊢;refine ⟨M,by rw [h],?_,hw,hb,fun _=>⟨A,c,he⟩,fun e=>?_⟩
 ·rw [p1,p2,p3];exact hE
 ·rw [h] at e
  cases e
theorem gok_iff (s:ByteArray) (A:Option Addr) (c:Nat):gok s=((!mFR s&&decide ((rT s).size=0))&&mmayB (mRd s A c)):=by
 rw [mFR_eq];unfold gok
 by_cases h:mAll s=true
 ·rw [mRd_eq h A c,may_at s A c]
 ·have h2:mAll s=false:=by simpa using h
  rw [h2,Bool.false_and,Bool.false_and]
theorem heap_wrm5 (w:World) (g k:Nat) (M:Ms) (h:k≠g):(wrm w g M).heap[k]?=w.heap[k]?:=by
 have hs:∀ (w:World) (i:Nat) (u:Value),(w.setCell ⟨g,i,none⟩ u).heap[k]?=w.heap[k]?:=fun w i u=>Below.heap_setCell w _ _ k (by simp;omega);unfold wrm;rw [hs,hs,hs,hs,hs,hs,hs,hs,hs,hs,hs]
theorem size_wrm (w:World) (g:Nat) (M:Ms):(wrm w g M).heap.size=w.heap.size:=by
 simp [World.setCell]
theorem ents_wrm2 {w:World} {g B n:Nat} {A:Option Addr} {es:List En} (M:Ms) (h:Ents B A n es w) (hA:∀ a,A=some a→a.block≠g):Ents B A n es (wrm w g M) :=
 ⟨h.len,fun i e he=>by
  obtain ⟨a,h1,h2,h3⟩:=h.at_ i e he;refine ⟨a,h1,h2,fun j hj=>?_⟩;rw [←h3 j hj];exact World.cell?_of_block (heap_wrm5 w g _ M (by rw [block_of_add,block_of_add];exact hA a h1))⟩
theorem getMsg_any (s:ByteArray) (w:World) (hm:s.size≤140737488351232):Calls Tryz.prog 46 #[.string s] w (GMsg s w):=by
 obtain ⟨W0,hW0⟩:∃ W0,W0=w.alloc (Obj.cells (mc mzz) 29):=⟨_,rfl⟩;have k0:W0.heap[w.heap.size]?=some (.cells (mc mzz) 29 (0,0)):=by rw [hW0];exact heap_alloc_new w _
 have b0:Below w.heap.size w W0:=by rw [hW0];exact zba
 have s0:W0.heap.size=w.heap.size+1:=by rw [hW0];simp
 have KN:=zh (new2 s W0);have KR:=zh (fun (g:Nat) (W:World) (h:Rd 178 g s false W)=>readMsg_any g s W h hm);have HM:=zh hm;have HW0:=zh hW0;have HK0:=zh k0;have HB0:=zh b0;have HS0:=zh s0;clear hW0 k0 b0 s0 hm
 go_enter Tryz.func46,Tryz.ntmps46
 go_wp2_with fail
 rw [←HW0.out];refine KN.out.mono ?_;rintro q w1 ⟨rfl,R1,b1,s1⟩;have HR1:=zh R1;have HK1:Hid (w1.heap[w.heap.size]?=some (.cells (mc mzz) 29 (0,0))):=(b1.block _ (by have:=HS0.out;omega)).trans HK0.out;have HB1:Hid (Below w.heap.size w w1):=HB0.out.trans (b1.mono HB0.out.size);clear R1 b1 s1
 go_wp2_with fail
 refine (KR.out _ _ HR1.out).mono ?_;rintro q w2 ⟨A,c,rfl,hLo,hE,R2,g2⟩;have HLO:Hid (∀ a,A=some a→a.block≠w.heap.size):=fun a ha=>by have h1:=hLo a ha;have h2:=HB1.out.size;have h3:=(zgx HK1.out);omega
 have hW1:w.heap.size<W0.heap.size:=by have:=HS0.out;omega
 have HK2:Hid (w2.heap[w.heap.size]?=some (.cells (mc mzz) 29 (0,0))):=(g2.block _ (zgx HK1.out) (by simp;omega)).trans HK1.out;have HB2:Hid (Below w.heap.size w w2):=HB1.out.grown g2 HB1.out.size (fun k hk=>by injection hk with hk;omega);have HG:=gok_iff s A c;have HY:Hid (∀ W,Below w.heap.size w W→Ents W.heap.size A (rN s) (gEs (rN s) (r10 s)) W→gok s=true→GMsg s w (.returned (.tuple #[mv (mRd s A c),.bool true])) W):=fun W hb he hk=>gmsg_yes HM.out hk hb he;have HWD:=zh (mRd_wide s A c HM.out);have HP:=zh (mRd_parts s A c);obtain ⟨M,hMe⟩:∃ M,M=mRd s A c:=⟨_,rfl⟩;rw [←hMe] at HG HY HWD HP ⊢;obtain ⟨bf,hbf⟩:∃ bf,bf=mFR s:=⟨_,rfl⟩;obtain ⟨st,hst⟩:∃ st,st=rT s:=⟨_,rfl⟩;rw [←hbf,←hst] at HG R2;have HGG:=zh HG;obtain ⟨W2,hW2⟩:∃ W2,W2=w2.alloc (Obj.cells (mc M) 29):=⟨_,rfl⟩;have bb:Below w2.heap.size w2 W2:=by rw [hW2];exact zba
 have HR3:Hid (Rd 178 W0.heap.size st bf W2):=R2.below bb R2.lt;have HK3:Hid (W2.heap[w.heap.size]?=some (.cells (mc mzz) 29 (0,0))):=(bb.block _ (zgx HK2.out)).trans HK2.out;have HKM:Hid (W2.heap[w2.heap.size]?=some (.cells (mc M) 29 (0,0))):=by show _=_;rw [hW2];exact heap_alloc_new w2 _
 have HB3:Hid (Below w.heap.size w W2):=HB2.out.trans (bb.mono HB2.out.size);have HE3:Hid (Ents W2.heap.size A (rN s) (gEs (rN s) (r10 s)) W2):=(hE.below bb).mr bb.size;have HL2:Hid (w2.heap.size<W2.heap.size):=(zgx HKM.out);have HW2:=zh hW2;have KO:=zh (ok2 _ _ _ _ HR3.out);have KL:=zh (left2 _ _ _ _ HR3.out);have KM:Hid (Calls Tryz.prog 73 #[mv M] W2 fun q w'=>q=.returned (.bool (mmayB M))∧Below W2.heap.size W2 w'):=mmay_any M W2 (by rw [HP.out.1,HP.out.2.1,HP.out.2.2];exact HE3.out) HWD.out;clear hE hLo R2 g2 hW1 HG hMe hbf hst hW2 bb KR KN HR1 HK1 HB1 HK2 HB2
 cases bf with
 | true =>
   have hk:gok s=false:=by rw [HGG.out];rfl
   obtain ⟨z0,z1,z2,z3,z4,z5,z6,z7,z8,z9,z10⟩:=zmzl (w:=W2) (b:=w.heap.size) HK3.out;have fz:∀ i,W2.frozen? ⟨w.heap.size,i,none⟩=false:=fun i=>Md.of HK3.out
   go_wp2_with fail
   rw [←HW2.out];refine KO.out.mono ?_;rintro q w3 ⟨rfl,rfl⟩;go_wp2;obtain ⟨WF,hWF⟩:∃ WF,WF=wrm W2 w.heap.size mzz:=⟨_,rfl⟩;have hblk:WF.heap[w.heap.size]?=some (.cells (mc mzz) 29 (0,0)):=by rw [hWF];exact store_allm mzz HK3.out
   have hbF:Below w.heap.size w WF:=by rw [hWF];exact below_allm mzz HB3.out (Nat.le_refl _)
   unfold wrm at hWF;rw [←hWF];have hWF2:=zh hWF;clear hWF;obtain ⟨f0,f1,f2,f3,f4,f5,f6,f7,f8,f9,f10⟩:=zmzl (w:=WF) (b:=w.heap.size) hblk;exact bodyPost_ret (v:=.tuple #[mv mzz,.bool false]) (by simp [results,Tryz.results46,go_sem,f0,f1,f2,f3,f4,f5,f6,f7,f8,f9,f10]) rfl (gmsg_no hk hbF)
 | false =>
   by_cases hz:st.size=0
   ·have hd:decide (0<(st.size:Int))=false:=decide_eq_false (by omega);have hd2:¬ 0<st.size:=by omega
    have hkk:gok s=mmayB M:=by rw [HGG.out,decide_eq_true hz];rfl
    have HKK:=zh hkk;obtain ⟨mb,hmb⟩:∃ mb,mb=mmayB M:=⟨_,rfl⟩;rw [←hmb] at KM HKK;clear hkk hmb;obtain ⟨m0,m1,m2,m3,m4,m5,m6,m7,m8,m9,m10⟩:=zmcl (w:=W2) (b:=w2.heap.size) (e:=M) HKM.out
    go_wp2_with fail
    rw [←HW2.out];refine KO.out.mono ?_;rintro q w3 ⟨rfl,rfl⟩
    go_wp2_with fail
    refine KL.out.mono ?_;rintro q w3 ⟨rfl,rfl⟩
    cases mb with
    | true =>
      go_wp2_with fail
      refine KM.out.mono ?_;rintro q w4 ⟨rfl,b4⟩;have HK4:Hid (w4.heap[w.heap.size]?=some (.cells (mc mzz) 29 (0,0))):=(b4.block _ (zgx HK3.out)).trans HK3.out;have HM4:Hid (w4.heap[w2.heap.size]?=some (.cells (mc M) 29 (0,0))):=(b4.block _ HL2.out).trans HKM.out;have HB4:Hid (Below w.heap.size w w4):=HB3.out.trans (b4.mono HB3.out.size);have HE4:Hid (Ents w4.heap.size A (rN s) (gEs (rN s) (r10 s)) w4):=(HE3.out.below b4).mr b4.size;clear b4 m0 m1 m2 m3 m4 m5 m6 m7 m8 m9 m10;obtain ⟨z0,z1,z2,z3,z4,z5,z6,z7,z8,z9,z10⟩:=zmzl (w:=w4) (b:=w.heap.size) HK4.out;have fz:∀ i,w4.frozen? ⟨w.heap.size,i,none⟩=false:=fun i=>Md.of HK4.out;obtain ⟨m0,m1,m2,m3,m4,m5,m6,m7,m8,m9,m10⟩:=zmcl (w:=w4) (b:=w2.heap.size) (e:=M) HM4.out;go_wp2;obtain ⟨WF,hWF⟩:∃ WF,WF=wrm w4 w.heap.size M:=⟨_,rfl⟩;have hblk:WF.heap[w.heap.size]?=some (.cells (mc M) 29 (0,0)):=by rw [hWF];exact store_allm M HK4.out
      have hbF:Below w.heap.size w WF:=by rw [hWF];exact below_allm M HB4.out (Nat.le_refl _)
      unfold wrm at hWF;rw [←hWF];have hWF2:=zh hWF;clear hWF;obtain ⟨f0,f1,f2,f3,f4,f5,f6,f7,f8,f9,f10⟩:=zmcl (w:=WF) (b:=w.heap.size) (e:=M) hblk;exact bodyPost_ret (v:=.tuple #[mv M,.bool true]) (by simp [results,Tryz.results46,go_sem,f0,f1,f2,f3,f4,f5,f6,f7,f8,f9,f10]) rfl (HY.out _ hbF (by have hq:=ents_wrm2 (g:=w.heap.size) M HE4.out HLO.out;have hz:=size_wrm w4 w.heap.size M;rw [←hz] at hq;unfold wrm at hq;rw [←hWF2.out] at hq;exact hq) HKK.out)
    | false =>
      go_wp2_with fail
      refine KM.out.mono ?_;rintro q w4 ⟨rfl,b4⟩;have HK4:Hid (w4.heap[w.heap.size]?=some (.cells (mc mzz) 29 (0,0))):=(b4.block _ (zgx HK3.out)).trans HK3.out;have HB4:Hid (Below w.heap.size w w4):=HB3.out.trans (b4.mono HB3.out.size);clear b4 m0 m1 m2 m3 m4 m5 m6 m7 m8 m9 m10;obtain ⟨z0,z1,z2,z3,z4,z5,z6,z7,z8,z9,z10⟩:=zmzl (w:=w4) (b:=w.heap.size) HK4.out;have fz:∀ i,w4.frozen? ⟨w.heap.size,i,none⟩=false:=fun i=>Md.of HK4.out;go_wp2;obtain ⟨WF,hWF⟩:∃ WF,WF=wrm w4 w.heap.size mzz:=⟨_,rfl⟩;have hblk:WF.heap[w.heap.size]?=some (.cells (mc mzz) 29 (0,0)):=by rw [hWF];exact store_allm mzz HK4.out
      have hbF:Below w.heap.size w WF:=by rw [hWF];exact below_allm mzz HB4.out (Nat.le_refl _)
      unfold wrm at hWF;rw [←hWF];have hWF2:=zh hWF;clear hWF;obtain ⟨f0,f1,f2,f3,f4,f5,f6,f7,f8,f9,f10⟩:=zmzl (w:=WF) (b:=w.heap.size) hblk;exact bodyPost_ret (v:=.tuple #[mv mzz,.bool false]) (by simp [results,Tryz.results46,go_sem,f0,f1,f2,f3,f4,f5,f6,f7,f8,f9,f10]) rfl (gmsg_no HKK.out hbF)
   ·have hd:decide (0<(st.size:Int))=true:=decide_eq_true (by omega);have hd2:0<st.size:=by omega
    have hk:gok s=false:=by rw [HGG.out,decide_eq_false hz];rfl
    obtain ⟨z0,z1,z2,z3,z4,z5,z6,z7,z8,z9,z10⟩:=zmzl (w:=W2) (b:=w.heap.size) HK3.out;have fz:∀ i,W2.frozen? ⟨w.heap.size,i,none⟩=false:=fun i=>Md.of HK3.out
    go_wp2_with fail
    rw [←HW2.out];refine KO.out.mono ?_;rintro q w3 ⟨rfl,rfl⟩
    go_wp2_with fail
    refine KL.out.mono ?_;rintro q w3 ⟨rfl,rfl⟩;go_wp2;obtain ⟨WF,hWF⟩:∃ WF,WF=wrm W2 w.heap.size mzz:=⟨_,rfl⟩;have hblk:WF.heap[w.heap.size]?=some (.cells (mc mzz) 29 (0,0)):=by rw [hWF];exact store_allm mzz HK3.out
    have hbF:Below w.heap.size w WF:=by rw [hWF];exact below_allm mzz HB3.out (Nat.le_refl _)
    unfold wrm at hWF;rw [←hWF];have hWF2:=zh hWF;clear hWF;obtain ⟨f0,f1,f2,f3,f4,f5,f6,f7,f8,f9,f10⟩:=zmzl (w:=WF) (b:=w.heap.size) hblk;exact bodyPost_ret (v:=.tuple #[mv mzz,.bool false]) (by simp [results,Tryz.results46,go_sem,f0,f1,f2,f3,f4,f5,f6,f7,f8,f9,f10]) rfl (gmsg_no hk hbF)
end Go.Proofs.YtpdbeijfchmlgaaGreat
namespace Go.Proofs.YtpdbeijfchmlgaaGreat.D
open Go.RowKit
open Vi
theorem mright_any (m:Ms) (w:World) (hE:Ents w.heap.size m.A m.n m.es w) (hn:(m.n:Int)≤9223372036854775807) (hok:∀ e∈m.es,e.Ok) :
 Calls Tryz.prog 50 #[mv m] w fun r w'=>r=.returned (.bool (mrightB m))∧Below w.heap.size w w':=by
 by_cases h1:1≤m.frm<;>by_cases h2:1≤m.dst
 ·exact mright_11 m w hE hn hok h1 h2
 ·exact mright_10 m w hE hn hok h1 (by omega)
 ·exact mright_01 m w hE hn hok (by omega) h2
 ·exact mright_00 m w hE hn hok (by omega) (by omega)
theorem putM_any (m:Ms) (w:World) (hE:Ents w.heap.size m.A m.n m.es w) (wd:m.Wide) :
 Calls Tryz.prog 33 #[mv m] w fun q w'=>q=.returned (.tuple #[.string (putX m),.bool (mrightB m)])∧Below w.heap.size w w':=by
 obtain ⟨W0,hW0⟩:∃ W0,W0=w.alloc (Obj.cells (mc m) 29):=⟨_,rfl⟩;have S0:Bm w m W0:=by rw [hW0];exact Bm.start hE
 have KR:=zh (fun (W:World) (h:Bm w m W)=>(mright_any m W (h.en.mr h.be.size) wd.n1 wd.eo).mono fun q w' ⟨h1,h2⟩=>And.intro h1 (h.on h2).all);have HW:=zh hW0;have HP:Hid (putX m=if mrightB m then sbM m.pl else ⟨#[]⟩):=rfl;have S1:=zh S0;have HLEN:=zh hE.len;have WD:=zh wd;obtain ⟨_,c0,c1,c2,c3,c4,c5,c6,c7,c8,c9,c10⟩:=S0.all;rw [hW0] at c0 c1 c2 c3 c4 c5 c6 c7 c8 c9 c10;clear hW0 S0 hE wd;obtain ⟨rb,hrb⟩:∃ rb,rb=mrightB m:=⟨_,rfl⟩;rw [←hrb] at KR HP ⊢
 cases rb with
 | false =>
   have HEq:Hid (putX m=⟨#[]⟩):=HP.out;clear hrb
   go_enter Tryz.func33,Tryz.ntmps33
   go_wp2_with fail
   rw [←HW.out];refine (KR.out _ S1.out).mono ?_;rintro q w1 ⟨rfl,T,_⟩;go_wp2;go_ret2;exact ⟨ret_pair_b HEq.out.symm rfl,T.be⟩
 | true =>
   have fw:=mfew_of WD.out HLEN.out hrb.symm;have ok2_b:=wide_pl WD.out;have HEq:Hid (putX m=sbM m.pl):=HP.out;have K42:Hid (∀ W,Bm w m W→Calls Tryz.prog 76 #[] W fun q w'=>∃ b,q=.returned (.slice (some ⟨b,0,none⟩) 12 12)∧MFlds b w'∧Bm w m w'∧w'.cell? ⟨w.heap.size,0,none⟩=some (.int .i64 m.kind)∧w'.cell? ⟨w.heap.size,1,none⟩=some (.int .i64 m.frm)∧w'.cell? ⟨w.heap.size,2,none⟩=some (.int .i64 m.dst)∧w'.cell? ⟨w.heap.size,3,none⟩=some (.int .u64 m.term)∧w'.cell? ⟨w.heap.size,4,none⟩=some (.int .u64 m.index)∧w'.cell? ⟨w.heap.size,5,none⟩=some (.int .u64 m.prev)∧w'.cell? ⟨w.heap.size,6,none⟩=some (.int .u64 m.commit)∧w'.cell? ⟨w.heap.size,7,none⟩=some (.int .u64 m.mark)∧w'.cell? ⟨w.heap.size,8,none⟩=some (.bool m.ok)∧w'.cell? ⟨w.heap.size,9,none⟩=some (.slice m.A m.n m.c)∧w'.cell? ⟨w.heap.size,10,none⟩=some (.string m.snap)):=fun W h=>(mfields_any2 W).mono fun q w' ⟨b,h1,h2,h3⟩=>⟨b,h1,h2,(h.on h3).all⟩;have K41:Hid (∀ (b:Nat) (W:World),MFlds b W→Bm w m W→Calls Tryz.prog 75 #[.slice (some ⟨b,0,none⟩) 12 12,mv m] W fun q w'=>q=.returned (.string (sbM m.pl))∧Bm w m w'∧w'.cell? ⟨w.heap.size,0,none⟩=some (.int .i64 m.kind)∧w'.cell? ⟨w.heap.size,1,none⟩=some (.int .i64 m.frm)∧w'.cell? ⟨w.heap.size,2,none⟩=some (.int .i64 m.dst)∧w'.cell? ⟨w.heap.size,3,none⟩=some (.int .u64 m.term)∧w'.cell? ⟨w.heap.size,4,none⟩=some (.int .u64 m.index)∧w'.cell? ⟨w.heap.size,5,none⟩=some (.int .u64 m.prev)∧w'.cell? ⟨w.heap.size,6,none⟩=some (.int .u64 m.commit)∧w'.cell? ⟨w.heap.size,7,none⟩=some (.int .u64 m.mark)∧w'.cell? ⟨w.heap.size,8,none⟩=some (.bool m.ok)∧w'.cell? ⟨w.heap.size,9,none⟩=some (.slice m.A m.n m.c)∧w'.cell? ⟨w.heap.size,10,none⟩=some (.string m.snap)):=fun b W h1 h=>(putFieldsM_any b m W (h.en.mr h.be.size) ok2_b fw h1).mono fun q w' ⟨h2,h3⟩=>⟨h2,(h.on h3).all⟩;clear HP hrb fw ok2_b
   go_enter Tryz.func33,Tryz.ntmps33
   go_wp2_with fail
   rw [←HW.out];refine (KR.out _ S1.out).mono ?_;rintro q w1 ⟨rfl,T,d0,d1,d2,d3,d4,d5,d6,d7,d8,d9,d10⟩
   go_upto_region 3 with fail
   have Td:Bm w m w1.drew:=T.on (Below.refl _ w1).drew;clear KR S1
   go_region_held3 (fun w'=>w'.cell? ⟨w.heap.size,0,none⟩=some (.int .i64 m.kind)∧w'.cell? ⟨w.heap.size,1,none⟩=some (.int .i64 m.frm)∧w'.cell? ⟨w.heap.size,2,none⟩=some (.int .i64 m.dst)∧w'.cell? ⟨w.heap.size,3,none⟩=some (.int .u64 m.term)∧w'.cell? ⟨w.heap.size,4,none⟩=some (.int .u64 m.index)∧w'.cell? ⟨w.heap.size,5,none⟩=some (.int .u64 m.prev)∧w'.cell? ⟨w.heap.size,6,none⟩=some (.int .u64 m.commit)∧w'.cell? ⟨w.heap.size,7,none⟩=some (.int .u64 m.mark)∧w'.cell? ⟨w.heap.size,8,none⟩=some (.bool m.ok)∧w'.cell? ⟨w.heap.size,9,none⟩=some (.slice m.A m.n m.c)∧w'.cell? ⟨w.heap.size,10,none⟩=some (.string m.snap)) (first|exact ⟨d0,d1,d2,d3,d4,d5,d6,d7,d8,d9,d10⟩|(refine ⟨?_,?_,?_,?_,?_,?_,?_,?_,?_,?_,?_⟩<;>assumption)) (first
    | (go_at_call 76;(with_reducible refine (K42.out _ Td).mono ?_);rintro q w2 ⟨fb,rfl,hf,X2,e0,e1,e2,e3,e4,e5,e6,e7,e8,e9,e10⟩)
    | (go_at_call 75;(with_reducible refine (K41.out _ _ hf X2).mono ?_);rintro q w3 ⟨rfl,X3,g0,g1,g2,g3,g4,g5,g6,g7,g8,g9,g10⟩))
   go_wp2_with fail
   go_ret2;exact ⟨ret_pair_b HEq.out.symm rfl,X3.be⟩
end Go.Proofs.YtpdbeijfchmlgaaGreat.D
namespace Go.Proofs.YtpdbeijfchmlgaaGreat
open Go.RowKit
open Vi
def qF10 (s:ByteArray):Bool:=mF8 s||!hasF (u9 s) 1
def qT (s:ByteArray) (k:Nat):ByteArray:=gTs k (u10 s)
def qF (s:ByteArray) (k:Nat):Bool:=gFs (qF10 s) k (u10 s)
def qZ (s:ByteArray) (k:Nat):Nat:=fixV (qT s k) 4
def qS (s:ByteArray) (k:Nat):ByteArray:=bytV (fixT (qT s k) 4) (qZ s k)
def qB (s:ByteArray) (k:Nat):Bool:=(qF s k||!hasF (qT s k) 4)||!hasB (fixT (qT s k) 4) (qZ s k)
def qM (s:ByteArray) (k:Nat) (A:Option Addr) (c:Nat):Ms:={ mKp (mP9 s) (u10 s) k A c with snap:=qS s k }
theorem gOs_le:∀ (n k:Nat) (t:ByteArray),k≤n→gOs n t=true→gOs k t=true
 | _,0,_,_,_=>rfl
 | 0,k+1,_,h,_=>absurd h (by omega)
 | n+1,k+1,t,h,h2=>by
   unfold gOs at h2 ⊢;rw [Bool.and_eq_true] at h2 ⊢;exact ⟨h2.1,gOs_le n k _ (by omega) h2.2⟩
theorem qS_le (s:ByteArray) (k:Nat):(qS s k).size≤s.size:=by
 unfold qS;refine Nat.le_trans (bytV_sz _ _) (Nat.le_trans (fixT_le _ _) ?_);unfold qT;refine Nat.le_trans (gTs_le _ _) ?_;unfold u10 u9;exact Nat.le_trans (fixT_le _ _) (Nat.le_trans (fixT_le _ _) (u_le s))
theorem mN_lt (s:ByteArray):mN s<256:=by unfold mN;exact fv1 _
theorem qM_form (s:ByteArray) (k:Nat) (A:Option Addr) (c:Nat):qM s k A c=⟨fixV s 1,fixV (u1 s) 1,fixV (u2 s) 1,fixV (u3 s) 8,fixV (u4 s) 8,fixV (u5 s) 8,fixV (u6 s) 8,fixV (u7 s) 8,mY s==1,A,k,c,gEs k (u10 s),qS s k⟩:=by
 simp only [qM,mKp,mP9,mP8]
theorem qM_wide (s:ByteArray) (k:Nat) (A:Option Addr) (c:Nat) (hk:k≤mN s) (hm:s.size≤140737488351232):(qM s k A c).Wide:=by
 have h:=qS_le s k;have hn:=mN_lt s;rw [qM_form];exact wide_of (fixV s 1) (fixV (u1 s) 1) (fixV (u2 s) 1) k (fixV (u3 s) 8) (fixV (u4 s) 8) (fixV (u5 s) 8) (fixV (u6 s) 8) (fixV (u7 s) 8) (mY s==1) A c (gEs k (u10 s)) (qS s k) (fv1 _) (fv1 _) (fv1 _) (Nat.lt_of_le_of_lt hk hn) (fv8 _) (fv8 _) (fv8 _) (fv8 _) (fv8 _) (Nat.le_trans h hm) (gEs_ok _ _)
theorem qM_parts (s:ByteArray) (k:Nat) (A:Option Addr) (c:Nat):(qM s k A c).A=A∧(qM s k A c).n=k∧(qM s k A c).es=gEs k (u10 s)∧(qM s k A c).c=c:=by
 simp only [qM,mKp,and_self]
theorem qS_full (s:ByteArray):qS s (mN s)=mS s:=by
 simp only [qS,qZ,qT,mS,mZ,mG]
theorem qM_full (s:ByteArray) (A:Option Addr) (c:Nat):qM s (mN s) A c=mPrs s A c:=by
 rw [qM_form,qS_full];simp only [mPrs]
theorem rgm_iff (s:ByteArray) (k:Nat) (A:Option Addr) (c:Nat) (hm:s.size≤140737488351232) (hk:k≤mN s) (hkb:k=mN s∨qF s k=true) :
 (!qB s k&&(mmayB (qM s k A c)&&decide (nums (putM (qM s k A c))=nums s)))=gok s∧(gok s=true→qM s k A c=mPrs s A c):=by
 obtain ⟨p1,p2,p3,p4⟩:=qM_parts s k A c;have wd:=qM_wide s k A c hk hm;have hl:(qM s k A c).es.length=(qM s k A c).n:=by rw [p2,p3,gEs_length]
 have back:gok s=true→qB s k=false∧qM s k A c=mPrs s A c∧mmayB (qM s k A c)=true∧putM (qM s k A c)=s:=by
  intro hg;have hg2:=hg;unfold gok at hg2;rw [Bool.and_eq_true] at hg2;obtain ⟨ha,hmy⟩:=hg2;have ha2:=ha;unfold mAll hdM at ha2;simp only [Bool.and_eq_true,decide_eq_true_eq] at ha2;obtain ⟨⟨⟨⟨⟨⟨⟨⟨⟨⟨a1,a2⟩,a3⟩,a4⟩,a5⟩,a6⟩,a7⟩,a8⟩,a9⟩,a10⟩,a11,a12,a13,a14,a15⟩:=ha2
  have h10:qF10 s=false:=by
   unfold qF10 mF8 fm8;rw [a1,a2,a3,a4,a5,a6,a7,a8,a9,a10];rfl
  have hq:∀ j,j≤mN s→qF s j=false:=by
   intro j hj;unfold qF;rw [gFs_eq,h10,gOs_le _ _ _ hj a12];rfl
  have hkN:k=mN s:=by
   rcases hkb with h|h
   ·exact h
   ·rw [hq k hk] at h;cases h
  have eT:qT s k=mG s:=by unfold qT mG;rw [hkN]
  have eZ:qZ s k=mZ s:=by unfold qZ mZ;rw [eT]
  have eM:qM s k A c=mPrs s A c:=by rw [hkN];exact qM_full s A c
  have hB:qB s k=false:=by
   unfold qB;rw [hq k hk,eT,eZ,a13,a14];rfl
  have hmy2:mmayB (mPrs s A c)=true:=by rw [may_at];exact hmy
  refine ⟨hB,eM,by rw [eM];exact hmy2,?_⟩;rw [eM];unfold putM;rw [if_pos hmy2];exact mAll_text s A c ha
 refine ⟨?_,fun h=>(back h).2.1⟩
 cases hg:gok s with
 | true =>
   obtain ⟨b1,b2,b3,b4⟩:=back hg;rw [b1,b3,b4,decide_eq_true rfl];rfl
 | false =>
   cases hL:(!qB s k&&(mmayB (qM s k A c)&&decide (nums (putM (qM s k A c))=nums s))) with
   | false=>rfl
   | true =>
     exfalso
     simp only [Bool.and_eq_true,decide_eq_true_eq] at hL;obtain ⟨_,h2,h3⟩:=hL;have e:putM (qM s k A c)=s:=nums_inj h3;unfold putM at e;rw [if_pos h2] at e;obtain ⟨q1,q2⟩:=mAll_put (qM s k A c) wd h2 hl;rw [e] at q1 q2;rw [p1,p4] at q2
     have:gok s=true:=by
      unfold gok;rw [q1,←may_at s A c,q2,h2];rfl
     rw [hg] at this
     cases this
end Go.Proofs.YtpdbeijfchmlgaaGreat
