/-
  FrameCodes: part G44.
  Conditions: named in each theorem.
-/
import Derived.Deep.CutRange
import Derived.Test.YtpdbeijfchmlgaaGreatZ0
import Derived.Test.YtpdbeijfchmlgaaGreatG19
import Derived.Test.YtpdbeijfchmlgaaGreatG39
import Derived.Test.YtpdbeijfchmlgaaGreatG50
import Derived.Test.YtpdbeijfchmlgaaGreatG43
set_option linter.unusedVariables false
set_option linter.unusedSimpArgs false
set_option maxHeartbeats 16000000
set_option maxRecDepth 100000
namespace Go.Proofs.YtpdbeijfchmlgaaGreat.D
open Go.RowKit
open Vi
theorem setMr_wide {t:Nat} {E:Mp} {v:Nat} (h:E.Wide) (hv:v<18446744073709551616):(setMr t E v).Wide:=by
 have h0:=h;obtain ⟨a1,a2,a3,a4,a5,a6,a7,a8,a9,a10,a11,a12,a13,a14,a15,a16,a17,a18⟩:=h;unfold setMr
 split<;>first|exact setM_wide h0 hv|(constructor<;>(try dsimp only)<;>first|assumption|omega)
theorem setMr_es (t:Nat) (E:Mp) (v:Nat):(setMr t E v).es=E.es:=by
 unfold setMr
 split<;>first|rfl|exact setM_es _ _ _
theorem hL_ok:∀ (n:Nat) (l:List En) (s:ByteArray) (b:Bool),s.size≤140737488351232→(∀ e∈l,e.Ok)→(∀ e∈(hL n l s b).1,e.Ok)∧(hL n l s b).1.length≤l.length+n
 | 0,l,_,_,_,h=>⟨h,Nat.le_refl _⟩
 | n+1,l,s,b,hs,h=>by
   unfold hL
   split
   ·exact ⟨h,Nat.le_add_right _ _⟩
   ·have ih:=hL_ok n (l++[gE s false]) (gT s false) (!gO s false) (Nat.le_trans (gT_le s false) hs) (fun e he=>by
     rcases List.mem_append.1 he with he|he
     ·exact h e he
     ·rw [List.mem_singleton] at he;subst he;exact gE_ok s false (by omega))
    refine ⟨ih.1,?_⟩;have h2:=ih.2;rw [List.length_append] at h2;simp only [List.length_cons,List.length_nil] at h2;omega
theorem mR_wide {t:Nat} {E:Mp} {T:ByteArray} (h:E.Wide) (hT:T.size≤140737488351232):(mR t E T).1.Wide∧(mR t E T).1.es.length≤E.es.length+65:=by
 have h1:=varT_size T;have h2:=texV_le T;have hl:E.es.length≤E.es.length+65:=Nat.le_add_right _ _;have h0:=h;unfold mR;obtain ⟨a1,a2,a3,a4,a5,a6,a7,a8,a9,a10,a11,a12,a13,a14,a15,a16,a17,a18⟩:=h
 by_cases h10:t=10
 ·rw [if_pos h10];exact ⟨⟨a1,a2,a3,a4,a5,a6,a7,a8,a9,a10,a11,a12,a13,a14,a15,a16,Nat.le_trans h2 hT,a18⟩,hl⟩
 ·rw [if_neg h10]
  by_cases h8:t≤8
  ·rw [if_pos h8];exact ⟨setMr_wide h0 (varV_lt T),by show (setMr t E (varV T)).es.length≤_;rw [setMr_es];exact hl⟩
  ·rw [if_neg h8]
   by_cases h9:t=9
   ·rw [if_pos h9];exact ⟨⟨a1,a2,a3,a4,a5,a6,a7,a8,a9,a10,a11,a12,a13,a14,a15,a16,a17,a18⟩,hl⟩
   ·rw [if_neg h9]
    by_cases h11:t=11
    ·rw [if_pos h11];have hk:=hL_ok (min (varV T) 65) E.es (varT T) (!varO T) (by omega) a18;exact ⟨⟨a1,a2,a3,a4,a5,a6,a7,a8,a9,a10,a11,a12,a13,a14,a15,a16,a17,hk.1⟩,Nat.le_trans hk.2 (by omega)⟩
    ·rw [if_neg h11];exact ⟨h0,hl⟩
theorem pk_wide:∀ n last E T b,E.Wide→E.es.length≤64→T.size≤140737488351232→(pk mF n last E T b).1.Wide∧(pk mF n last E T b).1.es.length≤64
 | 0,_,_,_,_,h,h2,_=>⟨h,h2⟩
 | n+1,last,E,T,b,h,h2,h3=>by
   have h4:=varT_size T;unfold pk
   split
   ·exact ⟨h,h2⟩
   ·split
    ·exact ⟨h,h2⟩
    ·have h5:=mS_wide (t:=varV T) h h2 (T:=varT T) (by omega);exact pk_wide n _ _ _ _ h5.1 h5.2 (Nat.le_trans (mS_size _ _ _) (by omega))
theorem mRd_wide (s:ByteArray) (hm:s.size≤140737488351232):(mRd s false).1.Wide∧(mRd s false).1.es.length≤64:=pk_wide 12 0 mz0 s false mz0_wide (Nat.zero_le _) hm
theorem rgm_iff (s:ByteArray) (A:Option Addr) (c:Nat) (hm:s.size≤140737488351232) (R:Mp×ByteArray×Bool) (hR:R=mRr s false) (h2:R.1.Wide) (h3:R.1.es.length≤10000) :
 (!R.2.2&&(mrightB (R.1.at_ A c)&&decide (nums (putX (R.1.at_ A c))=nums s)))=gok s∧(gok s=true→R.1=(mRd s false).1):=by
 have hw:=mRd_wide s hm
 have back:gok s=true→R=((mRd s false).1,⟨#[]⟩,false)∧mrightB (R.1.at_ A c)=true∧putX (R.1.at_ A c)=s:=by
  intro hg;unfold gok at hg;simp only [Bool.and_eq_true,decide_eq_true_eq] at hg;obtain ⟨g1,g2,g3⟩:=hg;obtain ⟨X,hX⟩:∃ X,X=(mRd s false).1:=⟨_,rfl⟩;have e1:(mRd s false).2.2=false:=by simpa using g1
  have e2:(mRd s false).2.1=⟨#[]⟩:=(size0 _).1 g2;have e3:mRd s false=(X,⟨#[]⟩,false):=Prod.ext hX.symm (Prod.ext e2 e1);rw [←hX] at hw g3;have fw:MFew X:=mfew_of (wide_at hw.1 none 0 (by omega)) rfl g3;have hs:=(mRd_sound hw.1 fw e3).2;have hp:=(mRd_put hw.1 fw ⟨#[]⟩).2;rw [←hs] at hp;have hRX:R=(X,⟨#[]⟩,false):=by rw [hR];exact hp
  rw [hRX];refine ⟨by rw [hX],?_,?_⟩
  ·show mrightB (X.at_ A c)=true
   rw [right_at];exact g3
  ·show putX (X.at_ A c)=s
   unfold putX;rw [right_at,if_pos g3];have e5:sbM X++⟨#[]⟩=sbM X:=by apply ByteArray.ext;simp
   rw [e5] at hs;exact hs.symm
 refine ⟨?_,fun h=>by rw [(back h).1]⟩
 cases hg:gok s with
 | true =>
   obtain ⟨b1,b2,b3⟩:=back hg;rw [b3,b2,b1,decide_eq_true rfl];rfl
 | false =>
   cases hL:(!R.2.2&&(mrightB (R.1.at_ A c)&&decide (nums (putX (R.1.at_ A c))=nums s))) with
   | false=>rfl
   | true =>
     exfalso
     simp only [Bool.and_eq_true,decide_eq_true_eq] at hL;obtain ⟨_,q2,q3⟩:=hL;have e:=nums_inj q3;unfold putX at e;rw [if_pos q2] at e;have e:sbM R.1=s:=e;have fw:MFew R.1:=mfew_of (wide_at h2 A c (by omega)) rfl q2;have hp:=(mRd_put h2 fw ⟨#[]⟩).1;have e5:sbM R.1++⟨#[]⟩=s:=by rw [e];apply ByteArray.ext;simp
     rw [e5] at hp
     have:gok s=true:=by
      unfold gok;rw [hp]
      show (!false&&(decide ((⟨#[]⟩:ByteArray).size=0)&&mrightB (R.1.at_ none 0)))=true
      rw [←right_at R.1 A c,q2];rfl
     rw [hg] at this
     cases this
theorem rgetM_any (s:ByteArray) (w:World) (hm:s.size≤140737488351232):Calls Tryz.prog 49 #[.string s] w (GMsg s w):=by
 obtain ⟨W0,hW0⟩:∃ W0,W0=w.alloc (Obj.cells (mc mzz) 29):=⟨_,rfl⟩;have k0:W0.heap[w.heap.size]?=some (.cells (mc mzz) 29 (0,0)):=by rw [hW0];exact heap_alloc_new w _
 have b0:Below w.heap.size w W0:=by rw [hW0];exact zba
 have s0:W0.heap.size=w.heap.size+1:=by rw [hW0];simp
 have KN:=zh (rnew2 s W0);have HM:=zh hm;have HW0:=zh hW0;have HK0:=zh k0;have HB0:=zh b0;have HS0:=zh s0;obtain ⟨R,hR⟩:∃ R,R=mRr s false:=⟨_,rfl⟩;have HR0:Hid (rk mR 12 mz0 s false=R):=hR.symm;have HEQ:Hid (∀ A c,R.1.Wide→R.1.es.length≤10000→(!R.2.2&&(mrightB (R.1.at_ A c)&&decide (nums (putX (R.1.at_ A c))=nums s)))=gok s∧(gok s=true→R.1=(mRd s false).1)):=fun A c h2 h3=>rgm_iff s A c hm R hR h2 h3;clear hW0 k0 b0 s0 hm hR
 go_enter Tryz.func49,Tryz.ntmps49
 go_wp2_with fail
 rw [←HW0.out];refine KN.out.mono ?_;rintro q w1 ⟨rfl,R1,b1,s1⟩;obtain ⟨g,hg⟩:∃ g,g=W0.heap.size:=⟨_,rfl⟩;rw [←hg] at R1 s1 ⊢;have HK1:Hid (w1.heap[w.heap.size]?=some (.cells (mc mzz) 29 (0,0))):=(b1.block _ (by have:=HS0.out;omega)).trans HK0.out;have HB1:Hid (Below w.heap.size w w1):=HB0.out.trans (b1.mono HB0.out.size);have HGW:Hid (g=w.heap.size+1∧w1.heap.size=w.heap.size+2):=by have:=HS0.out;exact ⟨by omega,by omega⟩
 obtain ⟨W2,hW2⟩:∃ W2,W2=w1.alloc (Obj.cells (mc mzz) 29):=⟨_,rfl⟩;have bb2:Below w1.heap.size w1 W2:=by rw [hW2];exact zba
 have k2:W2.heap[w1.heap.size]?=some (.cells (mc mzz) 29 (0,0)):=by rw [hW2];exact heap_alloc_new w1 _
 have X0:Xr w1 g w1.heap.size (mz0.at_ none 0) s false W2 :=
  ⟨⟨R1.below bb2 (by omega),⟨bb2.os,bb2.tape,bb2.output,bb2.size,fun i hi _=>bb2.block i hi⟩,by omega,HM.out,fun h=>by cases h⟩,k2,World.ownsRow_nil _ _ _ _,rfl,Nat.le_refl _⟩
 have HX0:=zh X0;have HW2:=zh hW2;obtain ⟨p,hp⟩:∃ p,p=w1.heap.size:=⟨_,rfl⟩;rw [←hp] at HX0;have HPP:Hid (w.heap.size+1<p):=by have h1:=HGW.out.2;show _<_;omega
 have HPE:=zh hp
 have HB2:Hid (∀ W,w1.grownBy W (some g)→Below w.heap.size w W∧W.heap[w.heap.size]?=some (.cells (mc mzz) 29 (0,0))):=by
  intro W hW;have h1:=HGW.out.1;exact ⟨HB1.out.grown hW HB1.out.size (fun k hk=>by injection hk with hk;omega),(hW.block _ (zgx HK1.out) (by simp;omega)).trans HK1.out⟩
 clear R1 b1 s1 hg bb2 k2 X0 hW2 hp
 go_wp2_with fail
 rw [←HW2.out]
 try rw [←HPE.out]
 clear HW2 HPE
 go_loopw [6] (fun i wr=>∃ (k n:Nat) (E:Mp) (A:Option Addr) (c:Nat) (T:ByteArray) (b:Bool),k+n=12∧i=.int .i64 k∧Hid (rk mR n E T b=R)∧Xr w1 g p (E.at_ A c) T b wr∧E.Wide∧E.es.length≤65*k) (fun i _=>12-(intOf i).toNat)
 case atStart=>exact ⟨0,12,mz0,none,0,s,false,rfl,rfl,HR0,HX0.out,mz0_wide,Nat.zero_le _⟩
 case round =>
  obtain ⟨k,n,E,A,c,T,b,hn,rfl,HP,hT,hE,hE2⟩:=hrel;clear HR0 HX0;have HE:=zh hE;have HE2:=zh hE2;have HT:=zh hT;have cg1:wr.cell? ⟨g,1,none⟩=some (.bool b):=hT.q.hr.cell1
  by_cases hk:k<12
  ·have t1:decide ((k:Int)<12)=true:=decide_eq_true (by omega);have t1':decide (k<12)=true:=decide_eq_true (by omega);obtain ⟨m,rfl⟩:∃ m,n=m+1:=⟨n-1,by omega⟩;have hpk:=HP.out;unfold rk at hpk
   cases b with
   | true =>
     have HRR:Hid ((E,T,true)=R):=by rw [if_pos rfl] at hpk;exact hpk
     clear hpk HP hT hE hE2;have HT3:=HT;obtain ⟨w3,hw3⟩:∃ w3,w3=wr:=⟨_,rfl⟩;rw [←hw3] at HT3 cg1 ⊢;obtain ⟨bb,hbb⟩:∃ bb,bb=true:=⟨_,rfl⟩;obtain ⟨T1,hT1⟩:∃ T1,T1=T:=⟨_,rfl⟩;rw [←hT1] at HRR HT3;rw [show (E,T1,true)=(E,T1,bb) by rw [hbb]] at HRR;rw [←hbb] at HT3;clear HT hw3 hT1;have hRR1:R.1=E:=by rw [←HRR.out]
     have hRR2:R.2.2=bb:=by rw [←HRR.out]
     have hel:E.es.length≤10000:=by have:=HE2.out;omega
     obtain ⟨hx3,hx4⟩:=HEQ.out A c (by rw [hRR1];exact HE.out) (by rw [hRR1];exact hel);rw [hRR1,hRR2] at hx3;rw [hRR1] at hx4;obtain ⟨M,hM⟩:∃ M,M=E.at_ A c:=⟨_,rfl⟩;have HWD:Hid M.Wide:=by show Ms.Wide _;rw [hM];exact wide_at HE.out A c (by omega)
     have HPR:Hid (gok s=true→M=mPrs s A c):=fun h=>by rw [hM,hx4 h];rfl
     rw [←hM] at hx3 HT3;obtain ⟨mb,hmb⟩:∃ mb,mb=mrightB M:=⟨_,rfl⟩;obtain ⟨PM,hPM⟩:∃ PM,PM=putX M:=⟨_,rfl⟩;rw [←hmb,←hPM,←beq_nums] at hx3;obtain ⟨te,hte⟩:∃ te,te=(PM.toList==s.toList):=⟨_,rfl⟩;rw [←hte] at hx3;have hte2:(PM.toList==s.toList)=te:=hte.symm;have HGK:=zh hx3
     have K3:Hid (Calls Tryz.prog 36 #[mv M] w3 fun q w'=>q=.returned (.tuple #[.string PM,.bool mb])∧Below w3.heap.size w3 w'):=by
      refine (rputM_any M w3 (ents_of_own HT3.out.own HT3.out.hl) HWD.out).mono fun q w' ⟨h1,h2⟩=>?_;rw [←hPM,←hmb] at h1;exact ⟨h1,h2⟩
     obtain ⟨m0,m1,m2,m3,m4,m5,m6,m7,m8,m9,m10⟩:=zmclf (w:=w3) (b:=p) (e:=M) HT3.out.cell;clear hx3 hx4 hM hmb hPM hte hRR1 hRR2 hel HRR HEQ;subst hbb
     go_wp2_with fail
     refine K3.out.mono ?_;rintro e w5 ⟨rfl,b5⟩;have HT5:=zh (HT3.out.below b5);have cr1:w5.cell? ⟨g,1,none⟩=some (.bool true):=HT5.out.q.hr.cell1;clear b5 K3 HT3 m0 m1 m2 m3 m4 m5 m6 m7 m8 m9 m10;have HOK:Hid (gok s=false):=HGK.out.symm;clear HGK;have hgr:=HB2.out w5 HT5.out.q.fr;obtain ⟨z0,z1,z2,z3,z4,z5,z6,z7,z8,z9,z10⟩:=zmzl (w:=w5) (b:=w.heap.size) hgr.2;have fz:∀ i,w5.frozen? ⟨w.heap.size,i,none⟩=false:=fun i=>Md.of hgr.2;obtain ⟨WF,hWF⟩:∃ WF,WF=wrm w5 w.heap.size mzz:=⟨_,rfl⟩;have hblk:WF.heap[w.heap.size]?=some (.cells (mc mzz) 29 (0,0)):=by rw [hWF];exact store_allm mzz hgr.2
     have HBF:Hid (Below w.heap.size w WF):=by rw [hWF];exact below_allm mzz hgr.1 (Nat.le_refl _)
     have HBK:=zh hblk;have HWF:=zh hWF;clear hgr hblk hWF;go_wp2;have hWF:=HWF.out;unfold wrm at hWF;rw [←hWF];obtain ⟨f0,f1,f2,f3,f4,f5,f6,f7,f8,f9,f10⟩:=zmzl (w:=WF) (b:=w.heap.size) HBK.out;exact bodyPost_ret (v:=.tuple #[mv mzz,.bool false]) (by simp [results,Tryz.results49,go_sem,f0,f1,f2,f3,f4,f5,f6,f7,f8,f9,f10]) rfl (gmsg_no HOK.out HBF.out)
   | false =>
     rw [if_neg (by decide)] at hpk;have K98:=zh (xr_var w1 g p _ T false wr hT);have hvl:=varV_lt T
     have hlive:Hid (varV T≠0→(false||!varO T)=false):=fun hv=>by
      obtain ⟨l1,l2⟩:=var_live hT.q.sn hv;rw [l2];rfl
     obtain ⟨v,hv⟩:∃ v,v=varV T:=⟨_,rfl⟩;obtain ⟨T1,hT1⟩:∃ T1,T1=varT T:=⟨_,rfl⟩;obtain ⟨bb,hbb⟩:∃ bb,bb=(false||!varO T):=⟨_,rfl⟩;rw [←hv,←hT1,←hbb] at K98 hpk;rw [←hv] at hvl;rw [←hv,←hbb] at hlive;have HPK:=zh hpk;clear HP hT hpk hv hT1 hbb hE HT hE2
     by_cases hv0:v=0
     ·subst hv0;have HRR:Hid ((E,T1,bb)=R):=by have h:=HPK.out;rw [if_pos rfl] at h;exact h
      clear HPK hvl hlive
      go_wp2_with fail
      refine K98.out.mono ?_;rintro e w3 ⟨rfl,h3⟩;have HT3:=zh h3;clear h3 cg1 K98;have hRR1:R.1=E:=by rw [←HRR.out]
      have hRR2:R.2.2=bb:=by rw [←HRR.out]
      have hel:E.es.length≤10000:=by have:=HE2.out;omega
      obtain ⟨hx3,hx4⟩:=HEQ.out A c (by rw [hRR1];exact HE.out) (by rw [hRR1];exact hel);rw [hRR1,hRR2] at hx3;rw [hRR1] at hx4;obtain ⟨M,hM⟩:∃ M,M=E.at_ A c:=⟨_,rfl⟩;have HWD:Hid M.Wide:=by show Ms.Wide _;rw [hM];exact wide_at HE.out A c (by omega)
      have HPR:Hid (gok s=true→M=mPrs s A c):=fun h=>by rw [hM,hx4 h];rfl
      rw [←hM] at hx3 HT3;obtain ⟨mb,hmb⟩:∃ mb,mb=mrightB M:=⟨_,rfl⟩;obtain ⟨PM,hPM⟩:∃ PM,PM=putX M:=⟨_,rfl⟩;rw [←hmb,←hPM,←beq_nums] at hx3;obtain ⟨te,hte⟩:∃ te,te=(PM.toList==s.toList):=⟨_,rfl⟩;rw [←hte] at hx3;have hte2:(PM.toList==s.toList)=te:=hte.symm;have HGK:=zh hx3
      have K3:Hid (Calls Tryz.prog 36 #[mv M] w3 fun q w'=>q=.returned (.tuple #[.string PM,.bool mb])∧Below w3.heap.size w3 w'):=by
       refine (rputM_any M w3 (ents_of_own HT3.out.own HT3.out.hl) HWD.out).mono fun q w' ⟨h1,h2⟩=>?_;rw [←hPM,←hmb] at h1;exact ⟨h1,h2⟩
      obtain ⟨m0,m1,m2,m3,m4,m5,m6,m7,m8,m9,m10⟩:=zmclf (w:=w3) (b:=p) (e:=M) HT3.out.cell;clear hx3 hx4 hM hmb hPM hte hRR1 hRR2 hel HRR HEQ
      skip
      go_wp2_with fail
      refine K3.out.mono ?_;rintro e w5 ⟨rfl,b5⟩;have HT5:=zh (HT3.out.below b5);have cr1:w5.cell? ⟨g,1,none⟩=some (.bool bb):=HT5.out.q.hr.cell1;clear b5 K3 HT3 m0 m1 m2 m3 m4 m5 m6 m7 m8 m9 m10
      cases bb with
      | true =>
        have HOK:Hid (gok s=false):=HGK.out.symm;clear HGK;have hgr:=HB2.out w5 HT5.out.q.fr;obtain ⟨z0,z1,z2,z3,z4,z5,z6,z7,z8,z9,z10⟩:=zmzl (w:=w5) (b:=w.heap.size) hgr.2;have fz:∀ i,w5.frozen? ⟨w.heap.size,i,none⟩=false:=fun i=>Md.of hgr.2;obtain ⟨WF,hWF⟩:∃ WF,WF=wrm w5 w.heap.size mzz:=⟨_,rfl⟩;have hblk:WF.heap[w.heap.size]?=some (.cells (mc mzz) 29 (0,0)):=by rw [hWF];exact store_allm mzz hgr.2
        have HBF:Hid (Below w.heap.size w WF):=by rw [hWF];exact below_allm mzz hgr.1 (Nat.le_refl _)
        have HBK:=zh hblk;have HWF:=zh hWF;clear hgr hblk hWF;go_wp2;have hWF:=HWF.out;unfold wrm at hWF;rw [←hWF];obtain ⟨f0,f1,f2,f3,f4,f5,f6,f7,f8,f9,f10⟩:=zmzl (w:=WF) (b:=w.heap.size) HBK.out;exact bodyPost_ret (v:=.tuple #[mv mzz,.bool false]) (by simp [results,Tryz.results49,go_sem,f0,f1,f2,f3,f4,f5,f6,f7,f8,f9,f10]) rfl (gmsg_no HOK.out HBF.out)
      | false =>
        cases mb with
        | false =>
          have HOK:Hid (gok s=false):=HGK.out.symm;clear HGK;have hgr:=HB2.out w5 HT5.out.q.fr;obtain ⟨z0,z1,z2,z3,z4,z5,z6,z7,z8,z9,z10⟩:=zmzl (w:=w5) (b:=w.heap.size) hgr.2;have fz:∀ i,w5.frozen? ⟨w.heap.size,i,none⟩=false:=fun i=>Md.of hgr.2;obtain ⟨WF,hWF⟩:∃ WF,WF=wrm w5 w.heap.size mzz:=⟨_,rfl⟩;have hblk:WF.heap[w.heap.size]?=some (.cells (mc mzz) 29 (0,0)):=by rw [hWF];exact store_allm mzz hgr.2
          have HBF:Hid (Below w.heap.size w WF):=by rw [hWF];exact below_allm mzz hgr.1 (Nat.le_refl _)
          have HBK:=zh hblk;have HWF:=zh hWF;clear hgr hblk hWF;go_wp2;have hWF:=HWF.out;unfold wrm at hWF;rw [←hWF];obtain ⟨f0,f1,f2,f3,f4,f5,f6,f7,f8,f9,f10⟩:=zmzl (w:=WF) (b:=w.heap.size) HBK.out;exact bodyPost_ret (v:=.tuple #[mv mzz,.bool false]) (by simp [results,Tryz.results49,go_sem,f0,f1,f2,f3,f4,f5,f6,f7,f8,f9,f10]) rfl (gmsg_no HOK.out HBF.out)
        | true =>
          cases te with
          | false =>
            have HOK:Hid (gok s=false):=HGK.out.symm;clear HGK;have hgr:=HB2.out w5 HT5.out.q.fr;obtain ⟨z0,z1,z2,z3,z4,z5,z6,z7,z8,z9,z10⟩:=zmzl (w:=w5) (b:=w.heap.size) hgr.2;have fz:∀ i,w5.frozen? ⟨w.heap.size,i,none⟩=false:=fun i=>Md.of hgr.2;obtain ⟨WF,hWF⟩:∃ WF,WF=wrm w5 w.heap.size mzz:=⟨_,rfl⟩;have hblk:WF.heap[w.heap.size]?=some (.cells (mc mzz) 29 (0,0)):=by rw [hWF];exact store_allm mzz hgr.2
            have HBF:Hid (Below w.heap.size w WF):=by rw [hWF];exact below_allm mzz hgr.1 (Nat.le_refl _)
            have HBK:=zh hblk;have HWF:=zh hWF;clear hgr hblk hWF;go_wp2;have hWF:=HWF.out;unfold wrm at hWF;rw [←hWF];obtain ⟨f0,f1,f2,f3,f4,f5,f6,f7,f8,f9,f10⟩:=zmzl (w:=WF) (b:=w.heap.size) HBK.out;exact bodyPost_ret (v:=.tuple #[mv mzz,.bool false]) (by simp [results,Tryz.results49,go_sem,f0,f1,f2,f3,f4,f5,f6,f7,f8,f9,f10]) rfl (gmsg_no HOK.out HBF.out)
          | true =>
            have HOK:Hid (gok s=true):=HGK.out.symm;clear HGK;have hgr:=HB2.out w5 HT5.out.q.fr;obtain ⟨z0,z1,z2,z3,z4,z5,z6,z7,z8,z9,z10⟩:=zmzl (w:=w5) (b:=w.heap.size) hgr.2;obtain ⟨m0,m1,m2,m3,m4,m5,m6,m7,m8,m9,m10⟩:=zmclf (w:=w5) (b:=p) (e:=M) HT5.out.cell;have fz:∀ i,w5.frozen? ⟨w.heap.size,i,none⟩=false:=fun i=>Md.of hgr.2;obtain ⟨WF,hWF⟩:∃ WF,WF=wrm w5 w.heap.size M:=⟨_,rfl⟩;have hblk:WF.heap[w.heap.size]?=some (.cells (mc M) 29 (0,0)):=by rw [hWF];exact store_allm M hgr.2
            have HBF:Hid (Below w.heap.size w WF):=by rw [hWF];exact below_allm M hgr.1 (Nat.le_refl _)
            have HEF:Hid (Ents WF.heap.size M.A M.n M.es WF):=by
             have h1:=ents_of_own HT5.out.own HT5.out.hl;have h2:=ents_wrm2 (g:=w.heap.size) M h1 (fun a ha=>by have h3:=(HT5.out.own.lt a.block (by rw [ha];rfl)).1;have h4:=HPP.out;omega);have hz:=size_wrm w5 w.heap.size M;rw [←hz,←hWF] at h2;exact h2
            have HBK:=zh hblk;have HWF:=zh hWF;clear hgr hblk hWF;go_wp2;have hWF:=HWF.out;unfold wrm at hWF;rw [←hWF];obtain ⟨f0,f1,f2,f3,f4,f5,f6,f7,f8,f9,f10⟩:=zmcl (w:=WF) (b:=w.heap.size) (e:=M) HBK.out;exact bodyPost_ret (v:=.tuple #[mv M,.bool true]) (by simp [results,Tryz.results49,go_sem,f0,f1,f2,f3,f4,f5,f6,f7,f8,f9,f10]) rfl ⟨M,by rw [HOK.out],HEF.out,HWD.out,HBF.out,fun h=>⟨A,c,HPR.out h⟩,fun h=>by rw [HOK.out] at h;cases h⟩
     ·have e0:((v:Int)==0)=false:=by simp;omega
      have hb0:=hlive.out hv0;have HRR:Hid (rk mR m (mR v E T1).1 (mR v E T1).2.1 (!(mR v E T1).2.2)=R):=by have h:=HPK.out;rw [if_neg hv0,hb0,Bool.false_or] at h;exact h
      rw [hb0] at K98;clear HPK hlive hb0
      go_wp2_with fail
      refine K98.out.mono ?_;rintro e w3 ⟨rfl,h3⟩;have HW:=zh (mR_wide (t:=v) (T:=T1) HE.out h3.q.sz);have hel:E.es.length≤10000:=by have:=HE2.out;omega
      clear cg1 K98
      by_cases hv11:v≤11
      ·have hv1:1≤v:=by omega
       rcases tag_cases hv1 hv11 with rfl|rfl|rfl|rfl|rfl|rfl|rfl|rfl|rfl|rfl|rfl
       ·have KD:=zh (rtakm1_any w1 g p E A c T1 w3 h3);clear h3
        go_wp2_with fail
        refine KD.out.mono ?_;rintro e w4 ⟨rfl,h4⟩;go_wp2
        go_roundw
        case rel=>exact ⟨k+1,m,_,_,_,_,_,by omega,by go_num,HRR,h4,HW.out.1,Nat.le_trans HW.out.2 (by have:=HE2.out;omega)⟩
        case measure=>simp [intOf];omega
       ·have KD:=zh (rtakm2_any w1 g p E A c T1 w3 h3);clear h3
        go_wp2_with fail
        refine KD.out.mono ?_;rintro e w4 ⟨rfl,h4⟩;go_wp2
        go_roundw
        case rel=>exact ⟨k+1,m,_,_,_,_,_,by omega,by go_num,HRR,h4,HW.out.1,Nat.le_trans HW.out.2 (by have:=HE2.out;omega)⟩
        case measure=>simp [intOf];omega
       ·have KD:=zh (rtakm3_any w1 g p E A c T1 w3 h3);clear h3
        go_wp2_with fail
        refine KD.out.mono ?_;rintro e w4 ⟨rfl,h4⟩;go_wp2
        go_roundw
        case rel=>exact ⟨k+1,m,_,_,_,_,_,by omega,by go_num,HRR,h4,HW.out.1,Nat.le_trans HW.out.2 (by have:=HE2.out;omega)⟩
        case measure=>simp [intOf];omega
       ·have KD:=zh (rtakm4_any w1 g p E A c T1 w3 h3);clear h3
        go_wp2_with fail
        refine KD.out.mono ?_;rintro e w4 ⟨rfl,h4⟩;go_wp2
        go_roundw
        case rel=>exact ⟨k+1,m,_,_,_,_,_,by omega,by go_num,HRR,h4,HW.out.1,Nat.le_trans HW.out.2 (by have:=HE2.out;omega)⟩
        case measure=>simp [intOf];omega
       ·have KD:=zh (rtakm5_any w1 g p E A c T1 w3 h3);clear h3
        go_wp2_with fail
        refine KD.out.mono ?_;rintro e w4 ⟨rfl,h4⟩;go_wp2
        go_roundw
        case rel=>exact ⟨k+1,m,_,_,_,_,_,by omega,by go_num,HRR,h4,HW.out.1,Nat.le_trans HW.out.2 (by have:=HE2.out;omega)⟩
        case measure=>simp [intOf];omega
       ·have KD:=zh (rtakm6_any w1 g p E A c T1 w3 h3);clear h3
        go_wp2_with fail
        refine KD.out.mono ?_;rintro e w4 ⟨rfl,h4⟩;go_wp2
        go_roundw
        case rel=>exact ⟨k+1,m,_,_,_,_,_,by omega,by go_num,HRR,h4,HW.out.1,Nat.le_trans HW.out.2 (by have:=HE2.out;omega)⟩
        case measure=>simp [intOf];omega
       ·have KD:=zh (rtakm7_any w1 g p E A c T1 w3 h3);clear h3
        go_wp2_with fail
        refine KD.out.mono ?_;rintro e w4 ⟨rfl,h4⟩;go_wp2
        go_roundw
        case rel=>exact ⟨k+1,m,_,_,_,_,_,by omega,by go_num,HRR,h4,HW.out.1,Nat.le_trans HW.out.2 (by have:=HE2.out;omega)⟩
        case measure=>simp [intOf];omega
       ·have KD:=zh (rtakm8_any w1 g p E A c T1 w3 h3);clear h3
        go_wp2_with fail
        refine KD.out.mono ?_;rintro e w4 ⟨rfl,h4⟩;go_wp2
        go_roundw
        case rel=>exact ⟨k+1,m,_,_,_,_,_,by omega,by go_num,HRR,h4,HW.out.1,Nat.le_trans HW.out.2 (by have:=HE2.out;omega)⟩
        case measure=>simp [intOf];omega
       ·have KD:=zh (rtakm9_any w1 g p E A c T1 w3 h3);clear h3
        go_wp2_with fail
        refine KD.out.mono ?_;rintro e w4 ⟨rfl,h4⟩;go_wp2
        go_roundw
        case rel=>exact ⟨k+1,m,_,_,_,_,_,by omega,by go_num,HRR,h4,HW.out.1,Nat.le_trans HW.out.2 (by have:=HE2.out;omega)⟩
        case measure=>simp [intOf];omega
       ·have KD:=zh (rtakm10_any w1 g p E A c T1 w3 h3);clear h3
        go_wp2_with fail
        refine KD.out.mono ?_;rintro e w4 ⟨rfl,h4⟩;go_wp2
        go_roundw
        case rel=>exact ⟨k+1,m,_,_,_,_,_,by omega,by go_num,HRR,h4,HW.out.1,Nat.le_trans HW.out.2 (by have:=HE2.out;omega)⟩
        case measure=>simp [intOf];omega
       ·have KD:=zh (rtakm11_any w1 g p E A c T1 w3 h3 hel);clear h3
        go_wp2_with fail
        refine KD.out.mono ?_;rintro e w4 ⟨rfl,A4,c4,h4⟩;go_wp2
        go_roundw
        case rel=>exact ⟨k+1,m,_,_,_,_,_,by omega,by go_num,HRR,h4,HW.out.1,Nat.le_trans HW.out.2 (by have:=HE2.out;omega)⟩
        case measure=>simp [intOf];omega
      ·have KD:=zh (rtakmD_any w1 g p E A c T1 w3 v (by omega) h3);clear h3
       go_wp2_with fail
       refine KD.out.mono ?_;rintro e w4 ⟨rfl,h4⟩;go_wp2
       go_roundw
       case rel=>exact ⟨k+1,m,_,_,_,_,_,by omega,by go_num,HRR,h4,HW.out.1,Nat.le_trans HW.out.2 (by have:=HE2.out;omega)⟩
       case measure=>simp [intOf];omega
  ·have t1:decide ((k:Int)<12)=false:=decide_eq_false (by omega);have t1':decide (k<12)=false:=decide_eq_false hk;have hn0:n=0:=by omega
   subst hn0;have HRR:Hid ((E,T,b)=R):=HP.out;clear HP hT hE hE2;obtain ⟨T1,hT1⟩:∃ T1,T1=T:=⟨_,rfl⟩;obtain ⟨bb,hbb⟩:∃ bb,bb=b:=⟨_,rfl⟩;have HT3:=HT;obtain ⟨w3,hw3⟩:∃ w3,w3=wr:=⟨_,rfl⟩;rw [←hT1,←hbb] at HRR HT3;rw [←hw3] at HT3 cg1 ⊢;rw [←hbb] at cg1;clear HT hw3 hT1 hbb;have hRR1:R.1=E:=by rw [←HRR.out]
   have hRR2:R.2.2=bb:=by rw [←HRR.out]
   have hel:E.es.length≤10000:=by have:=HE2.out;omega
   obtain ⟨hx3,hx4⟩:=HEQ.out A c (by rw [hRR1];exact HE.out) (by rw [hRR1];exact hel);rw [hRR1,hRR2] at hx3;rw [hRR1] at hx4;obtain ⟨M,hM⟩:∃ M,M=E.at_ A c:=⟨_,rfl⟩;have HWD:Hid M.Wide:=by show Ms.Wide _;rw [hM];exact wide_at HE.out A c (by omega)
   have HPR:Hid (gok s=true→M=mPrs s A c):=fun h=>by rw [hM,hx4 h];rfl
   rw [←hM] at hx3 HT3;obtain ⟨mb,hmb⟩:∃ mb,mb=mrightB M:=⟨_,rfl⟩;obtain ⟨PM,hPM⟩:∃ PM,PM=putX M:=⟨_,rfl⟩;rw [←hmb,←hPM,←beq_nums] at hx3;obtain ⟨te,hte⟩:∃ te,te=(PM.toList==s.toList):=⟨_,rfl⟩;rw [←hte] at hx3;have hte2:(PM.toList==s.toList)=te:=hte.symm;have HGK:=zh hx3
   have K3:Hid (Calls Tryz.prog 36 #[mv M] w3 fun q w'=>q=.returned (.tuple #[.string PM,.bool mb])∧Below w3.heap.size w3 w'):=by
    refine (rputM_any M w3 (ents_of_own HT3.out.own HT3.out.hl) HWD.out).mono fun q w' ⟨h1,h2⟩=>?_;rw [←hPM,←hmb] at h1;exact ⟨h1,h2⟩
   obtain ⟨m0,m1,m2,m3,m4,m5,m6,m7,m8,m9,m10⟩:=zmclf (w:=w3) (b:=p) (e:=M) HT3.out.cell;clear hx3 hx4 hM hmb hPM hte hRR1 hRR2 hel HRR HEQ
   skip
   go_wp2_with fail
   refine K3.out.mono ?_;rintro e w5 ⟨rfl,b5⟩;have HT5:=zh (HT3.out.below b5);have cr1:w5.cell? ⟨g,1,none⟩=some (.bool bb):=HT5.out.q.hr.cell1;clear b5 K3 HT3 m0 m1 m2 m3 m4 m5 m6 m7 m8 m9 m10
   cases bb with
   | true =>
     have HOK:Hid (gok s=false):=HGK.out.symm;clear HGK;have hgr:=HB2.out w5 HT5.out.q.fr;obtain ⟨z0,z1,z2,z3,z4,z5,z6,z7,z8,z9,z10⟩:=zmzl (w:=w5) (b:=w.heap.size) hgr.2;have fz:∀ i,w5.frozen? ⟨w.heap.size,i,none⟩=false:=fun i=>Md.of hgr.2;obtain ⟨WF,hWF⟩:∃ WF,WF=wrm w5 w.heap.size mzz:=⟨_,rfl⟩;have hblk:WF.heap[w.heap.size]?=some (.cells (mc mzz) 29 (0,0)):=by rw [hWF];exact store_allm mzz hgr.2
     have HBF:Hid (Below w.heap.size w WF):=by rw [hWF];exact below_allm mzz hgr.1 (Nat.le_refl _)
     have HBK:=zh hblk;have HWF:=zh hWF;clear hgr hblk hWF;go_wp2;have hWF:=HWF.out;unfold wrm at hWF;rw [←hWF];obtain ⟨f0,f1,f2,f3,f4,f5,f6,f7,f8,f9,f10⟩:=zmzl (w:=WF) (b:=w.heap.size) HBK.out;exact bodyPost_ret (v:=.tuple #[mv mzz,.bool false]) (by simp [results,Tryz.results49,go_sem,f0,f1,f2,f3,f4,f5,f6,f7,f8,f9,f10]) rfl (gmsg_no HOK.out HBF.out)
   | false =>
     cases mb with
     | false =>
       have HOK:Hid (gok s=false):=HGK.out.symm;clear HGK;have hgr:=HB2.out w5 HT5.out.q.fr;obtain ⟨z0,z1,z2,z3,z4,z5,z6,z7,z8,z9,z10⟩:=zmzl (w:=w5) (b:=w.heap.size) hgr.2;have fz:∀ i,w5.frozen? ⟨w.heap.size,i,none⟩=false:=fun i=>Md.of hgr.2;obtain ⟨WF,hWF⟩:∃ WF,WF=wrm w5 w.heap.size mzz:=⟨_,rfl⟩;have hblk:WF.heap[w.heap.size]?=some (.cells (mc mzz) 29 (0,0)):=by rw [hWF];exact store_allm mzz hgr.2
       have HBF:Hid (Below w.heap.size w WF):=by rw [hWF];exact below_allm mzz hgr.1 (Nat.le_refl _)
       have HBK:=zh hblk;have HWF:=zh hWF;clear hgr hblk hWF;go_wp2;have hWF:=HWF.out;unfold wrm at hWF;rw [←hWF];obtain ⟨f0,f1,f2,f3,f4,f5,f6,f7,f8,f9,f10⟩:=zmzl (w:=WF) (b:=w.heap.size) HBK.out;exact bodyPost_ret (v:=.tuple #[mv mzz,.bool false]) (by simp [results,Tryz.results49,go_sem,f0,f1,f2,f3,f4,f5,f6,f7,f8,f9,f10]) rfl (gmsg_no HOK.out HBF.out)
     | true =>
       cases te with
       | false =>
         have HOK:Hid (gok s=false):=HGK.out.symm;clear HGK;have hgr:=HB2.out w5 HT5.out.q.fr;obtain ⟨z0,z1,z2,z3,z4,z5,z6,z7,z8,z9,z10⟩:=zmzl (w:=w5) (b:=w.heap.size) hgr.2;have fz:∀ i,w5.frozen? ⟨w.heap.size,i,none⟩=false:=fun i=>Md.of hgr.2;obtain ⟨WF,hWF⟩:∃ WF,WF=wrm w5 w.heap.size mzz:=⟨_,rfl⟩;have hblk:WF.heap[w.heap.size]?=some (.cells (mc mzz) 29 (0,0)):=by rw [hWF];exact store_allm mzz hgr.2
         have HBF:Hid (Below w.heap.size w WF):=by rw [hWF];exact below_allm mzz hgr.1 (Nat.le_refl _)
         have HBK:=zh hblk;have HWF:=zh hWF;clear hgr hblk hWF;go_wp2;have hWF:=HWF.out;unfold wrm at hWF;rw [←hWF];obtain ⟨f0,f1,f2,f3,f4,f5,f6,f7,f8,f9,f10⟩:=zmzl (w:=WF) (b:=w.heap.size) HBK.out;exact bodyPost_ret (v:=.tuple #[mv mzz,.bool false]) (by simp [results,Tryz.results49,go_sem,f0,f1,f2,f3,f4,f5,f6,f7,f8,f9,f10]) rfl (gmsg_no HOK.out HBF.out)
       | true =>
         have HOK:Hid (gok s=true):=HGK.out.symm;clear HGK;have hgr:=HB2.out w5 HT5.out.q.fr;obtain ⟨z0,z1,z2,z3,z4,z5,z6,z7,z8,z9,z10⟩:=zmzl (w:=w5) (b:=w.heap.size) hgr.2;obtain ⟨m0,m1,m2,m3,m4,m5,m6,m7,m8,m9,m10⟩:=zmclf (w:=w5) (b:=p) (e:=M) HT5.out.cell;have fz:∀ i,w5.frozen? ⟨w.heap.size,i,none⟩=false:=fun i=>Md.of hgr.2;obtain ⟨WF,hWF⟩:∃ WF,WF=wrm w5 w.heap.size M:=⟨_,rfl⟩;have hblk:WF.heap[w.heap.size]?=some (.cells (mc M) 29 (0,0)):=by rw [hWF];exact store_allm M hgr.2
         have HBF:Hid (Below w.heap.size w WF):=by rw [hWF];exact below_allm M hgr.1 (Nat.le_refl _)
         have HEF:Hid (Ents WF.heap.size M.A M.n M.es WF):=by
          have h1:=ents_of_own HT5.out.own HT5.out.hl;have h2:=ents_wrm2 (g:=w.heap.size) M h1 (fun a ha=>by have h3:=(HT5.out.own.lt a.block (by rw [ha];rfl)).1;have h4:=HPP.out;omega);have hz:=size_wrm w5 w.heap.size M;rw [←hz,←hWF] at h2;exact h2
         have HBK:=zh hblk;have HWF:=zh hWF;clear hgr hblk hWF;go_wp2;have hWF:=HWF.out;unfold wrm at hWF;rw [←hWF];obtain ⟨f0,f1,f2,f3,f4,f5,f6,f7,f8,f9,f10⟩:=zmcl (w:=WF) (b:=w.heap.size) (e:=M) HBK.out;exact bodyPost_ret (v:=.tuple #[mv M,.bool true]) (by simp [results,Tryz.results49,go_sem,f0,f1,f2,f3,f4,f5,f6,f7,f8,f9,f10]) rfl ⟨M,by rw [HOK.out],HEF.out,HWD.out,HBF.out,fun h=>⟨A,c,HPR.out h⟩,fun h=>by rw [HOK.out] at h;cases h⟩
end Go.Proofs.YtpdbeijfchmlgaaGreat.D
