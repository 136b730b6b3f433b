/- Parts of a proof. -/
import Derived.Test.YtidndekacnmihaaGreatC28
set_option linter.all false
set_option maxHeartbeats 8000000
set_option maxRecDepth 100000
namespace Go.Proofs.YtidndekacnmihaaGreat
open Go.RowKit renaming intOf→l
open IntKind renaming i64→j
open Obj renaming cells→f
open Option renaming some→b
open Value renaming int→g
open Tryz
namespace Ar
open Go.RowKit Vi Dk
theorem zo7 (tmps:Array Value) (w:World) (p:Nat) (s:Sn) (hp:tmps.getD 6 undef=.pointer (b ⟨p,0,none⟩)) (hg:w.heap[p]?=b (f s.c 104 (0,0))) :
 (results f60 tmps).run prog w=.ok (.tuple #[.agg s.c,tmps.getD 7 undef,tmps.getD 8 undef]) w:=by
 simp only [results,results60];have hp':tmps[6]?.getD undef=.pointer (b ⟨p,0,none⟩):=by simpa using hp
 simp [Sem.run_bind,Result.andThen,hp',asAddr,run_loadVar_row w p 104 104 s.c (0,0) _ hg underlying104 rfl sn30]
theorem zo8 (B gr:Nat) (L:List Nat) (d:St) (at_ m:Int) (w:World) (h:Rf w B gr L d) (ha:at_≤9223372036854775807) :
 Calls prog 60 #[ptr gr,g j at_,g j m] w fun e w'=>e=.returned (.tuple #[(arR d at_ m).1.v,g j (arR d at_ m).2.1,g j (arR d at_ m).2.2])∧Below w.heap.size w w':=by
 obtain ⟨W,hW⟩:∃ W,W=w.alloc (f #[g .u64 0,g .u64 0,.string ⟨#[]⟩] 104):=⟨_,rfl⟩;obtain ⟨p,hp⟩:∃ p,p=w.heap.size:=⟨_,rfl⟩;have hB:Below w.heap.size w W:=by rw [hW];exact (Below.refl _ w).alloc (ztI _) _
 have z9:W.heap[p]?=b (f sn0.c 104 (0,0)):=by rw [hW,hp];exact ztJ w _
 have HB:=zh hB;have HW:=zh hW;have HP:=zh hp;have Z9:=zh z9;have HR:=zh (h.below hB);have HOK:=zh h.1;have HPW:Hid (w.heap.size≤p):=by show _≤_;omega
 have KO:=zh (zaY B gr L d at_ m W HR.out ha);obtain ⟨X,hX⟩:∃ X,X=arR d at_ m:=⟨_,rfl⟩;rw [←hX];have HX:=zh hX
 have hset:∀ (W' W9:World) (s s':Sn),Below w.heap.size w W'→W'.heap[p]?=b (f s.c 104 (0,0))→W9=W'.setRow p s'.c→Below w.heap.size w W9∧W9.heap[p]?=b (f s'.c 104 (0,0)):=fun W' W9 s s' hb hp9 h9=>by
  rw [h9];exact ⟨hb.trans ⟨rfl,rfl,rfl,by simp,fun k hk=>setRow_other _ _ _ _ (by have:=HPW.out;omega)⟩,setRow_heap _ _ _ _ 104 (0,0) hp9⟩
 have HSET:=zh hset;clear hset hW hp z9 hX hB h
 cases hon:onA d.n at_ m with
 | false =>
   obtain rfl:X=(sn0,0,1):=by rw [HX.out];unfold arR;rw [hon];rfl
   rw [hon] at KO;obtain ⟨W9,hW9⟩:∃ W9,W9=W.setRow p sn0.c:=⟨_,rfl⟩;have H9:=zh (HSET.out W W9 sn0 sn0 HB.out Z9.out hW9);have HW9:=zh hW9;clear hon hW9 HSET HX;unfold ptr at *;go_enter func60,ntmps60
   go_upto_region 1 with fail
   refine zaf (w:=W) HW.out.symm ?_;rw [←HP.out]
   go_wp2_with (first|(go_at_call 113;(with_reducible refine KO.out.mono ?_);rintro q w1 ⟨rfl,rfl⟩)|(refine zaq rfl _ _ rfl _ _ sn0 sn0 rfl rfl Z9.out ?_;refine zab HW9.out.symm ?_;go_frame))
   exact ztP (v:=_) (zo7 _ _ p sn0 rfl H9.out.2) rfl ⟨rfl,H9.out.1⟩
 | true =>
   obtain ⟨h0,h1,h2⟩:=zfu.1 hon;rw [hon] at KO;obtain ⟨a,rfl⟩:=ztW h0;obtain ⟨M,rfl⟩:=ztW (show 0≤m by omega);have hn:a+M≤d.n:=by omega
   have n2:=HOK.out.n2
   have hX:X=if d.dead then (sn0,0,7) else (gtS (rdB d a M),gtV (rdB d a M),if gtO (rdB d a M) then 0 else 2):=by
    rw [HX.out];unfold arR;rw [hon,if_pos rfl,ztV,ztV]
   have hbs:(rdB d a M).size≤281474976710656:=by rw [zcz d HOK.out];omega
   have KG:=zh (fun (W:World)=>zo1 (rdB d a M) W hbs);have HRD:Hid (rdB d a M=txt (zeq (fun i=>d.now (a+i)) M)):=rfl;obtain ⟨S,hS⟩:∃ S,S=rdB d a M:=⟨_,rfl⟩;rw [←hS] at KG hX HRD;have HX2:=zh hX;have HN:=zh hn;have HBD:Hid (a≤4096∧M≤4096):=⟨by omega,by omega⟩;have HM1:Hid (1≤M):=by show _≤_;omega
   obtain ⟨gO,hgO⟩:∃ x,x=gtO S:=⟨_,rfl⟩;obtain ⟨gS,hgS⟩:∃ x,x=gtS S:=⟨_,rfl⟩;obtain ⟨gV,hgV⟩:∃ x,x=gtV S:=⟨_,rfl⟩;rw [←hgO,←hgS,←hgV] at KG HX2;have HGN:Hid (gO=false→gS=sn0∧gV=0):=fun h=>by rw [hgS,hgV];exact zmy (hgO▸h)
   clear hgO hgS hgV hon HX hX h0 h1 h2 hn n2 hbs hS;unfold ptr at *;go_enter func60,ntmps60
   go_upto_region 1 with fail
   refine zaf (w:=W) HW.out.symm ?_;rw [←HP.out]
   go_upto_region 5 with (go_at_call 113;(with_reducible refine KO.out.mono ?_);rintro q w1 ⟨rfl,rfl⟩)
   go_wp2_with fail
   go_loopw [10,11] (fun s i wr=>∃ k:Nat,i=g j k∧k≤M∧s=.string (txt (zeq (fun i=>d.now (a+i)) k))∧Hid (d.dead=true→k=0)∧Hid (wr=W)) (fun _ i _=>M-(l i).toNat)
   case atStart=>exact ⟨0,rfl,ztO _,rfl,fun _=>rfl,rfl⟩
   case round =>
    obtain ⟨k,rfl,hk,rfl,hdk,hwr⟩:=hrel;obtain rfl:wr=W:=hwr.out
    by_cases hlt:k<M
    ·have t1:decide ((k:Int)<(M:Int))=true:=ztN (by omega);have KR:=zh (zcq B gr L d ((a+k:Nat):Int) wr HR.out);obtain ⟨ham1,ham2⟩:=HBD.out;rw [zbL HN.out hlt] at KR
     cases hdd:d.dead with
     | true =>
       rw [hdd,if_pos rfl] at KR;rw [hdd,if_pos rfl] at HX2;obtain rfl:X=(sn0,0,7):=HX2.out;obtain ⟨RS,hRS⟩:∃ x,x=txt (d.readS ((a+k:Nat):Int)):=⟨_,rfl⟩;rw [←hRS] at KR;rw [show ((a+k:Nat):Int)=(a:Int)+k by omega] at KR;obtain ⟨cs,hcs⟩:∃ x,x=txt (zeq (fun i=>d.now (a+i)) k):=⟨_,rfl⟩;rw [←hcs];obtain ⟨W9,hW9⟩:∃ W9,W9=wr.setRow p sn0.c:=⟨_,rfl⟩;have H9:=zh (HSET.out wr W9 sn0 sn0 HB.out Z9.out hW9);have HW9:=zh hW9;clear hW9 hRS hcs hdk HX2 hdd HRD;unfold ptr at *
       go_wp2_with (first|(go_at_call 128;(with_reducible refine KR.out.mono ?_);rintro q w5 ⟨rfl,rfl⟩)|(refine zaq rfl _ _ rfl _ _ sn0 sn0 rfl rfl Z9.out ?_;refine zab HW9.out.symm ?_;go_frame))
       exact ztP (v:=_) (zo7 _ _ p sn0 rfl H9.out.2) rfl ⟨rfl,H9.out.1⟩
     | false =>
       rw [hdd,if_neg (by decide),zeG HN.out hlt hdd] at KR;have hcat:=ze3 d a k;have hsz1:(txt (zeq (fun i=>d.now (a+i)) k)).size=k*64:=by rw [zah,zbY _ (fun i=>HOK.out.now _)]
       have hsz2:(txt (d.now (a+k))).size=64:=by rw [zah,HOK.out.now]
       obtain ⟨cs,hcs⟩:∃ x,x=txt (zeq (fun i=>d.now (a+i)) k):=⟨_,rfl⟩;obtain ⟨sk,hsk⟩:∃ x,x=txt (d.now (a+k)):=⟨_,rfl⟩;rw [←hcs,←hsk] at hcat;rw [←hcs] at hsz1 ⊢;rw [←hsk] at hsz2 KR;rw [show ((a+k:Nat):Int)=(a:Int)+k by omega] at KR;have hadd:¬ 9223372036854775807<cs.size+sk.size:=by omega
       have HCAT:=zh hcat;clear hcat hcs hsk hsz1 hsz2 HX2 HRD hdk;unfold ptr at *
       go_wp2_with (go_at_call 128;(with_reducible refine KR.out.mono ?_);rintro q w5 ⟨rfl,rfl⟩)
       go_roundw
       case rel=>exact ⟨k+1,by go_num,by omega,by rw [HCAT.out],(fun h=>by first|cases h|(rw [hdd] at h;cases h)),(by first|exact zh rfl|exact zh trivial)⟩
       case measure=>simp [l];omega
    ·have hkm:k=M:=by omega
     subst hkm;have t1:decide ((k:Int)<(k:Int))=false:=ztM (by omega);rw [←HRD.out]
     cases hdd:d.dead with
     | true =>
       exfalso;have h0:=hdk.out hdd;have h1:=HM1.out;omega
     | false =>
       have hXX:X=(gS,gV,if gO then 0 else 2):=by rw [HX2.out,hdd];rfl
       have HXX:=zh hXX;clear hXX HX2 hdk hdd
       go_wp2_with fail
       refine (KG.out _).mono ?_;rintro q w4 ⟨rfl,b4⟩;have HB4:=zh (HB.out.trans (b4.mono HB.out.size));have Z4:=zh ((b4.block _ (zgx Z9.out)).trans Z9.out);obtain ⟨W5,hW5⟩:∃ W5,W5=w4.alloc (f gS.c 104):=⟨_,rfl⟩;have HB5:Hid (Below w.heap.size w W5):=by rw [hW5];exact HB4.out.alloc HB4.out.size _
       have Z5:Hid (W5.heap[p]?=b (f sn0.c 104 (0,0))):=by show _=_;rw [hW5];exact (ztQ _ _ _ (zgx Z4.out)).trans Z4.out
       obtain ⟨q5,hq5⟩:∃ q,q=w4.heap.size:=⟨_,rfl⟩;have Q5:Hid (W5.heap[q5]?=b (f gS.c 104 (0,0))):=by show _=_;rw [hW5,hq5];exact ztJ w4 _
       have HW5:=zh hW5;have HQ5:=zh hq5;clear b4 hW5 hq5;obtain ⟨gi,gt,gd⟩:=gS;unfold Sn.c Sn.v at *;dsimp only at *
       go_upto_region 13 with fail
       rw [←HW5.out,←HQ5.out];clear HW5 HQ5
       cases gO with
       | false =>
         obtain ⟨hg1,hg2⟩:=HGN.out rfl;have hX:X=(sn0,0,2):=by rw [HXX.out,hg1,hg2];rfl
         subst hX;obtain ⟨W9,hW9⟩:∃ W9,W9=W5.setRow p sn0.c:=⟨_,rfl⟩;have H9:=zh (HSET.out W5 W9 sn0 sn0 HB5.out Z5.out hW9);have HW9:=zh hW9;clear hW9 hg1 hg2
         go_wp2_with (refine zaq rfl _ _ rfl _ _ sn0 sn0 rfl rfl Z5.out ?_;refine zab HW9.out.symm ?_;go_frame)
         exact ztP (v:=_) (zo7 _ _ p sn0 rfl H9.out.2) rfl ⟨rfl,H9.out.1⟩
       | true =>
         have hX:X=(⟨gi,gt,gd⟩,gV,0):=by rw [HXX.out];rfl
         subst hX;obtain ⟨W9,hW9⟩:∃ W9,W9=W5.setRow p (Sn.c ⟨gi,gt,gd⟩):=⟨_,rfl⟩;have H9:=zh (HSET.out W5 W9 sn0 ⟨gi,gt,gd⟩ HB5.out Z5.out hW9);have HW9:=zh hW9;clear hW9
         go_wp2_with (first
          | (refine zca rfl _ rfl _ _ ⟨gi,gt,gd⟩ rfl Q5.out ?_;go_frame)
          | (refine zaq rfl _ _ rfl _ _ ⟨gi,gt,gd⟩ sn0 rfl rfl Z5.out ?_;refine zab HW9.out.symm ?_;go_frame))
         exact ztP (v:=_) (zo7 _ _ p ⟨gi,gt,gd⟩ rfl H9.out.2) rfl ⟨rfl,H9.out.1⟩
end Ar
end Go.Proofs.YtidndekacnmihaaGreat
