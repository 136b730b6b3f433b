/- Parts of a proof. -/
import Derived.Test.YtidndekacnmihaaGreatC27
set_option linter.all false
set_option maxHeartbeats 8000000
set_option maxRecDepth 100000
namespace Go.Proofs.YtidndekacnmihaaGreat
open Go renaming World→A
open Go.RowKit renaming Below→t
open Go.RowKit.Below renaming refl→E
open IntKind renaming i64→r
open Obj renaming cells→f
open Option renaming some→j,none→y
open Tryz renaming prog→D
open Value renaming int→l,pointer→C
open Tryz
namespace Ar
open Go.RowKit Vi Dk
def arR (d:St) (at_ m:Int):Sn×Int×Int :=
 if onA d.n at_ m then (if d.dead then (sn0,0,7) else (gtS (rdB d at_.toNat m.toNat),gtV (rdB d at_.toNat m.toNat),if gtO (rdB d at_.toNat m.toNat) then 0 else 2)) else (sn0,0,1)
theorem zcz (d:St) (ok:d.Ok) (at_ m:Nat):(rdB d at_ m).size=m*64:=by
 unfold rdB;rw [zah,zbY _ (fun i=>ok.now _)]
theorem zoZ (g:Nat) (L:List Nat) (d:St) (b2 b3 B b at_ k:Nat) (x:ByteArray) (w:A) (h:Dv w g L d) (h2:w.heap[b2]?=j (f #[ptr g] 24 (0,0))) (h3:w.heap[b3]?=j (f #[l r at_] 3 (0,0)))
 (hs:Sb B b x w) (hB:B≤w.heap.size) (hx:x.size≤1099511627776) (hk:k≤1048576) (ha:at_≤1048576) :
 Calls D 180 #[l r k,ptr b2,ptr b3,ptr b] w fun e w'=>e=.returned (l r (d.refuses ((at_+k:Nat):Int)))∧Sb B b (x++txt (d.readS ((at_+k:Nat):Int))) w'∧t B w w':=by
 have c2:w.cell? ⟨b2,0,y⟩=j (ptr g):=zcr w b2 0 _ 24 (0,0) h2;have c3:w.cell? ⟨b3,0,y⟩=j (l r at_):=zcr w b3 0 _ 3 (0,0) h3;have KR:=zh (zd6 g L d ((at_+k:Nat):Int) w h);have i1:((at_+k:Nat):Int)=(at_:Int)+(k:Int):=by omega
 have hrs:(txt (d.readS ((at_+k:Nat):Int))).size≤64:=by
  rw [zah];unfold St.readS
  split
  ·rw [h.1.now];omega
  ·exact ztO _
 rw [i1] at KR hrs ⊢;obtain ⟨Z,hZ⟩:∃ Z,Z=d.refuses ((at_:Int)+(k:Int)):=⟨_,rfl⟩;obtain ⟨T,hT⟩:∃ T,T=txt (d.readS ((at_:Int)+(k:Int))):=⟨_,rfl⟩;rw [←hZ,←hT] at KR ⊢;rw [←hT] at hrs;have KW:=zh (fun (W:A) (hW:Sb B b x W) (hb:B≤W.heap.size)=>zeZ B b x T W hW (by omega) hb);have HS:=zh hs;clear hZ hT i1 hs h h2 h3;unfold ptr at *;go_enter func180,ntmps180
 go_upto_region 2 with (go_at_call 181;(with_reducible refine KR.out.mono ?_);rintro q w1 ⟨rfl,b1⟩)
 have HS1:=zh (HS.out.below b1);have HB1:Hid (t B w w1):=(E B w).trans (b1.mono hB);clear b1
 go_wp2_with (go_at_call 182;(with_reducible refine (KW.out _ HS1.out (ztL hB HB1.out.size)).mono ?_);rintro q w2 ⟨rfl,hs2,b2⟩)
 go_ret;exact ⟨rfl,hs2,HB1.out.trans b2⟩
theorem zkH (g:Nat) (L:List Nat) (d:St) (b2 b3 a M:Nat) (W1:A) (hD:Dv W1 g L d) (h2:W1.heap[b2]?=j (f #[ptr g] 24 (0,0))) (h3:W1.heap[b3]?=j (f #[l r a] 3 (0,0)))
 (hn:a+M≤d.n) (hM:1≤M) :
 Calls D 161 #[l r M,.func (.func 180) #[] #[ptr b2,ptr b3,ptr W1.heap.size]] (W1.alloc (f #[C y,.slice y 0 0] 151)) fun e w'=>e=.returned (l r (if d.dead then 7 else 0))∧(d.dead=false→Sb W1.heap.size W1.heap.size (rdB d a M) w')∧t W1.heap.size W1 w':=by
 obtain ⟨b,hb⟩:∃ b,b=W1.heap.size:=⟨_,rfl⟩;rw [←hb];have n2:=hD.1.n2;have hbl:t b W1 (W1.alloc (f #[C y,.slice y 0 0] 151)):=(E b W1).alloc (by omega) _;have hs0:Sb b b ⟨#[]⟩ (W1.alloc (f #[C y,.slice y 0 0] 151)):=by rw [hb];exact Lib.fresh_isBuilder 151 5 W1
 refine (zh1 180 (.inr rfl) (ptr b2) (ptr b3) (ptr b) M
  (fun k w1=>(d.dead=true→k=0)∧Sb b b (txt (zeq (fun i=>d.now (a+i)) k)) w1∧t b W1 w1) (fun z w1=>z=7∧d.dead=true∧t b W1 w1) _ (by omega) ⟨fun _=>rfl,hs0,hbl⟩ ?_).mono ?_
 ·rintro k w1 hk ⟨hdk,hsb,hbw⟩;have hw1:b≤w1.heap.size:=by have:=hbw.size;omega
  have hD2:Dv w1 g L d:=hD.below (hb▸hbw)
  have hx:(txt (zeq (fun i=>d.now (a+i)) k)).size≤1099511627776:=by
   rw [zah,zbY _ (fun i=>hD.1.now _)];omega
  refine (zoZ g L d b2 b3 b b a k _ w1 hD2 ((hbw.block _ (by have:=(zgx h2);omega)).trans h2) ((hbw.block _ (by have:=(zgx h3);omega)).trans h3) hsb hw1 hx (by omega) (by omega)).mono ?_;rintro e w2 ⟨rfl,hs2,hb2⟩;rw [zbL hn hk];refine ⟨_,rfl,fun hz=>?_,fun hz=>?_⟩
  ·have hdd:d.dead=false:=by
    cases hd:d.dead with
    | false=>rfl
    | true=>rw [hd] at hz;simp at hz
   refine ⟨fun h=>absurd (hdd.symm.trans h) (by decide),?_,hbw.trans hb2⟩;rw [zeG hn hk hdd,ze3] at hs2;exact hs2
  ·have hdd:d.dead=true:=by
    cases hd:d.dead with
    | false=>rw [hd] at hz;simp at hz
    | true=>rfl
   exact ⟨by rw [hdd];rfl,hdd,hbw.trans hb2⟩
 ·rintro e w1 ⟨z,rfl,hz0,hz1⟩
  by_cases hz:z=0
  ·obtain ⟨h1,h2,h3⟩:=hz0 hz
   have hdd:d.dead=false:=by
    cases hd:d.dead with
    | false=>rfl
    | true=>have:=h1 hd;omega
   refine ⟨by rw [hz,hdd];rfl,fun _=>h2,h3⟩
  ·obtain ⟨h1,h2,h3⟩:=hz1 hz;exact ⟨by rw [h1,h2];rfl,fun h=>absurd (h2.symm.trans h) (by decide),h3⟩
theorem zkC (tmps:Array Value) (w:A) (p:Nat) (s:Sn) (hp:tmps.getD 6 undef=C (j ⟨p,0,y⟩)) (hg:w.heap[p]?=j (f s.c 43 (0,0))) :
 (results f122 tmps).run D w=.ok (.tuple #[.agg s.c,tmps.getD 7 undef,tmps.getD 8 undef]) w:=by
 simp only [results,results122];have hp':tmps[6]?.getD undef=C (j ⟨p,0,y⟩):=by simpa using hp
 simp [Sem.run_bind,Result.andThen,hp',asAddr,run_loadVar_row w p 43 43 s.c (0,0) _ hg underlying43 rfl sn24]
theorem zmu (g:Nat) (L:List Nat) (d:St) (at_ m:Int) (w:A) (h:Dv w g L d) (ha:at_≤9223372036854775807) :
 Calls D 122 #[ptr g,l r at_,l r m] w fun e w'=>e=.returned (.tuple #[(arR d at_ m).1.v,l r (arR d at_ m).2.1,l r (arR d at_ m).2.2])∧t w.heap.size w w':=by
 obtain ⟨W,hW⟩:∃ W,W=((w.alloc (f #[ptr g] 24)).alloc (f #[l r at_] 3)).alloc (f #[l .u64 0,l .u64 0,.string ⟨#[]⟩] 43):=⟨_,rfl⟩
 have hB:t w.heap.size w W:=by
  rw [hW];exact (((E _ w).alloc (ztI _) _).alloc (by simp) _).alloc (by simp;omega) _
 have z5:W.heap[w.heap.size]?=j (f #[ptr g] 24 (0,0)):=by
  rw [hW,ztQ _ _ _ (by simp;omega),ztQ _ _ _ (by simp)];exact ztJ w _
 have z6:W.heap[w.heap.size+1]?=j (f #[l r at_] 3 (0,0)):=by
  rw [hW,ztQ _ _ _ (by simp)]
  have:=ztJ (w.alloc (f #[ptr g] 24)) (f #[l r at_] 3)
  rwa [ztR] at this
 have z9:W.heap[w.heap.size+2]?=j (f sn0.c 43 (0,0)):=by
  rw [hW]
  have:=ztJ ((w.alloc (f #[ptr g] 24)).alloc (f #[l r at_] 3)) (f sn0.c 43)
  rwa [ztR,ztR] at this
 have hsz:W.heap.size=w.heap.size+3:=by rw [hW];simp
 obtain ⟨p,hp⟩:∃ p,p=w.heap.size+2:=⟨_,rfl⟩;have HPW:Hid (w.heap.size≤p):=by show _≤_;omega
 rw [←hp] at z9;have c5:W.cell? ⟨w.heap.size,0,y⟩=j (ptr g):=zcr _ _ 0 _ 24 (0,0) z5;have c6:W.cell? ⟨w.heap.size+1,0,y⟩=j (l r at_):=zcr _ _ 0 _ 3 (0,0) z6;have HB:=zh hB;have HW:=zh hW;have HP:=zh hp;have Z9:=zh z9;have HDW:=h.below hB;have KO:=zh (zmv g L d at_ m W HDW ha);obtain ⟨X,hX⟩:∃ X,X=arR d at_ m:=⟨_,rfl⟩;rw [←hX];have HX:=zh hX
 have hset:∀ (W' W9:A) (s s':Sn),t w.heap.size w W'→W'.heap[p]?=j (f s.c 43 (0,0))→W9=W'.setRow p s'.c→t w.heap.size w W9∧W9.heap[p]?=j (f s'.c 43 (0,0)):=fun W' W9 s s' hb hp9 h9=>by
  rw [h9];exact ⟨hb.trans ⟨rfl,rfl,rfl,by simp,fun k hk=>setRow_other _ _ _ _ (by have:=HPW.out;omega)⟩,setRow_heap _ _ _ _ 43 (0,0) hp9⟩
 have HSET:=zh hset;clear hset hW hp z9 hX
 cases hon:onA d.n at_ m with
 | false =>
   obtain rfl:X=(sn0,0,1):=by rw [HX.out];unfold arR;rw [hon];rfl
   rw [hon] at KO;obtain ⟨W9,hW9⟩:∃ W9,W9=W.setRow p sn0.c:=⟨_,rfl⟩;have H9:=zh (HSET.out W W9 sn0 sn0 HB.out Z9.out hW9);have HW9:=zh hW9;clear hon hW9 HSET HX h HDW hB z5 z6 hsz;unfold ptr at *;go_enter func122,ntmps122
   go_upto_region 1 with fail
   refine zaf (w:=W) HW.out.symm ?_;rw [←HP.out]
   go_wp2_with (first|(go_at_call 158;(with_reducible refine KO.out.mono ?_);rintro q w1 ⟨rfl,rfl⟩)|(refine zag rfl _ _ rfl _ _ sn0 sn0 rfl rfl Z9.out ?_;refine zab HW9.out.symm ?_;go_frame))
   exact ztP (v:=_) (zkC _ _ p sn0 rfl H9.out.2) rfl ⟨rfl,H9.out.1⟩
 | true =>
   obtain ⟨h0,h1,h2⟩:=zfu.1 hon;rw [hon] at KO;obtain ⟨a,rfl⟩:=ztW h0;obtain ⟨M,rfl⟩:=ztW (show 0≤m by omega);have hn:a+M≤d.n:=by omega
   have KE:=zh (zkH g L d w.heap.size (w.heap.size+1) a M W HDW z5 z6 hn (by omega))
   have hX:X=if d.dead then (sn0,0,7) else (gtS (rdB d a M),gtV (rdB d a M),if gtO (rdB d a M) then 0 else 2):=by
    rw [HX.out];unfold arR;rw [hon,if_pos rfl,ztV,ztV]
   have hbs:(rdB d a M).size≤281474976710656:=by rw [zcz d HDW.1];have:=HDW.1.n2;omega
   have KG:=zh (fun (W:A)=>zo0 (rdB d a M) W hbs);obtain ⟨S,hS⟩:∃ S,S=rdB d a M:=⟨_,rfl⟩;have KS:=zh (fun (W':A) (h:Sb W.heap.size W.heap.size S W') (hb:W.heap.size≤W'.heap.size)=>zhb W.heap.size W.heap.size S W' h hb);rw [←hS] at KE KG hX;have HX2:=zh hX;have HP3:Hid (p<W.heap.size):=(zgx Z9.out);obtain ⟨bb,hbb⟩:∃ bb,bb=W.heap.size:=⟨_,rfl⟩;rw [←hbb] at KE KS HP3;have HBB:=zh hbb;clear hon h HDW hB z5 z6 hsz HX hX h0 h1 h2 hn hbs hS hbb;unfold ptr at *;obtain ⟨gO,hgO⟩:∃ x,x=gtO S:=⟨_,rfl⟩;obtain ⟨gS,hgS⟩:∃ x,x=gtS S:=⟨_,rfl⟩;obtain ⟨gV,hgV⟩:∃ x,x=gtV S:=⟨_,rfl⟩;rw [←hgO,←hgS,←hgV] at KG HX2;have HGN:Hid (gO=false→gS=sn0∧gV=0):=fun h=>by rw [hgS,hgV];exact zmy (hgO▸h)
   clear hgO hgS hgV
   cases hdd:d.dead with
   | true =>
     rw [hdd] at KE HX2;obtain rfl:X=(sn0,0,7):=HX2.out;go_enter func122,ntmps122
     go_upto_region 1 with fail
     refine zaf (w:=W) HW.out.symm ?_;rw [←HP.out];obtain ⟨W9,hW9⟩:∃ W9,W9=W:=⟨_,rfl⟩;clear hW9
     go_upto_region 4 with (go_at_call 158;(with_reducible refine KO.out.mono ?_);rintro q w1 ⟨rfl,rfl⟩)
     rw [←HBB.out]
     go_upto_region 6 with (go_at_call 161;(with_reducible refine KE.out.mono ?_);rintro q w2 ⟨rfl,_,b2⟩)
     have HB2:Hid (t w.heap.size w w2):=HB.out.trans (b2.mono (by have:=HB.out.size;have:=HBB.out;omega));have Z2:Hid (w2.heap[p]?=j (f sn0.c 43 (0,0))):=(b2.block _ HP3.out).trans Z9.out;obtain ⟨W9,hW9⟩:∃ W9,W9=w2.setRow p sn0.c:=⟨_,rfl⟩;have H9:=zh (HSET.out w2 W9 sn0 sn0 HB2.out Z2.out hW9);have HW9:=zh hW9;clear hW9 b2
     go_wp2_with (refine zag rfl _ _ rfl _ _ sn0 sn0 rfl rfl Z2.out ?_;refine zab HW9.out.symm ?_;go_frame)
     exact ztP (v:=_) (zkC _ _ p sn0 rfl H9.out.2) rfl ⟨rfl,H9.out.1⟩
   | false =>
     rw [hdd] at KE HX2;have hX:X=(gS,gV,if gO then 0 else 2):=HX2.out;have HXX:=zh hX;clear hX HX2;go_enter func122,ntmps122
     go_upto_region 1 with fail
     refine zaf (w:=W) HW.out.symm ?_;rw [←HP.out]
     go_upto_region 4 with (go_at_call 158;(with_reducible refine KO.out.mono ?_);rintro q w1 ⟨rfl,rfl⟩)
     rw [←HBB.out]
     go_upto_region 7 with (go_at_call 161;(with_reducible refine KE.out.mono ?_);rintro q w2 ⟨rfl,hs2,b2⟩)
     have HS2:Hid (Sb bb bb S w2):=hs2 trivial;have HL2:Hid (bb≤w2.heap.size):=by show _≤_;have:=b2.size;have:=HBB.out;omega
     have HB2:Hid (t w.heap.size w w2):=HB.out.trans (b2.mono (by have:=HB.out.size;have:=HBB.out;omega));have Z2:Hid (w2.heap[p]?=j (f sn0.c 43 (0,0))):=(b2.block _ HP3.out).trans Z9.out;clear hs2 b2 c5 c6
     go_wp2_with fail
     refine (KS.out _ HS2.out HL2.out).mono ?_;rintro q w3 ⟨rfl,b3⟩;have HB3:Hid (t w.heap.size w w3):=HB2.out.trans (b3.mono (by have:=HB.out.size;have:=HBB.out;omega));have Z3:Hid (w3.heap[p]?=j (f sn0.c 43 (0,0))):=(b3.block _ HP3.out).trans Z2.out;have HL3:Hid (bb≤w3.heap.size):=by show _≤_;have:=b3.size;have:=HL2.out;omega
     clear b3
     go_wp2_with fail
     refine (KG.out _).mono ?_;rintro q w4 ⟨rfl,b4⟩;have HB4:=zh (HB3.out.trans (b4.mono HB3.out.size));have Z4:Hid (w4.heap[p]?=j (f sn0.c 43 (0,0))):=(b4.block _ (by have:=HP3.out;have:=HL3.out;omega)).trans Z3.out;obtain ⟨W5,hW5⟩:∃ W5,W5=w4.setRow p gS.c:=⟨_,rfl⟩;have H5:=zh (HSET.out w4 W5 sn0 gS HB4.out Z4.out hW5);have HW5:=zh hW5;clear hW5 b4
     go_upto_region 8 with (refine zag rfl _ _ rfl _ _ gS sn0 rfl rfl Z4.out ?_;refine zab HW5.out.symm ?_;go_frame)
     cases gO with
     | false =>
       obtain ⟨hg1,hg2⟩:=HGN.out rfl;have hX:X=(sn0,0,2):=by rw [HXX.out,hg1,hg2];rfl
       subst hX;obtain ⟨W9,hW9⟩:∃ W9,W9=W5.setRow p sn0.c:=⟨_,rfl⟩;have H9:=zh (HSET.out W5 W9 gS sn0 H5.out.1 H5.out.2 hW9);have HW9:=zh hW9;clear hW9 hg1 hg2
       go_wp2_with (refine zag rfl _ _ rfl _ _ sn0 gS rfl rfl H5.out.2 ?_;refine zab HW9.out.symm ?_;go_frame)
       exact ztP (v:=_) (zkC _ _ p sn0 rfl H9.out.2) rfl ⟨rfl,H9.out.1⟩
     | true =>
       have hX:X=(gS,gV,0):=by rw [HXX.out];rfl
       subst hX;obtain ⟨W9,hW9⟩:∃ W9,W9=W5.setRow p gS.c:=⟨_,rfl⟩;have H9:=zh (HSET.out W5 W9 gS gS H5.out.1 H5.out.2 hW9);have HW9:=zh hW9;clear hW9
       go_wp2_with (first
        | (refine zb9 rfl _ rfl _ _ gS rfl H5.out.2 ?_;go_frame)
        | (refine zag rfl _ _ rfl _ _ gS gS rfl rfl H5.out.2 ?_;refine zab HW9.out.symm ?_;go_frame))
       exact ztP (v:=_) (zkC _ _ p gS rfl H9.out.2) rfl ⟨rfl,H9.out.1⟩
end Ar
end Go.Proofs.YtidndekacnmihaaGreat
