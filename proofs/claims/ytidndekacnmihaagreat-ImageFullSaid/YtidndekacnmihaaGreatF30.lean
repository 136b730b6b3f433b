/- Parts of a proof. -/
import Derived.Test.YtidndekacnmihaaGreatF18
set_option linter.unusedVariables false
set_option linter.unusedSimpArgs false
set_option maxHeartbeats 8000000
set_option maxRecDepth 100000
namespace Go.Proofs.YtidndekacnmihaaGreat
open Go.RowKit
section
open Go.Shelf
open Dk Vi
attribute [local go_sem] Oper.semAt_some
theorem zrI {w w':World} (h:Below w.heap.size w w'):w.grownBy w' none:=⟨h.os,h.tape,h.output,h.size,fun k hk _=>h.block k hk⟩
structure Kp (n₀ bV bS:Nat) (A B:World):Prop where
 be:Below n₀ A B
 v:B.heap[bV]?=A.heap[bV]?
 s:B.heap[bS]?=A.heap[bS]?
theorem Kp.trans {n₀ bV bS:Nat} {A B C:World} (h:Kp n₀ bV bS A B) (k:Kp n₀ bV bS B C):Kp n₀ bV bS A C:=⟨h.be.trans k.be,k.v.trans h.v,k.s.trans h.s⟩
abbrev zsf (x:En×Nat):Array Value:=#[ev x.1,.int .i64 (x.2:Int)]
theorem ziQ (X:ByteArray→En) (V:ByteArray→Int) (O:ByteArray→Bool) (v:Int) (s:ByteArray) (n l bV bS n₀:Nat) (hs:s.size≤1000000000000) (hG:(∃ k,nOk (tlB s k)=true)→zqC 293 X V O) (hn:1≤n)
 (J Jx:List (En×Nat)→World→Prop) (B:Nat) (hJ:AbidesFrom B J)
 (hY:∀ pre x W,J pre W→pre.length<s.size+1→YieldAt Fence.wide (n-1) Tryz.prog l (zsf x) W fun e W' =>
   (e=.returned (.bool true)∧J (pre++[x]) W'∧Kp n₀ bV bS W W')∨(e=.returned (.bool false)∧Jx (pre++[x]) W'))
 (W:World) (hbV:W.heap[bV]?=some (.cells #[.int .i64 v] 3 (0,0))) (hbS:W.heap[bS]?=some (.cells #[.string s] 9 (0,0))) (h0:J [] W) :
 CallsIn Fence.wide n Tryz.prog 271 #[.func (.yield l) #[] #[],.pointer (some ⟨bV,0,none⟩),.pointer (some ⟨bS,0,none⟩)] W fun e W'=>(∃ q,e=.returned q) ∧
  ((∃ ys,ys=zfV X O v s∧J ys W')∨(∃ pre,True∧Jx pre W')):=by
 have KF:=zh (fun t W h (k:Nat) (ht:t=tlB s k)=>zmD X V O v t W h (fun h1=>hG ⟨k,by rw [←ht];exact h1⟩));have HJ:=zh hJ;have HY:=zh hY;clear hG hJ hY;refine callsIn_of_wp Tryz.func271 rfl trivial ?_ rfl;simp only [Tryz.ntmps271,List.size_toArray,zs2,List.length_nil,Nat.reduceAdd,Nat.reduceSub,Array.replicate_succ,Array.replicate_zero,List.push_toArray,List.append_toArray,ztt,List.cons_append];refine wpIn_wide.2 ?_;go_wp2
 go_loopw [4] (fun i wr=>∃ (k f:Nat) (pre:List (En×Nat)),i=.int .i64 k∧k≤s.size∧s.size<f+k∧pre.length≤k∧Hid (pre++pl X O v s f k=zfV X O v s)∧wr.heap[bV]?=some (.cells #[.int .i64 v] 3 (0,0))∧wr.heap[bS]?=some (.cells #[.string s] 9 (0,0))∧J pre wr) (fun i _=>s.size-(Go.RowKit.intOf i).toNat)
 case atStart=>exact ⟨0,s.size+1,[],rfl,zsE _,by omega,zsy _,rfl,hbV,hbS,h0⟩
 case round =>
  obtain ⟨k,f,pre,rfl,hk,hf,hpk,hpl,hV,hS,hJ⟩:=hrel;obtain ⟨f,rfl⟩:∃ f',f=f'+1:=⟨f-1,by omega⟩;have hpf:Hid (pl X O v s (f+1) k=if frB O v (tlB s k) then (X (frm (tlB s k)),zh0 v s k) :: pl X O v s f (zh0 v s k) else []):=rfl;obtain ⟨t,ht⟩:∃ t,t=tlB s k:=⟨_,rfl⟩;have hts:t.size=s.size-k:=by rw [ht];exact zeS s k hk
  rw [←ht] at hpf;have hext:s.extract k s.size=t:=ht.symm;have htb:t.size≤140737488351232:=by omega
  have K:=zh (fun W=>KF.out t W htb k ht);have c1:wr.drew.cell? ⟨bV,0,none⟩=some (.int .i64 v):=zcr wr bV 0 _ 3 (0,0) hV;have c2:wr.drew.cell? ⟨bS,0,none⟩=some (.string s):=zcr wr bS 0 _ 9 (0,0) hS;have hks:¬ (s.size:Int)<(k:Int):=by omega
  have HV:=zh hV;have HS:=zh hS;have HT:=zh ht;have HJJ:=zh hJ;clear hV hS ht hJ hbV hbS h0
  go_upto_region 1 with fail
  obtain ⟨fr,hfr⟩:∃ fr,fr=frB O v t:=⟨_,rfl⟩;rw [←hfr] at K;have HFR:=zh hfr;clear hfr;have hBa:Below wr.heap.size wr (wr.alloc (.cells (ec ezz) 69)).drew:=((Below.refl _ wr).alloc (zsy _) _).drew;have hsa:(wr.alloc (.cells (ec ezz) 69)).drew.heap.size=wr.heap.size+1:=zsI _ _;have c1a:(wr.alloc (.cells #[.int .u64 0,.int .u64 0,.int .i64 0,.int .u64 0,.int .u64 0,.int .u64 0,.int .u64 0,.int .i64 0,.int .i64 0,.string ⟨#[]⟩,.string ⟨#[]⟩] 69)).drew.cell? ⟨bV,0,none⟩=some (.int .i64 v):=(Below.cell (B:=wr.heap.size) hBa (p:=⟨bV,0,none⟩) (zgx HV.out)).trans (zcr wr bV 0 _ 3 (0,0) HV.out);have c2a:(wr.alloc (.cells #[.int .u64 0,.int .u64 0,.int .i64 0,.int .u64 0,.int .u64 0,.int .u64 0,.int .u64 0,.int .i64 0,.int .i64 0,.string ⟨#[]⟩,.string ⟨#[]⟩] 69)).drew.cell? ⟨bS,0,none⟩=some (.string s):=(Below.cell (B:=wr.heap.size) hBa (p:=⟨bS,0,none⟩) (zgx HS.out)).trans (zcr wr bS 0 _ 9 (0,0) HS.out);have HBA:=zh hBa;have HSA:=zh hsa;clear hBa hsa
  go_cut [5,6,7] from 8 to 16 (fun s5 s6 s7 wx=>∃ (p:Nat) (E:En) (z:Int),s5=.pointer (some ⟨p,0,none⟩)∧s6=.int .i64 z∧s7=.bool fr∧Hid (fr=true→E=X (frm t)∧z=nxN t)∧wx.heap[p]?=some (.cells (ec E) 69 (0,0))∧wr.heap.size≤p∧Below wr.heap.size wr wx)
  case first =>
   go_region_law (first
    | (go_simp;go_at_call 272;(with_reducible refine (K.out _).mono ?_);rintro q w1 ⟨E,z,rfl,hE,hb1⟩;have HB1:Hid (Below wr.heap.size wr w1):=(Below.refl _ wr).drew.trans hb1;have HZ:Hid ((w1.alloc (.cells (ec ezz) 69)).heap[w1.heap.size]?=some (.cells (ec ezz) 69 (0,0))):=zsz w1 _;obtain ⟨z0,z1,z2,z3,z4,z5,z6,z7,z8,z9,z10⟩:=ecz HZ.out;have fz:∀ i,(w1.alloc (.cells (ec ezz) 69)).frozen? ⟨w1.heap.size,i,none⟩=false:=fun i=>zsV HZ.out i;clear hb1)
    | (go_simp;go_at_call 272;(with_reducible refine (K.out _).mono ?_);rintro q w1 ⟨E,z,rfl,hE,hb1⟩;have HB1:Hid (Below wr.heap.size wr w1):=HBA.out.trans (hb1.mono (zsB (Nat.le_succ _) (Nat.le_of_eq HSA.out.symm)));have HZ:Hid (w1.heap[wr.heap.size]?=some (.cells (ec ezz) 69 (0,0))):=(hb1.block _ (Nat.lt_of_lt_of_eq (Nat.lt_succ_self _) HSA.out.symm)).trans (zsz wr _);obtain ⟨z0,z1,z2,z3,z4,z5,z6,z7,z8,z9,z10⟩:=ecz HZ.out;have fz:∀ i,w1.frozen? ⟨wr.heap.size,i,none⟩=false:=fun i=>zsV HZ.out i;clear hb1))
   all_goals
    go_wp2;go_meet
    first
     | (refine ⟨w1.heap.size,E,z,by with_reducible rfl,rfl,rfl,hE,?_,HB1.out.size,?_⟩
        ·exact zsz w1 _
        ·exact HB1.out.alloc HB1.out.size _)
     | (refine ⟨wr.heap.size,E,z,by with_reducible rfl,rfl,rfl,hE,?_,zsy _,?_⟩
        ·exact zlP E HZ.out
        ·exact zcQ E HB1.out (zsy _))
  case rest =>
   obtain ⟨p,E,z,rfl,rfl,rfl,hE,hp,hlp,hbx⟩:=hcut;clear c1 c2 c1a c2a K HBA HSA;have HBX:=zh hbx;have hJx:Hid (J pre wc):=HJ.out _ _ _ none HJJ.out (zrI hbx) (fun r h=>by cases h);clear hbx HJJ
   cases fr with
   | false =>
     have hst:pre=zfV X O v s:=by
      have h1:=hpf.out;rw [←HFR.out,if_neg (by decide)] at h1;have h2:=hpl.out;rw [h1,zth] at h2;exact h2
     have HST:=zh hst;clear hst;go_wp2;refine zsF (results_none rfl _ _ _) rfl ?_;exact ⟨⟨_,rfl⟩,.inl (by rw [←HST.out];exact hJx.out)⟩
   | true =>
     obtain ⟨hE1,hz1⟩:=hE.out rfl;have hok:nOk t=true:=zrK HFR.out.symm;obtain ⟨hp1,hp2,hp3⟩:=zfB hok;have hlt2:=zmN (v:=v) hk (by rw [←HT.out];exact hok);have hnx:zh0 v s k=min (bgn v (k+(nxN t).toNat)) s.size:=by unfold zh0;rw [←HT.out]
     obtain ⟨N,hN⟩:∃ N,N=(nxN t).toNat:=⟨_,rfl⟩;rw [←hN] at hp1 hp2 hp3 hnx;have hzN:z=(N:Int):=by rw [hz1,hp2]
     obtain ⟨P,hP⟩:∃ P,P=zh0 v s k:=⟨_,rfl⟩;rw [←hP] at hnx hlt2
     have hnext:Hid ((pre++[(E,P)])++pl X O v s f P=zfV X O v s):=by
      have h1:=hpf.out;rw [←HFR.out,if_pos rfl,←hP,←hE1] at h1;show _=_;rw [zsZ,List.singleton_append,←h1];exact hpl.out
     subst hzN;have hle:k+N≤4611686018427387904:=by omega
     have KB:Hid (∀ w,Calls Tryz.prog 141 #[.int .i64 v,.int .i64 ((k:Int)+N)] w fun q w'=>q=.returned (.int .i64 (bgn v (k+N)))∧w=w'):=fun w=>by
      have h:=zfx v (k+N) w hle;rw [Int.natCast_add] at h;exact h
     have hmin:(min (bgn v (k+N):Int) (s.size:Int))=(P:Int):=by rw [hnx];omega
     have hsum:IntKind.i64.wrap ((k:Int)+(N:Int))=(k:Int)+(N:Int):=IntWalk.i64_in _ (by omega);have d1:wc.drew.cell? ⟨bV,0,none⟩=some (.int .i64 v):=(HBX.out.cell (p:=⟨bV,0,none⟩) (zgx HV.out)).trans (zcr wr bV 0 _ 3 (0,0) HV.out);have d2:wc.drew.cell? ⟨bS,0,none⟩=some (.string s):=(HBX.out.cell (p:=⟨bS,0,none⟩) (zgx HS.out)).trans (zcr wr bS 0 _ 9 (0,0) HS.out);have HP:=zh hp;clear hE hE1 hz1 hok hp2 hN hP hpf hpl hnx hp
     go_upto_region 3 with fail
     go_region_with (first|(go_at_call 141;(with_reducible refine (KB.out _).mono ?_);rintro q w5 ⟨rfl,rfl⟩))
     all_goals
      have hJd:J pre wc.drew:=HJ.out _ _ _ none hJx.out (zrI (Below.refl _ _).drew) (fun r h=>by cases h);obtain ⟨fn,tmps,assign,body,hy,hR⟩:=HY.out pre (E,P) wc.drew hJd (by omega);dsimp only [zsf] at hy;obtain ⟨e0,e1,e2,e3,e4,e5,e6,e7,e8,e9,e10⟩:=ecz (w:=wc.drew) HP.out;have HRR:=zh hR;clear hJd hR
      go_upto_region 4 with fail
      refine (wpIn_wide (n:=n)).1 ?_
      gi_wp2
      have hV3:wc.heap[bV]?=some (.cells #[.int .i64 v] 3 (0,0)):=(HBX.out.block _ (zgx HV.out)).trans HV.out;have hS3:wc.heap[bS]?=some (.cells #[.string s] 9 (0,0)):=(HBX.out.block _ (zgx HS.out)).trans HS.out;have HV3:=zh hV3;have HS3:=zh hS3;clear hV3 hS3;refine HRR.out.mono ?_;rintro e W3 (⟨rfl,hJ3,hk3⟩|⟨rfl,hJx3⟩)
      ·have HJ3:=zh hJ3;have HK3:=zh hk3;clear hJ3 hk3
       gi_wp2
       go_wp2;exact ⟨⟨P,f,pre++[(E,P)],rfl,hlt2.2,by omega,by rw [zsS];simp;omega,hnext,HK3.out.v.trans HV3.out,HK3.out.s.trans HS3.out,HJ3.out⟩,by simp [Go.RowKit.intOf];omega⟩
      ·have HJ3:=zh hJx3;clear hJx3
       gi_wp2
       go_wp2;refine zsF (results_none rfl _ _ _) rfl ?_;exact ⟨⟨_,rfl⟩,.inr ⟨_,trivial,HJ3.out⟩⟩
end
section
open Go.Shelf
open Dk Vi
attribute [local go_sem] Oper.semAt_some
theorem ziR (v:Int) (s:ByteArray) (w:World):Calls Tryz.prog 228 #[.int .i64 v,.string s] w fun q w'=>q=.returned (.func (.func 271) #[] #[.pointer (some ⟨w.heap.size,0,none⟩),.pointer (some ⟨w.heap.size+1,0,none⟩)])∧w'=(w.alloc (.cells #[.int .i64 v] 3)).alloc (.cells #[.string s] 9):=by
 have hmf:=zmL;go_enter Tryz.func228,Tryz.ntmps228;go_wp2;go_ret;exact ⟨rfl,rfl⟩
theorem zgX (X:ByteArray→En) (V:ByteArray→Int) (O:ByteArray→Bool) (v:Int) (s:ByteArray) (n bV bS n₀:Nat) (hs:s.size≤1000000000000) (hG:(∃ k,nOk (tlB s k)=true)→zqC 293 X V O) (hn:1≤n) (w:World)
 (hbV:w.heap[bV]?=some (.cells #[.int .i64 v] 3 (0,0))) (hbS:w.heap[bS]?=some (.cells #[.string s] 9 (0,0))) :
 SeqStopsK Fence.wide n Tryz.prog 271 #[.pointer (some ⟨bV,0,none⟩),.pointer (some ⟨bS,0,none⟩)] zsf (Kp n₀ bV bS) (fun ys=>ys=zfV X O v s) (fun _=>True) (s.size+1) w:=fun l J Jx W hW hJ _ hY h0 =>
 ziQ X V O v s n l bV bS n₀ hs hG hn J Jx W.heap.size hJ hY W ((hW.block _ (zgx hbV)).trans hbV) ((hW.block _ (zgx hbS)).trans hbS) h0
theorem Le.kept {B:Nat} {A:Option Addr} {n c:Nat} {es:List En} {w w':World} {row:Option Nat} (h:Le B A n c es w) (hg:w.grownBy w' row) (hr:∀ r,row=some r→∃ o:Obj,w.heap[r]?=some o∧o.isCells=false):Le B A n c es w' :=
 ⟨zeY h.own fun k hk=>hg.block k (h.own.lt k hk).2 fun e=>(by
  obtain ⟨o,ho,hc⟩:=hr k e.symm;rcases h.own.2 with ⟨hv,_⟩|⟨g,cap,cur,hv,_,hgb,_⟩
  ·rw [hv] at hk;cases hk
  ·rw [hv] at hk
   have:g=k:=by simpa [Value.ownBlock] using hk
   subst this;rw [hgb] at ho
   cases ho
   cases hc),h.len⟩
theorem zci {w w':World} {row:Option Nat} {b:Nat} {cs:Array Value} {T:TypeId} (h:w.heap[b]?=some (.cells cs T (0,0))) (hg:w.grownBy w' row) (hr:∀ r,row=some r→∃ o:Obj,w.heap[r]?=some o∧o.isCells=false):w'.heap[b]?=some (.cells cs T (0,0)) :=
 (hg.block b (zgx h) fun e=>by obtain ⟨o,ho,hc⟩:=hr b e.symm;rw [h] at ho;cases ho;cases hc).trans h
theorem ziS {w:World} {B B':Nat} {e:TypeId} {size:Nat} {v:Value} {n:Nat} {xs:List Value} (hB:B'≤B) (h:w.ownsRow B e size v n xs):w.ownsRow B' e size v n xs:=by
 obtain ⟨hl,h⟩:=h;refine ⟨hl,?_⟩;rcases h with h|⟨g,cap,cur,hv,hb,r⟩
 ·exact .inl h
 ·exact .inr ⟨g,cap,cur,hv,zsB hB hb,r⟩
structure Pz (w:World) (v:Int) (s:ByteArray) (pre:List (En×Nat)) (A:Option Addr) (n c:Nat) (W:World):Prop where
 rl:W.heap[w.heap.size]?=some (.cells #[.slice A n c] 54 (0,0))
 ru:W.heap[w.heap.size+1]?=some (.cells #[.int .i64 (lpP pre)] 3 (0,0))
 bv:W.heap[w.heap.size+2]?=some (.cells #[.int .i64 v] 3 (0,0))
 bs:W.heap[w.heap.size+3]?=some (.cells #[.string s] 9 (0,0))
 le:Le (w.heap.size+4) A n c (pre.map Prod.fst) W
 be:Below w.heap.size w W
theorem Pz.kept {w:World} {v:Int} {s:ByteArray} {pre:List (En×Nat)} {A:Option Addr} {n c:Nat} {W W':World} {row:Option Nat} (h:Pz w v s pre A n c W) (hg:W.grownBy W' row) (hr:∀ r,row=some r→w.heap.size≤r∧∃ o:Obj,W.heap[r]?=some o∧o.isCells=false):Pz w v s pre A n c W' :=
 have hr':∀ r,row=some r→∃ o:Obj,W.heap[r]?=some o∧o.isCells=false:=fun r e=>(hr r e).2
 ⟨zci h.rl hg hr',zci h.ru hg hr',zci h.bv hg hr',zci h.bs hg hr',h.le.kept hg hr',h.be.grown hg h.be.size fun k e=>(hr k e).1⟩
theorem Pz.step {w:World} {v:Int} {s:ByteArray} {pre:List (En×Nat)} {A:Option Addr} {n c g cap:Nat} {W w1:World} {x:En×Nat} {tmp:Obj} (h:Pz w v s pre A n c W)
 (hown:w1.ownsRow (w.heap.size+4) 69 11 (.slice (some ⟨g,0,none⟩) (n+1) cap) (n+1) (flat (pre.map Prod.fst)++(ec x.1).toList)) (hgrow:(W.alloc tmp).grownBy w1 (Value.ownBlock (.slice A n c))) :
 (w1.heap[w.heap.size]?=some (.cells #[.slice A n c] 54 (0,0)))∧((w1.setCell ⟨w.heap.size,0,none⟩ (.slice (some ⟨g,0,none⟩) (n+1) cap)).heap[w.heap.size+1]?=some (.cells #[.int .i64 (lpP pre)] 3 (0,0))) ∧
 Pz w v s (pre++[x]) (some ⟨g,0,none⟩) (n+1) cap ((w1.setCell ⟨w.heap.size,0,none⟩ (.slice (some ⟨g,0,none⟩) (n+1) cap)).setCell ⟨w.heap.size+1,0,none⟩ (.int .i64 (x.2:Int))) ∧
 Kp w.heap.size (w.heap.size+2) (w.heap.size+3) W ((w1.setCell ⟨w.heap.size,0,none⟩ (.slice (some ⟨g,0,none⟩) (n+1) cap)).setCell ⟨w.heap.size+1,0,none⟩ (.int .i64 (x.2:Int))) ∧
 ∀ B,KeepsFrom B W ((w1.setCell ⟨w.heap.size,0,none⟩ (.slice (some ⟨g,0,none⟩) (n+1) cap)).setCell ⟨w.heap.size+1,0,none⟩ (.int .i64 (x.2:Int))):=by
 have hrow:∀ k,Value.ownBlock (.slice A n c)=some k→w.heap.size+4≤k∧∃ cs T fr,W.heap[k]?=some (.cells cs T fr):=fun k hk=>by
  refine ⟨(h.le.own.lt k hk).1,?_⟩;rcases h.le.own.2 with ⟨hv,_⟩|⟨g,cap,cur,hv,_,hgb,_⟩
  ·rw [hv] at hk;cases hk
  ·rw [hv] at hk
   have:g=k:=by simpa [Value.ownBlock] using hk
   subst this;exact ⟨_,_,_,hgb⟩
 have hsz1:W.heap.size≤w1.heap.size:=by have:=hgrow.size;simp at this;omega
 have old:∀ k,k<W.heap.size→Value.ownBlock (.slice A n c)≠some k→w1.heap[k]?=W.heap[k]?:=fun k hk hne =>
  (hgrow.block k (by simp;omega) fun e=>hne e.symm).trans (zsG W _ k hk)
 have lt0:=(zgx h.rl);have lt1:=(zgx h.ru);have lt2:=(zgx h.bv);have lt3:=(zgx h.bs);have far:∀ k,k<w.heap.size+4→Value.ownBlock (.slice A n c)≠some k:=fun k hk e=>by have:=(hrow k e).1;omega
 have o0:=(old _ lt0 (far _ (by omega))).trans h.rl;have o1:=(old _ lt1 (far _ (by omega))).trans h.ru;have o2:=(old _ lt2 (far _ (by omega))).trans h.bv;have o3:=(old _ lt3 (far _ (by omega))).trans h.bs;have q1:(w1.setCell ⟨w.heap.size,0,none⟩ (.slice (some ⟨g,0,none⟩) (n+1) cap)).heap[w.heap.size+1]?=some (.cells #[.int .i64 (lpP pre)] 3 (0,0)):=(zsQ w1 _ _ _ (by simp)).trans o1;have hB1:Below w.heap.size W w1:=((Below.refl _ W).alloc h.be.size tmp).grown hgrow (by have:=h.be.size;simp;omega) fun k e=>by have:=(hrow k e).1;omega
 have hB2:Below w.heap.size W ((w1.setCell ⟨w.heap.size,0,none⟩ (.slice (some ⟨g,0,none⟩) (n+1) cap)).setCell ⟨w.heap.size+1,0,none⟩ (.int .i64 (x.2:Int))) :=
  (hB1.setCell (p:=⟨w.heap.size,0,none⟩) (zsy _) _).setCell (p:=⟨w.heap.size+1,0,none⟩) (by simp) _
 refine ⟨o0,q1,⟨?_,?_,?_,?_,⟨?_,?_⟩,h.be.trans hB2⟩,⟨hB2,?_,?_⟩,fun B=>⟨hB2.size,fun k o _ ho hc=>?_⟩⟩
 ·exact (zsQ _ _ _ _ (by simp)).trans (zaC o0 0 _)
 ·rw [zjJ];exact zaC q1 0 _
 ·exact (zsQ _ _ _ _ (by simp)).trans ((zsQ _ _ _ _ (by simp)).trans o2)
 ·exact (zsQ _ _ _ _ (by simp)).trans ((zsQ _ _ _ _ (by simp)).trans o3)
 ·rw [List.map_append];show World.ownsRow _ _ _ _ _ _ (flat (pre.map Prod.fst++[x.1]));rw [zdx];exact ownsRow_setCell_below (ownsRow_setCell_below hown (by simp) _) (by simp) _
 ·rw [List.length_map,zsS,←h.le.len,List.length_map];rfl
 ·exact ((zsQ _ _ _ _ (by simp)).trans ((zsQ _ _ _ _ (by simp)).trans o2)).trans h.bv.symm
 ·exact ((zsQ _ _ _ _ (by simp)).trans ((zsQ _ _ _ _ (by simp)).trans o3)).trans h.bs.symm
 ·have hk:=(zgx ho);have n0:k≠w.heap.size:=fun e=>by subst e;rw [h.rl] at ho;cases ho;cases hc
  have n1:k≠w.heap.size+1:=fun e=>by subst e;rw [h.ru] at ho;cases ho;cases hc
  have nr:Value.ownBlock (.slice A n c)≠some k:=fun e=>by obtain ⟨_,cs,T,fr,h2⟩:=hrow k e;rw [h2] at ho;cases ho;cases hc
  rw [zsQ _ _ _ _ (by simpa using n1),zsQ _ _ _ _ (by simpa using n0),old k hk nr];exact ho
theorem zmG (X:ByteArray→En) (V:ByteArray→Int) (O:ByteArray→Bool) (v:Int) (s:ByteArray) (w:World) (hs:s.size≤1000000000000) (hG:(∃ k,nOk (tlB s k)=true)→zqC 293 X V O) :
 Calls Tryz.prog 186 #[.int .i64 v,.string s] w fun q w'=>∃ A n c,q=.returned (.tuple #[.slice A n c,.int .i64 (zmK X O v s)])∧Le w.heap.size A n c (zkM X O v s) w'∧Below w.heap.size w w':=by
 refine (callsIn_wide (n:=8)).1 ?_;refine callsIn_of_wp_marks Tryz.func186 rfl trivial ?_ rfl;simp only [Tryz.ntmps186,List.size_toArray,zs2,List.length_nil,Nat.reduceAdd,Nat.reduceSub,Array.replicate_succ,Array.replicate_zero,List.push_toArray,List.append_toArray,ztt,List.cons_append]
 gi_wp2_with (refine ⟨trivial,?_⟩;gi_at_call 228;refine (callsIn_wide.2 (ziR _ _ _)).mono ?_;rintro e w' ⟨rfl,rfl⟩)
 obtain ⟨W4,hW4⟩:∃ W4,W4=(((w.alloc (.cells #[.slice none 0 0] 54)).alloc (.cells #[.int .i64 0] 3)).alloc (.cells #[.int .i64 v] 3)).alloc (.cells #[.string s] 9):=⟨_,rfl⟩;have hsz:W4.heap.size=w.heap.size+4:=by rw [hW4];simp
 have hP0:Pz w v s [] none 0 0 W4:=by
  rw [hW4];refine ⟨?_,?_,?_,?_,Le.nil _ _,((((Below.refl _ w).alloc (zsy _) _).alloc (by simp only [zsI];omega) _).alloc (by simp only [zsI];omega) _).alloc (by simp only [zsI];omega) _⟩
  ·exact (zsG _ _ _ (by simp only [zsI];omega)).trans ((zsG _ _ _ (by simp only [zsI];omega)).trans ((zsG _ _ _ (by simp only [zsI];omega)).trans (zsz w _)))
  ·have h:=zsz (w.alloc (.cells #[.slice none 0 0] 54)) (.cells #[.int .i64 0] 3);rw [zsI] at h;exact (zsG _ _ _ (by simp only [zsI];omega)).trans ((zsG _ _ _ (by simp only [zsI];omega)).trans h)
  ·have h:=zsz ((w.alloc (.cells #[.slice none 0 0] 54)).alloc (.cells #[.int .i64 0] 3)) (.cells #[.int .i64 v] 3);rw [zsI,zsI] at h;exact (zsG _ _ _ (by simp only [zsI];omega)).trans h
  ·have h:=zsz (((w.alloc (.cells #[.slice none 0 0] 54)).alloc (.cells #[.int .i64 0] 3)).alloc (.cells #[.int .i64 v] 3)) (.cells #[.string s] 9);rw [zsI,zsI,zsI] at h;exact h
 rw [←hW4];clear hW4;obtain ⟨i0,hi,hz0,hz1,hz2⟩:=info_parts Tryz.info69
 refine wpIn_rangeFunc_ownH rfl (by omega) (gf:=271) (lb:=#[.pointer (some ⟨w.heap.size+1+1,0,none⟩),.pointer (some ⟨w.heap.size+1+1+1,0,none⟩)]) rfl trivial (enters_of Tryz.func271 (by kernel_rfl) rfl)
  (zgX X V O v s 7 (w.heap.size+1+1) (w.heap.size+1+1+1) w.heap.size hs hG (by omega) W4 hP0.bv hP0.bs) (fun h k=>h.trans k)
  (fun W l o o' hl h hc hw=>⟨belowK_b (w:=W4) (by omega) W l o o' hl h hc hw,World.putObj_heap_other (by omega),World.putObj_heap_other (by omega)⟩) (Below.refl _ _) (fun _=>rfl)
  (fun pre W=>∃ A n c,Pz w v s pre A n c W) (fun _ _ _=>False)
  (fun pre A B row ⟨A',n,c,hp⟩ hg hr=>⟨A',n,c,hp.kept hg (fun r e=>⟨by have:=(hr r e).1;omega,(hr r e).2⟩)⟩) (fun _ _ _ _ _ hs _ _=>hs) ⟨none,0,0,hP0⟩
  (fun x a' W=>∃ p,W.heap[p]?=some (.cells (ec x.1) 69 (0,0))∧w.heap.size+4≤p∧a'={ tmps:=#[.int .i64 v,.string s,undef,undef,.pointer (some ⟨w.heap.size,0,none⟩),.pointer (some ⟨w.heap.size+1,0,none⟩),.pointer (some ⟨p,0,none⟩),.int .i64 (x.2:Int),.int .i64 v,.string s,.func (.func 271) #[] #[.pointer (some ⟨w.heap.size+1+1,0,none⟩),.pointer (some ⟨w.heap.size+1+1+1,0,none⟩)],ev x.1,.int .i64 (x.2:Int),undef,undef,undef,undef,undef,undef,undef],defers:=[] })
  (fun x a' _ A B row ⟨p,h1,h2,h3⟩ hg hr=>⟨p,zci h1 hg (fun r e=>(hr r e).2),h2,h3⟩) ?assign ?body ?done ?stop
 case assign =>
  rintro l pre x W K ⟨A,n,c,hp⟩ hK;have hKK:=zh hK;clear hK
  gi_wp2
  have l3:=(zgx hp.bs);exact hKK.out _ _ ((KeepsOthers.alloc _ _).from _) ⟨(Below.refl _ W).alloc hp.be.size _,zsG _ _ _ (by omega),zsG _ _ _ (by omega)⟩ ⟨A,n,c,hp.kept (World.grownBy_alloc W _ none) (fun r e=>by cases e)⟩ ⟨W.heap.size,zsz W _,by omega,rfl⟩
 case body =>
  rintro l pre x a' W hl hr ⟨A,n,c,hp⟩ ⟨p,hpx,hpl,rfl⟩ hlt;obtain ⟨e0,e1,e2,e3,e4,e5,e6,e7,e8,e9,e10⟩:=ecz hpx;have c4:W.cell? ⟨w.heap.size,0,none⟩=some (.slice A n c):=zcr W _ 0 _ 54 (0,0) hp.rl;have hn:n=pre.length:=by have:=hp.le.len;rw [List.length_map] at this;exact this.symm
  have hnb:n≤1000000000000:=by omega
  have hbs:=hp.be.size;have HPP:=zh hp;clear hp hpx hn hr hl
  gi_wp2_with (gi_at_builtin;refine wpListIn_append_own _ rfl _ _ 54 rfl (w.heap.size+4) 69 i0 (ev ezz) 11 104 Tryz.underlying54 hi hz0 hz1 hz2 rfl (by omega) (.slice A n c) n (flat (pre.map Prod.fst)) rfl (HPP.out.le.below zba).own ⟨W.heap.size,0,none⟩ 1 1 (ec x.1).toList rfl rfl (World.news_of_block (zsz W _)) (fun u hu=>by simp at hu;rcases hu with rfl|rfl|rfl|rfl|rfl|rfl|rfl|rfl|rfl|rfl|rfl<;>rfl) (by unfold maxLen;omega) (by omega) (by simp;have:=(zgx HPP.out.bs);omega) ?_;intro v' w1 hown' hgrow _;obtain ⟨g',cap',rfl⟩:=ownsRow_succ hown';obtain ⟨s0,s1,hPs,hKp,hKF⟩:=HPP.out.step hown' hgrow;have y0:w1.cell? ⟨w.heap.size,0,none⟩=some (.slice A n c):=zcr w1 _ 0 _ 54 (0,0) s0;have y0f:w1.frozen? ⟨w.heap.size,0,none⟩=false:=zsV s0 0;have y1:(w1.setCell ⟨w.heap.size,0,none⟩ (.slice (some ⟨g',0,none⟩) (n+1) cap')).cell? ⟨w.heap.size+1,0,none⟩=some (.int .i64 (lpP pre)):=zcr _ _ 0 _ 3 (0,0) s1;have y1f:(w1.setCell ⟨w.heap.size,0,none⟩ (.slice (some ⟨g',0,none⟩) (n+1) cap')).frozen? ⟨w.heap.size+1,0,none⟩=false:=zsV s1 0;have HPS:=zh hPs;have HKP:=zh hKp;have HKF:=zh hKF;clear hPs hKp hKF s0 s1 hown' hgrow)
  exact ⟨HKF.out _,HKP.out,_,_,_,HPS.out⟩
 case done =>
  rintro D ys W hD rfl ⟨A,n,c,hp⟩ hK;have c4:W.drew.cell? ⟨w.heap.size,0,none⟩=some (.slice A n c):=zcr W _ 0 _ 54 (0,0) hp.rl;have c5:W.drew.cell? ⟨w.heap.size+1,0,none⟩=some (.int .i64 (lpP (zfV X O v s))):=zcr W _ 0 _ 3 (0,0) hp.ru;have f4:W.drew.frozen? ⟨w.heap.size,0,none⟩=false:=zsV (w:=W) hp.rl 0;have f5:(W.drew.setCell ⟨w.heap.size,0,none⟩ (.slice A n c)).frozen? ⟨w.heap.size+1,0,none⟩=false:=zsV ((zsQ W ⟨w.heap.size,0,none⟩ (.slice A n c) (w.heap.size+1) (by simp)).trans hp.ru) 0;have c6:(W.drew.setCell ⟨w.heap.size,0,none⟩ (.slice A n c)).cell? ⟨w.heap.size+1,0,none⟩=some (.int .i64 (lpP (zfV X O v s))):=zcr _ _ 0 _ 3 (0,0) ((zsQ W ⟨w.heap.size,0,none⟩ (.slice A n c) (w.heap.size+1) (by simp)).trans hp.ru);have g5:(W.setCell ⟨w.heap.size,0,none⟩ (.slice A n c)).frozen? ⟨w.heap.size+1,0,none⟩=false:=f5;have g6:(W.setCell ⟨w.heap.size,0,none⟩ (.slice A n c)).cell? ⟨w.heap.size+1,0,none⟩=some (.int .i64 (lpP (zfV X O v s))):=c6;have h5:(W.setCell ⟨w.heap.size,0,none⟩ (.slice A n c)).drew.frozen? ⟨w.heap.size+1,0,none⟩=false:=f5;have h6:(W.setCell ⟨w.heap.size,0,none⟩ (.slice A n c)).drew.cell? ⟨w.heap.size+1,0,none⟩=some (.int .i64 (lpP (zfV X O v s))):=c6;have HPP:=zh hp;have HKD:=zh hK;clear hp hK
  gi_wp2
  refine wpIn_wide.2 ?_
  go_region
  obtain ⟨W9,hW9⟩:∃ W9,W9=((W.setCell ⟨w.heap.size,0,none⟩ (.slice A n c)).setCell ⟨w.heap.size+1,0,none⟩ (.int .i64 (lpP (zfV X O v s)))).drew:=⟨_,rfl⟩;have hB9:Below w.heap.size W W9:=by rw [hW9];exact (((Below.refl _ W).setCell (p:=⟨w.heap.size,0,none⟩) (zsy _) _).setCell (p:=⟨w.heap.size+1,0,none⟩) (by simp) _).drew
  have hD1:D≠w.heap.size:=by omega
  have hD2:D≠w.heap.size+1:=by omega
  have k0:W9.heap[w.heap.size]?=some (.cells #[.slice A n c] 54 (0,0)):=by
   rw [hW9];exact (zsQ _ _ _ _ (by simp)).trans (zaC HPP.out.rl 0 (.slice A n c))
  have k1:W9.heap[w.heap.size+1]?=some (.cells #[.int .i64 (lpP (zfV X O v s))] 3 (0,0)):=by
   rw [hW9];exact zaC ((zsQ W ⟨w.heap.size,0,none⟩ (.slice A n c) (w.heap.size+1) (by simp)).trans HPP.out.ru) 0 (.int .i64 (lpP (zfV X O v s)))
  have kD:W9.heap[D]?=some (.deferred (some [])):=by
   rw [hW9];exact (zsQ _ _ _ _ (by simpa using hD2)).trans ((zsQ _ _ _ _ (by simpa using hD1)).trans HKD.out)
  have kL:Le (w.heap.size+4) A n c (zkM X O v s) W9:=by
   rw [hW9];exact ⟨ownsRow_setCell_below (ownsRow_setCell_below HPP.out.le.own (by simp) _) (by simp) _,HPP.out.le.len⟩
  have p0:(W9.putObj D (.deferred none)).cell? ⟨w.heap.size,0,none⟩=some (.slice A n c):=zcr _ _ 0 _ 54 (0,0) ((World.putObj_heap_other hD1.symm).trans k0);have p1:(W9.putObj D (.deferred none)).cell? ⟨w.heap.size+1,0,none⟩=some (.int .i64 (lpP (zfV X O v s))):=zcr _ _ 0 _ 3 (0,0) ((World.putObj_heap_other hD2.symm).trans k1);have KL:=zh kL;have KD:=zh kD;have HB9:=zh hB9;have hszD:w.heap.size≤D:=by omega
  rw [←hW9];clear hW9 k0 k1 kL kD hB9 c4 c5 f4 f5 c6 g5 g6 h5 h6
  gi_wp2
  refine ⟨by simp,.inl ⟨_,_,rfl,run_takeDeferred KD.out,?_⟩⟩;refine ⟨.tuple #[.slice A n c,.int .i64 (lpP (zfV X O v s))],by simp [results,Tryz.results186,go_sem,p0,p1],A,n,c,rfl,⟨?_,KL.out.len⟩,?_⟩
  ·exact ziS (by omega) (ownsRow_putObj KL.out.own _ KD.out rfl)
  ·exact (HPP.out.be.trans HB9.out).grown (grownBy_putObj' W9 D _) (zsB HPP.out.be.size HB9.out.size) (fun k e=>by cases e;exact hszD)
 case stop =>
  rintro D c pre W _ _ h _;exact h.elim
end
section
open Dk
theorem zcj {w:World} {b:Nat} {a m v:Int} (h:w.heap[b]?=some (.cells (rgc a m v) 138 (0,0))):w.cell? ⟨b,0,none⟩=some (.int .i64 a)∧w.cell? ⟨b,1,none⟩=some (.int .i64 m)∧w.cell? ⟨b,2,none⟩=some (.int .i64 v) :=
 ⟨zcr _ _ 0 _ 138 (0,0) h,zcr _ _ 1 _ 138 (0,0) h,zcr _ _ 2 _ 138 (0,0) h⟩
theorem zqD (g:Nat) (L:List Nat) (d:St) (b2 b3 B b at_ k:Nat) (m v:Int) (x:ByteArray) (w:World) (h:Dv w g L d) (h2:w.heap[b2]?=some (.cells #[ptr g] 24 (0,0))) (h3:w.heap[b3]?=some (.cells (rgc at_ m v) 138 (0,0)))
 (hs:Sb B b x w) (hB:B≤w.heap.size) (hx:x.size≤1099511627776) (hk:k≤1048576) (ha:at_≤1048576) :
 Calls Tryz.prog 185 #[.int .i64 k,ptr b2,ptr b3,ptr b] w fun e w'=>e=.returned (.int .i64 (d.refuses ((at_+k:Nat):Int)))∧Sb B b (x++txt (d.readS ((at_+k:Nat):Int))) w'∧Below B w w':=by
 have c2:w.cell? ⟨b2,0,none⟩=some (ptr g):=zcr w b2 0 _ 24 (0,0) h2;have c3:w.cell? ⟨b3,0,none⟩=some (.int .i64 at_):=zcr w b3 0 _ 138 (0,0) h3;have KR:=zh (zdZ g L d ((at_+k:Nat):Int) w h);have i1:((at_+k:Nat):Int)=(at_:Int)+(k:Int):=by omega
 have hrs:(txt (d.readS ((at_+k:Nat):Int))).size≤64:=by
  rw [zah];unfold St.readS
  split
  ·rw [h.1.now];omega
  ·exact zsE _
 rw [i1] at KR hrs ⊢;obtain ⟨Z,hZ⟩:∃ Z,Z=d.refuses ((at_:Int)+(k:Int)):=⟨_,rfl⟩;obtain ⟨T,hT⟩:∃ T,T=txt (d.readS ((at_:Int)+(k:Int))):=⟨_,rfl⟩;rw [←hZ,←hT] at KR ⊢;rw [←hT] at hrs;have KW:=zh (fun (W:World) (hW:Sb B b x W) (hb:B≤W.heap.size)=>zeT B b x T W hW (by omega) hb);have HS:=zh hs;clear hZ hT i1 hs h h2 h3;unfold ptr at *;go_enter Tryz.func185,Tryz.ntmps185
 go_upto_region 2 with (go_at_call 181;(with_reducible refine KR.out.mono ?_);rintro q w1 ⟨rfl,b1⟩)
 have HS1:=zh (HS.out.below b1);have HB1:Hid (Below B w w1):=(Below.refl B w).trans (b1.mono hB);clear b1
 go_wp2_with (go_at_call 182;(with_reducible refine (KW.out _ HS1.out (zsB hB HB1.out.size)).mono ?_);rintro q w2 ⟨rfl,hs2,b2⟩)
 go_ret;exact ⟨rfl,hs2,HB1.out.trans b2⟩
theorem zdX {w:World} {B B':Nat} {e:TypeId} {size:Nat} {v:Value} {n:Nat} {xs:List Value} (hB:B'≤B) (h:w.ownsRow B e size v n xs):w.ownsRow B' e size v n xs:=by
 obtain ⟨hl,h⟩:=h;refine ⟨hl,?_⟩;rcases h with h|⟨g,cap,cur,hv,hb,r⟩
 ·exact .inl h
 ·exact .inr ⟨g,cap,cur,hv,zsB hB hb,r⟩
def rdZ (d:St) (at_ m:Nat) (v:Int):Int:=if onB d.n at_ m v then (if d.dead then 7 else 0) else 1
def zjK (X:ByteArray→En) (O:ByteArray→Bool) (d:St) (at_ m:Nat) (v:Int):List En:=if onB d.n at_ m v&&!d.dead then zkM X O v (rdB d at_ m) else []
def zjL (X:ByteArray→En) (O:ByteArray→Bool) (d:St) (at_ m:Nat) (v:Int):Nat:=if onB d.n at_ m v&&!d.dead then zmK X O v (rdB d at_ m) else 0
theorem zh1 (v:Int) (s:ByteArray):zfV (fun _=>ezz) (fun _=>false) v s=[]:=by
 unfold zfV pl frB
 simp
theorem zh2 (v:Int) (s:ByteArray):zkM (fun _=>ezz) (fun _=>false) v s=[]:=by unfold zkM;rw [zh1];rfl
theorem zh3 (v:Int) (s:ByteArray):zmK (fun _=>ezz) (fun _=>false) v s=0:=by unfold zmK;rw [zh1];rfl
theorem zqE (X:ByteArray→En) (V:ByteArray→Int) (O:ByteArray→Bool) (g:Nat) (L:List Nat) (d:St) (at_ m:Nat) (v:Int) (w:World) (h:Dv w g L d) (ha:at_≤1048576) (hm:m≤1048576) (hG:(∃ k,nOk (tlB (rdB d at_ m) k)=true)→zqC 293 X V O) :
 Calls Tryz.prog 123 #[ptr g,RG at_ m v] w fun e w'=>∃ A n c,e=.returned (.tuple #[.slice A n c,.int .i64 (zjL X O d at_ m v),.int .i64 (rdZ d at_ m v)])∧Le w.heap.size A n c (zjK X O d at_ m v) w'∧Below w.heap.size w w':=by
 obtain ⟨W,hW⟩:∃ W,W=(w.alloc (.cells #[ptr g] 24)).alloc (.cells (rgc at_ m v) 138):=⟨_,rfl⟩;have hB:Below w.heap.size w W:=by rw [hW];exact ((Below.refl _ w).alloc (zsy _) _).alloc (by simp) _
 have h2:W.heap[w.heap.size]?=some (.cells #[ptr g] 24 (0,0)):=by rw [hW,zsG _ _ _ (by simp)];exact zsz w _
 have h3:W.heap[w.heap.size+1]?=some (.cells (rgc at_ m v) 138 (0,0)):=by
  rw [hW]
  have:=zsz (w.alloc (.cells #[ptr g] 24)) (.cells (rgc at_ m v) 138)
  rwa [zsI] at this
 have K1:=zh (zgW g L d at_ m v W (h.below hB) ha hm);have HB:=zh hB;have HW:=zh hW;have H2:=zh h2;have H3:=zh h3;have HD:=zh h;have c2:W.cell? ⟨w.heap.size,0,none⟩=some (ptr g):=zcr W _ 0 _ 24 (0,0) h2;obtain ⟨c3,c4,c5⟩:=zcj h3;clear hB hW h2 h3 h
 cases hon:onB d.n at_ m v with
 | false =>
   have r1:zjL X O d at_ m v=0:=by unfold zjL;rw [hon];rfl
   have r2:rdZ d at_ m v=1:=by unfold rdZ;rw [hon];rfl
   have r3:zjK X O d at_ m v=[]:=by unfold zjK;rw [hon];rfl
   rw [r1,r2,r3,show ((0:Nat):Int)=0 from rfl];rw [hon] at K1;clear r1 r2 r3 hon;unfold ptr at *;go_enter Tryz.func123,Tryz.ntmps123
   go_upto_region 1 with fail
   refine zaf (w:=W) HW.out.symm ?_
   go_wp2_with (go_at_call 139;(with_reducible refine K1.out.mono ?_);rintro q w1 ⟨rfl,b1⟩)
   go_ret3
   exact ⟨none,0,0,rfl,Le.nil _ _,HB.out.trans (b1.mono HB.out.size)⟩
 | true =>
   rw [hon] at K1
   obtain ⟨hm1,hmn⟩:1≤m∧at_+m≤d.n:=by
    unfold onB at hon;rw [zsR,zsR] at hon;have h1:=of_decide_eq_true hon.1.1;have h2:=of_decide_eq_true hon.2;exact ⟨h1,by omega⟩
   have hre:∀ k,k<m→d.refuses ((at_+k:Nat):Int)=if d.dead then 7 else 0:=fun k hk=>by
    unfold St.refuses
    split
    ·rfl
    ·rw [if_neg (by omega)]
   have KEY:Hid (∀ W1 b,b=W1.heap.size→Below w.heap.size w W1→W1.heap[w.heap.size]?=some (.cells #[ptr g] 24 (0,0))→W1.heap[w.heap.size+1]?=some (.cells (rgc at_ m v) 138 (0,0)) →
    Calls Tryz.prog 184 #[.int .i64 0,.int .i64 m,.func (.func 185) #[] #[ptr w.heap.size,ptr (w.heap.size+1),ptr b]] (W1.alloc (.cells #[.pointer none,.slice none 0 0] 151)) fun e w'=>e=.returned (.int .i64 (if d.dead then 7 else 0))∧(d.dead=false→Sb b b (rdB d at_ m) w')∧Below b W1 w'):=fun W1 b hb hB1 hc2 hc3=>by
    have hD1:=HD.out.below hB1;have hbl:Below b W1 (W1.alloc (.cells #[.pointer none,.slice none 0 0] 151)):=(Below.refl b W1).alloc (by omega) _;have hsz:(W1.alloc (.cells #[.pointer none,.slice none 0 0] 151)).heap.size=b+1:=by rw [zsI,hb]
    have hs0:Sb b b ⟨#[]⟩ (W1.alloc (.cells #[.pointer none,.slice none 0 0] 151)):=by rw [hb];exact Lib.fresh_isBuilder 151 5 W1
    refine (zh4 185 (.inr rfl) (ptr w.heap.size) (ptr (w.heap.size+1)) (ptr b) 0 m
     (fun k w1=>(d.dead=true→k=0)∧Sb b b (txt (zej (fun i=>d.now (at_+i)) k)) w1∧Below b W1 w1) (fun z w1=>z=7∧d.dead=true∧Below b W1 w1) _ (zsE _) (by omega) ⟨fun _=>rfl,hs0,hbl⟩ ?_).mono ?_
    ·rintro k w1 _ hk ⟨hdk,hsb,hbw⟩;have hw1:b≤w1.heap.size:=by have:=hbw.size;omega
     have hD2:Dv w1 g L d:=hD1.below (hb▸hbw)
     have hx:(txt (zej (fun i=>d.now (at_+i)) k)).size≤1099511627776:=by
      rw [zah,zbU _ (fun i=>HD.out.1.now _)];omega
     refine (zqD g L d w.heap.size (w.heap.size+1) b b at_ k m v _ w1 hD2 ((hbw.block _ (by have:=(zgx hc2);omega)).trans hc2) ((hbw.block _ (by have:=(zgx hc3);omega)).trans hc3) hsb hw1 hx (by omega) ha).mono ?_;rintro e w2 ⟨rfl,hs2,hb2⟩;rw [hre k hk];refine ⟨_,rfl,fun hz=>?_,fun hz=>?_⟩
     ·have hdd:d.dead=false:=by
       cases hd:d.dead with
       | false=>rfl
       | true=>rw [hd] at hz;simp at hz
      refine ⟨fun h=>absurd (hdd.symm.trans h) (by decide),?_,hbw.trans hb2⟩
      have e1:d.readS ((at_+k:Nat):Int)=d.now (at_+k):=by
       unfold St.readS;rw [hre k hk,hdd]
       simp
       rw [show ((at_:Int)+(k:Int)).toNat=at_+k by omega]
      rw [e1] at hs2
      have e2:txt (zej (fun i=>d.now (at_+i)) k)++txt (d.now (at_+k))=txt (zej (fun i=>d.now (at_+i)) (k+1)):=by
       apply ByteArray.ext;apply Array.toList_inj.1;rw [ztb,ztn,zal,zal,zal,zej]
      rw [e2] at hs2;exact hs2
     ·have hdd:d.dead=true:=by
       cases hd:d.dead with
       | false=>rw [hd] at hz;simp at hz
       | true=>rfl
      exact ⟨by rw [hdd];rfl,hdd,hbw.trans hb2⟩
    ·rintro e w1 ⟨z,rfl,hz0,hz1⟩
     by_cases hz:z=0
     ·obtain ⟨h1,h2,h3⟩:=hz0 hz
      have hdd:d.dead=false:=by
       cases hd:d.dead with
       | false=>rfl
       | true=>have:=h1 hd;omega
      refine ⟨by rw [hz,hdd];rfl,fun _=>h2,h3⟩
     ·obtain ⟨h1,h2,h3⟩:=hz1 hz;exact ⟨by rw [h1,h2];rfl,fun h=>absurd (h2.symm.trans h) (by decide),h3⟩
   have KP:=zh (fun (W:World)=>zmG X V O v (rdB d at_ m) W (by unfold rdB;rw [zah,zbU _ (fun i=>HD.out.1.now _)];omega) hG);have KT:=zh (fun (b:Nat) (W:World) (h:Sb b b (rdB d at_ m) W) (hb:b≤W.heap.size)=>zg0 b b (rdB d at_ m) W h hb);have HRU:Hid (zjL X O d at_ m v=if d.dead then 0 else zmK X O v (rdB d at_ m)):=by show _=_;unfold zjL;rw [hon];cases d.dead<;>rfl
   have HRE:Hid (zjK X O d at_ m v=if d.dead then [] else zkM X O v (rdB d at_ m)):=by show _=_;unfold zjK;rw [hon];cases d.dead<;>rfl
   have HRZ:Hid (rdZ d at_ m v=if d.dead then 7 else 0):=by show _=_;unfold rdZ;rw [hon,if_pos rfl]
   obtain ⟨RU,hRU⟩:∃ x,x=zjL X O d at_ m v:=⟨_,rfl⟩;obtain ⟨RE,hRE⟩:∃ x,x=zjK X O d at_ m v:=⟨_,rfl⟩;obtain ⟨RZ,hRZ⟩:∃ x,x=rdZ d at_ m v:=⟨_,rfl⟩;obtain ⟨S,hS⟩:∃ S,S=rdB d at_ m:=⟨_,rfl⟩;obtain ⟨pe,hpe⟩:∃ pe,pe=zkM X O v S:=⟨_,rfl⟩;obtain ⟨pu,hpu⟩:∃ pu,pu=zmK X O v S:=⟨_,rfl⟩;rw [←hRU,←hRE,←hRZ];rw [←hRU] at HRU;rw [←hRE] at HRE;rw [←hRZ] at HRZ;rw [←hS] at KEY KP KT HRU HRE;rw [←hpe,←hpu] at KP;rw [←hpu] at HRU;rw [←hpe] at HRE;clear hRU hRE hRZ hS hpe hpu hre hon hmn hm1 hG;unfold ptr at *
   cases hdd:d.dead with
   | true =>
     rw [hdd] at KEY HRU HRE HRZ;obtain rfl:RU=0:=HRU.out;obtain rfl:RE=[]:=HRE.out;obtain rfl:RZ=7:=HRZ.out;clear HRU HRE HRZ hdd KP KT;go_enter Tryz.func123,Tryz.ntmps123
     go_upto_region 1 with fail
     refine zaf (w:=W) HW.out.symm ?_
     go_upto_region 3 with (go_at_call 139;(with_reducible refine K1.out.mono ?_);rintro q w1 ⟨rfl,b1⟩)
     have HB1:=zh (HB.out.trans (b1.mono HB.out.size));have H21:=zh ((b1.block _ (zgx H2.out)).trans H2.out);have H31:=zh ((b1.block _ (zgx H3.out)).trans H3.out);have KK:=zh (KEY.out w1 w1.heap.size rfl HB1.out H21.out H31.out);have f1:(w1.alloc (.cells #[.pointer none,.slice none 0 0] 151)).cell? ⟨w.heap.size+1,1,none⟩=some (.int .i64 m):=(zcj ((zsG _ _ _ (zgx H31.out)).trans H31.out)).2.1;clear b1 c2 c3 c4 c5
     go_wp2_with (go_at_call 184;(with_reducible refine KK.out.mono ?_);rintro q w2 ⟨rfl,_,b2⟩)
     go_ret3
     exact ⟨none,0,0,rfl,Le.nil _ _,HB1.out.trans (b2.mono HB1.out.size)⟩
   | false =>
     rw [hdd] at KEY HRU HRE HRZ;obtain rfl:RU=pu:=HRU.out;obtain rfl:RE=pe:=HRE.out;obtain rfl:RZ=0:=HRZ.out;clear HRU HRE HRZ hdd;go_enter Tryz.func123,Tryz.ntmps123
     go_upto_region 1 with fail
     refine zaf (w:=W) HW.out.symm ?_
     go_upto_region 3 with (go_at_call 139;(with_reducible refine K1.out.mono ?_);rintro q w1 ⟨rfl,b1⟩)
     have HB1:=zh (HB.out.trans (b1.mono HB.out.size));have H21:=zh ((b1.block _ (zgx H2.out)).trans H2.out);have H31:=zh ((b1.block _ (zgx H3.out)).trans H3.out);have KK:=zh (KEY.out w1 w1.heap.size rfl HB1.out H21.out H31.out);have f1:(w1.alloc (.cells #[.pointer none,.slice none 0 0] 151)).cell? ⟨w.heap.size+1,1,none⟩=some (.int .i64 m):=(zcj ((zsG _ _ _ (zgx H31.out)).trans H31.out)).2.1;clear b1 c2 c3 c4 c5
     go_upto_region 7 with (go_at_call 184;(with_reducible refine KK.out.mono ?_);rintro q w2 ⟨rfl,hs2,b2⟩)
     have HS2:Hid (Sb w1.heap.size w1.heap.size S w2.drew):=(show Sb w1.heap.size w1.heap.size S w2 from hs2 trivial).below (Below.refl _ w2).drew;have HB2:Hid (Below w1.heap.size w1 w2.drew):=b2.drew;have HC2:Hid (w2.drew.heap[w.heap.size+1]?=some (.cells (rgc at_ m v) 138 (0,0))):=(HB2.out.block _ (zgx H31.out)).trans H31.out;have f2:w2.drew.cell? ⟨w.heap.size+1,2,none⟩=some (.int .i64 v):=(zcj HC2.out).2.2;clear hs2 b2 f1
     go_region_law (first
      | (go_simp;go_at_call 94;(with_reducible refine (KT.out _ _ HS2.out HB2.out.size).mono ?_);rintro q w4 ⟨rfl,b4⟩;have HB4:Hid (Below w1.heap.size w1 w4):=HB2.out.trans b4;have f4:w4.cell? ⟨w.heap.size+1,2,none⟩=some (.int .i64 v):=(zcj ((HB4.out.block _ (zgx H31.out)).trans H31.out)).2.2;clear b4)
      | (go_simp;go_at_call 186;(with_reducible refine (KP.out _).mono ?_);rintro q w5 ⟨A5,n5,c5',rfl,hL5,b5⟩))
     all_goals
      go_wp2
      go_ret3
      exact ⟨A5,n5,c5',rfl,⟨zdX (zsB HB1.out.size HB4.out.size) hL5.own,hL5.len⟩,HB1.out.trans ((HB4.out.trans (b5.mono HB4.out.size)).mono HB1.out.size)⟩
theorem zrL (g:Nat) (L:List Nat) (d:St) (at_ m:Nat) (v:Int) (w:World) (h:Dv w g L d) (ha:at_≤1048576) (hm:m≤1048576) (hon:onB d.n at_ m v=true) (hd:d.dead=false) (hz:∀ k,nOk (tlB (rdB d at_ m) k)=false) :
 Calls Tryz.prog 123 #[ptr g,RG at_ m v] w fun e w'=>∃ A n c,e=.returned (.tuple #[.slice A n c,.int .i64 0,.int .i64 0])∧Le w.heap.size A n c [] w'∧Below w.heap.size w w':=by
 have:=zqE (fun _=>ezz) (fun _=>0) (fun _=>false) g L d at_ m v w h ha hm (fun ⟨k,hk⟩=>by rw [hz k] at hk;cases hk)
 have e1:zjK (fun _=>ezz) (fun _=>false) d at_ m v=[]:=by unfold zjK;rw [hon,hd];exact zh2 v _
 have e2:zjL (fun _=>ezz) (fun _=>false) d at_ m v=0:=by unfold zjL;rw [hon,hd];exact zh3 v _
 have e3:rdZ d at_ m v=0:=by unfold rdZ;rw [hon,hd];rfl
 rw [e1,e2,e3] at this;exact this
end
section
open Dk Vi
abbrev e11:En:=⟨1,1,0,0,0,0,0,0,0,⟨#[]⟩,⟨#[]⟩⟩
theorem zky {b:ByteArray} (h:b.size≤1048576):(pack 1 b).size=9+b.size:=by
 unfold pack;rw [zsH,zsH,zbg]
 have:(hdF 1 b.size).size=5:=by
  unfold hdF zic;have a1:(fxB (160+1:Int).toNat 1).size=1:=zad _ 1 (by omega);have a2:(fxB b.size 4).size=4:=zad _ 4 (by omega);rw [if_pos rfl,zsH,a1,a2]
 omega
theorem zpp:zep 1 e11:=ziT (.inl rfl) ⟨by decide,by decide,by decide,by decide,by decide,by decide,by decide,by decide,by decide,by decide,by decide,by decide,by decide,by decide,by decide,by decide,by decide,by decide,by decide,by decide⟩ (by decide +kernel) (fun _=>by decide +kernel)
theorem zmT {e:En} (h:zep 1 e) (hm:zdq e=true):(pS 1 e).size=119:=by
 have e1:D.ePv 1 e=pb e:=by show zeX e=_;unfold zeX;rw [if_pos hm]
 have hp:=zik (zi4 h.ok (zed hm));rw [h.s,e1,zky (by omega),hp]
theorem zh5 (es:List En) (h:∀ e∈es,zep 1 e∧zdq e=true):(rcA 1 (pS 1) es).size=128*es.length:=by
 have key:∀ (es:List En) (pre:List En),(∀ e∈es,zep 1 e∧zdq e=true)→(rcA 1 (pS 1) pre).size=128*pre.length→(rcA 1 (pS 1) (pre++es)).size=128*(pre++es).length:=by
  intro es;induction es with
  | nil=>intro pre _ h;rw [zth];exact h
  | cons e t ih =>
    intro pre h h0;have h1:=h e (by simp)
    have h2:(rcA 1 (pS 1) (pre++[e])).size=128*(pre++[e]).length:=by
     rw [zdW,zdV,zsH,zmT h1.1 h1.2,h0,zsS];unfold bgn;rw [if_pos rfl];simp only [zs2,List.length_nil];omega
    have h3:=ih (pre++[e]) (fun x hx=>h x (zsA _ hx)) h2;rw [zsZ] at h3;exact h3
 have:=key es [] h rfl
 simpa using this
theorem zjN {v:Int} {es:List En} (hv:v=1∨v=2) (h:∀ e∈es,zep v e):rcS v (pS v) (pO v) es=rcA v (pS v) es∧rcO v (pO v) es=true:=by
 have hk:knB v=true:=zsD hv;have ha:es.all (pO v)=true:=List.all_eq_true.2 fun e he=>(h e he).o;unfold rcS rcO;rw [hk,ha];exact ⟨rfl,rfl⟩
theorem zoQ {w:World} {g:Nat} {cs:Array Value} {es:List En} (h:w.heap[g]?=some (.cells cs 69 (0,0))) (hcs:cs.toList=flat es):zcJ w.heap.size (some ⟨g,0,none⟩) es.length es w:=by
 refine ⟨rfl,fun i x hx=>⟨⟨g,0,none⟩,rfl,(zgx h),fun j hj=>?_⟩⟩;have hc:∀ k,w.cell? ⟨g,k,none⟩=(flat es)[k]?:=fun k=>by rw [←hcs,zto];exact zcr w g k _ 69 (0,0) h
 rw [Addr.add_mid,Addr.add_mid,hc,zs0];exact zdy es i x hx j hj
end
section
open Dk
theorem zpo {d:St} {n:Nat} (h:Alv d n) (first:Nat) (l:List UInt8) (hf:first+(l.length+63) / 64≤n):(wrS d first l).2=0∧Alv (wrS d first l).1 n:=zkS first l n _ 0 d h (by omega)
theorem zmF {v:Int} {m u:Nat} {es:List En} (hv:v=1∨v=2) (hg:∀ e∈es,zep v e) (hf:u+(rcA v (pS v) es).size≤m*64):rgS v m u es=rcA v (pS v) es∧rgE v m u es=0:=by
 obtain ⟨h1,h2⟩:=zjN hv hg;have hd:((rcA v (pS v) es).size:Int)≤((m*64:Nat):Int)-u:=by omega
 unfold rgS rgE;rw [h1,h2,zsD hd,if_pos rfl,if_pos hd];exact ⟨if_pos rfl,rfl⟩
theorem zoK {v:Int} {m u:Nat} {es:List En} (hv:v=1∨v=2) (hg:∀ e∈es,zep v e) (hf:¬ u+(rcA v (pS v) es).size≤m*64):rgE v m u es=4:=by
 obtain ⟨h1,h2⟩:=zjN hv hg;unfold rgE;rw [h1,h2,if_pos rfl,if_neg (by omega)]
theorem zoL {d:St} {n at_ u:Nat} (h:Alv d n) (ok:d.Ok) (hu:u % 64≠0→at_+u / 64<n):(ahL d at_ u).length=u % 64∧ahZ d at_ u=0:=by
 unfold ahL ahZ
 by_cases h0:u % 64=0
 ·rw [if_pos h0,if_pos h0];exact ⟨h0.symm,rfl⟩
 ·rw [if_neg h0,if_neg h0,h.refuses (hu h0),if_pos rfl,zsU,ok.now];exact ⟨by omega,rfl⟩
theorem zoM {d:St} {at_ m u:Nat} {v:Int} {es:List En} (hv:v=1∨v=2) (hg:∀ e∈es,zep v e) (hf:¬ u+(rcA v (pS v) es).size≤m*64):zby d at_ m v u es=(d,0,4):=by
 unfold zby;rw [zoK hv hg hf,if_pos (by decide)]
end
section
open Dk
theorem zmA {d:St} {n:Nat} (h:Alv d n) (first:Nat) (l:List UInt8) (hf:first+(l.length+63) / 64≤n) (j:Nat):(wrS d first l).1.now j=if first≤j∧j<first+(l.length+63) / 64 then sx l (j-first) else d.now j:=by
 have:=zig first l n ((l.length+63) / 64) 0 d h (by omega) j
 rw [Nat.add_zero] at this;exact this
theorem zpn {T:List UInt8} {i:Nat} (h:T.length≤i*64):sx T i=zsec:=by
 unfold sx pad zsec;rw [zti h];rfl
def zgV (d:St) (at_ m:Nat) (T:List UInt8):Prop:=∀ i,i<m→d.now (at_+i)=sx T i
theorem zrG (T s:List UInt8) (i:Nat) (hi:i<T.length / 64):sx (T++s) i=sx T i:=by
 unfold sx
 congr 1
 rw [List.drop_append_of_le_length (by omega),ztI (by rw [zs4];omega)]
theorem zqB (T s:List UInt8) (q i:Nat) (hq:q*64≤T.length):sx ((T.drop (q*64))++s) i=sx (T++s) (q+i):=by
 unfold sx
 congr 2
 rw [show (q+i)*64=q*64+i*64 by omega,←List.drop_drop,List.drop_append_of_le_length hq]
theorem zoI {d:St} {n at_ m:Nat} {T:List UInt8} (h:Alv d n) (hn:at_+m≤n) (hT:T.length≤m*64) (hH:zgV d at_ m T):ahL d at_ T.length=T.drop (T.length / 64*64):=by
 unfold ahL
 by_cases h0:T.length % 64=0
 ·rw [if_pos h0,zti (by omega)]
 ·rw [if_neg h0,h.refuses (by omega),if_pos rfl,hH _ (by omega)];unfold sx pad;have hl:(T.drop (T.length / 64*64)).length=T.length % 64:=by rw [zs4];omega
  rw [zsX (l:=T.drop (T.length / 64*64)) (by omega),ztI (by omega),zsX (by omega)]
theorem zmB {d:St} {n at_ m:Nat} {v:Int} {es:List En} {T:List UInt8} (h:Alv d n) (ok:d.Ok) (hv:v=1∨v=2) (hg:∀ e∈es,zep v e) (hf:T.length+(rcA v (pS v) es).size≤m*64) (hn:at_+m≤n) (hH:zgV d at_ m T) :
 ∃ d',zby d at_ m v T.length es=(d',((T.length+(rcA v (pS v) es).size:Nat):Int),0)∧Alv d' n∧zgV d' at_ m (T++(rcA v (pS v) es).data.toList)∧∀ j,j<at_∨at_+m≤j→d'.now j=d.now j:=by
 obtain ⟨r1,r2⟩:=zmF (m:=m) (u:=T.length) hv hg hf;have hlz:(rcA v (pS v) es).data.toList.length=(rcA v (pS v) es).size:=by rw [zta];rfl
 by_cases hz:rcA v (pS v) es=⟨#[]⟩
 ·refine ⟨d,?_,h,?_,fun _ _=>rfl⟩
  ·unfold zby;rw [r1,r2,if_neg (by simp),if_pos hz,hz];rfl
  ·rw [hz];show zgV d at_ m (T++[]);rw [zth];exact hH
 obtain ⟨a1,a2⟩:=zoL (at_:=at_) (u:=T.length) h ok (fun _=>by omega);have ae:=zoI h hn (by omega) hH;obtain ⟨s,hs⟩:∃ s,s=rcA v (pS v) es:=⟨_,rfl⟩;rw [←hs] at r1 hz hf hlz ⊢;have hlen:(ahL d at_ T.length++s.data.toList).length=T.length % 64+s.size:=by rw [zsS,a1,hlz]
 have e1:T.length-T.length % 64=T.length / 64*64:=by omega
 have e2:T.length / 64*64 / 64=T.length / 64:=by omega
 have hcap:at_+T.length / 64+(T.length % 64+s.size+63) / 64≤at_+m:=by omega
 obtain ⟨w1,w2⟩:=zpo h (at_+T.length / 64) (ahL d at_ T.length++s.data.toList) (by rw [hlen];omega);have wn:=zmA h (at_+T.length / 64) (ahL d at_ T.length++s.data.toList) (by rw [hlen];omega);refine ⟨(wrS d (at_+T.length / 64) (ahL d at_ T.length++s.data.toList)).1,?_,w2,?_,?_⟩
 ·unfold zby;rw [r1,r2,a1,a2,e1,e2,if_neg (by simp),if_neg hz,if_neg (by simp),if_neg (by rw [w1];simp)]
 ·intro i hi;rw [wn,hlen]
  by_cases h1:at_+T.length / 64≤at_+i∧at_+i<at_+T.length / 64+(T.length % 64+s.size+63) / 64
  ·rw [if_pos h1,ae,show at_+i-(at_+T.length / 64)=i-T.length / 64 by omega,zqB _ _ _ _ (by omega),show T.length / 64+(i-T.length / 64)=i by omega]
  ·rw [if_neg h1,hH i hi]
   by_cases h2:i<T.length / 64
   ·rw [zrG _ _ _ h2]
   ·rw [zpn (T:=T) (by omega),zpn (by rw [zsS,hlz];omega)]
 ·intro j hj;rw [wn,hlen,if_neg (by omega)]
theorem zmC {d:St} {at_ m:Nat} {T:List UInt8} (hT:T.length≤m*64) (h:zgV d at_ m T):rdB d at_ m=txt T++zz (m*64-T.length):=by
 unfold rdB;rw [zkT _ T m h,zsX (by rw [zsS,ztj];omega),zmz,zz_list]
theorem zfy {d:St} {n:Nat} (h:Alv d n):d.flush.2=0∧Alv d.flush.1 n∧∀ j,d.flush.1.now j=d.now j:=by
 have hl:d.step.left=-1:=by show (if 0<d.left then d.left-1 else d.left)=-1;rw [h.l];rfl
 have e:d.flush=(d.step.settle,0):=by
  unfold St.flush St.try_;rw [if_neg (by rw [h.l];decide),if_neg (by rw [h.x];decide)]
 rw [e];exact ⟨rfl,⟨h.n,hl,h.x⟩,fun j=>rfl⟩
theorem ziP {v:Int} {S:En→ByteArray} (a b:List En) (hv:v≠1∨(rcA v S a).size % 64=0):rcA v S (a++b)=rcA v S a++rcA v S b:=by
 have key:∀ (b:List En) (s t:ByteArray),(v≠1∨s.size % 64=0)→b.foldl (fun s e=>padv v (s++S e)) (s++t)=s++b.foldl (fun s e=>padv v (s++S e)) t:=by
  intro b;induction b with
  | nil=>intro s t _;rfl
  | cons e b ih =>
    intro s t h;rw [List.foldl_cons,List.foldl_cons,←ih s _ h]
    congr 1
    unfold padv
    have h1:bgn v (s++t++S e).size-(s++t++S e).size=bgn v (t++S e).size-(t++S e).size:=by
     simp only [zsH];unfold bgn;rcases h with h|h
     ·rw [if_neg h,if_neg h];omega
     ·split<;>omega
    rw [h1];apply ByteArray.ext;simp [ztb,Array.append_assoc]
 unfold rcA;rw [List.foldl_append]
 have:=key b (rcA v S a) ⟨#[]⟩ hv
 have e0:rcA v S a++(⟨#[]⟩:ByteArray)=rcA v S a:=by apply ByteArray.ext;simp [ztb]
 rw [e0] at this;exact this
theorem zeP (a:List En):(rcA 1 (pS 1) a).size % 64=0:=by
 rcases List.eq_nil_or_concat a with rfl|⟨l,e,rfl⟩
 ·rfl
 ·rw [List.concat_eq_append,zdW,zdV];unfold bgn;rw [if_pos rfl];omega
theorem zrH (n:Nat):nOk (zz n)=false:=by
 cases n with
 | zero=>exact zmM rfl
 | succ n =>
   have hf:Vi.zaZ (zz (n+1)) 1=0:=by
    unfold Vi.zaZ
    split
    ·have hn:Vi.nums (zz (n+1))=0 :: Vi.nums (zz n):=by
      unfold Vi.nums;rw [zz_list,zz_list];rfl
     rw [hn];rfl
    ·rfl
   unfold nOk nV;rw [hf];rfl
end
theorem zmJ (b:Nat):∀ (es out:List En),(∀ i e,es[i]?=some e→e.index=((b+out.length+i+1:Nat):Int))→jn b out es=some (out++es)
 | [],out,_=>by rw [zth];rfl
 | e :: t,out,h=>by
   have h0:=h 0 e rfl
   have hi:=zmJ b t (out++[e]) fun i x hx=>by
    have:=h (i+1) x hx
    rw [this,zsS]
    simp
    omega
   rw [jn,if_neg (by omega),show (e.index-1-(b:Int)).toNat=out.length by omega,List.take_length,hi,zsZ];rfl
theorem zsg (b k:Nat) (a m:List En) (hk:k≤a.length) (h:∀ i e,m[i]?=some e→e.index=((b+k+i+1:Nat):Int)):jn b a m=some (if m=[] then a else a.take k++m):=by
 cases m with
 | nil=>rw [if_pos rfl];rfl
 | cons e t =>
   have h0:=h 0 e rfl;rw [if_neg (by simp),jn,if_neg (by omega),show (e.index-1-(b:Int)).toNat=k by omega];have hl:(a.take k++[e]).length=k+1:=by simp;omega
   rw [zmJ b t (a.take k++[e]) fun i x hx=>by
    have:=h (i+1) x hx
    rw [this,hl]
    omega]
   simp
theorem zrJ (b:Nat) (a m:List En) (h:∀ i e,m[i]?=some e→e.index=((b+a.length+1+i+1:Nat):Int)):jn b a m=if m=[] then some a else none:=by
 cases m with
 | nil=>rw [if_pos rfl];rfl
 | cons e t =>
   have h0:=h 0 e rfl;rw [if_neg (by simp),jn,if_pos (by omega)]
end Go.Proofs.YtidndekacnmihaaGreat
