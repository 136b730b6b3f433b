/-
  WalPlays: WD WU WV WW WDb WAd.
  Conditions: named in each theorem.
-/
import Derived.Test.YtnobeoppffoomaaGreatP08
import Derived.Test.YtnobeoppffoomaaGreatP31
import Derived.Test.YtnobeoppffoomaaGreatP02
import Derived.Test.YtnobeoppffoomaaGreatP0
set_option linter.unusedVariables false
set_option linter.unusedSimpArgs false
set_option maxHeartbeats 8000000
set_option maxRecDepth 100000
namespace Go.Proofs.YtnobeoppffoomaaGreat
open Go.RowKit
open Dk
abbrev RG (at_ many v:Int):Value:=.agg #[.int .i64 at_,.int .i64 many,.int .i64 v]
abbrev rgc (at_ many v:Int):Array Value:=#[.int .i64 at_,.int .i64 many,.int .i64 v]
theorem dsec_any (g:Nat) (L:List Nat) (d:St) (w:World) (h:Dv w g L d):Calls Tryz.prog 101 #[ptr g] w fun e w'=>e=.returned (.int .i64 d.n)∧w=w':=by
 obtain ⟨ho,fb,mb,cap,rfl,h⟩:=h
 have c0:=h.c0
 clear h
 unfold ptr
 go_enter Tryz.func101,Tryz.ntmps101
 go_wp2
 go_ret
 exact ⟨rfl,rfl⟩
theorem rsize_any (at_ v:Int) (m:Nat) (w:World) (hm:m≤1048576):Calls Tryz.prog 67 #[RG at_ m v] w fun e w'=>e=.returned (.int .i64 (m*64:Nat))∧Below w.heap.size w w':=by
 have hB:=(Below.refl w.heap.size w).alloc (Nat.le_refl _) (.cells (rgc at_ m v) 40)
 have e1:((m*64:Nat):Int)=(m:Int)*64:=by omega
 rw [e1]
 go_enter Tryz.func67,Tryz.ntmps67
 go_wp2
 go_ret
 exact ⟨rfl,hB⟩
def hasB (m:Nat) (u:Int):Bool:=decide (0≤u∧u≤((m*64:Nat):Int))
theorem rhas_any (at_ v u:Int) (m:Nat) (w:World) (hm:m≤1048576):Calls Tryz.prog 68 #[RG at_ m v,.int .i64 u] w fun e w'=>e=.returned (.bool (hasB m u))∧Below w.heap.size w w':=by
 have hB:=(Below.refl w.heap.size w).alloc (Nat.le_refl _) (.cells (rgc at_ m v) 40)
 have HB:=zh hB
 have K:=zh (fun W=>rsize_any at_ v m W hm)
 obtain ⟨Z,hZ⟩:∃ Z:Int,Z=((m*64:Nat):Int):=⟨_,rfl⟩
 unfold hasB
 rw [←hZ] at K ⊢
 clear hB hZ
 by_cases h0:0≤u
 ·have t0:decide (0≤u)=true:=decide_eq_true h0
  have e1:decide (0≤u∧u≤Z)=decide (u≤Z):=by rw [decide_eq_decide];omega
  rw [e1]
  clear e1
  go_enter Tryz.func68,Tryz.ntmps68
  go_wp2_with (go_at_call 67;(with_reducible refine (K.out _).mono ?_);rintro q w1 ⟨rfl,b1⟩)
  go_ret
  exact ⟨rfl,HB.out.trans (b1.mono HB.out.size)⟩
 ·have t0:decide (0≤u)=false:=decide_eq_false h0
  have e1:decide (0≤u∧u≤Z)=false:=decide_eq_false (by omega)
  rw [e1]
  clear e1
  go_enter Tryz.func68,Tryz.ntmps68
  go_wp2_with (go_at_call 67;(with_reducible refine (K.out _).mono ?_);rintro q w1 ⟨rfl,b1⟩)
  go_ret
  exact ⟨rfl,HB.out⟩
def onB (n at_ m:Nat) (v:Int):Bool:=decide (1≤m)&&knB v&&decide ((m:Int)≤(n:Int)-at_)
theorem ron_any (g:Nat) (L:List Nat) (d:St) (at_ m:Nat) (v:Int) (w:World) (h:Dv w g L d) (ha:at_≤1048576) (hm:m≤1048576) :
 Calls Tryz.prog 64 #[RG at_ m v,ptr g] w fun e w'=>e=.returned (.bool (onB d.n at_ m v))∧Below w.heap.size w w':=by
 have hB:=(Below.refl w.heap.size w).alloc (Nat.le_refl _) (.cells (rgc at_ m v) 40)
 have HB:Hid (∀ k,Below w.heap.size w ((w.alloc (.cells (rgc at_ m v) 40)).drewN k)):=fun k=>below_drewN hB k
 have hc:=heap_alloc_new w (.cells (rgc at_ m v) 40)
 have n2:=h.1.n2
 have K1:Hid (∀ W,Calls Tryz.prog 35 #[.int .i64 v] W fun q w'=>q=.returned (.bool (knB v))∧w'=W):=fun W=>(known_any v W).mono fun q w' h=>⟨h.1,h.2.symm⟩
 have K2:Hid (∀ W,Dv W g L d→Calls Tryz.prog 101 #[ptr g] W fun q w'=>q=.returned (.int .i64 d.n)∧w'=W):=fun W hW=>(dsec_any g L d W hW).mono fun q w' h=>⟨h.1,h.2.symm⟩
 have HD:Hid (∀ k,Dv ((w.alloc (.cells (rgc at_ m v) 40)).drewN k) g L d):=fun k=>h.below (below_drewN ((Below.refl w.heap.size w).alloc (Nat.le_refl _) (.cells (rgc at_ m v) 40)) k)
 obtain ⟨N,hN⟩:∃ N,N=d.n:=⟨_,rfl⟩
 rw [←hN] at K2 n2 ⊢
 clear hB hN h
 have t0:decide (0≤(at_:Int))=true:=decide_eq_true (by omega)
 have c0:(w.alloc (.cells (rgc at_ m v) 40)).drew.cell? ⟨w.heap.size,0,none⟩=some (.int .i64 at_):=zcr _ _ 0 _ 40 (0,0) hc
 have c1:(w.alloc (.cells (rgc at_ m v) 40)).drew.cell? ⟨w.heap.size,1,none⟩=some (.int .i64 m):=zcr _ _ 1 _ 40 (0,0) hc
 have c2:(w.alloc (.cells (rgc at_ m v) 40)).drew.cell? ⟨w.heap.size,2,none⟩=some (.int .i64 v):=zcr _ _ 2 _ 40 (0,0) hc
 clear hc
 by_cases h1:1≤m
 ·have t1:decide (1≤(m:Int))=true:=decide_eq_true (by omega)
  have e0:onB N at_ m v=(knB v&&decide ((m:Int)≤(N:Int)-at_)):=by unfold onB;rw [decide_eq_true h1,Bool.true_and]
  rw [e0]
  clear e0
  cases hk:knB v with
  | true =>
    rw [hk] at K1
    rw [Bool.true_and]
    cases h3:decide ((m:Int)≤(N:Int)-at_) with
    | true =>
      go_enter Tryz.func64,Tryz.ntmps64
      go_upto_region 1 with fail
      go_quiet (first|(go_at_call 35;exact Calls.quiet_of_same (K1.out _))|(go_at_call 101;exact Calls.quiet_of_same (K2.out _ (HD.out _))))
      go_wp2
      go_ret
      exact ⟨rfl,HB.out _⟩
    | false =>
      go_enter Tryz.func64,Tryz.ntmps64
      go_upto_region 1 with fail
      go_quiet (first|(go_at_call 35;exact Calls.quiet_of_same (K1.out _))|(go_at_call 101;exact Calls.quiet_of_same (K2.out _ (HD.out _))))
      go_wp2
      go_ret
      exact ⟨rfl,HB.out _⟩
  | false =>
    rw [hk] at K1
    rw [Bool.false_and]
    go_enter Tryz.func64,Tryz.ntmps64
    go_upto_region 1 with fail
    go_quiet (first|(go_at_call 35;exact Calls.quiet_of_same (K1.out _))|(go_at_call 101;exact Calls.quiet_of_same (K2.out _ (HD.out _))))
    go_wp2
    go_ret
    exact ⟨rfl,HB.out _⟩
 ·have t1:decide (1≤(m:Int))=false:=decide_eq_false (by omega)
  have e0:onB N at_ m v=false:=by unfold onB;rw [decide_eq_false h1];rfl
  rw [e0]
  clear e0
  go_enter Tryz.func64,Tryz.ntmps64
  go_upto_region 1 with fail
  go_quiet (first|(go_at_call 35;exact Calls.quiet_of_same (K1.out _))|(go_at_call 101;exact Calls.quiet_of_same (K2.out _ (HD.out _))))
  go_wp2
  go_ret
  exact ⟨rfl,HB.out _⟩
end Go.Proofs.YtnobeoppffoomaaGreat
namespace Go.Proofs.YtnobeoppffoomaaGreat
open Go.RowKit
open Dk
theorem each3_any (F:Nat) (hF:F=102∨F=75) (a b c:Value) (fro til:Nat) (P:Nat→World→Prop) (R:Int→World→Prop) (w:World) (hft:fro≤til) (hto:til≤1099511627776) (h0:P fro w)
 (hs:∀ k w1,fro≤k→k<til→P k w1→Calls Tryz.prog F #[.int .i64 k,a,b,c] w1 fun e w'=>∃ z:Int,e=.returned (.int .i64 z)∧(z=0→P (k+1) w')∧(z≠0→R z w')) :
 Calls Tryz.prog 73 #[.int .i64 fro,.int .i64 til,.func (.func F) #[] #[a,b,c]] w fun e w'=>∃ z:Int,e=.returned (.int .i64 z)∧(z=0→P til w')∧(z≠0→R z w'):=by
 have HS:=zh hs
 have H0:=zh h0
 clear hs h0
 rcases hF with rfl|rfl
 all_goals
  go_enter Tryz.func73,Tryz.ntmps73
  go_wp2
  go_loopw [7] (fun i wr=>∃ k:Nat,i=.int .i64 k∧fro≤k∧k≤til∧Hid (P k wr)) (fun i _=>til-(Go.RowKit.intOf i).toNat)
  case atStart=>exact ⟨fro,rfl,Nat.le_refl _,hft,H0⟩
  case round =>
   obtain ⟨k,rfl,hk1,hk2,hP⟩:=hrel
   by_cases hlt:k<til
   ·have t1:decide ((k:Int)<(til:Int))=true:=decide_eq_true (by omega)
    have K:=zh (HS.out k wr hk1 hlt hP.out)
    go_upto_region 5 with fail
    refine K.out.mono ?_
    rintro q w1 ⟨z,rfl,hz0,hz1⟩
    clear K hP
    by_cases hz:z=0
    ·have Z0:Hid (P (k+1) w1):=hz0 hz
     clear hz0 hz1
     subst hz
     go_wp2
     go_roundw
     case rel=>exact ⟨k+1,by go_num,by omega,by omega,Z0⟩
     case measure=>simp [Go.RowKit.intOf];omega
    ·have Z1:=zh (hz1 hz)
     clear hz0 hz1
     have e1:(z==0)=false:=beqF hz
     have e2:(z != 0)=true:=by unfold bne;rw [e1];rfl
     go_wp2
     go_ret
     exact ⟨z,rfl,fun h=>absurd h hz,fun _=>Z1.out⟩
   ·have hkt:k=til:=by omega
    subst hkt
    have t1:decide ((k:Int)<(k:Int))=false:=decide_eq_false (by omega)
    go_wp2
    go_ret
    exact ⟨0,rfl,fun _=>hP.out,fun h=>absurd rfl h⟩
end Go.Proofs.YtnobeoppffoomaaGreat
namespace Go.Proofs.YtnobeoppffoomaaGreat
open Go.RowKit
open Dk
theorem txt_cut (l:List UInt8) (a b:Nat) (hb:b=min (a+64) l.length):(txt l).extract a b=txt ((l.drop a).take 64):=by
 apply ByteArray.ext
 apply Array.toList_inj.1
 rw [ByteArray.data_extract,Array.toList_extract,txt_list,txt_list,List.extract_eq_take_drop]
 rw [List.take_eq_take_iff,List.length_drop]
 omega
theorem wcl_any (g:Nat) (L:List Nat) (d:St) (b5 b9 b7 first k:Nat) (l:List UInt8) (w:World) (h:Dv w g L d) (h5:w.heap[b5]?=some (.cells #[ptr g] 42 (0,0))) (h9:w.heap[b9]?=some (.cells #[.int .i64 first] 3 (0,0)))
 (h7:w.heap[b7]?=some (.cells #[.string (txt l)] 9 (0,0))) (hk:k*64≤l.length) (hl:l.length≤1099511627776) (hf:first≤1099511627776) :
 Calls Tryz.prog 102 #[.int .i64 k,ptr b5,ptr b9,ptr b7] w fun e w'=>e=.returned (.int .i64 (d.write ((first+k:Nat):Int) ((l.drop (k*64)).take 64)).2)∧Moves g L (d.write ((first+k:Nat):Int) ((l.drop (k*64)).take 64)).1 w w':=by
 have c5:w.drew.cell? ⟨b5,0,none⟩=some (ptr g):=zcr w.drew b5 0 _ 42 (0,0) h5
 have c9:w.drew.cell? ⟨b9,0,none⟩=some (.int .i64 first):=zcr w.drew b9 0 _ 3 (0,0) h9
 have c7:w.drew.cell? ⟨b7,0,none⟩=some (.string (txt l)):=zcr w.drew b7 0 _ 9 (0,0) h7
 have hd:Dv w.drew g L d:=h.below (Below.refl _ w).drew
 have KW:=zh (write_any g L d ((first+k:Nat):Int) ((l.drop (k*64)).take 64) w.drew hd)
 rw [show ((first+k:Nat):Int)=(first:Int)+k by omega] at KW ⊢
 obtain ⟨D,hD⟩:∃ D,D=d.write ((first:Int)+k) ((l.drop (k*64)).take 64):=⟨_,rfl⟩
 rw [←hD] at KW ⊢
 have hx:=txt_cut l (k*64) (min (k*64+64) l.length) rfl
 obtain ⟨p,hp⟩:∃ p,p=(l.drop (k*64)).take 64:=⟨_,rfl⟩
 rw [←hp] at KW hx
 have hz:=txt_size l
 obtain ⟨S,hS⟩:∃ S,S=txt l:=⟨_,rfl⟩
 rw [←hS] at c7 hx hz
 obtain ⟨n,hn⟩:∃ n,n=l.length:=⟨_,rfl⟩
 rw [←hn] at hx hk hl hz
 obtain ⟨m,hm⟩:∃ m,m=min (k*64+64) n:=⟨_,rfl⟩
 rw [←hm] at hx
 have hmI:min ((k:Int)*64+64) (S.size:Int)=(m:Int):=by rw [hz,hm];omega
 have hmI2:min ((k:Int)*64+64) (n:Int)=(m:Int):=by rw [hm];omega
 have hmn:m≤n:=by omega
 have hkm:k*64≤m:=by omega
 have q1:(m:Int)≤(n:Int):=by omega
 have q2:(k:Int)*64≤(m:Int):=by omega
 have q0:(0:Int)≤(k:Int)*64:=by omega
 have q3:((k:Int)*64).toNat=k*64:=by omega
 have w1:IntKind.i64.wrap ((k:Int)*64+64)=(k:Int)*64+64:=IntWalk.i64_in _ (by omega)
 have w2:IntKind.i64.wrap ((first:Int)+k)=(first:Int)+k:=IntWalk.i64_in _ (by omega)
 clear hD hp hS hn hm h h5 h9 h7 hd
 unfold ptr at *
 go_enter Tryz.func102,Tryz.ntmps102
 go_upto_region 2 with fail
 go_region_law (go_simp;go_at_call 29;(with_reducible refine KW.out.mono ?_);rintro q w5 ⟨rfl,hM⟩)
 all_goals
  go_wp2
  go_ret
  obtain ⟨L',m1,m2,m3⟩:=hM
  exact ⟨rfl,L',m1,(Keep.of_below (Below.refl _ w).drew).trans m2,m3⟩
end Go.Proofs.YtnobeoppffoomaaGreat
namespace Go.Proofs.YtnobeoppffoomaaGreat
open Go.RowKit
open Dk
def wrL (first:Nat) (l:List UInt8):Nat→Nat→St→St×Int
 | 0,_,d=>(d,0)
 | r+1,k,d=>if (d.write ((first+k:Nat):Int) ((l.drop (k*64)).take 64)).2=0 then wrL first l r (k+1) (d.write ((first+k:Nat):Int) ((l.drop (k*64)).take 64)).1 else d.write ((first+k:Nat):Int) ((l.drop (k*64)).take 64)
def wrS (d:St) (first:Nat) (l:List UInt8):St×Int:=wrL first l ((l.length+63) / 64) 0 d
theorem rgw_any (g:Nat) (L:List Nat) (d:St) (at_ from_:Nat) (m v:Int) (l:List UInt8) (w:World) (h:Dv w g L d) (ha:at_≤1048576) (hf:from_≤1099511627776) (hl:l.length≤1099511627776) :
 Calls Tryz.prog 66 #[RG at_ m v,ptr g,.int .i64 from_,.string (txt l)] w fun e w'=>e=.returned (.int .i64 (wrS d (at_+from_ / 64) l).2)∧Moves g L (wrS d (at_+from_ / 64) l).1 w w':=by
 obtain ⟨T,hT⟩:∃ T,T=wrS d (at_+from_ / 64) l:=⟨_,rfl⟩
 rw [←hT]
 obtain ⟨N,hN⟩:∃ N,N=(l.length+63) / 64:=⟨_,rfl⟩
 have hz:=txt_size l
 have KS:=zh (fun (W:World)=>sectors_any l.length W (by omega))
 rw [←hN] at KS
 have hN2:N≤1099511627776:=by omega
 have KEY:Hid (∀ W,W=(((w.alloc (.cells (rgc at_ m v) 40)).alloc (.cells #[ptr g] 42)).alloc (.cells #[.string (txt l)] 9)).alloc (.cells #[.int .i64 (at_+from_ / 64:Nat)] 3) →
  Calls Tryz.prog 73 #[.int .i64 0,.int .i64 N,.func (.func 102) #[] #[ptr (w.heap.size+1),ptr (w.heap.size+3),ptr (w.heap.size+2)]] W fun e w'=>e=.returned (.int .i64 T.2)∧Moves g L T.1 w w'):=fun W hW=>by
  have hb:Below w.heap.size w W:=by
   rw [hW]
   exact ((((Below.refl _ w).alloc (Nat.le_refl _) _).alloc (by simp) _).alloc (by simp;omega) _).alloc (by simp;omega) _
  have hs:W.heap.size=w.heap.size+4:=by rw [hW];simp
  have h5:W.heap[w.heap.size+1]?=some (.cells #[ptr g] 42 (0,0)):=by
   rw [hW,Lib.alloc_old _ _ _ (by simp),Lib.alloc_old _ _ _ (by simp)]
   have:=heap_alloc_new (w.alloc (.cells (rgc at_ m v) 40)) (.cells #[ptr g] 42)
   rwa [World.size_alloc] at this
  have h7:W.heap[w.heap.size+2]?=some (.cells #[.string (txt l)] 9 (0,0)):=by
   rw [hW,Lib.alloc_old _ _ _ (by simp)]
   have:=heap_alloc_new ((w.alloc (.cells (rgc at_ m v) 40)).alloc (.cells #[ptr g] 42)) (.cells #[.string (txt l)] 9)
   rwa [World.size_alloc,World.size_alloc] at this
  have h9:W.heap[w.heap.size+3]?=some (.cells #[.int .i64 (at_+from_ / 64:Nat)] 3 (0,0)):=by
   rw [hW]
   have:=heap_alloc_new (((w.alloc (.cells (rgc at_ m v) 40)).alloc (.cells #[ptr g] 42)).alloc (.cells #[.string (txt l)] 9)) (.cells #[.int .i64 (at_+from_ / 64:Nat)] 3)
   rwa [World.size_alloc,World.size_alloc,World.size_alloc] at this
  have hLw:=h.lt
  have hD:=h.below hb
  have hkW:Keep L w W:=Keep.of_below hb
  refine (each3_any 102 (.inl rfl) (ptr (w.heap.size+1)) (ptr (w.heap.size+3)) (ptr (w.heap.size+2)) 0 N
   (fun k w1=>∃ L' d',Dv w1 g L' d'∧Keep L W w1∧Fresh W L L'∧wrL (at_+from_ / 64) l (N-k) k d'=T) (fun z w1=>z=T.2∧Moves g L T.1 w w1) W (Nat.zero_le _) hN2 ⟨L,d,hD,Keep.refl _ _,Fresh.refl _ _,by rw [hT];unfold wrS;rw [hN];rfl⟩ ?_).mono ?_
  ·rintro k w1 _ hk ⟨L1,d1,hD1,hK1,hF1,hw1⟩
   have hk64:k*64≤l.length:=by omega
   have hblk:∀ j,w.heap.size≤j→j<W.heap.size→w1.heap[j]?=W.heap[j]?:=fun j h1 h2=>hK1.block j h2 fun hm=>by have:=hLw j hm;omega
   have hst:wrL (at_+from_ / 64) l (N-k) k d1=if (d1.write ((at_+from_ / 64+k:Nat):Int) ((l.drop (k*64)).take 64)).2=0 then wrL (at_+from_ / 64) l (N-(k+1)) (k+1) (d1.write ((at_+from_ / 64+k:Nat):Int) ((l.drop (k*64)).take 64)).1 else d1.write ((at_+from_ / 64+k:Nat):Int) ((l.drop (k*64)).take 64):=by
    rw [show N-k=(N-(k+1))+1 by omega]
    rfl
   rw [hw1] at hst
   refine (wcl_any g L1 d1 (w.heap.size+1) (w.heap.size+3) (w.heap.size+2) (at_+from_ / 64) k l w1 hD1 ((hblk _ (by omega) (by omega)).trans h5) ((hblk _ (by omega) (by omega)).trans h9) ((hblk _ (by omega) (by omega)).trans h7) hk64 hl (by omega)).mono ?_
   rintro e w2 ⟨rfl,L2,hD2,hK2,hF2⟩
   have hK3:Keep L W w2:=hK1.trans' hK2 hF1
   have hF3:Fresh W L L2:=hF1.trans hF2 hK1.size
   refine ⟨_,rfl,fun hz=>?_,fun hz=>?_⟩
   ·rw [if_pos hz] at hst
    exact ⟨L2,_,hD2,hK3,hF3,hst.symm⟩
   ·rw [if_neg hz] at hst
    rw [hst]
    exact ⟨rfl,L2,hD2,hkW.trans hK3,fun k hk=>(hF3 k hk).elim .inl (fun h=>.inr (Nat.le_trans hb.size h))⟩
  ·rintro e w1 ⟨z,rfl,hz0,hz1⟩
   by_cases hz:z=0
   ·obtain ⟨L1,d1,hD1,hK1,hF1,hw1⟩:=hz0 hz
    rw [Nat.sub_self] at hw1
    have hT2:T=(d1,0):=hw1.symm
    rw [hT2]
    exact ⟨by rw [hz],L1,hD1,hkW.trans hK1,fun k hk=>(hF1 k hk).elim .inl (fun h=>.inr (Nat.le_trans hb.size h))⟩
   ·obtain ⟨h1,h2⟩:=hz1 hz
    exact ⟨by rw [h1],h2⟩
 have hi1:((at_+from_ / 64:Nat):Int)=(at_:Int)+(from_:Int) / 64:=by omega
 rw [hi1] at KEY
 obtain ⟨S,hS⟩:∃ S,S=txt l:=⟨_,rfl⟩
 rw [←hS] at KEY hz ⊢
 clear hT hN hS h
 obtain ⟨n,hn⟩:∃ n,n=l.length:=⟨_,rfl⟩
 rw [←hn] at KS hz hl
 clear hn hi1
 unfold ptr at *
 go_enter Tryz.func66,Tryz.ntmps66
 go_upto_region 2 with fail
 go_wp2_with (first|(go_at_call 82;(with_reducible refine (KS.out _).mono ?_);rintro q w1 ⟨rfl,rfl⟩)|(go_at_call 73;(with_reducible refine (KEY.out _ rfl).mono ?_);rintro q w1 ⟨rfl,hM⟩))
 go_ret
 exact ⟨rfl,hM⟩
end Go.Proofs.YtnobeoppffoomaaGreat
namespace Go.Proofs.YtnobeoppffoomaaGreat
open Go.RowKit
open Dk
def rgS (v:Int) (m u:Nat) (es:List En):ByteArray:=if rcO v (pO v) es&&decide (((rcS v (pS v) (pO v) es).size:Int)≤((m*64:Nat):Int)-u) then rcS v (pS v) (pO v) es else ⟨#[]⟩
def rgE (v:Int) (m u:Nat) (es:List En):Int:=if rcO v (pO v) es then (if ((rcS v (pS v) (pO v) es).size:Int)≤((m*64:Nat):Int)-u then 0 else 4) else 1
theorem rgrec_any (at_ v:Int) (m u:Nat) (A:Option Addr) (n c:Nat) (es:List En) (w:World) (hm:m≤1048576) (hu:u≤1099511627776) (hE:Ents w.heap.size A n es w) (hn:n≤64) (ok:∀ e∈es,e.Ok) :
 Calls Tryz.prog 65 #[RG at_ m v,.int .i64 u,.slice A n c] w fun e w'=>e=.returned (.tuple #[.string (rgS v m u es),.int .i64 (rgE v m u es)])∧Below w.heap.size w w':=by
 obtain ⟨W,hW⟩:∃ W,W=w.alloc (.cells (rgc at_ m v) 40):=⟨_,rfl⟩
 have hB:Below w.heap.size w W:=by rw [hW];exact (Below.refl _ w).alloc (Nat.le_refl _) _
 have hc:W.heap[w.heap.size]?=some (.cells (rgc at_ m v) 40 (0,0)):=by rw [hW];exact heap_alloc_new w _
 have K1:=zh (records_any v (pS v) (pO v) A n c es W ((hE.below hB).mr hB.size) hn (fun e _=>Nat.le_trans (pS_le v e) (by omega)) (puts_in v es ok))
 have K2:=zh (fun W=>rsize_any at_ v m W hm)
 have hsz:(rcS v (pS v) (pO v) es).size≤1099511627776:=by
  have h1:(rcS v (pS v) (pO v) es).size≤es.length*1048663:=by
   unfold rcS
   split
   ·exact rcA_le v (pS v) 1048600 es fun e _=>pS_le v e
   ·exact Nat.zero_le _
  rw [hE.len] at h1
  omega
 unfold rgS rgE
 obtain ⟨s,hs⟩:∃ s,s=rcS v (pS v) (pO v) es:=⟨_,rfl⟩
 obtain ⟨o,ho⟩:∃ o,o=rcO v (pO v) es:=⟨_,rfl⟩
 rw [←hs,←ho] at K1 ⊢
 rw [←hs] at hsz
 obtain ⟨Z,hZ⟩:∃ Z:Int,Z=((m*64:Nat):Int):=⟨_,rfl⟩
 have hZb:0≤Z∧Z≤67108864:=by omega
 rw [←hZ] at K2 ⊢
 obtain ⟨rs,hrs⟩:∃ x:ByteArray,x=if (o&&decide ((s.size:Int)≤Z-u))=true then s else ⟨#[]⟩:=⟨_,rfl⟩
 obtain ⟨re,hre⟩:∃ x:Int,x=if o=true then (if (s.size:Int)≤Z-u then 0 else 4) else 1:=⟨_,rfl⟩
 rw [←hrs,←hre]
 have HB:=zh hB
 have HC:=zh hc
 have HW:=zh hW
 have c0:W.cell? ⟨w.heap.size,0,none⟩=some (.int .i64 at_):=zcr _ _ 0 _ 40 (0,0) hc
 have c1:W.cell? ⟨w.heap.size,1,none⟩=some (.int .i64 m):=zcr _ _ 1 _ 40 (0,0) hc
 have c2:W.cell? ⟨w.heap.size,2,none⟩=some (.int .i64 v):=zcr _ _ 2 _ 40 (0,0) hc
 clear hs ho hZ hB hc hW hE ok
 cases o with
 | false =>
   obtain rfl:rs=⟨#[]⟩:=by rw [hrs];rfl
   obtain rfl:re=1:=by rw [hre];rfl
   clear hrs hre
   go_enter Tryz.func65,Tryz.ntmps65
   go_upto_region 1 with fail
   refine wp_at (w:=W) HW.out.symm ?_
   go_wp2_with (go_at_call 12;(with_reducible refine K1.out.mono ?_);rintro q w1 ⟨rfl,b1⟩)
   go_ret2
   exact ⟨rfl,HB.out.trans (b1.mono HB.out.size)⟩
 | true =>
   go_enter Tryz.func65,Tryz.ntmps65
   go_upto_region 1 with fail
   refine wp_at (w:=W) HW.out.symm ?_
   go_upto_region 4 with (go_at_call 12;(with_reducible refine K1.out.mono ?_);rintro q w1 ⟨rfl,b1⟩)
   have HB1:Hid (Below w.heap.size w w1):=HB.out.trans (b1.mono HB.out.size)
   have hc1:w1.heap[w.heap.size]?=some (.cells (rgc at_ m v) 40 (0,0)):=(b1.block _ (zgx HC.out)).trans HC.out
   have e0:w1.cell? ⟨w.heap.size,0,none⟩=some (.int .i64 at_):=zcr _ _ 0 _ 40 (0,0) hc1
   have e1:w1.cell? ⟨w.heap.size,1,none⟩=some (.int .i64 m):=zcr _ _ 1 _ 40 (0,0) hc1
   have e2:w1.cell? ⟨w.heap.size,2,none⟩=some (.int .i64 v):=zcr _ _ 2 _ 40 (0,0) hc1
   clear b1 hc1 c0 c1 c2
   by_cases hle:(s.size:Int)≤Z-u
   ·have t1:decide (Z-(u:Int)<(s.size:Int))=false:=decide_eq_false (by omega)
    obtain rfl:rs=s:=by rw [hrs,decide_eq_true hle];rfl
    obtain rfl:re=0:=by rw [hre];simp [hle]
    clear hrs hre hle
    go_wp2_with (go_at_call 67;(with_reducible refine (K2.out _).mono ?_);rintro q w2 ⟨rfl,b2⟩)
    go_ret2
    exact ⟨rfl,HB1.out.trans (b2.mono HB1.out.size)⟩
   ·have t1:decide (Z-(u:Int)<(s.size:Int))=true:=decide_eq_true (by omega)
    obtain rfl:rs=⟨#[]⟩:=by rw [hrs,decide_eq_false hle];rfl
    obtain rfl:re=4:=by rw [hre];simp [hle]
    clear hrs hre hle
    go_wp2_with (go_at_call 67;(with_reducible refine (K2.out _).mono ?_);rintro q w2 ⟨rfl,b2⟩)
    go_ret2
    exact ⟨rfl,HB1.out.trans (b2.mono HB1.out.size)⟩
def ahL (d:St) (at_ u:Nat):List UInt8:=if u % 64=0 then [] else if d.refuses ((at_+u / 64:Nat):Int)=0 then (d.now (at_+u / 64)).take (u % 64) else []
def ahZ (d:St) (at_ u:Nat):Int:=if u % 64=0 then 0 else d.refuses ((at_+u / 64:Nat):Int)
theorem txt_take (l:List UInt8) (k:Nat):(txt l).extract 0 k=txt (l.take k):=by
 apply ByteArray.ext
 apply Array.toList_inj.1
 rw [ByteArray.data_extract,Array.toList_extract,txt_list,txt_list,List.extract_eq_take_drop,List.drop_zero,Nat.sub_zero]
theorem rgah_any (g:Nat) (L:List Nat) (d:St) (at_ u:Nat) (m v:Int) (w:World) (h:Dv w g L d) (ha:at_≤1048576) (hu:u≤1099511627776) :
 Calls Tryz.prog 69 #[RG at_ m v,ptr g,.int .i64 u] w fun e w'=>e=.returned (.tuple #[.string (txt (ahL d at_ u)),.int .i64 (ahZ d at_ u)])∧Below w.heap.size w w':=by
 obtain ⟨W,hW⟩:∃ W,W=w.alloc (.cells (rgc at_ m v) 40):=⟨_,rfl⟩
 have hB:Below w.heap.size w W:=by rw [hW];exact (Below.refl _ w).alloc (Nat.le_refl _) _
 have hc:W.heap[w.heap.size]?=some (.cells (rgc at_ m v) 40 (0,0)):=by rw [hW];exact heap_alloc_new w _
 have K1:=zh (read_any g L d ((at_+u / 64:Nat):Int) W (h.below hB))
 have i1:((at_+u / 64:Nat):Int)=(at_:Int)+(u:Int) / 64:=by omega
 have i2:((u % 64:Nat):Int)=(u:Int) % 64:=by omega
 have HB:=zh hB
 have HW:=zh hW
 have c0:W.cell? ⟨w.heap.size,0,none⟩=some (.int .i64 at_):=zcr _ _ 0 _ 40 (0,0) hc
 have hn64:(d.now (at_+u / 64)).length=64:=h.1.now _
 unfold ahL ahZ
 clear hB hc hW h
 by_cases h0:u % 64=0
 ·rw [if_pos h0,if_pos h0]
  have t0:((u:Int) % 64==0)=true:=by rw [←i2,h0];rfl
  have hz:txt []=⟨#[]⟩:=rfl
  rw [hz]
  clear h0 i1 i2 K1 hn64
  go_enter Tryz.func69,Tryz.ntmps69
  go_upto_region 1 with fail
  refine wp_at (w:=W) HW.out.symm ?_
  go_wp2
  go_ret2
  exact ⟨rfl,HB.out⟩
 ·rw [if_neg h0,if_neg h0]
  have t0:((u:Int) % 64==0)=false:=by rw [←i2];exact beqF (by omega)
  by_cases hr:d.refuses ((at_+u / 64:Nat):Int)=0
  ·rw [if_pos hr]
   have e1:d.readS ((at_+u / 64:Nat):Int)=d.now (at_+u / 64):=by unfold St.readS;rw [if_pos hr,Int.toNat_natCast]
   rw [e1,hr,i1] at K1
   rw [hr]
   have hx:=txt_take (d.now (at_+u / 64)) (u % 64)
   have hs:(txt (d.now (at_+u / 64))).size=64:=by rw [txt_size];exact hn64
   obtain ⟨S,hS⟩:∃ S,S=txt (d.now (at_+u / 64)):=⟨_,rfl⟩
   rw [←hS] at K1 hx hs
   rw [←hx]
   have q1:((u:Int) % 64).toNat=u % 64:=by omega
   have q2:(u:Int) % 64≤(S.size:Int):=by omega
   have q3:(0:Int)≤(u:Int) % 64:=by omega
   clear hr hx hS e1 i1 h0 hn64
   go_enter Tryz.func69,Tryz.ntmps69
   go_upto_region 1 with fail
   refine wp_at (w:=W) HW.out.symm ?_
   go_wp2_with (go_at_call 32;(with_reducible refine K1.out.mono ?_);rintro q w1 ⟨rfl,b1⟩)
   go_ret2
   exact ⟨rfl,HB.out.trans (b1.mono HB.out.size)⟩
  ·rw [if_neg hr]
   have e1:d.readS ((at_+u / 64:Nat):Int)=[]:=by unfold St.readS;rw [if_neg hr]
   have hz:txt []=⟨#[]⟩:=rfl
   obtain ⟨Z,hZ⟩:∃ Z,Z=d.refuses ((at_+u / 64:Nat):Int):=⟨_,rfl⟩
   rw [←hZ] at K1 hr ⊢
   rw [e1,hz,i1] at K1
   rw [hz]
   have t2:(Z==0)=false:=beqF hr
   have t3:(Z != 0)=true:=by unfold bne;rw [t2];rfl
   clear hr hZ e1 i1 h0 hn64
   go_enter Tryz.func69,Tryz.ntmps69
   go_upto_region 1 with fail
   refine wp_at (w:=W) HW.out.symm ?_
   go_wp2_with (go_at_call 32;(with_reducible refine K1.out.mono ?_);rintro q w1 ⟨rfl,b1⟩)
   go_ret2
   exact ⟨rfl,HB.out.trans (b1.mono HB.out.size)⟩
end Go.Proofs.YtnobeoppffoomaaGreat
namespace Go.Proofs.YtnobeoppffoomaaGreat
open Go.RowKit
open Dk
def addG (d:St) (at_ m:Nat) (v:Int) (u:Nat) (es:List En):St×Int×Int :=
 if rgE v m u es≠0 then (d,0,rgE v m u es)
 else if rgS v m u es=⟨#[]⟩ then (d,u,0)
 else if ahZ d at_ u≠0 then (d,0,ahZ d at_ u)
 else if (wrS d (at_+(u-(ahL d at_ u).length) / 64) (ahL d at_ u++(rgS v m u es).data.toList)).2≠0 then ((wrS d (at_+(u-(ahL d at_ u).length) / 64) (ahL d at_ u++(rgS v m u es).data.toList)).1,0,(wrS d (at_+(u-(ahL d at_ u).length) / 64) (ahL d at_ u++(rgS v m u es).data.toList)).2)
 else ((wrS d (at_+(u-(ahL d at_ u).length) / 64) (ahL d at_ u++(rgS v m u es).data.toList)).1,((u+(rgS v m u es).size:Nat):Int),0)
def addS (d:St) (at_ m:Nat) (v:Int) (u:Int) (es:List En):St×Int×Int :=
 if onB d.n at_ m v=true∧hasB m u=true∧bgn v u.toNat=u.toNat then addG d at_ m v u.toNat es else (d,0,1)
theorem rgc_cells {w:World} {b:Nat} {a m v:Int} (h:w.heap[b]?=some (.cells (rgc a m v) 40 (0,0))):w.cell? ⟨b,0,none⟩=some (.int .i64 a)∧w.cell? ⟨b,1,none⟩=some (.int .i64 m)∧w.cell? ⟨b,2,none⟩=some (.int .i64 v) :=
 ⟨zcr _ _ 0 _ 40 (0,0) h,zcr _ _ 1 _ 40 (0,0) h,zcr _ _ 2 _ 40 (0,0) h⟩
theorem ahL_length (d:St) (at_ u:Nat):(ahL d at_ u).length≤u∧(ahL d at_ u).length≤64:=by
 unfold ahL
 split
 ·exact ⟨Nat.zero_le _,by simp⟩
 ·split
  ·rw [List.length_take];omega
  ·exact ⟨Nat.zero_le _,by simp⟩
theorem txt_app (a:List UInt8) (s:ByteArray):txt a++s=txt (a++s.data.toList):=by
 apply ByteArray.ext
 apply Array.toList_inj.1
 rw [ByteArray.data_append,Array.toList_append,txt_list,txt_list]
theorem add_no (g:Nat) (L:List Nat) (d:St) (at_ m:Nat) (v u:Int) (A:Option Addr) (n c:Nat) (w:World) (h:Dv w g L d) (ha:at_≤1048576) (hm:m≤1048576)
 (hno:¬ (onB d.n at_ m v=true∧hasB m u=true∧bgn v u.toNat=u.toNat)) :
 Calls Tryz.prog 27 #[ptr g,RG at_ m v,.int .i64 u,.slice A n c] w fun e w'=>e=.returned (.tuple #[.int .i64 0,.int .i64 1])∧Below w.heap.size w w':=by
 obtain ⟨W,hW⟩:∃ W,W=w.alloc (.cells (rgc at_ m v) 40):=⟨_,rfl⟩
 have hB:Below w.heap.size w W:=by rw [hW];exact (Below.refl _ w).alloc (Nat.le_refl _) _
 have hc:W.heap[w.heap.size]?=some (.cells (rgc at_ m v) 40 (0,0)):=by rw [hW];exact heap_alloc_new w _
 have K1:=zh (ron_any g L d at_ m v W (h.below hB) ha hm)
 have K2:=zh (fun W=>rhas_any at_ v u m W hm)
 obtain ⟨b1,hb1⟩:∃ b,b=onB d.n at_ m v:=⟨_,rfl⟩
 obtain ⟨b2,hb2⟩:∃ b,b=hasB m u:=⟨_,rfl⟩
 rw [←hb1] at K1 hno
 rw [←hb2] at K2 hno
 have HB:=zh hB
 have HC:=zh hc
 have HW:=zh hW
 obtain ⟨c0,c1,c2⟩:=rgc_cells hc
 clear hB hc hW h hb1
 unfold ptr at *
 cases b1 with
 | false =>
   clear hb2
   go_enter Tryz.func27,Tryz.ntmps27
   go_upto_region 1 with fail
   refine wp_at (w:=W) HW.out.symm ?_
   go_wp2_with (go_at_call 64;(with_reducible refine K1.out.mono ?_);rintro q w1 ⟨rfl,b1⟩)
   go_ret2
   exact ⟨rfl,HB.out.trans (b1.mono HB.out.size)⟩
 | true =>
   cases b2 with
   | false =>
     clear hb2
     go_enter Tryz.func27,Tryz.ntmps27
     go_upto_region 1 with fail
     refine wp_at (w:=W) HW.out.symm ?_
     go_wp2_with (first
      | (go_at_call 64;(with_reducible refine K1.out.mono ?_);rintro q w1 ⟨rfl,b1⟩;obtain ⟨e0,e1,e2⟩:=rgc_cells ((b1.block _ (zgx HC.out)).trans HC.out);have HB1:Hid (Below w.heap.size w w1):=HB.out.trans (b1.mono HB.out.size);clear b1)
      | (go_at_call 68;(with_reducible refine (K2.out _).mono ?_);rintro q w2 ⟨rfl,b2⟩))
     go_ret2
     exact ⟨rfl,HB1.out.trans (b2.mono HB1.out.size)⟩
   | true =>
     have hu:0≤u∧u≤((m*64:Nat):Int):=of_decide_eq_true hb2.symm
     obtain ⟨U,rfl⟩:=Int.eq_ofNat_of_zero_le hu.1
     have hne:bgn v U≠U:=fun e=>hno ⟨rfl,rfl,by simpa using e⟩
     have K3:=zh (fun W=>begin_any v U W (by omega))
     obtain ⟨V,hV⟩:∃ V,V=bgn v U:=⟨_,rfl⟩
     rw [←hV] at K3 hne
     have t1:((V:Int)==(U:Int))=false:=beqF (by omega)
     have t2:((V:Int) != (U:Int))=true:=by unfold bne;rw [t1];rfl
     clear hb2 hno hV hne hu
     go_enter Tryz.func27,Tryz.ntmps27
     go_upto_region 1 with fail
     refine wp_at (w:=W) HW.out.symm ?_
     go_wp2_with (first
      | (go_at_call 64;(with_reducible refine K1.out.mono ?_);rintro q w1 ⟨rfl,b1⟩;have HC1:Hid (w1.heap[w.heap.size]?=some (.cells (rgc at_ m v) 40 (0,0))):=(b1.block _ (zgx HC.out)).trans HC.out;obtain ⟨e0,e1,e2⟩:=rgc_cells HC1.out;have HB1:Hid (Below w.heap.size w w1):=HB.out.trans (b1.mono HB.out.size);clear b1)
      | (go_at_call 68;(with_reducible refine (K2.out _).mono ?_);rintro q w2 ⟨rfl,b2⟩;obtain ⟨f0,f1,f2⟩:=rgc_cells ((b2.block _ (zgx HC1.out)).trans HC1.out);have HB2:Hid (Below w.heap.size w w2):=HB1.out.trans (b2.mono HB1.out.size);clear b2)
      | (go_at_call 39;(with_reducible refine (K3.out _).mono ?_);rintro q w3 ⟨rfl,rfl⟩))
     go_ret2
     exact ⟨rfl,HB2.out⟩
theorem add_go (g:Nat) (L:List Nat) (d:St) (at_ m U:Nat) (v:Int) (A:Option Addr) (n c:Nat) (es:List En) (w:World) (h:Dv w g L d) (ha:at_≤1048576) (hm:m≤1048576)
 (hon:onB d.n at_ m v=true) (hhas:hasB m U=true) (hbg:bgn v U=U) (hE:Ents w.heap.size A n es w) (hn:n≤64) (ok:∀ e∈es,e.Ok) :
 Calls Tryz.prog 27 #[ptr g,RG at_ m v,.int .i64 U,.slice A n c] w fun e w'=>e=.returned (.tuple #[.int .i64 (addG d at_ m v U es).2.1,.int .i64 (addG d at_ m v U es).2.2])∧Moves g L (addG d at_ m v U es).1 w w':=by
 obtain ⟨W,hW⟩:∃ W,W=w.alloc (.cells (rgc at_ m v) 40):=⟨_,rfl⟩
 have hB:Below w.heap.size w W:=by rw [hW];exact (Below.refl _ w).alloc (Nat.le_refl _) _
 have hc:W.heap[w.heap.size]?=some (.cells (rgc at_ m v) 40 (0,0)):=by rw [hW];exact heap_alloc_new w _
 have hu:0≤(U:Int)∧(U:Int)≤((m*64:Nat):Int):=of_decide_eq_true hhas
 have hU:U≤67108864:=by omega
 have hsz:(rgS v m U es).size≤134217728:=by
  have h1:(rcS v (pS v) (pO v) es).size≤es.length*1048663:=by
   unfold rcS
   split
   ·exact rcA_le v (pS v) 1048600 es fun e _=>pS_le v e
   ·exact Nat.zero_le _
  rw [hE.len] at h1
  unfold rgS
  split
  ·omega
  ·exact Nat.zero_le _
 have hal:=ahL_length d at_ U
 have K1:=zh (ron_any g L d at_ m v W (h.below hB) ha hm)
 have K2:=zh (fun W=>rhas_any at_ v U m W hm)
 have K3:=zh (fun W=>begin_any v U W (by omega))
 have K4:=zh (fun W (hW:Ents W.heap.size A n es W)=>rgrec_any at_ v m U A n c es W hm (by omega) hW hn ok)
 have K5:=zh (fun W (hW:Dv W g L d)=>rgah_any g L d at_ U m v W hW ha (by omega))
 have K6:Hid (∀ W,Dv W g L d→Calls Tryz.prog 66 #[RG at_ m v,ptr g,.int .i64 ((U:Int)-((ahL d at_ U).length:Nat)),.string (txt (ahL d at_ U++(rgS v m U es).data.toList))] W fun e w'=>e=.returned (.int .i64 (wrS d (at_+(U-(ahL d at_ U).length) / 64) (ahL d at_ U++(rgS v m U es).data.toList)).2)∧Moves g L (wrS d (at_+(U-(ahL d at_ U).length) / 64) (ahL d at_ U++(rgS v m U es).data.toList)).1 W w'):=fun W hW=>by
  have hl:(ahL d at_ U++(rgS v m U es).data.toList).length≤1099511627776:=by
   rw [List.length_append,Array.length_toList]
   have h2:(rgS v m U es).data.size≤134217728:=hsz
   exact Nat.le_trans (Nat.add_le_add hal.2 h2) (by decide)
  have:=rgw_any g L d at_ (U-(ahL d at_ U).length) m v (ahL d at_ U++(rgS v m U es).data.toList) W hW ha (by omega) hl
  rw [show ((U-(ahL d at_ U).length:Nat):Int)=(U:Int)-((ahL d at_ U).length:Nat) by omega] at this
  exact this
 rw [hon] at K1
 rw [hhas] at K2
 rw [hbg] at K3
 obtain ⟨AG,hAG⟩:∃ AG,AG=addG d at_ m v U es:=⟨_,rfl⟩
 rw [←hAG]
 unfold addG at hAG
 obtain ⟨X,hX⟩:∃ X,X=wrS d (at_+(U-(ahL d at_ U).length) / 64) (ahL d at_ U++(rgS v m U es).data.toList):=⟨_,rfl⟩
 obtain ⟨E,hEq⟩:∃ E,E=rgE v m U es:=⟨_,rfl⟩
 obtain ⟨Z,hZ⟩:∃ Z,Z=ahZ d at_ U:=⟨_,rfl⟩
 rw [←hX,←txt_app] at K6
 rw [←hX,←hEq,←hZ] at hAG
 rw [←hEq] at K4
 rw [←hZ] at K5
 obtain ⟨S,hS⟩:∃ S,S=rgS v m U es:=⟨_,rfl⟩
 rw [←hS] at K4 K6 hsz hAG
 have htz:=txt_size (ahL d at_ U)
 obtain ⟨al,hal2⟩:∃ l,l=(ahL d at_ U).length:=⟨_,rfl⟩
 rw [←hal2] at K6 htz hal
 obtain ⟨T,hT⟩:∃ T,T=txt (ahL d at_ U):=⟨_,rfl⟩
 rw [←hT] at K5 K6 htz
 have halU:al≤U:=hal.1
 have hT64:al≤64:=hal.2
 have hadd:¬ 9223372036854775807<T.size+S.size:=by omega
 have hadd2:¬ 9223372036854775807<al+S.size:=by omega
 have HD:=zh (h.below hB)
 have HE:=zh ((hE.below hB).mr hB.size)
 have HB:=zh hB
 have HC:=zh hc
 have HW:=zh hW
 have HD0:=zh h
 obtain ⟨c0,c1,c2⟩:=rgc_cells hc
 have HAG:=zh hAG
 clear hB hc hW h hE hX hEq hZ hS hal2 hT hon hhas hbg hal ok hu hAG
 have fin:Hid (∀ W',Below w.heap.size w W'→Moves g L d w W'):=fun W' hb=>⟨L,HD0.out.below hb,Keep.of_below hb,Fresh.refl _ _⟩
 unfold ptr at *
 have q1:((U:Int)==(U:Int))=true:=by simp
 go_enter Tryz.func27,Tryz.ntmps27
 go_upto_region 1 with fail
 refine wp_at (w:=W) HW.out.symm ?_
 go_upto_region 3 with (first
  | (go_at_call 64;(with_reducible refine K1.out.mono ?_);rintro q w1 ⟨rfl,b1⟩;have HC1:Hid (w1.heap[w.heap.size]?=some (.cells (rgc at_ m v) 40 (0,0))):=(b1.block _ (zgx HC.out)).trans HC.out;obtain ⟨e0,e1,e2⟩:=rgc_cells HC1.out;have HB1:Hid (Below w.heap.size w w1):=HB.out.trans (b1.mono HB.out.size);have HD1:=zh (HD.out.below b1);have HE1:=zh ((HE.out.below b1).mr b1.size);clear b1)
  | (go_at_call 68;(with_reducible refine (K2.out _).mono ?_);rintro q w2 ⟨rfl,b2⟩;have HC2:Hid (w2.heap[w.heap.size]?=some (.cells (rgc at_ m v) 40 (0,0))):=(b2.block _ (zgx HC1.out)).trans HC1.out;obtain ⟨f0,f1,f2⟩:=rgc_cells HC2.out;have HB2:Hid (Below w.heap.size w w2):=HB1.out.trans (b2.mono HB1.out.size);have HD2:=zh (HD1.out.below b2);have HE2:=zh ((HE1.out.below b2).mr b2.size);clear b2)
  | (go_at_call 39;(with_reducible refine (K3.out _).mono ?_);rintro q w3 ⟨rfl,rfl⟩))
 clear c0 c1 c2 e0 e1 e2
 go_upto_region 4 with (go_at_call 65;(with_reducible refine (K4.out _ HE2.out).mono ?_);rintro q w4 ⟨rfl,b4⟩)
 have HC4:Hid (w4.heap[w.heap.size]?=some (.cells (rgc at_ m v) 40 (0,0))):=(b4.block _ (zgx HC2.out)).trans HC2.out
 obtain ⟨c0,c1,c2⟩:=rgc_cells HC4.out
 have HB4:Hid (Below w.heap.size w w4):=HB2.out.trans (b4.mono HB2.out.size)
 have HD4:=zh (HD2.out.below b4)
 clear b4 f0 f1 f2 HE HE1 HE2 HC HC1 HC2 HB HB1 HB2 HD HD1 HD2
 by_cases hE0:E=0
 rotate_left
 ·have t1:(E==0)=false:=beqF hE0
  have t2:(E != 0)=true:=by unfold bne;rw [t1];rfl
  have hR:AG=(d,0,E):=by rw [HAG.out,if_pos hE0]
  subst hR
  clear hE0 HAG
  go_wp2
  go_ret2
  exact ⟨rfl,fin.out _ HB4.out⟩
 subst hE0
 by_cases hS0:S=⟨#[]⟩
 ·have hR:AG=(d,(U:Int),0):=by rw [HAG.out,if_neg (by simp),if_pos hS0]
  subst hS0 hR
  clear HAG
  go_wp2
  go_ret2
  exact ⟨rfl,fin.out _ HB4.out⟩
 have t3:S.toList.isEmpty=false:=by
  rw [Lib.toList_data,List.isEmpty_eq_false_iff]
  intro e
  exact hS0 (ByteArray.ext (Array.toList_inj.1 e))
 have HAG2:Hid (AG=if Z≠0 then (d,0,Z) else if X.2≠0 then (X.1,0,X.2) else (X.1,((U+S.size:Nat):Int),0)):=by show _=_;rw [HAG.out,if_neg (by simp),if_neg hS0]
 clear HAG hS0
 go_upto_region 9 with (go_at_call 69;(with_reducible refine (K5.out _ HD4.out).mono ?_);rintro q w5 ⟨rfl,b5⟩)
 have HC5:Hid (w5.heap[w.heap.size]?=some (.cells (rgc at_ m v) 40 (0,0))):=(b5.block _ (zgx HC4.out)).trans HC4.out
 obtain ⟨e0,e1,e2⟩:=rgc_cells HC5.out
 have HB5:Hid (Below w.heap.size w w5):=HB4.out.trans (b5.mono HB4.out.size)
 have HD5:=zh (HD4.out.below b5)
 clear b5 c0 c1 c2 HC4 HB4 HD4
 by_cases hZ0:Z=0
 rotate_left
 ·have t1:(Z==0)=false:=beqF hZ0
  have t2:(Z != 0)=true:=by unfold bne;rw [t1];rfl
  have hR:AG=(d,0,Z):=by rw [HAG2.out,if_pos hZ0]
  subst hR
  clear hZ0 HAG2
  go_wp2
  go_ret2
  exact ⟨rfl,fin.out _ HB5.out⟩
 subst hZ0
 have HAG3:Hid (AG=if X.2≠0 then (X.1,0,X.2) else (X.1,((U+S.size:Nat):Int),0)):=by show _=_;rw [HAG2.out,if_neg (by simp)]
 clear HAG2
 go_upto_region 12 with (go_at_call 66;(with_reducible refine (K6.out _ HD5.out).mono ?_);rintro q w6 ⟨rfl,hM⟩)
 have HM:Hid (Moves g L X.1 w w6):=by
  obtain ⟨L',m1,m2,m3⟩:=hM
  exact ⟨L',m1,(Keep.of_below HB5.out).trans m2,(Fresh.refl w L).trans m3 HB5.out.size⟩
 clear hM
 obtain ⟨x1,x2⟩:=X
 dsimp only at HAG3 HM
 by_cases hX0:x2=0
 rotate_left
 ·have t1:(x2==0)=false:=beqF hX0
  have t2:(x2 != 0)=true:=by unfold bne;rw [t1];rfl
  have hR:AG=(x1,0,x2):=by rw [HAG3.out,if_pos hX0]
  subst hR
  clear hX0 HAG3
  go_wp2
  go_ret2
  exact ⟨rfl,HM.out⟩
 ·subst hX0
  have hR:AG=(x1,((U+S.size:Nat):Int),0):=by rw [HAG3.out,if_neg (by simp)]
  have hq:((U+S.size:Nat):Int)=(U:Int)+(S.size:Int):=by omega
  rw [hq] at hR
  subst hR
  clear HAG3 hq
  go_wp2
  go_ret2
  exact ⟨rfl,HM.out⟩
end Go.Proofs.YtnobeoppffoomaaGreat
