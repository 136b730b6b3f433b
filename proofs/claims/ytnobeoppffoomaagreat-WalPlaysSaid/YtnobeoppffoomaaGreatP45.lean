/-
  WalPlays: WDo.
  Conditions: named in each theorem.
-/
import Derived.Test.YtnobeoppffoomaaGreatP43
import Derived.Test.YtnobeoppffoomaaGreatP44
import Derived.Test.YtnobeoppffoomaaGreatP0
set_option linter.unusedVariables false
set_option linter.unusedSimpArgs false
set_option maxHeartbeats 8000000
set_option maxRecDepth 100000
namespace Go.Proofs.YtnobeoppffoomaaGreat
open Go.RowKit
open Dk
theorem Tryz.rg112:(Tryz.prog.info? 112).map (·.size)=some 3:=by kernel_rfl
theorem res52 (tmps:Array Value) (w:World) (p:Nat) (a m v:Int) (hp:tmps.getD 2 undef=.pointer (some ⟨p,0,none⟩)) (hg:w.heap[p]?=some (.cells (rgc a m v) 112 (0,0))) :
 (results Tryz.f52 tmps).run Tryz.prog w=.ok (RG a m v) w:=by
 simp only [results,Tryz.results52]
 have hp':tmps[2]?.getD undef=.pointer (some ⟨p,0,none⟩):=by simpa using hp
 simp [Sem.run_bind,Result.andThen,hp',asAddr,run_loadVar_row w p 112 112 (rgc a m v) (0,0) _ hg Tryz.underlying112 rfl Tryz.rg112]
theorem wpList_store_rg {ops:Array Oper} {rest:List Oper} {op:Oper} {a:Act} {Q:Exit→Act→World→Prop} (T:TypeId) (hT:(Tryz.prog.info? T).map (·.size)=some 3) (hgd:op.guard=none) (x y:Operand) (ho:op.op=.store T x y)
 (w:World) (z:Nat) (b1 b2 b3 c1 c2 c3:Int) (hx:a.eval x=.pointer (some ⟨z,0,none⟩)) (hy:a.eval y=RG b1 b2 b3) (hz:w.heap[z]?=some (.cells (rgc c1 c2 c3) T (0,0)))
 (h:wpList Tryz.prog ops Q rest (a.put op.dst undef) (w.setRow z (rgc b1 b2 b3))):wpList Tryz.prog ops Q (op :: rest) a w :=
 wpList_store_row hgd T x y ho z _ hx hy T _ hz hT rfl (by simp [Value.oneCell']) h
theorem lref_any (a m v:Int) (w:World):Calls Tryz.prog 52 #[RG a m v] w fun e w'=>e=.returned (RG a m v)∧Below w.heap.size w w':=by
 obtain ⟨W,hW⟩:∃ W,W=(w.alloc (.cells (rgc a m v) 40)).alloc (.cells (rgc 0 0 0) 112):=⟨_,rfl⟩
 have hB:Below w.heap.size w W:=by rw [hW];exact ((Below.refl _ w).alloc (Nat.le_refl _) _).alloc (by simp) _
 have h1:W.heap[w.heap.size]?=some (.cells (rgc a m v) 40 (0,0)):=by rw [hW,Lib.alloc_old _ _ _ (by simp)];exact heap_alloc_new w _
 obtain ⟨p,hp⟩:∃ p,p=w.heap.size+1:=⟨_,rfl⟩
 have h2:W.heap[p]?=some (.cells (rgc 0 0 0) 112 (0,0)):=by
  rw [hW,hp]
  have:=heap_alloc_new (w.alloc (.cells (rgc a m v) 40)) (.cells (rgc 0 0 0) 112)
  rwa [World.size_alloc] at this
 obtain ⟨c0,c1,c2⟩:=rgc_cells h1
 obtain ⟨W9,hW9⟩:∃ W9,W9=W.setRow p (rgc a m v):=⟨_,rfl⟩
 have hB9:Below w.heap.size w W9:=by rw [hW9];exact hB.trans ⟨rfl,rfl,rfl,by simp,fun k hk=>setRow_other _ _ _ _ (by omega)⟩
 have h9:W9.heap[p]?=some (.cells (rgc a m v) 112 (0,0)):=by rw [hW9];exact setRow_heap _ _ _ _ 112 (0,0) h2
 have HB9:=zh hB9
 have H9:=zh h9
 have HW:=zh hW
 have HW9:=zh hW9
 have HP:=zh hp
 have H2:=zh h2
 clear hB h1 hp h2 hW9 hB9 h9 hW
 go_enter Tryz.func52,Tryz.ntmps52
 go_upto_region 1 with fail
 refine wp_at (w:=W) HW.out.symm ?_
 rw [←HP.out]
 go_wp2_with (refine wpList_store_rg 112 Tryz.rg112 rfl _ _ rfl _ _ a m v 0 0 0 rfl rfl H2.out ?_;refine wpList_at HW9.out.symm ?_;go_frame)
 exact bodyPost_ret (v:=_) (res52 _ _ p a m v rfl H9.out) rfl ⟨rfl,HB9.out⟩
theorem Le.keep {B:Nat} {A:Option Addr} {n c:Nat} {es:List En} {w w':World} (h:Le B A n c es w) (he:∀ k,(Value.slice A n c).ownBlock=some k→w'.heap[k]?=w.heap[k]?):Le B A n c es w':=⟨row_of_heap h.own he,h.len⟩
theorem Px.addLe {w W W':World} {g gr:Nat} {K:List (Nat×Obj)} {d e:St} {A:Option Addr} {n c:Nat} {es:List En} (h:Px w g gr K d e W) (hb:Below W.heap.size W W') (hl:Le W.heap.size A n c es W') :
 ∃ K2,Px w g gr (K2++K) d e W'∧∀ g gr d e Z,Px w g gr (K2++K) d e Z→Le W.heap.size A n c es Z:=by
 cases hk:(Value.slice A n c).ownBlock with
 | none=>exact ⟨[],h.below hb,fun g gr d e Z hp=>hl.keep fun k hk2=>by rw [hk] at hk2;cases hk2⟩
 | some k =>
   obtain ⟨cur,hc⟩:=own_heap hl.own hk
   have hlo:W.heap.size≤k:=by
    obtain ⟨_,hr⟩:=hl.own
    rcases hr with hr|⟨gb,c',cur',hr,hb2,_⟩
    ·rw [hr.1] at hk;cases hk
    ·rw [hr] at hk
     have:gb=k:=by simpa [Value.ownBlock] using hk
     omega
   refine ⟨[(k,.cells cur 28 (0,0))],h.add hb hlo hc,fun g gr d e Z hp=>hl.keep fun k2 hk2=>?_⟩
   obtain rfl:k=k2:=Option.some.inj (hk.symm.trans hk2)
   exact (hp.get (by simp)).trans hc.symm
theorem Px.drop {w W:World} {g gr:Nat} {K2 K:List (Nat×Obj)} {d e:St} (h:Px w g gr (K2++K) d e W):Px w g gr K d e W:=by
 obtain ⟨L,Lr,h1,h2,h3,h4,h5⟩:=h
 exact ⟨L,Lr,h1,h2,h3,h4,fun p hp=>h5 p (List.mem_append_right _ hp)⟩
theorem Px.q1r {w W:World} {g gr:Nat} {K:List (Nat×Obj)} {d e:St} {f:Nat} {xs:Array Value} {R:Ending→World→Prop} (h:Px w g gr K d e W) (hc:∀ L,Dv W g L d→Calls Tryz.prog f xs W fun x w'=>R x w'∧Below W.heap.size W w') :
 Calls Tryz.prog f xs W fun x w'=>R x w'∧Px w g gr K d e w'∧Below W.heap.size W w':=by
 have h0:=h
 obtain ⟨L,Lr,h1,h2,h3,h4,h5⟩:=h
 exact (hc L h1).mono fun x w' ⟨hx,hm⟩=>⟨hx,h0.below hm,hm⟩
theorem Px.q2r {w W:World} {g gr:Nat} {K:List (Nat×Obj)} {d e:St} {f:Nat} {xs:Array Value} {R:Ending→World→Prop} (h:Px w g gr K d e W) (hc:∀ L,Rf W w.heap.size gr L e→Calls Tryz.prog f xs W fun x w'=>R x w'∧Below W.heap.size W w') :
 Calls Tryz.prog f xs W fun x w'=>R x w'∧Px w g gr K d e w'∧Below W.heap.size W w':=by
 have h0:=h
 obtain ⟨L,Lr,h1,h2,h3,h4,h5⟩:=h
 exact (hc Lr h2).mono fun x w' ⟨hx,hm⟩=>⟨hx,h0.below hm,hm⟩
theorem pl_length (X:ByteArray→En) (O:ByteArray→Bool) (v:Int) (s:ByteArray):∀ f p,(pl X O v s f p).length≤f
 | 0,_=>Nat.le_refl _
 | f+1,p=>by
   rw [pl]
   split
   ·rw [List.length_cons];have:=pl_length X O v s f (nxtP v s p);omega
   ·exact Nat.zero_le _
theorem rdXE_len {d:St} (ok:d.Ok) (at_ m v:Int):(rdXE d at_ m v).length≤262145:=by
 unfold rdXE
 cases hon:onI d.n at_ m v with
 | false=>exact Nat.zero_le _
 | true =>
   obtain ⟨a,k,rfl,rfl,h1,h2⟩:=onI_true hon
   have n2:=ok.n2
   rw [if_pos rfl,Int.toNat_natCast,Int.toNat_natCast]
   unfold rdE
   split
   ·unfold parE parL
    rw [List.length_map]
    have:=pl_length qX D.aO v (rdB d a k) ((rdB d a k).size+1) 0
    have hs:(rdB d a k).size=k*64:=by unfold rdB;rw [txt_size,catS_len _ (fun i=>ok.now _)]
    omega
   ·exact Nat.zero_le _
theorem Px.dok {w W:World} {g gr:Nat} {K:List (Nat×Obj)} {d e:St} (h:Px w g gr K d e W):d.Ok:=by
 obtain ⟨L,Lr,h1,h2,h3,h4,h5⟩:=h
 exact h1.1
abbrev dec (k:Nat) (N:Int) (S:List UInt8) (A:Option Addr) (n c:Nat) (A':Option Addr) (n' c':Nat):Array Value:=#[.int .u8 k,.int .i64 N,.string (txt S),.slice A n c,.slice A' n' c']
theorem dec_cells {w:World} {b k:Nat} {N:Int} {S:List UInt8} {A:Option Addr} {n c:Nat} {A':Option Addr} {n' c':Nat} (h:w.heap[b]?=some (.cells (dec k N S A n c A' n' c') 50 (0,0))) :
 w.cell? ⟨b,0,none⟩=some (.int .u8 k)∧w.cell? ⟨b,1,none⟩=some (.int .i64 N)∧w.cell? ⟨b,2,none⟩=some (.string (txt S))∧w.cell? ⟨b,3,none⟩=some (.slice A n c) :=
 ⟨zcr _ _ 0 _ 50 (0,0) h,zcr _ _ 1 _ 50 (0,0) h,zcr _ _ 2 _ 50 (0,0) h,zcr _ _ 3 _ 50 (0,0) h⟩
theorem does_fill (w0:World) (g gr:Nat) (K:List (Nat×Obj)) (d:St) (at_ m v u:Int) (k:Nat) (N:Int) (S:List UInt8) (A:Option Addr) (n c:Nat) (A':Option Addr) (n' c':Nat) (Lm:List (En×Bool)) (w:World) (hp:Px w0 g gr K d d w)
 (ha:at_≤9223372036854775807) (hk:k<256) (hM:Mades w.heap.size A n Lm w) (hok:∀ p∈Lm,p.1.Ok) (hn:(n:Int)≤9223372036854775807) (hN:-9223372036854775808≤N∧N≤9223372036854775807) (hr:k % 9=2) :
 Calls Tryz.prog 22 #[ptr g,ptr gr,RG at_ m v,.int .i64 u,.agg (dec k N S A n c A' n' c')] w fun e w'=>e=.returned (.tuple #[.int .i64 u,.bool true])∧Px w0 g gr K (filX d at_ m v (lgd 2 k 4 Lm)).1 (filX d at_ m v (lgd 2 k 4 Lm)).1 w':=by
 obtain ⟨W,hW⟩:∃ W,W=(w.alloc (.cells (rgc at_ m v) 40)).alloc (.cells (dec k N S A n c A' n' c') 50):=⟨_,rfl⟩
 obtain ⟨p7,hp7⟩:∃ p,p=w.heap.size:=⟨_,rfl⟩
 obtain ⟨p9,hp9⟩:∃ p,p=w.heap.size+1:=⟨_,rfl⟩
 have h7:W.heap[p7]?=some (.cells (rgc at_ m v) 40 (0,0)):=by rw [hW,hp7,Lib.alloc_old _ _ _ (by simp)];exact heap_alloc_new w _
 have h9:W.heap[p9]?=some (.cells (dec k N S A n c A' n' c') 50 (0,0)):=by
  rw [hW,hp9]
  have:=heap_alloc_new (w.alloc (.cells (rgc at_ m v) 40)) (.cells (dec k N S A n c A' n' c') 50)
  rwa [World.size_alloc] at this
 have hB:Below w.heap.size w W:=by rw [hW];exact ((Below.refl _ w).alloc (Nat.le_refl _) _).alloc (by simp) _
 have P0:Px w0 g gr ((p9,.cells (dec k N S A n c A' n' c') 50 (0,0)) :: (p7,.cells (rgc at_ m v) 40 (0,0)) :: K) d d W:=by
  have q1:=hp.add (W':=w.alloc (.cells (rgc at_ m v) 40)) (k:=p7) (o:=.cells (rgc at_ m v) 40 (0,0)) ((Below.refl _ w).alloc (Nat.le_refl _) _) (by omega) (by rw [hp7];exact heap_alloc_new w _)
  have q2:=q1.add (W':=W) (k:=p9) (o:=.cells (dec k N S A n c A' n' c') 50 (0,0)) (by rw [hW];exact (Below.refl _ _).alloc (Nat.le_refl _) _) (by rw [World.size_alloc];omega) h9
  exact q2
 have hMW:Mades W.heap.size A n Lm W:=by
  have h1:=hM.below hB
  exact ⟨h1.len,fun i e he=>by obtain ⟨a,hA,hb,hc⟩:=h1.at_ i e he;exact ⟨a,hA,Nat.lt_of_lt_of_le hb hB.size,hc⟩⟩
 have KL:Hid (Calls Tryz.prog 25 #[.slice A n c,.int .u64 k,.int .i64 4,.int .i64 2] W fun q w'=>∃ A' n' c',q=.returned (.slice A' n' c')∧Le W.heap.size A' n' c' (lgd 2 k 4 Lm) w'∧Below W.heap.size W w'):=logged_any A n c k 4 2 Lm W hMW hok hn (by omega) (by omega)
 have HOK:Hid ((∀ e∈lgd 2 k 4 Lm,e.Ok)∧(lgd 2 k 4 Lm).length≤4):=⟨fun e he=>(lgd_mem hok (.inr rfl) (by omega) (by omega) he).1,by rw [lgd_length];omega⟩
 obtain ⟨es,hes⟩:∃ es,es=lgd 2 k 4 Lm:=⟨_,rfl⟩
 try rw [←hes]
 rw [←hes] at KL HOK
 obtain ⟨X,hX⟩:∃ X,X=filX d at_ m v es:=⟨_,rfl⟩
 rw [←hX]
 have HX:=zh hX
 clear hX
 obtain ⟨d1,r1⟩:=X
 dsimp only
 obtain ⟨K1,hK1⟩:∃ K1,K1=(p9,Obj.cells (dec k N S A n c A' n' c') 50 (0,0)) :: (p7,.cells (rgc at_ m v) 40 (0,0)) :: K:=⟨_,rfl⟩
 have HDR:Hid (∀ K2 d e Z,Px w0 g gr (K2++K1) d e Z→Px w0 g gr K d e Z):=fun K2 d e Z h=>by
  rw [hK1] at h
  exact (h.drop).drop (K2:=[_,_])
 have HG:Hid (∀ K2 d e Z,Px w0 g gr (K2++K1) d e Z→Z.heap[p7]?=some (.cells (rgc at_ m v) 40 (0,0))∧Z.heap[p9]?=some (.cells (dec k N S A n c A' n' c') 50 (0,0))):=fun K2 d e Z h=>by
  rw [hK1] at h
  exact ⟨h.get (by simp),h.get (by simp)⟩
 rw [←hK1] at P0
 obtain ⟨c0,c1,c2,c3⟩:=dec_cells h9
 have HP0:=zh P0
 have HW:=zh hW
 have HP7:=zh hp7
 have HP9:=zh hp9
 clear hW h7 h9 hB P0 hMW hes hK1 hp hM hok hp7 hp9
 unfold ptr at *
 go_enter Tryz.func22,Tryz.ntmps22
 go_upto_region 1 with fail
 rw [←HP9.out,←HP7.out]
 refine wp_at (w:=W) HW.out.symm ?_
 go_upto_region 2 with (go_at_call 25;(with_reducible refine KL.out.mono ?_);rintro q w1 ⟨Ab,nb,cb,rfl,hle,b1⟩)
 obtain ⟨K2,P2,HL0⟩:=HP0.out.addLe b1 hle
 have HP1:=zh P2
 have HL:=zh HL0
 have HNB:Hid (nb≤64):=by have:=hle.len;have:=HOK.out.2;show _≤_;omega
 obtain ⟨g7,g9⟩:=HG.out _ _ _ _ P2
 clear c0 c1 c2 c3 KL hle b1 P2 HL0 HW HP0
 obtain ⟨c0,c1,c2,c3⟩:=dec_cells g9
 obtain ⟨e0,e1,e2⟩:=rgc_cells g7
 clear g7 g9 HP7 HP9
 have hr1:(k:Int) % 9=2:=by omega
 have G1:Hid (∀ d e Z,Px w0 g gr (K2++K1) d e Z→(Z.cell? ⟨p7,0,none⟩=some (.int .i64 at_)∧Z.cell? ⟨p7,1,none⟩=some (.int .i64 m)∧Z.cell? ⟨p7,2,none⟩=some (.int .i64 v))∧Z.cell? ⟨p9,1,none⟩=some (.int .i64 N)∧Z.cell? ⟨p9,2,none⟩=some (.string (txt S))):=fun d e Z h=>by
  obtain ⟨g7,g9⟩:=HG.out _ _ _ _ h
  obtain ⟨_,a1,a2,_⟩:=dec_cells g9
  exact ⟨rgc_cells g7,a1,a2⟩
 have KB:=zh (fun (d e:St) (Z:World) (h:Px w0 g gr (K2++K1) d e Z)=>(lref_any at_ m v Z).mono fun _ w' ⟨h1,h2⟩=>(⟨h1,h.below h2⟩:_∧Px w0 g gr (K2++K1) d e w'))
 have KF1:=zh (fun (Z:World) (h:Px w0 g gr (K2++K1) d d Z)=>h.c1 fun L hD=>pfill Ab nb cb es hD ha (HL.out _ _ _ _ _ h).ents HNB.out HOK.out.1 (m:=m) (v:=v))
 have KF2:=zh (fun (e:St) (Z:World) (h:Px w0 g gr (K2++K1) e d Z)=>h.c2 fun L hR=>rfillX Ab nb cb es hR ha (HL.out _ _ _ _ _ h).ents HNB.out HOK.out.1 (m:=m) (v:=v))
 rw [←HX.out] at KF1 KF2
 have qr:(r1==r1)=true:=beq_self_eq_true _
 clear HX hr ha HL HOK
 dsimp only at *
 unfold ptr at *
 go_upto_region 4 with fail
 clear c0 c1 c2 c3 e0 e1 e2
 have PF:=HP1.out.drew
 obtain ⟨⟨a0,a1,a2⟩,_⟩:=G1.out _ _ _ PF
 go_region_held3 (fun Z=>Z.cell? ⟨p7,0,none⟩=some (.int .i64 at_)∧Z.cell? ⟨p7,1,none⟩=some (.int .i64 m)∧Z.cell? ⟨p7,2,none⟩=some (.int .i64 v)) (first|exact ⟨a0,a1,a2⟩|exact (G1.out _ _ _ (by assumption)).1) (first
  | (go_at_call 26;(with_reducible refine (KF1.out _ PF).mono ?_);rintro e y1 ⟨rfl,Q1⟩)
  | (go_at_call 52;(with_reducible refine (KB.out _ _ _ Q1).mono ?_);rintro e y2 ⟨rfl,Q2⟩)
  | (go_at_call 51;(with_reducible refine (KF2.out _ _ Q2).mono ?_);rintro e y3 ⟨rfl,Q3⟩))
 all_goals
  have HQ3:=zh (HDR.out _ _ _ _ Q3)
  clear a0 a1 a2 PF Q1 Q2 Q3 KF1 KF2 KB G1
  go_wp2
  go_ret2
  exact ⟨rfl,HQ3.out⟩
theorem does_wipe (w0:World) (g gr:Nat) (K:List (Nat×Obj)) (d:St) (at_ m v u:Int) (k:Nat) (N:Int) (S:List UInt8) (A:Option Addr) (n c:Nat) (A':Option Addr) (n' c':Nat) (Lm:List (En×Bool)) (w:World) (hp:Px w0 g gr K d d w)
 (ha:at_≤9223372036854775807) (hk:k<256) (hM:Mades w.heap.size A n Lm w) (hok:∀ p∈Lm,p.1.Ok) (hn:(n:Int)≤9223372036854775807) (hN:-9223372036854775808≤N∧N≤9223372036854775807) (hr:k % 9=3) :
 Calls Tryz.prog 22 #[ptr g,ptr gr,RG at_ m v,.int .i64 u,.agg (dec k N S A n c A' n' c')] w fun e w'=>e=.returned (.tuple #[.int .i64 u,.bool true])∧Px w0 g gr K (wipX d at_ m v N).1 (wipX d at_ m v N).1 w':=by
 obtain ⟨W,hW⟩:∃ W,W=(w.alloc (.cells (rgc at_ m v) 40)).alloc (.cells (dec k N S A n c A' n' c') 50):=⟨_,rfl⟩
 obtain ⟨p7,hp7⟩:∃ p,p=w.heap.size:=⟨_,rfl⟩
 obtain ⟨p9,hp9⟩:∃ p,p=w.heap.size+1:=⟨_,rfl⟩
 have h7:W.heap[p7]?=some (.cells (rgc at_ m v) 40 (0,0)):=by rw [hW,hp7,Lib.alloc_old _ _ _ (by simp)];exact heap_alloc_new w _
 have h9:W.heap[p9]?=some (.cells (dec k N S A n c A' n' c') 50 (0,0)):=by
  rw [hW,hp9]
  have:=heap_alloc_new (w.alloc (.cells (rgc at_ m v) 40)) (.cells (dec k N S A n c A' n' c') 50)
  rwa [World.size_alloc] at this
 have hB:Below w.heap.size w W:=by rw [hW];exact ((Below.refl _ w).alloc (Nat.le_refl _) _).alloc (by simp) _
 have P0:Px w0 g gr ((p9,.cells (dec k N S A n c A' n' c') 50 (0,0)) :: (p7,.cells (rgc at_ m v) 40 (0,0)) :: K) d d W:=by
  have q1:=hp.add (W':=w.alloc (.cells (rgc at_ m v) 40)) (k:=p7) (o:=.cells (rgc at_ m v) 40 (0,0)) ((Below.refl _ w).alloc (Nat.le_refl _) _) (by omega) (by rw [hp7];exact heap_alloc_new w _)
  have q2:=q1.add (W':=W) (k:=p9) (o:=.cells (dec k N S A n c A' n' c') 50 (0,0)) (by rw [hW];exact (Below.refl _ _).alloc (Nat.le_refl _) _) (by rw [World.size_alloc];omega) h9
  exact q2
 have hMW:Mades W.heap.size A n Lm W:=by
  have h1:=hM.below hB
  exact ⟨h1.len,fun i e he=>by obtain ⟨a,hA,hb,hc⟩:=h1.at_ i e he;exact ⟨a,hA,Nat.lt_of_lt_of_le hb hB.size,hc⟩⟩
 have KL:Hid (Calls Tryz.prog 25 #[.slice A n c,.int .u64 k,.int .i64 4,.int .i64 2] W fun q w'=>∃ A' n' c',q=.returned (.slice A' n' c')∧Le W.heap.size A' n' c' (lgd 2 k 4 Lm) w'∧Below W.heap.size W w'):=logged_any A n c k 4 2 Lm W hMW hok hn (by omega) (by omega)
 have HOK:Hid ((∀ e∈lgd 2 k 4 Lm,e.Ok)∧(lgd 2 k 4 Lm).length≤4):=⟨fun e he=>(lgd_mem hok (.inr rfl) (by omega) (by omega) he).1,by rw [lgd_length];omega⟩
 obtain ⟨es,hes⟩:∃ es,es=lgd 2 k 4 Lm:=⟨_,rfl⟩
 try rw [←hes]
 rw [←hes] at KL HOK
 obtain ⟨X,hX⟩:∃ X,X=wipX d at_ m v N:=⟨_,rfl⟩
 rw [←hX]
 have HX:=zh hX
 clear hX
 obtain ⟨d1,r1⟩:=X
 dsimp only
 obtain ⟨K1,hK1⟩:∃ K1,K1=(p9,Obj.cells (dec k N S A n c A' n' c') 50 (0,0)) :: (p7,.cells (rgc at_ m v) 40 (0,0)) :: K:=⟨_,rfl⟩
 have HDR:Hid (∀ K2 d e Z,Px w0 g gr (K2++K1) d e Z→Px w0 g gr K d e Z):=fun K2 d e Z h=>by
  rw [hK1] at h
  exact (h.drop).drop (K2:=[_,_])
 have HG:Hid (∀ K2 d e Z,Px w0 g gr (K2++K1) d e Z→Z.heap[p7]?=some (.cells (rgc at_ m v) 40 (0,0))∧Z.heap[p9]?=some (.cells (dec k N S A n c A' n' c') 50 (0,0))):=fun K2 d e Z h=>by
  rw [hK1] at h
  exact ⟨h.get (by simp),h.get (by simp)⟩
 rw [←hK1] at P0
 obtain ⟨c0,c1,c2,c3⟩:=dec_cells h9
 have HP0:=zh P0
 have HW:=zh hW
 have HP7:=zh hp7
 have HP9:=zh hp9
 clear hW h7 h9 hB P0 hMW hes hK1 hp hM hok hp7 hp9
 unfold ptr at *
 go_enter Tryz.func22,Tryz.ntmps22
 go_upto_region 1 with fail
 rw [←HP9.out,←HP7.out]
 refine wp_at (w:=W) HW.out.symm ?_
 go_upto_region 2 with (go_at_call 25;(with_reducible refine KL.out.mono ?_);rintro q w1 ⟨Ab,nb,cb,rfl,hle,b1⟩)
 obtain ⟨K2,P2,HL0⟩:=HP0.out.addLe b1 hle
 have HP1:=zh P2
 have HL:=zh HL0
 have HNB:Hid (nb≤64):=by have:=hle.len;have:=HOK.out.2;show _≤_;omega
 obtain ⟨g7,g9⟩:=HG.out _ _ _ _ P2
 clear c0 c1 c2 c3 KL hle b1 P2 HL0 HW HP0
 obtain ⟨c0,c1,c2,c3⟩:=dec_cells g9
 obtain ⟨e0,e1,e2⟩:=rgc_cells g7
 clear g7 g9 HP7 HP9
 have hr1:(k:Int) % 9=3:=by omega
 have G1:Hid (∀ d e Z,Px w0 g gr (K2++K1) d e Z→(Z.cell? ⟨p7,0,none⟩=some (.int .i64 at_)∧Z.cell? ⟨p7,1,none⟩=some (.int .i64 m)∧Z.cell? ⟨p7,2,none⟩=some (.int .i64 v))∧Z.cell? ⟨p9,1,none⟩=some (.int .i64 N)∧Z.cell? ⟨p9,2,none⟩=some (.string (txt S))):=fun d e Z h=>by
  obtain ⟨g7,g9⟩:=HG.out _ _ _ _ h
  obtain ⟨_,a1,a2,_⟩:=dec_cells g9
  exact ⟨rgc_cells g7,a1,a2⟩
 have KB:=zh (fun (d e:St) (Z:World) (h:Px w0 g gr (K2++K1) d e Z)=>(lref_any at_ m v Z).mono fun _ w' ⟨h1,h2⟩=>(⟨h1,h.below h2⟩:_∧Px w0 g gr (K2++K1) d e w'))
 have KF1:=zh (fun (Z:World) (h:Px w0 g gr (K2++K1) d d Z)=>h.c1 fun L hD=>pwipe N hD ha (m:=m) (v:=v))
 have KF2:=zh (fun (e:St) (Z:World) (h:Px w0 g gr (K2++K1) e d Z)=>h.c2 fun L hR=>rwipeX N hR ha (m:=m) (v:=v))
 rw [←HX.out] at KF1 KF2
 have qr:(r1==r1)=true:=beq_self_eq_true _
 clear HX hr ha HL HOK
 dsimp only at *
 unfold ptr at *
 go_upto_region 6 with fail
 clear c0 c1 c2 c3 e0 e1 e2
 have PF:=HP1.out.drew
 obtain ⟨⟨a0,a1,a2⟩,a3,_⟩:=G1.out _ _ _ PF
 go_region_held3 (fun Z=>(Z.cell? ⟨p7,0,none⟩=some (.int .i64 at_)∧Z.cell? ⟨p7,1,none⟩=some (.int .i64 m)∧Z.cell? ⟨p7,2,none⟩=some (.int .i64 v))∧Z.cell? ⟨p9,1,none⟩=some (.int .i64 N)) (first|exact ⟨⟨a0,a1,a2⟩,a3⟩|exact ⟨(G1.out _ _ _ (by assumption)).1,(G1.out _ _ _ (by assumption)).2.1⟩) (first
  | (go_at_call 30;(with_reducible refine (KF1.out _ PF).mono ?_);rintro e y1 ⟨rfl,Q1⟩)
  | (go_at_call 52;(with_reducible refine (KB.out _ _ _ Q1).mono ?_);rintro e y2 ⟨rfl,Q2⟩)
  | (go_at_call 53;(with_reducible refine (KF2.out _ _ Q2).mono ?_);rintro e y3 ⟨rfl,Q3⟩))
 all_goals
  have HQ3:=zh (HDR.out _ _ _ _ Q3)
  clear a0 a1 a2 a3 PF Q1 Q2 Q3 KF1 KF2 KB G1
  go_wp2
  go_ret2
  exact ⟨rfl,HQ3.out⟩
theorem does_write (w0:World) (g gr:Nat) (K:List (Nat×Obj)) (d:St) (at_ m v u:Int) (k:Nat) (N:Int) (S:List UInt8) (A:Option Addr) (n c:Nat) (A':Option Addr) (n' c':Nat) (Lm:List (En×Bool)) (w:World) (hp:Px w0 g gr K d d w)
 (ha:at_≤9223372036854775807) (hk:k<256) (hM:Mades w.heap.size A n Lm w) (hok:∀ p∈Lm,p.1.Ok) (hn:(n:Int)≤9223372036854775807) (hN:-9223372036854775808≤N∧N≤9223372036854775807) (hr:k % 9=5) :
 Calls Tryz.prog 22 #[ptr g,ptr gr,RG at_ m v,.int .i64 u,.agg (dec k N S A n c A' n' c')] w fun e w'=>e=.returned (.tuple #[.int .i64 u,.bool true])∧Px w0 g gr K (d.write N S).1 (d.write N S).1 w':=by
 obtain ⟨W,hW⟩:∃ W,W=(w.alloc (.cells (rgc at_ m v) 40)).alloc (.cells (dec k N S A n c A' n' c') 50):=⟨_,rfl⟩
 obtain ⟨p7,hp7⟩:∃ p,p=w.heap.size:=⟨_,rfl⟩
 obtain ⟨p9,hp9⟩:∃ p,p=w.heap.size+1:=⟨_,rfl⟩
 have h7:W.heap[p7]?=some (.cells (rgc at_ m v) 40 (0,0)):=by rw [hW,hp7,Lib.alloc_old _ _ _ (by simp)];exact heap_alloc_new w _
 have h9:W.heap[p9]?=some (.cells (dec k N S A n c A' n' c') 50 (0,0)):=by
  rw [hW,hp9]
  have:=heap_alloc_new (w.alloc (.cells (rgc at_ m v) 40)) (.cells (dec k N S A n c A' n' c') 50)
  rwa [World.size_alloc] at this
 have hB:Below w.heap.size w W:=by rw [hW];exact ((Below.refl _ w).alloc (Nat.le_refl _) _).alloc (by simp) _
 have P0:Px w0 g gr ((p9,.cells (dec k N S A n c A' n' c') 50 (0,0)) :: (p7,.cells (rgc at_ m v) 40 (0,0)) :: K) d d W:=by
  have q1:=hp.add (W':=w.alloc (.cells (rgc at_ m v) 40)) (k:=p7) (o:=.cells (rgc at_ m v) 40 (0,0)) ((Below.refl _ w).alloc (Nat.le_refl _) _) (by omega) (by rw [hp7];exact heap_alloc_new w _)
  have q2:=q1.add (W':=W) (k:=p9) (o:=.cells (dec k N S A n c A' n' c') 50 (0,0)) (by rw [hW];exact (Below.refl _ _).alloc (Nat.le_refl _) _) (by rw [World.size_alloc];omega) h9
  exact q2
 have hMW:Mades W.heap.size A n Lm W:=by
  have h1:=hM.below hB
  exact ⟨h1.len,fun i e he=>by obtain ⟨a,hA,hb,hc⟩:=h1.at_ i e he;exact ⟨a,hA,Nat.lt_of_lt_of_le hb hB.size,hc⟩⟩
 have KL:Hid (Calls Tryz.prog 25 #[.slice A n c,.int .u64 k,.int .i64 4,.int .i64 2] W fun q w'=>∃ A' n' c',q=.returned (.slice A' n' c')∧Le W.heap.size A' n' c' (lgd 2 k 4 Lm) w'∧Below W.heap.size W w'):=logged_any A n c k 4 2 Lm W hMW hok hn (by omega) (by omega)
 have HOK:Hid ((∀ e∈lgd 2 k 4 Lm,e.Ok)∧(lgd 2 k 4 Lm).length≤4):=⟨fun e he=>(lgd_mem hok (.inr rfl) (by omega) (by omega) he).1,by rw [lgd_length];omega⟩
 obtain ⟨es,hes⟩:∃ es,es=lgd 2 k 4 Lm:=⟨_,rfl⟩
 try rw [←hes]
 rw [←hes] at KL HOK
 obtain ⟨X,hX⟩:∃ X,X=d.write N S:=⟨_,rfl⟩
 rw [←hX]
 have HX:=zh hX
 clear hX
 obtain ⟨d1,r1⟩:=X
 dsimp only
 obtain ⟨K1,hK1⟩:∃ K1,K1=(p9,Obj.cells (dec k N S A n c A' n' c') 50 (0,0)) :: (p7,.cells (rgc at_ m v) 40 (0,0)) :: K:=⟨_,rfl⟩
 have HDR:Hid (∀ K2 d e Z,Px w0 g gr (K2++K1) d e Z→Px w0 g gr K d e Z):=fun K2 d e Z h=>by
  rw [hK1] at h
  exact (h.drop).drop (K2:=[_,_])
 have HG:Hid (∀ K2 d e Z,Px w0 g gr (K2++K1) d e Z→Z.heap[p7]?=some (.cells (rgc at_ m v) 40 (0,0))∧Z.heap[p9]?=some (.cells (dec k N S A n c A' n' c') 50 (0,0))):=fun K2 d e Z h=>by
  rw [hK1] at h
  exact ⟨h.get (by simp),h.get (by simp)⟩
 rw [←hK1] at P0
 obtain ⟨c0,c1,c2,c3⟩:=dec_cells h9
 have HP0:=zh P0
 have HW:=zh hW
 have HP7:=zh hp7
 have HP9:=zh hp9
 clear hW h7 h9 hB P0 hMW hes hK1 hp hM hok hp7 hp9
 unfold ptr at *
 go_enter Tryz.func22,Tryz.ntmps22
 go_upto_region 1 with fail
 rw [←HP9.out,←HP7.out]
 refine wp_at (w:=W) HW.out.symm ?_
 go_upto_region 2 with (go_at_call 25;(with_reducible refine KL.out.mono ?_);rintro q w1 ⟨Ab,nb,cb,rfl,hle,b1⟩)
 obtain ⟨K2,P2,HL0⟩:=HP0.out.addLe b1 hle
 have HP1:=zh P2
 have HL:=zh HL0
 have HNB:Hid (nb≤64):=by have:=hle.len;have:=HOK.out.2;show _≤_;omega
 obtain ⟨g7,g9⟩:=HG.out _ _ _ _ P2
 clear c0 c1 c2 c3 KL hle b1 P2 HL0 HW HP0
 obtain ⟨c0,c1,c2,c3⟩:=dec_cells g9
 obtain ⟨e0,e1,e2⟩:=rgc_cells g7
 clear g7 g9 HP7 HP9
 have hr1:(k:Int) % 9=5:=by omega
 have G1:Hid (∀ d e Z,Px w0 g gr (K2++K1) d e Z→(Z.cell? ⟨p7,0,none⟩=some (.int .i64 at_)∧Z.cell? ⟨p7,1,none⟩=some (.int .i64 m)∧Z.cell? ⟨p7,2,none⟩=some (.int .i64 v))∧Z.cell? ⟨p9,1,none⟩=some (.int .i64 N)∧Z.cell? ⟨p9,2,none⟩=some (.string (txt S))):=fun d e Z h=>by
  obtain ⟨g7,g9⟩:=HG.out _ _ _ _ h
  obtain ⟨_,a1,a2,_⟩:=dec_cells g9
  exact ⟨rgc_cells g7,a1,a2⟩
 have KB:=zh (fun (d e:St) (Z:World) (h:Px w0 g gr (K2++K1) d e Z)=>(lref_any at_ m v Z).mono fun _ w' ⟨h1,h2⟩=>(⟨h1,h.below h2⟩:_∧Px w0 g gr (K2++K1) d e w'))
 have KF1:=zh (fun (Z:World) (h:Px w0 g gr (K2++K1) d d Z)=>h.c1 fun L hD=>write_any g L d N S Z hD)
 have KF2:=zh (fun (e:St) (Z:World) (h:Px w0 g gr (K2++K1) e d Z)=>h.c2 fun L hR=>rwrite_any w0.heap.size gr L d N S Z hR)
 rw [←HX.out] at KF1 KF2
 have qr:(r1==r1)=true:=beq_self_eq_true _
 clear HX hr ha HL HOK
 dsimp only at *
 unfold ptr at *
 go_upto_region 13 with fail
 clear c0 c1 c2 c3 e0 e1 e2
 have PF:=HP1.out.drew
 obtain ⟨_,a3,a4⟩:=G1.out _ _ _ PF
 go_region_held3 (fun Z=>Z.cell? ⟨p9,1,none⟩=some (.int .i64 N)∧Z.cell? ⟨p9,2,none⟩=some (.string (txt S))) (first|exact ⟨a3,a4⟩|exact (G1.out _ _ _ (by assumption)).2) (first
  | (go_at_call 29;(with_reducible refine (KF1.out _ PF).mono ?_);rintro e y1 ⟨rfl,Q1⟩)
  | (go_at_call 55;(with_reducible refine (KF2.out _ _ Q1).mono ?_);rintro e y3 ⟨rfl,Q3⟩))
 all_goals
  have HQ3:=zh (HDR.out _ _ _ _ Q3)
  clear a3 a4 PF Q1 Q3 KF1 KF2 KB G1
  go_wp2
  go_ret2
  exact ⟨rfl,HQ3.out⟩
theorem does_arm (w0:World) (g gr:Nat) (K:List (Nat×Obj)) (d:St) (at_ m v u:Int) (k:Nat) (N:Int) (S:List UInt8) (A:Option Addr) (n c:Nat) (A':Option Addr) (n' c':Nat) (Lm:List (En×Bool)) (w:World) (hp:Px w0 g gr K d d w)
 (ha:at_≤9223372036854775807) (hk:k<256) (hM:Mades w.heap.size A n Lm w) (hok:∀ p∈Lm,p.1.Ok) (hn:(n:Int)≤9223372036854775807) (hN:-9223372036854775808≤N∧N≤9223372036854775807) (hr:k % 9=6) :
 Calls Tryz.prog 22 #[ptr g,ptr gr,RG at_ m v,.int .i64 u,.agg (dec k N S A n c A' n' c')] w fun e w'=>e=.returned (.tuple #[.int .i64 u,.bool true])∧Px w0 g gr K (d.arm N) (d.arm N) w':=by
 obtain ⟨W,hW⟩:∃ W,W=(w.alloc (.cells (rgc at_ m v) 40)).alloc (.cells (dec k N S A n c A' n' c') 50):=⟨_,rfl⟩
 obtain ⟨p7,hp7⟩:∃ p,p=w.heap.size:=⟨_,rfl⟩
 obtain ⟨p9,hp9⟩:∃ p,p=w.heap.size+1:=⟨_,rfl⟩
 have h7:W.heap[p7]?=some (.cells (rgc at_ m v) 40 (0,0)):=by rw [hW,hp7,Lib.alloc_old _ _ _ (by simp)];exact heap_alloc_new w _
 have h9:W.heap[p9]?=some (.cells (dec k N S A n c A' n' c') 50 (0,0)):=by
  rw [hW,hp9]
  have:=heap_alloc_new (w.alloc (.cells (rgc at_ m v) 40)) (.cells (dec k N S A n c A' n' c') 50)
  rwa [World.size_alloc] at this
 have hB:Below w.heap.size w W:=by rw [hW];exact ((Below.refl _ w).alloc (Nat.le_refl _) _).alloc (by simp) _
 have P0:Px w0 g gr ((p9,.cells (dec k N S A n c A' n' c') 50 (0,0)) :: (p7,.cells (rgc at_ m v) 40 (0,0)) :: K) d d W:=by
  have q1:=hp.add (W':=w.alloc (.cells (rgc at_ m v) 40)) (k:=p7) (o:=.cells (rgc at_ m v) 40 (0,0)) ((Below.refl _ w).alloc (Nat.le_refl _) _) (by omega) (by rw [hp7];exact heap_alloc_new w _)
  have q2:=q1.add (W':=W) (k:=p9) (o:=.cells (dec k N S A n c A' n' c') 50 (0,0)) (by rw [hW];exact (Below.refl _ _).alloc (Nat.le_refl _) _) (by rw [World.size_alloc];omega) h9
  exact q2
 have hMW:Mades W.heap.size A n Lm W:=by
  have h1:=hM.below hB
  exact ⟨h1.len,fun i e he=>by obtain ⟨a,hA,hb,hc⟩:=h1.at_ i e he;exact ⟨a,hA,Nat.lt_of_lt_of_le hb hB.size,hc⟩⟩
 have KL:Hid (Calls Tryz.prog 25 #[.slice A n c,.int .u64 k,.int .i64 4,.int .i64 2] W fun q w'=>∃ A' n' c',q=.returned (.slice A' n' c')∧Le W.heap.size A' n' c' (lgd 2 k 4 Lm) w'∧Below W.heap.size W w'):=logged_any A n c k 4 2 Lm W hMW hok hn (by omega) (by omega)
 have HOK:Hid ((∀ e∈lgd 2 k 4 Lm,e.Ok)∧(lgd 2 k 4 Lm).length≤4):=⟨fun e he=>(lgd_mem hok (.inr rfl) (by omega) (by omega) he).1,by rw [lgd_length];omega⟩
 obtain ⟨es,hes⟩:∃ es,es=lgd 2 k 4 Lm:=⟨_,rfl⟩
 try rw [←hes]
 rw [←hes] at KL HOK
 obtain ⟨d1,hX⟩:∃ X,X=d.arm N:=⟨_,rfl⟩
 rw [←hX]
 have HX:=zh hX
 clear hX
 obtain ⟨K1,hK1⟩:∃ K1,K1=(p9,Obj.cells (dec k N S A n c A' n' c') 50 (0,0)) :: (p7,.cells (rgc at_ m v) 40 (0,0)) :: K:=⟨_,rfl⟩
 have HDR:Hid (∀ K2 d e Z,Px w0 g gr (K2++K1) d e Z→Px w0 g gr K d e Z):=fun K2 d e Z h=>by
  rw [hK1] at h
  exact (h.drop).drop (K2:=[_,_])
 have HG:Hid (∀ K2 d e Z,Px w0 g gr (K2++K1) d e Z→Z.heap[p7]?=some (.cells (rgc at_ m v) 40 (0,0))∧Z.heap[p9]?=some (.cells (dec k N S A n c A' n' c') 50 (0,0))):=fun K2 d e Z h=>by
  rw [hK1] at h
  exact ⟨h.get (by simp),h.get (by simp)⟩
 rw [←hK1] at P0
 obtain ⟨c0,c1,c2,c3⟩:=dec_cells h9
 have HP0:=zh P0
 have HW:=zh hW
 have HP7:=zh hp7
 have HP9:=zh hp9
 clear hW h7 h9 hB P0 hMW hes hK1 hp hM hok hp7 hp9
 unfold ptr at *
 go_enter Tryz.func22,Tryz.ntmps22
 go_upto_region 1 with fail
 rw [←HP9.out,←HP7.out]
 refine wp_at (w:=W) HW.out.symm ?_
 go_upto_region 2 with (go_at_call 25;(with_reducible refine KL.out.mono ?_);rintro q w1 ⟨Ab,nb,cb,rfl,hle,b1⟩)
 obtain ⟨K2,P2,HL0⟩:=HP0.out.addLe b1 hle
 have HP1:=zh P2
 have HL:=zh HL0
 have HNB:Hid (nb≤64):=by have:=hle.len;have:=HOK.out.2;show _≤_;omega
 obtain ⟨g7,g9⟩:=HG.out _ _ _ _ P2
 clear c0 c1 c2 c3 KL hle b1 P2 HL0 HW HP0
 obtain ⟨c0,c1,c2,c3⟩:=dec_cells g9
 obtain ⟨e0,e1,e2⟩:=rgc_cells g7
 clear g7 g9 HP7 HP9
 have hr1:(k:Int) % 9=6:=by omega
 have G1:Hid (∀ d e Z,Px w0 g gr (K2++K1) d e Z→(Z.cell? ⟨p7,0,none⟩=some (.int .i64 at_)∧Z.cell? ⟨p7,1,none⟩=some (.int .i64 m)∧Z.cell? ⟨p7,2,none⟩=some (.int .i64 v))∧Z.cell? ⟨p9,1,none⟩=some (.int .i64 N)∧Z.cell? ⟨p9,2,none⟩=some (.string (txt S))):=fun d e Z h=>by
  obtain ⟨g7,g9⟩:=HG.out _ _ _ _ h
  obtain ⟨_,a1,a2,_⟩:=dec_cells g9
  exact ⟨rgc_cells g7,a1,a2⟩
 have KB:=zh (fun (d e:St) (Z:World) (h:Px w0 g gr (K2++K1) d e Z)=>(lref_any at_ m v Z).mono fun _ w' ⟨h1,h2⟩=>(⟨h1,h.below h2⟩:_∧Px w0 g gr (K2++K1) d e w'))
 have KF1:=zh (fun (Z:World) (h:Px w0 g gr (K2++K1) d d Z)=>h.c1 fun L hD=>arm_any g L d N Z hD hN.1 hN.2)
 have KF2:=zh (fun (e:St) (Z:World) (h:Px w0 g gr (K2++K1) e d Z)=>h.c2 fun L hR=>rarm_any w0.heap.size gr L d N Z hR hN.1 hN.2)
 rw [←HX.out] at KF1 KF2
 clear HX hr ha HL HOK
 unfold ptr at *
 go_upto_region 15 with fail
 clear c0 c2 c3 e0 e1 e2
 go_upto_region 16 with (go_at_call 56;(with_reducible refine (KF1.out _ HP1.out).mono ?_);rintro e y1 ⟨rfl,Q1⟩)
 have HQ1:=zh Q1
 obtain ⟨_,a3,_⟩:=G1.out _ _ _ Q1
 clear Q1 c1
 go_upto_region 17 with (go_at_call 57;(with_reducible refine (KF2.out _ _ HQ1.out).mono ?_);rintro e y3 ⟨rfl,Q3⟩)
 have HQ3:=zh (HDR.out _ _ _ _ Q3)
 clear a3 Q3 KF1 KF2 KB G1
 go_wp2
 go_ret2
 exact ⟨rfl,HQ3.out⟩
theorem does_flush (w0:World) (g gr:Nat) (K:List (Nat×Obj)) (d:St) (at_ m v u:Int) (k:Nat) (N:Int) (S:List UInt8) (A:Option Addr) (n c:Nat) (A':Option Addr) (n' c':Nat) (Lm:List (En×Bool)) (w:World) (hp:Px w0 g gr K d d w)
 (ha:at_≤9223372036854775807) (hk:k<256) (hM:Mades w.heap.size A n Lm w) (hok:∀ p∈Lm,p.1.Ok) (hn:(n:Int)≤9223372036854775807) (hN:-9223372036854775808≤N∧N≤9223372036854775807) (hr:k % 9=8) :
 Calls Tryz.prog 22 #[ptr g,ptr gr,RG at_ m v,.int .i64 u,.agg (dec k N S A n c A' n' c')] w fun e w'=>e=.returned (.tuple #[.int .i64 u,.bool true])∧Px w0 g gr K d.flush.1 d.flush.1 w':=by
 obtain ⟨W,hW⟩:∃ W,W=(w.alloc (.cells (rgc at_ m v) 40)).alloc (.cells (dec k N S A n c A' n' c') 50):=⟨_,rfl⟩
 obtain ⟨p7,hp7⟩:∃ p,p=w.heap.size:=⟨_,rfl⟩
 obtain ⟨p9,hp9⟩:∃ p,p=w.heap.size+1:=⟨_,rfl⟩
 have h7:W.heap[p7]?=some (.cells (rgc at_ m v) 40 (0,0)):=by rw [hW,hp7,Lib.alloc_old _ _ _ (by simp)];exact heap_alloc_new w _
 have h9:W.heap[p9]?=some (.cells (dec k N S A n c A' n' c') 50 (0,0)):=by
  rw [hW,hp9]
  have:=heap_alloc_new (w.alloc (.cells (rgc at_ m v) 40)) (.cells (dec k N S A n c A' n' c') 50)
  rwa [World.size_alloc] at this
 have hB:Below w.heap.size w W:=by rw [hW];exact ((Below.refl _ w).alloc (Nat.le_refl _) _).alloc (by simp) _
 have P0:Px w0 g gr ((p9,.cells (dec k N S A n c A' n' c') 50 (0,0)) :: (p7,.cells (rgc at_ m v) 40 (0,0)) :: K) d d W:=by
  have q1:=hp.add (W':=w.alloc (.cells (rgc at_ m v) 40)) (k:=p7) (o:=.cells (rgc at_ m v) 40 (0,0)) ((Below.refl _ w).alloc (Nat.le_refl _) _) (by omega) (by rw [hp7];exact heap_alloc_new w _)
  have q2:=q1.add (W':=W) (k:=p9) (o:=.cells (dec k N S A n c A' n' c') 50 (0,0)) (by rw [hW];exact (Below.refl _ _).alloc (Nat.le_refl _) _) (by rw [World.size_alloc];omega) h9
  exact q2
 have hMW:Mades W.heap.size A n Lm W:=by
  have h1:=hM.below hB
  exact ⟨h1.len,fun i e he=>by obtain ⟨a,hA,hb,hc⟩:=h1.at_ i e he;exact ⟨a,hA,Nat.lt_of_lt_of_le hb hB.size,hc⟩⟩
 have KL:Hid (Calls Tryz.prog 25 #[.slice A n c,.int .u64 k,.int .i64 4,.int .i64 2] W fun q w'=>∃ A' n' c',q=.returned (.slice A' n' c')∧Le W.heap.size A' n' c' (lgd 2 k 4 Lm) w'∧Below W.heap.size W w'):=logged_any A n c k 4 2 Lm W hMW hok hn (by omega) (by omega)
 have HOK:Hid ((∀ e∈lgd 2 k 4 Lm,e.Ok)∧(lgd 2 k 4 Lm).length≤4):=⟨fun e he=>(lgd_mem hok (.inr rfl) (by omega) (by omega) he).1,by rw [lgd_length];omega⟩
 obtain ⟨es,hes⟩:∃ es,es=lgd 2 k 4 Lm:=⟨_,rfl⟩
 try rw [←hes]
 rw [←hes] at KL HOK
 obtain ⟨X,hX⟩:∃ X,X=d.flush:=⟨_,rfl⟩
 rw [←hX]
 have HX:=zh hX
 clear hX
 obtain ⟨d1,r1⟩:=X
 dsimp only
 obtain ⟨K1,hK1⟩:∃ K1,K1=(p9,Obj.cells (dec k N S A n c A' n' c') 50 (0,0)) :: (p7,.cells (rgc at_ m v) 40 (0,0)) :: K:=⟨_,rfl⟩
 have HDR:Hid (∀ K2 d e Z,Px w0 g gr (K2++K1) d e Z→Px w0 g gr K d e Z):=fun K2 d e Z h=>by
  rw [hK1] at h
  exact (h.drop).drop (K2:=[_,_])
 have HG:Hid (∀ K2 d e Z,Px w0 g gr (K2++K1) d e Z→Z.heap[p7]?=some (.cells (rgc at_ m v) 40 (0,0))∧Z.heap[p9]?=some (.cells (dec k N S A n c A' n' c') 50 (0,0))):=fun K2 d e Z h=>by
  rw [hK1] at h
  exact ⟨h.get (by simp),h.get (by simp)⟩
 rw [←hK1] at P0
 obtain ⟨c0,c1,c2,c3⟩:=dec_cells h9
 have HP0:=zh P0
 have HW:=zh hW
 have HP7:=zh hp7
 have HP9:=zh hp9
 clear hW h7 h9 hB P0 hMW hes hK1 hp hM hok hp7 hp9
 unfold ptr at *
 go_enter Tryz.func22,Tryz.ntmps22
 go_upto_region 1 with fail
 rw [←HP9.out,←HP7.out]
 refine wp_at (w:=W) HW.out.symm ?_
 go_upto_region 2 with (go_at_call 25;(with_reducible refine KL.out.mono ?_);rintro q w1 ⟨Ab,nb,cb,rfl,hle,b1⟩)
 obtain ⟨K2,P2,HL0⟩:=HP0.out.addLe b1 hle
 have HP1:=zh P2
 have HL:=zh HL0
 have HNB:Hid (nb≤64):=by have:=hle.len;have:=HOK.out.2;show _≤_;omega
 obtain ⟨g7,g9⟩:=HG.out _ _ _ _ P2
 clear c0 c1 c2 c3 KL hle b1 P2 HL0 HW HP0
 obtain ⟨c0,c1,c2,c3⟩:=dec_cells g9
 obtain ⟨e0,e1,e2⟩:=rgc_cells g7
 clear g7 g9 HP7 HP9
 have hr1:(k:Int) % 9=8:=by omega
 have G1:Hid (∀ d e Z,Px w0 g gr (K2++K1) d e Z→(Z.cell? ⟨p7,0,none⟩=some (.int .i64 at_)∧Z.cell? ⟨p7,1,none⟩=some (.int .i64 m)∧Z.cell? ⟨p7,2,none⟩=some (.int .i64 v))∧Z.cell? ⟨p9,1,none⟩=some (.int .i64 N)∧Z.cell? ⟨p9,2,none⟩=some (.string (txt S))):=fun d e Z h=>by
  obtain ⟨g7,g9⟩:=HG.out _ _ _ _ h
  obtain ⟨_,a1,a2,_⟩:=dec_cells g9
  exact ⟨rgc_cells g7,a1,a2⟩
 have KB:=zh (fun (d e:St) (Z:World) (h:Px w0 g gr (K2++K1) d e Z)=>(lref_any at_ m v Z).mono fun _ w' ⟨h1,h2⟩=>(⟨h1,h.below h2⟩:_∧Px w0 g gr (K2++K1) d e w'))
 have KF1:=zh (fun (Z:World) (h:Px w0 g gr (K2++K1) d d Z)=>h.c1 fun L hD=>flush_any g L d Z hD)
 have KF2:=zh (fun (e:St) (Z:World) (h:Px w0 g gr (K2++K1) e d Z)=>h.c2 fun L hR=>rflush_any w0.heap.size gr L d Z hR)
 rw [←HX.out] at KF1 KF2
 have qr:(r1==r1)=true:=beq_self_eq_true _
 clear HX hr ha HL HOK
 dsimp only at *
 unfold ptr at *
 go_upto_region 19 with fail
 clear c0 c1 c2 c3 e0 e1 e2
 go_wp2_with (first
  | (go_at_call 28;(with_reducible refine (KF1.out _ HP1.out).mono ?_);rintro e y1 ⟨rfl,Q1⟩)
  | (go_at_call 58;(with_reducible refine (KF2.out _ _ Q1).mono ?_);rintro e y3 ⟨rfl,Q3⟩))
 have HQ3:=zh (HDR.out _ _ _ _ Q3)
 clear Q1 Q3 KF1 KF2 KB G1
 go_ret2
 exact ⟨rfl,HQ3.out⟩
theorem does_read (w0:World) (g gr:Nat) (K:List (Nat×Obj)) (d:St) (at_ m v u:Int) (k:Nat) (N:Int) (S:List UInt8) (A:Option Addr) (n c:Nat) (A':Option Addr) (n' c':Nat) (Lm:List (En×Bool)) (w:World) (hp:Px w0 g gr K d d w)
 (ha:at_≤9223372036854775807) (hk:k<256) (hM:Mades w.heap.size A n Lm w) (hok:∀ p∈Lm,p.1.Ok) (hn:(n:Int)≤9223372036854775807) (hN:-9223372036854775808≤N∧N≤9223372036854775807) (hr:k % 9=4) :
 Calls Tryz.prog 22 #[ptr g,ptr gr,RG at_ m v,.int .i64 u,.agg (dec k N S A n c A' n' c')] w fun e w'=>e=.returned (.tuple #[.int .i64 (rdXU d at_ m v),.bool true])∧Px w0 g gr K d d w':=by
 obtain ⟨W,hW⟩:∃ W,W=(w.alloc (.cells (rgc at_ m v) 40)).alloc (.cells (dec k N S A n c A' n' c') 50):=⟨_,rfl⟩
 obtain ⟨p7,hp7⟩:∃ p,p=w.heap.size:=⟨_,rfl⟩
 obtain ⟨p9,hp9⟩:∃ p,p=w.heap.size+1:=⟨_,rfl⟩
 have h7:W.heap[p7]?=some (.cells (rgc at_ m v) 40 (0,0)):=by rw [hW,hp7,Lib.alloc_old _ _ _ (by simp)];exact heap_alloc_new w _
 have h9:W.heap[p9]?=some (.cells (dec k N S A n c A' n' c') 50 (0,0)):=by
  rw [hW,hp9]
  have:=heap_alloc_new (w.alloc (.cells (rgc at_ m v) 40)) (.cells (dec k N S A n c A' n' c') 50)
  rwa [World.size_alloc] at this
 have hB:Below w.heap.size w W:=by rw [hW];exact ((Below.refl _ w).alloc (Nat.le_refl _) _).alloc (by simp) _
 have P0:Px w0 g gr ((p9,.cells (dec k N S A n c A' n' c') 50 (0,0)) :: (p7,.cells (rgc at_ m v) 40 (0,0)) :: K) d d W:=by
  have q1:=hp.add (W':=w.alloc (.cells (rgc at_ m v) 40)) (k:=p7) (o:=.cells (rgc at_ m v) 40 (0,0)) ((Below.refl _ w).alloc (Nat.le_refl _) _) (by omega) (by rw [hp7];exact heap_alloc_new w _)
  have q2:=q1.add (W':=W) (k:=p9) (o:=.cells (dec k N S A n c A' n' c') 50 (0,0)) (by rw [hW];exact (Below.refl _ _).alloc (Nat.le_refl _) _) (by rw [World.size_alloc];omega) h9
  exact q2
 have hMW:Mades W.heap.size A n Lm W:=by
  have h1:=hM.below hB
  exact ⟨h1.len,fun i e he=>by obtain ⟨a,hA,hb,hc⟩:=h1.at_ i e he;exact ⟨a,hA,Nat.lt_of_lt_of_le hb hB.size,hc⟩⟩
 have KL:Hid (Calls Tryz.prog 25 #[.slice A n c,.int .u64 k,.int .i64 4,.int .i64 2] W fun q w'=>∃ A' n' c',q=.returned (.slice A' n' c')∧Le W.heap.size A' n' c' (lgd 2 k 4 Lm) w'∧Below W.heap.size W w'):=logged_any A n c k 4 2 Lm W hMW hok hn (by omega) (by omega)
 have HOK:Hid ((∀ e∈lgd 2 k 4 Lm,e.Ok)∧(lgd 2 k 4 Lm).length≤4):=⟨fun e he=>(lgd_mem hok (.inr rfl) (by omega) (by omega) he).1,by rw [lgd_length];omega⟩
 obtain ⟨es,hes⟩:∃ es,es=lgd 2 k 4 Lm:=⟨_,rfl⟩
 try rw [←hes]
 rw [←hes] at KL HOK
 have hdok:=P0.dok
 obtain ⟨X1,hX1⟩:∃ X,X=rdXU d at_ m v:=⟨_,rfl⟩
 obtain ⟨X2,hX2⟩:∃ X,X=rdXZ d at_ m v:=⟨_,rfl⟩
 obtain ⟨X3,hX3⟩:∃ X,X=rdXE d at_ m v:=⟨_,rfl⟩
 rw [←hX1]
 have HX1:=zh hX1
 have HX2:=zh hX2
 have HX3:=zh hX3
 have HB3:Hid (X3.length≤9223372036854775807):=Nat.le_trans (hX3▸rdXE_len hdok at_ m v) (by decide)
 clear hX1 hdok hX2 hX3
 obtain ⟨K1,hK1⟩:∃ K1,K1=(p9,Obj.cells (dec k N S A n c A' n' c') 50 (0,0)) :: (p7,.cells (rgc at_ m v) 40 (0,0)) :: K:=⟨_,rfl⟩
 have HDR:Hid (∀ K2 d e Z,Px w0 g gr (K2++K1) d e Z→Px w0 g gr K d e Z):=fun K2 d e Z h=>by
  rw [hK1] at h
  exact (h.drop).drop (K2:=[_,_])
 have HG:Hid (∀ K2 d e Z,Px w0 g gr (K2++K1) d e Z→Z.heap[p7]?=some (.cells (rgc at_ m v) 40 (0,0))∧Z.heap[p9]?=some (.cells (dec k N S A n c A' n' c') 50 (0,0))):=fun K2 d e Z h=>by
  rw [hK1] at h
  exact ⟨h.get (by simp),h.get (by simp)⟩
 rw [←hK1] at P0
 obtain ⟨c0,c1,c2,c3⟩:=dec_cells h9
 have HP0:=zh P0
 have HW:=zh hW
 have HP7:=zh hp7
 have HP9:=zh hp9
 clear hW h7 h9 hB P0 hMW hes hK1 hp hM hok hp7 hp9
 unfold ptr at *
 go_enter Tryz.func22,Tryz.ntmps22
 go_upto_region 1 with fail
 rw [←HP9.out,←HP7.out]
 refine wp_at (w:=W) HW.out.symm ?_
 go_upto_region 2 with (go_at_call 25;(with_reducible refine KL.out.mono ?_);rintro q w1 ⟨Ab,nb,cb,rfl,hle,b1⟩)
 obtain ⟨K2,P2,HL0⟩:=HP0.out.addLe b1 hle
 have HP1:=zh P2
 have HL:=zh HL0
 have HNB:Hid (nb≤64):=by have:=hle.len;have:=HOK.out.2;show _≤_;omega
 obtain ⟨g7,g9⟩:=HG.out _ _ _ _ P2
 clear c0 c1 c2 c3 KL hle b1 P2 HL0 HW HP0
 obtain ⟨c0,c1,c2,c3⟩:=dec_cells g9
 obtain ⟨e0,e1,e2⟩:=rgc_cells g7
 clear g7 g9 HP7 HP9
 have hr1:(k:Int) % 9=4:=by omega
 have G1:Hid (∀ d e Z,Px w0 g gr (K2++K1) d e Z→(Z.cell? ⟨p7,0,none⟩=some (.int .i64 at_)∧Z.cell? ⟨p7,1,none⟩=some (.int .i64 m)∧Z.cell? ⟨p7,2,none⟩=some (.int .i64 v))∧Z.cell? ⟨p9,1,none⟩=some (.int .i64 N)∧Z.cell? ⟨p9,2,none⟩=some (.string (txt S))):=fun d e Z h=>by
  obtain ⟨g7,g9⟩:=HG.out _ _ _ _ h
  obtain ⟨_,a1,a2,_⟩:=dec_cells g9
  exact ⟨rgc_cells g7,a1,a2⟩
 have KB:=zh (fun (d e:St) (Z:World) (h:Px w0 g gr (K2++K1) d e Z)=>(lref_any at_ m v Z).mono fun _ w' ⟨h1,h2⟩=>(⟨h1,h.below h2⟩:_∧Px w0 g gr (K2++K1) d e w'))
 have KF1:=zh (fun (Z:World) (h:Px w0 g gr (K2++K1) d d Z)=>h.q1r fun L hD=>pread hD ha (m:=m) (v:=v))
 have KF2:=zh (fun (K3:List (Nat×Obj)) (Z:World) (h:Px w0 g gr (K3++(K2++K1)) d d Z)=>h.q2r fun L hR=>rreadX hR ha (m:=m) (v:=v))
 have KB2:=zh (fun (K3:List (Nat×Obj)) (Z:World) (h:Px w0 g gr (K3++(K2++K1)) d d Z)=>(lref_any at_ m v Z).mono fun _ w' ⟨h1,h2⟩=>(⟨h1,h.below h2⟩:_∧Px w0 g gr (K3++(K2++K1)) d d w'))
 rw [←HX1.out,←HX2.out,←HX3.out] at KF1 KF2
 have qu:(X1==X1)=true:=beq_self_eq_true _
 have qz:(X2==X2)=true:=beq_self_eq_true _
 clear HX1 HX2 HX3 hr ha HL HOK
 unfold ptr at *
 go_upto_region 8 with fail
 clear c0 c1 c2 c3
 go_upto_region 9 with (go_at_call 31;(with_reducible refine (KF1.out _ HP1.out).mono ?_);rintro e y1 ⟨⟨A1,n1,k1,rfl,hle1⟩,Q1,b1⟩)
 obtain ⟨K3,Q2,HL3⟩:=HP1.out.addLe b1 hle1
 have HQ2:=zh Q2
 have HLa:=zh HL3
 obtain ⟨⟨a0,a1,a2⟩,_⟩:=G1.out _ _ _ Q1
 have hn1:=hle1.len
 clear Q1 b1 hle1 Q2 HL3 e0 e1 e2 HP1 KF1 KB
 go_upto_region 10 with (first
  | (go_at_call 52;(with_reducible refine (KB2.out _ _ HQ2.out).mono ?_);rintro e y2 ⟨rfl,Q3⟩)
  | (go_at_call 54;(with_reducible refine (KF2.out _ _ Q3).mono ?_);rintro e y3 ⟨⟨A2,n2,k2,rfl,hle2⟩,Q4,b4⟩))
 have HQ4:=zh (HDR.out _ _ _ _ Q4.drop)
 have HE1:=zh (HLa.out _ _ _ _ _ (Q4:Px w0 g gr (K3++(K2++K1)) d d y3)).ents
 have HE2:=zh hle2.ents
 have hn2:=hle2.len
 subst hn1
 subst hn2
 have HE3:=zh (esame_any A1 A2 X3.length k1 X3.length k2 X3 X3 y3 HE1.out HE2.out (by have:=HB3.out;omega) (by have:=HB3.out;omega))
 rw [entsB_self] at HE3
 clear Q3 Q4 b4 hle2 a0 a1 a2 HE1 HE2 HLa HB3 KF2 KB2 G1 HQ2
 go_wp2_with (go_at_call 17;(with_reducible refine HE3.out.mono ?_);rintro e y5 ⟨rfl,b5⟩)
 go_ret2
 exact ⟨rfl,HQ4.out.below b5⟩
theorem does_add (w0:World) (g gr:Nat) (K:List (Nat×Obj)) (d:St) (at_ m v u:Int) (k:Nat) (N:Int) (S:List UInt8) (A:Option Addr) (n c:Nat) (A':Option Addr) (n' c':Nat) (Lm:List (En×Bool)) (w:World) (hp:Px w0 g gr K d d w)
 (ha:at_≤9223372036854775807) (hk:k<256) (hM:Mades w.heap.size A n Lm w) (hok:∀ p∈Lm,p.1.Ok) (hn:(n:Int)≤9223372036854775807) (hN:-9223372036854775808≤N∧N≤9223372036854775807) (uu:Int) (hr:k % 9≠2∧k % 9≠3∧k % 9≠4∧k % 9≠5∧k % 9≠6∧k % 9≠8) (huu:(200<k∧uu=N)∨(¬ 200<k∧uu=u)) :
 Calls Tryz.prog 22 #[ptr g,ptr gr,RG at_ m v,.int .i64 u,.agg (dec k N S A n c A' n' c')] w fun e w'=>e=.returned (.tuple #[.int .i64 (if (addX d at_ m v uu (lgd 2 k 4 Lm)).2.2≠0 then u else (addX d at_ m v uu (lgd 2 k 4 Lm)).2.1),.bool true])∧Px w0 g gr K (addX d at_ m v uu (lgd 2 k 4 Lm)).1 (addX d at_ m v uu (lgd 2 k 4 Lm)).1 w':=by
 obtain ⟨W,hW⟩:∃ W,W=(w.alloc (.cells (rgc at_ m v) 40)).alloc (.cells (dec k N S A n c A' n' c') 50):=⟨_,rfl⟩
 obtain ⟨p7,hp7⟩:∃ p,p=w.heap.size:=⟨_,rfl⟩
 obtain ⟨p9,hp9⟩:∃ p,p=w.heap.size+1:=⟨_,rfl⟩
 have h7:W.heap[p7]?=some (.cells (rgc at_ m v) 40 (0,0)):=by rw [hW,hp7,Lib.alloc_old _ _ _ (by simp)];exact heap_alloc_new w _
 have h9:W.heap[p9]?=some (.cells (dec k N S A n c A' n' c') 50 (0,0)):=by
  rw [hW,hp9]
  have:=heap_alloc_new (w.alloc (.cells (rgc at_ m v) 40)) (.cells (dec k N S A n c A' n' c') 50)
  rwa [World.size_alloc] at this
 have hB:Below w.heap.size w W:=by rw [hW];exact ((Below.refl _ w).alloc (Nat.le_refl _) _).alloc (by simp) _
 have P0:Px w0 g gr ((p9,.cells (dec k N S A n c A' n' c') 50 (0,0)) :: (p7,.cells (rgc at_ m v) 40 (0,0)) :: K) d d W:=by
  have q1:=hp.add (W':=w.alloc (.cells (rgc at_ m v) 40)) (k:=p7) (o:=.cells (rgc at_ m v) 40 (0,0)) ((Below.refl _ w).alloc (Nat.le_refl _) _) (by omega) (by rw [hp7];exact heap_alloc_new w _)
  have q2:=q1.add (W':=W) (k:=p9) (o:=.cells (dec k N S A n c A' n' c') 50 (0,0)) (by rw [hW];exact (Below.refl _ _).alloc (Nat.le_refl _) _) (by rw [World.size_alloc];omega) h9
  exact q2
 have hMW:Mades W.heap.size A n Lm W:=by
  have h1:=hM.below hB
  exact ⟨h1.len,fun i e he=>by obtain ⟨a,hA,hb,hc⟩:=h1.at_ i e he;exact ⟨a,hA,Nat.lt_of_lt_of_le hb hB.size,hc⟩⟩
 have KL:Hid (Calls Tryz.prog 25 #[.slice A n c,.int .u64 k,.int .i64 4,.int .i64 2] W fun q w'=>∃ A' n' c',q=.returned (.slice A' n' c')∧Le W.heap.size A' n' c' (lgd 2 k 4 Lm) w'∧Below W.heap.size W w'):=logged_any A n c k 4 2 Lm W hMW hok hn (by omega) (by omega)
 have HOK:Hid ((∀ e∈lgd 2 k 4 Lm,e.Ok)∧(lgd 2 k 4 Lm).length≤4):=⟨fun e he=>(lgd_mem hok (.inr rfl) (by omega) (by omega) he).1,by rw [lgd_length];omega⟩
 obtain ⟨es,hes⟩:∃ es,es=lgd 2 k 4 Lm:=⟨_,rfl⟩
 try rw [←hes]
 rw [←hes] at KL HOK
 obtain ⟨X,hX⟩:∃ X,X=addX d at_ m v uu es:=⟨_,rfl⟩
 rw [←hX]
 have HX:=zh hX
 clear hX
 obtain ⟨d1,r1,z1⟩:=X
 dsimp only
 obtain ⟨UU,hUU⟩:∃ U,U=(if z1≠0 then u else r1):=⟨_,rfl⟩
 rw [←hUU]
 have HUU:=zh hUU
 clear hUU
 obtain ⟨K1,hK1⟩:∃ K1,K1=(p9,Obj.cells (dec k N S A n c A' n' c') 50 (0,0)) :: (p7,.cells (rgc at_ m v) 40 (0,0)) :: K:=⟨_,rfl⟩
 have HDR:Hid (∀ K2 d e Z,Px w0 g gr (K2++K1) d e Z→Px w0 g gr K d e Z):=fun K2 d e Z h=>by
  rw [hK1] at h
  exact (h.drop).drop (K2:=[_,_])
 have HG:Hid (∀ K2 d e Z,Px w0 g gr (K2++K1) d e Z→Z.heap[p7]?=some (.cells (rgc at_ m v) 40 (0,0))∧Z.heap[p9]?=some (.cells (dec k N S A n c A' n' c') 50 (0,0))):=fun K2 d e Z h=>by
  rw [hK1] at h
  exact ⟨h.get (by simp),h.get (by simp)⟩
 rw [←hK1] at P0
 obtain ⟨c0,c1,c2,c3⟩:=dec_cells h9
 have HP0:=zh P0
 have HW:=zh hW
 have HP7:=zh hp7
 have HP9:=zh hp9
 clear hW h7 h9 hB P0 hMW hes hK1 hp hM hok hp7 hp9
 unfold ptr at *
 go_enter Tryz.func22,Tryz.ntmps22
 go_upto_region 1 with fail
 rw [←HP9.out,←HP7.out]
 refine wp_at (w:=W) HW.out.symm ?_
 go_upto_region 2 with (go_at_call 25;(with_reducible refine KL.out.mono ?_);rintro q w1 ⟨Ab,nb,cb,rfl,hle,b1⟩)
 obtain ⟨K2,P2,HL0⟩:=HP0.out.addLe b1 hle
 have HP1:=zh P2
 have HL:=zh HL0
 have HNB:Hid (nb≤64):=by have:=hle.len;have:=HOK.out.2;show _≤_;omega
 obtain ⟨g7,g9⟩:=HG.out _ _ _ _ P2
 clear c0 c1 c2 c3 KL hle b1 P2 HL0 HW HP0
 obtain ⟨c0,c1,c2,c3⟩:=dec_cells g9
 obtain ⟨e0,e1,e2⟩:=rgc_cells g7
 clear g7 g9 HP7 HP9
 have q2:((k:Int) % 9==2)=false:=beqF (by omega)
 have q3:((k:Int) % 9==3)=false:=beqF (by omega)
 have q4:((k:Int) % 9==4)=false:=beqF (by omega)
 have q5:((k:Int) % 9==5)=false:=beqF (by omega)
 have q6:((k:Int) % 9==6)=false:=beqF (by omega)
 have q8:((k:Int) % 9==8)=false:=beqF (by omega)
 have G1:Hid (∀ d e Z,Px w0 g gr (K2++K1) d e Z→(Z.cell? ⟨p7,0,none⟩=some (.int .i64 at_)∧Z.cell? ⟨p7,1,none⟩=some (.int .i64 m)∧Z.cell? ⟨p7,2,none⟩=some (.int .i64 v))∧Z.cell? ⟨p9,1,none⟩=some (.int .i64 N)∧Z.cell? ⟨p9,2,none⟩=some (.string (txt S))):=fun d e Z h=>by
  obtain ⟨g7,g9⟩:=HG.out _ _ _ _ h
  obtain ⟨_,a1,a2,_⟩:=dec_cells g9
  exact ⟨rgc_cells g7,a1,a2⟩
 have KB:=zh (fun (d e:St) (Z:World) (h:Px w0 g gr (K2++K1) d e Z)=>(lref_any at_ m v Z).mono fun _ w' ⟨h1,h2⟩=>(⟨h1,h.below h2⟩:_∧Px w0 g gr (K2++K1) d e w'))
 have KF1:=zh (fun (Z:World) (h:Px w0 g gr (K2++K1) d d Z)=>h.c1 fun L hD=>padd uu Ab nb cb es hD ha (HL.out _ _ _ _ _ h).ents HNB.out HOK.out.1 (m:=m) (v:=v))
 have KF2:=zh (fun (e:St) (Z:World) (h:Px w0 g gr (K2++K1) e d Z)=>h.c2 fun L hR=>raddX uu Ab nb cb es hR ha (HL.out _ _ _ _ _ h).ents HNB.out HOK.out.1 (m:=m) (v:=v))
 rw [←HX.out] at KF1 KF2
 have qr:(r1==r1)=true:=beq_self_eq_true _
 have qz:(z1==z1)=true:=beq_self_eq_true _
 clear HX hr ha HL HOK
 dsimp only at *
 unfold ptr at *
 have huv:(decide (200<(k:Int))=true∧uu=N)∨(decide (200<(k:Int))=false∧uu=u):=by
  rcases huu with ⟨h1,h2⟩|⟨h1,h2⟩
  ·exact .inl ⟨decide_eq_true (by omega),h2⟩
  ·exact .inr ⟨decide_eq_false (by omega),h2⟩
 have hkk:(¬ (200<k))∨200<k:=by omega
 clear huu
 go_upto_region 21 with fail
 rcases huv with ⟨hg,hu⟩|⟨hg,hu⟩
 all_goals
  have hu':=hu.symm
  subst hu'
  clear hu
  go_upto_region 23 with fail
  clear c0 c1 c2 c3 q2 q3 q4 q5 q6 q8 hg
  go_upto_region 24 with (go_at_call 27;(with_reducible refine (KF1.out _ HP1.out).mono ?_);rintro e y1 ⟨rfl,Q1⟩)
  obtain ⟨⟨a0,a1,a2⟩,_⟩:=G1.out _ _ _ Q1
  have HQ1:=zh Q1
  clear e0 e1 e2 Q1 KF1
  go_upto_region 25 with (first
   | (go_at_call 52;(with_reducible refine (KB.out _ _ _ HQ1.out).mono ?_);rintro e y2 ⟨rfl,Q2⟩)
   | (go_at_call 59;(with_reducible refine (KF2.out _ _ Q2).mono ?_);rintro e y3 ⟨rfl,Q3⟩))
  have HQ3:=zh (HDR.out _ _ _ _ Q3)
  clear Q2 Q3 a0 a1 a2 KF2 KB G1 HQ1
  by_cases hz:z1=0
  ·have hU:UU=r1:=by rw [HUU.out,if_neg (fun h=>h hz)]
   subst hU
   subst hz
   clear HUU
   go_wp2
   go_ret2
   exact ⟨rfl,HQ3.out⟩
  ·have hU:UU=u:=by rw [HUU.out,if_pos hz]
   have e1:(z1==0)=false:=beqF hz
   have e2:(z1 != 0)=true:=by unfold bne;rw [e1];rfl
   subst hU
   clear HUU
   go_wp2
   go_ret2
   exact ⟨rfl,HQ3.out⟩
end Go.Proofs.YtnobeoppffoomaaGreat
