/-
  WalPlays: ZRy.
  Conditions: named in each theorem.
-/
import Derived.Test.YtnobeoppffoomaaGreatP36
import Derived.Test.YtnobeoppffoomaaGreatP35
import Derived.Deep.QuietTactic
import Derived.BigQuiet
import Derived.Test.YtnobeoppffoomaaGreatP0
set_option linter.unusedVariables false
set_option linter.unusedSimpArgs false
set_option maxHeartbeats 8000000
set_option maxRecDepth 100000
namespace Go.Proofs.YtnobeoppffoomaaGreat
open Go.RowKit Dk
theorem Dk.after_now (d:Dk.St) (l:List Int) (i:Nat):(d.after l).now i=if (i:Int)∈l then d.fl i else d.now i:=by
 show (if (i:Int)∈l then none else d.wt i).getD (d.fl i)=_
 split
 ·rfl
 ·rfl
structure Half (w:World) (B gn h1 k1 g3 n:Nat) (f:Nat→Value):Prop where
 blk:w.heap[gn]?=some (.cells #[.slice (some ⟨h1,0,none⟩) n k1,.slice none 0 0,.slice (some ⟨g3,0,none⟩) n n,.int .i64 (-1),.bool false] 103 (0,0))
 r1:w.ownsRow B 9 1 (.slice (some ⟨h1,0,none⟩) n k1) n (rowV f n)
 r3:w.ownsRow B 4 1 (.slice (some ⟨g3,0,none⟩) n n) n (rowV fV n)
 hB:B≤gn
theorem rowV_const (n:Nat):rowV fV n=List.replicate n (.bool false):=by
 unfold rowV fV
 rw [List.map_const']
 simp
section
variable {w w':World} {B gn h1 k1 g3 n i:Nat} {f f':Nat→Value}
theorem Half.b1 (h:Half w B gn h1 k1 g3 n f):gn≠h1:=by obtain ⟨_,hh⟩:=own_hp h.r1;exact ne_of_types h.blk hh (by decide)
theorem Half.b3 (h:Half w B gn h1 k1 g3 n f):gn≠g3:=by obtain ⟨_,hh⟩:=own_hp h.r3;exact ne_of_types h.blk hh (by decide)
theorem Half.b13 (h:Half w B gn h1 k1 g3 n f):h1≠g3:=by obtain ⟨_,hh⟩:=own_hp h.r1;obtain ⟨_,h3⟩:=own_hp h.r3;exact ne_of_types hh h3 (by decide)
theorem Half.drew (h:Half w B gn h1 k1 g3 n f):Half w.drew B gn h1 k1 g3 n f:=⟨h.blk,h.r1,h.r3,h.hB⟩
theorem Half.set1 (h:Half w B gn h1 k1 g3 n f) (i:Nat) (f':Nat→Value) (hf:∀ j,j<n→j≠i→f' j=f j):Half (w.setCell ⟨h1,i,none⟩ (f' i)) B gn h1 k1 g3 n f' :=
 ⟨(heap_setCell_other w ⟨h1,i,none⟩ gn _ h.b1).trans h.blk,by rw [←rowV_set f f' n i hf];exact (h.r1.stored i (f' i)).1,own_other h.r3 h.b13.symm,h.hB⟩
theorem Half.c (h:Half w B gn h1 k1 g3 n f) (o:Nat):w.cell? ⟨gn,o,none⟩=(#[.slice (some ⟨h1,0,none⟩) n k1,.slice none 0 0,.slice (some ⟨g3,0,none⟩) n n,.int .i64 (-1),.bool false]:Array Value)[o]?:=zcr w gn o _ 103 (0,0) h.blk
end
theorem Half.congr {w:World} {B gn h1 k1 g3 n:Nat} {f f':Nat→Value} (h:Half w B gn h1 k1 g3 n f) (hf:∀ j,j<n→f j=f' j):Half w B gn h1 k1 g3 n f' :=
 ⟨h.blk,by rw [←rowV_congr f f' n hf];exact h.r1,h.r3,h.hB⟩
theorem Half.first {w1 w4:World} {B gn g cap m n g3:Nat} {xs:List Value} {f:Nat→Value} (hblk:w1.heap[gn]?=some (.cells #[.slice none 0 0,.slice none 0 0,.slice (some ⟨g3,0,none⟩) n n,.int .i64 (-1),.bool false] 103 (0,0)))
 (hr3:w1.ownsRow B 4 1 (.slice (some ⟨g3,0,none⟩) n n) n (rowV fV n)) (hB:B≤gn) (hs:w1.heap.size=gn+1) (hg3:g3<gn)
 (hown:w4.ownsRow B 9 1 (.slice (some ⟨g,0,none⟩) m cap) m xs) (hm:m=n) (hxs:xs=rowV f n) (hgrow:w1.grownBy w4 none) (hg:g=gn+1) :
 Half (w4.setCell ⟨gn,0,none⟩ (.slice (some ⟨g,0,none⟩) m cap)) B gn g cap g3 n f:=by
 subst hm hxs
 refine ⟨?_,own_other hown (by omega),own_other (row_of_heap hr3 (fun k hk=>hgrow.block k (hr3.lt k hk).2 (by simp))) (by omega),hB⟩
 exact heap_setCell_same w4 gn 0 _ 103 _ ((hgrow.block gn (by omega) (by simp)).trans hblk)
theorem Half.done {w1 w4:World} {B gn g cap m n h1 k1 g3:Nat} {xs:List Value} {f:Nat→Value} (h:Half w1 B gn h1 k1 g3 n f)
 (hown:w4.ownsRow B 9 1 (.slice (some ⟨g,0,none⟩) m cap) m xs) (hm:m=n) (hxs:xs=rowV f n) (hgrow:w1.grownBy w4 none) (hg:g=w1.heap.size) :
 RAt (w4.setCell ⟨gn,1,none⟩ (.slice (some ⟨g,0,none⟩) m cap)) B gn h1 k1 g cap g3 n n f f fV (-1) false:=by
 subst hm hxs
 have l1:=(h.r1.lt h1 rfl).2
 have l3:=(h.r3.lt g3 rfl).2
 have lb:=lt_of_heap h.blk
 refine ⟨?_,own_other (row_of_heap h.r1 (fun k hk=>hgrow.block k (h.r1.lt k hk).2 (by simp))) h.b1.symm,own_other hown (by omega),own_other (row_of_heap h.r3 (fun k hk=>hgrow.block k (h.r3.lt k hk).2 (by simp))) h.b3.symm,by omega,h.hB⟩
 exact heap_setCell_same w4 gn 1 _ 103 _ ((hgrow.block gn lb (by simp)).trans h.blk)
theorem news_row {w:World} {B e g c n:Nat} {f:Nat→Value} (h:w.ownsRow B e 1 (.slice (some ⟨g,0,none⟩) n c) n (rowV f n)):∀ j u,(rowV f n)[j]?=some u→w.cell? ((⟨g,0,none⟩:Addr).add j)=some u:=fun j u hu=>by
 have hj:j<n:=by have:=(List.getElem?_eq_some_iff.1 hu).1;rwa [rowV_length] at this
 rw [rowV_get f n j hj] at hu
 have hadd:(⟨g,0,none⟩:Addr).add j=⟨g,j,none⟩:=by rw [Addr.add_mid,Nat.zero_add]
 rw [hadd,row_cell h j hj,hu]
def lostF (d:St) (l:List Int) (j:Nat):Value:=.string (txt (if (j:Int)∈l then d.fl j else d.now j))
theorem lostF_nil (d:St):lostF d []=nowV d:=by
 funext j;simp [lostF,nowV]
theorem lostF_out {d:St} {l:List Int} {x:Int} {n:Nat} (h:x<0∨(n:Int)≤x):∀ j,j<n→lostF d l j=lostF d (l++[x]) j:=by
 intro j hj
 have e:((j:Int)∈l++[x])↔(j:Int)∈l:=by
  rw [List.mem_append]
  constructor
  ·rintro (h1|h1)
   ·exact h1
   ·have:(j:Int)=x:=by simpa using h1
    omega
  ·exact .inl
 unfold lostF
 simp only [e]
theorem lostF_none {d:St} {l:List Int} {i:Nat} (h:(d.wt i).isSome=false):∀ j,lostF d l j=lostF d (l++[(i:Int)]) j:=by
 intro j
 unfold lostF
 by_cases h1:(j:Int)∈l
 ·rw [if_pos h1,if_pos (List.mem_append.2 (.inl h1))]
 ·by_cases h2:j=i
  ·subst h2
   rw [if_neg h1,if_pos (List.mem_append.2 (.inr (by simp)))]
   have:d.wt j=none:=by simpa using h
   unfold St.now
   rw [this];rfl
  ·rw [if_neg h1,if_neg]
   intro h3
   rcases List.mem_append.1 h3 with h3|h3
   ·exact h1 h3
   ·have:(j:Int)=i:=by simpa using h3
    omega
theorem lostF_other {d:St} {l:List Int} {i j:Nat} (h:j≠i):lostF d (l++[(i:Int)]) j=lostF d l j:=by
 have e:((j:Int)∈l++[(i:Int)])↔(j:Int)∈l:=by
  rw [List.mem_append]
  constructor
  ·rintro (h1|h1)
   ·exact h1
   ·have:(j:Int)=i:=by simpa using h1
    omega
  ·exact .inl
 unfold lostF
 simp only [e]
theorem lostF_at (d:St) (l:List Int) (i:Nat):lostF d (l++[(i:Int)]) i=.string (txt (d.fl i)):=by
 unfold lostF
 rw [if_pos (List.mem_append.2 (.inr (by simp)))]
theorem rafter_any (B0 gr:Nat) (L:List Nat) (d:St) (A:Option Addr) (lost:List Int) (c:Nat) (w:World) (h:Rf w B0 gr L d) (hl:IntsAt w A lost) (hm:lost.length≤maxLen) :
 Calls Tryz.prog 21 #[ptr gr,.slice A lost.length c] w fun e w'=>∃ gr' L',e=.returned (ptr gr')∧Rf w' w.heap.size gr' L' (d.after lost)∧Below w.heap.size w w':=by
 obtain ⟨i9,hi9,hz90,hz91,hz92⟩:=info_parts Tryz.info9
 obtain ⟨i4,hi4,hz40,hz41,hz42⟩:=info_parts Tryz.info4
 have ho:=zh h.1
 obtain ⟨g1,c1,g2,c2,g3,c3,rfl,hA⟩:=RAt.of_rf h
 obtain ⟨n,hn⟩:∃ n,n=d.n:=⟨_,rfl⟩
 rw [←hn] at hA
 have hn1:1≤n:=by rw [hn];exact ho.out.n1
 have hn2:n≤4096:=by rw [hn];exact ho.out.n2
 have HNN:=zh hn
 have HA:=zh hA
 have HL:=zh hl
 have q0:=hA.c 0
 change w.cell? ⟨gr,0,none⟩=some (.slice (some ⟨g1,0,none⟩) n c1) at q0
 clear h hA hl hn
 unfold maxLen at hm
 have hn0:(0:Int)≤n:=by omega
 unfold ptr
 go_enter Tryz.func21,Tryz.ntmps21
 go_wp2_with (at_make;refine wpList_make_full _ rfl _ _ 101 rfl w.heap.size 4 i4 (.bool false) 1 Tryz.underlying101 hi4 hz40 hz41 .i64 .i64 _ _ n rfl rfl rfl rfl (by rw [hz42];omega) (by unfold maxLen;omega) (Nat.le_refl _) ?_;intro w0 hown0 hgrow0)
 obtain ⟨gn,hgn⟩:∃ gn,gn=w0.heap.size:=⟨_,rfl⟩
 have hb0:Below w.heap.size w w0:=(Below.refl _ _).grown hgrow0 (Nat.le_refl _) (by simp)
 have hrw:(madeCells (Value.bool false).cells (n*1)).toList=rowV fV n:=by
  rw [rowV_const,Nat.mul_one]
  exact toList_madeCells_one _ _
 rw [hrw] at hown0
 obtain ⟨w1,hw1⟩:∃ w1,w1=w0.alloc (.cells #[.slice none 0 0,.slice none 0 0,.slice (some ⟨w.heap.size,0,none⟩) n n,.int .i64 (-1),.bool false] 103):=⟨_,rfl⟩
 have hb1:Below w.heap.size w w1:=by rw [hw1];exact hb0.alloc hb0.size _
 have hblk1:w1.heap[gn]?=some (.cells #[.slice none 0 0,.slice none 0 0,.slice (some ⟨w.heap.size,0,none⟩) n n,.int .i64 (-1),.bool false] 103 (0,0)):=by rw [hw1,hgn];exact heap_alloc_new w0 _
 have hs1:w1.heap.size=gn+1:=by rw [hw1,hgn];simp
 have hrow1:w1.ownsRow w.heap.size 4 1 (.slice (some ⟨w.heap.size,0,none⟩) n n) n (rowV fV n):=by
  rw [hw1];exact row_of_heap hown0 (fun j hj=>Below.heap_alloc w0 _ j (hown0.lt j hj).2)
 have hwg:w.heap.size<gn:=by rw [hgn];exact (hown0.lt _ rfl).2
 refine wp_at (w:=w1) (by rw [hw1]) ?_
 rw [←hgn]
 clear hown0 hgrow0 hb0 hw1 hgn hrw
 have hA1:=HA.out.below' hb1
 have n0:w1.drew.cell? ⟨gn,0,none⟩=some (.slice none 0 0):=zcr w1.drew gn 0 _ 103 (0,0) hblk1
 have s0:w1.drew.cell? ⟨gr,0,none⟩=some (.slice (some ⟨g1,0,none⟩) n c1):=hA1.c 0
 have f0:w1.drew.frozen? ⟨gn,0,none⟩=false:=frozen_of_row w1.drew gn 0 _ 103 hblk1
 have HN:=zh (news_row hA1.drew.r1)
 have HB1:=zh hb1
 have HK1:=zh hblk1
 have HS1:=zh hs1
 have HR1:=zh hrow1
 have HG:=zh hwg
 clear hA1 hb1 hblk1 hs1 hrow1 hwg q0
 go_upto_region 2 with fail
 go_cut [15] from 15 to 26 (fun s15 wx=>s15=s15∧∃ h1 k1,Half wx w.heap.size gn h1 k1 w.heap.size n (nowV d)∧Below w.heap.size w wx)
 case first =>
  go_region_law ((refine step_append_lies _ (by rfl) _ _ 100 (by rfl) w.heap.size 9 i9 (.string ⟨#[]⟩) 1 16 Tryz.underlying100 hi9 hz90 hz91 hz92 (by rfl) (by omega) (.slice none 0 0) 0 [] (by rfl) (World.ownsRow_nil _ _ _ _) ⟨g1,0,none⟩ n c1 (rowV (nowV d) n) (by rfl) (by rw [rowV_length];omega) HN.out (fun u hu=>by obtain ⟨j,_,rfl⟩:=List.mem_map.1 hu;rfl) (by omega) (by unfold maxLen;omega) (by omega) HB1.out.size (gn+1) HS1.out ?_;intro g cap w4 hown4 hgrow hat hlt4;have d0:w4.cell? ⟨gn,0,none⟩=some (.slice none 0 0):=World.grownBy.cell hgrow n0 (by simp [Value.ownBlock]);have g0:w4.frozen? ⟨gn,0,none⟩=false:=(World.frozen?_of_block (hgrow.block _ (lt_of_heap HK1.out) (by simp [Value.ownBlock]))).trans f0))
  all_goals
   go_wp2_with fail
   go_meet
   rw [Nat.zero_add,List.nil_append] at hown4
   refine ⟨trivial,_,_,Half.first HK1.out HR1.out (Nat.le_of_lt HG.out) HS1.out HG.out hown4 rfl rfl ((grown_drew w1 _).trans hgrow) (hat.elim (fun e=>by simp [Value.ownBlock] at e) id),((HB1.out.drew).grown (row:=none) hgrow (by have:=HS1.out;have:=HG.out;show _≤w1.heap.size;omega) (by simp)).setCell (p:=⟨gn,0,none⟩) (Nat.le_of_lt HG.out) _⟩
 case rest =>
  obtain ⟨_,h1,k1,hH,hbc⟩:=hcut
  clear HN HB1 HK1 HS1 HR1 n0 s0 f0
  rw [←lostF_nil] at hH
  have HH:=zh hH
  clear hH
  go_wp2_with fail
  go_loopw [6] (fun i wr=>∃ k:Nat,k≤lost.length∧i=.int .i64 k∧Half wr w.heap.size gn h1 k1 w.heap.size n (lostF d (lost.take k))∧Below w.heap.size w wr) (fun i _=>lost.length-(RowKit.intOf i).toNat)
  case atStart=>exact ⟨0,Nat.zero_le _,rfl,HH.out,hbc⟩
  case round =>
   obtain ⟨k,hk,rfl,hHr,hbr⟩:=hrel
   clear HH hbc
   by_cases hlt:k<lost.length
   ·obtain ⟨x,hx⟩:∃ x,x=lost[k]:=⟨_,rfl⟩
    have hx':lost[k]?=some x:=by rw [List.getElem?_eq_getElem hlt,hx]
    obtain ⟨hxw,ad,hAe,hadb,hadc⟩:=HL.out k x hx'
    subst hAe
    have hbrd:=hbr
    have hcx:wr.cell? (ad.add k)=some (.int .i64 x):=(hbrd.cell (p:=ad.add k) (by rw [block_of_add];exact hadb)).trans hadc
    have hAd:=HA.out.below' hbrd
    have q0:=hAd.c 0
    change wr.cell? ⟨gr,0,none⟩=some (.slice (some ⟨g1,0,none⟩) n c1) at q0
    have q1:=hAd.c 1
    change wr.cell? ⟨gr,1,none⟩=some (.slice (some ⟨g2,0,none⟩) n c2) at q1
    have q2:=hAd.c 2
    change wr.cell? ⟨gr,2,none⟩=some (.slice (some ⟨g3,0,none⟩) n c3) at q2
    have n0:=hHr.c 0
    change wr.cell? ⟨gn,0,none⟩=some (.slice (some ⟨h1,0,none⟩) n k1) at n0
    have HT:Hid (lost.take (k+1)=lost.take k++[x]):=by show _=_;rw [List.take_succ_eq_append_getElem hlt,hx]
    have hk0:(0:Int)≤k:=by omega
    have hk1:(k:Int)<lost.length:=by omega
    have HHR:=zh hHr
    have HBR:=zh hbrd
    have HAD:=zh hAd
    clear hx hx' hadc hHr hAd hbr hbrd
    by_cases hx0:x<0∨(n:Int)≤x
    ·have e0:(decide (0≤x)&&decide (x<n))=false:=by
      rcases hx0 with h|h
      ·simp;omega
      ·simp;omega
     by_cases hx1:0≤x
     ·have e1:decide (0≤x)=true:=decide_eq_true hx1
      have e2:decide (x<(n:Int))=false:=decide_eq_false (by omega)
      have HX:=zh hx0
      clear hx0 e0
      go_wp2_with fail
      go_quiet (fail)
      go_wp2
      go_roundw
      case rel=>exact ⟨k+1,by omega,by go_num,by rw [HT.out];exact Half.congr ⟨HHR.out.blk,HHR.out.r1,HHR.out.r3,HHR.out.hB⟩ (lostF_out HX.out),⟨HBR.out.os,HBR.out.tape,HBR.out.output,HBR.out.size,HBR.out.block⟩⟩
      case measure=>simp [RowKit.intOf];omega
     ·have e1:decide (0≤x)=false:=decide_eq_false hx1
      have HX:=zh hx0
      clear hx0 e0
      go_wp2_with fail
      go_quiet (fail)
      go_wp2
      go_roundw
      case rel=>exact ⟨k+1,by omega,by go_num,by rw [HT.out];exact Half.congr ⟨HHR.out.blk,HHR.out.r1,HHR.out.r3,HHR.out.hB⟩ (lostF_out HX.out),⟨HBR.out.os,HBR.out.tape,HBR.out.output,HBR.out.size,HBR.out.block⟩⟩
      case measure=>simp [RowKit.intOf];omega
    ·obtain ⟨j,rfl⟩:=Int.eq_ofNat_of_zero_le (show 0≤x by omega)
     have hj:j<n:=by omega
     have e1:decide (0≤(j:Int))=true:=decide_eq_true (by omega)
     have e2:decide ((j:Int)<n)=true:=decide_eq_true (by omega)
     have hj0:(0:Int)≤j:=by omega
     have hj1:(j:Int)<n:=by omega
     have cw:wr.cell? ⟨g3,j,none⟩=some (.bool (d.wt j).isSome):=row_cell HAD.out.r3 j hj
     cases hwt:(d.wt j).isSome
     case false =>
      rw [hwt] at cw
      have HX:=zh (lostF_none (d:=d) (l:=lost.take k) hwt)
      clear hx0 hwt
      go_wp2_with fail
      go_quiet (fail)
      go_wp2
      go_roundw
      case rel=>exact ⟨k+1,by omega,by go_num,by rw [HT.out];exact Half.congr ⟨HHR.out.blk,HHR.out.r1,HHR.out.r3,HHR.out.hB⟩ (fun j _=>HX.out j),⟨HBR.out.os,HBR.out.tape,HBR.out.output,HBR.out.size,HBR.out.block⟩⟩
      case measure=>simp [RowKit.intOf];omega
     case true =>
      rw [hwt] at cw
      clear hx0 hwt
      go_wp2_with fail
      go_quiet (fail)
      go_wp2_with fail
      have hH2:Half (wr.drewN nq) w.heap.size gn h1 k1 w.heap.size n (lostF d (lost.take k)):=⟨HHR.out.blk,HHR.out.r1,HHR.out.r3,HHR.out.hB⟩
      have hA2:RAt (wr.drewN nq) B0 gr g1 c1 g2 c2 g3 c3 n (nowV d) (oldV d) (wtV d) (max d.left (-1)) d.dead:=⟨HAD.out.blk,HAD.out.r1,HAD.out.r2,HAD.out.r3,HAD.out.ap,HAD.out.hB⟩
      have hb2:Below w.heap.size w (wr.drewN nq):=⟨HBR.out.os,HBR.out.tape,HBR.out.output,HBR.out.size,HBR.out.block⟩
      have hcx2:(wr.drewN nq).drew.cell? (ad.add k)=some (.int .i64 j):=hcx
      refine wp_at (w:=wr.drewN nq) rfl ?_
      clear HHR HAD HBR hcx q0 q1 q2 n0 cw
      generalize wr.drewN nq=w2 at *
      have z0:w2.drew.cell? ⟨gn,0,none⟩=some (.slice (some ⟨h1,0,none⟩) n k1):=hH2.drew.c 0
      have z1:w2.drew.cell? ⟨gr,1,none⟩=some (.slice (some ⟨g2,0,none⟩) n c2):=hA2.drew.c 1
      have cz2:w2.drew.cell? ⟨g2,j,none⟩=some (.string (txt (d.fl j))):=row_cell hA2.drew.r2 j hj
      have cz1:w2.drew.cell? ⟨h1,j,none⟩=some (lostF d (lost.take k) j):=row_cell hH2.drew.r1 j hj
      have fz1:w2.drew.frozen? ⟨h1,j,none⟩=false:=own_fz hH2.drew.r1 j
      have hS:=hH2.drew.set1 j (lostF d (lost.take k++[(j:Int)])) (fun i _ hi=>lostF_other hi)
      rw [lostF_at] at hS
      have HS:=zh hS
      have HBS:=zh ((hb2.drew).setCell (p:=⟨h1,j,none⟩) (hH2.r1.lt h1 rfl).1 (.string (txt (d.fl j))))
      clear hS hH2 hA2 hb2
      go_still_tail 19,(by kernel_rfl)
      change wpList _ _ _ _ _ w2.drew
      go_wp2_with fail
      go_roundw
      case rel=>exact ⟨k+1,by omega,by go_num,by rw [HT.out];exact HS.out,HBS.out⟩
      case measure=>simp [RowKit.intOf];omega
   ·have hk':k=lost.length:=by omega
    subst hk'
    rw [List.take_length] at hHr
    have n0:wr.drew.cell? ⟨gn,0,none⟩=some (.slice (some ⟨h1,0,none⟩) n k1):=hHr.drew.c 0
    have n1:wr.drew.cell? ⟨gn,1,none⟩=some (.slice none 0 0):=hHr.drew.c 1
    have f1:wr.drew.frozen? ⟨gn,1,none⟩=false:=frozen_of_row wr.drew gn 1 _ 103 hHr.blk
    have HN:=zh (news_row hHr.drew.r1)
    have HHR:=zh hHr
    have HB1:=zh hbr
    clear hHr hbr
    go_upto_region 8 with fail
    go_cut [81] from 81 to 92 (fun s81 wx=>s81=s81∧∃ g c,RAt wx w.heap.size gn h1 k1 g c w.heap.size n n (lostF d lost) (lostF d lost) fV (-1) false∧Below w.heap.size w wx)
    case first =>
     go_region_law ((refine step_append_lies _ (by rfl) _ _ 100 (by rfl) w.heap.size 9 i9 (.string ⟨#[]⟩) 1 16 Tryz.underlying100 hi9 hz90 hz91 hz92 (by rfl) (by omega) (.slice none 0 0) 0 [] (by rfl) (World.ownsRow_nil _ _ _ _) ⟨h1,0,none⟩ n k1 (rowV (lostF d lost) n) (by rfl) (by rw [rowV_length];omega) HN.out (fun u hu=>by obtain ⟨j,_,rfl⟩:=List.mem_map.1 hu;rfl) (by omega) (by unfold maxLen;omega) (by omega) HB1.out.size wr.heap.size rfl ?_;intro g cap w4 hown4 hgrow hat hlt4;have d0:w4.cell? ⟨gn,1,none⟩=some (.slice none 0 0):=World.grownBy.cell hgrow n1 (by simp [Value.ownBlock]);have g0:w4.frozen? ⟨gn,1,none⟩=false:=(World.frozen?_of_block (hgrow.block _ (lt_of_heap HHR.out.blk) (by simp [Value.ownBlock]))).trans f1))
     all_goals
      go_wp2_with fail
      go_meet
      rw [Nat.zero_add,List.nil_append] at hown4
      exact ⟨trivial,_,_,HHR.out.done hown4 rfl rfl ((grown_drew wr _).trans hgrow) (hat.elim (fun e=>by simp [Value.ownBlock] at e) id),((HB1.out.drew).grown (row:=none) hgrow HB1.out.size (by simp)).setCell (p:=⟨gn,1,none⟩) (Nat.le_of_lt HG.out) _⟩
    case rest =>
     obtain ⟨_,g5,c5,hR5,hb5⟩:=hcut
     have HR5:=zh hR5
     have HB5:=zh hb5
     clear HN HHR HB1 n0 n1 f1 hR5 hb5
     go_wp2
     go_ret
     have hfin:=HR5.out
     rw [HNN.out] at hfin
     have e0:∀ j,lostF d lost j=nowV (d.after lost) j:=fun j=>by unfold lostF nowV;rw [after_now]
     exact ⟨gn,rfl,⟨_,RAt.to_rf (d:=d.after lost) hfin (ho.out.after lost) (fun j _=>e0 j) (fun j _=>e0 j) (fun _ _=>rfl) rfl rfl⟩,HB5.out⟩
end Go.Proofs.YtnobeoppffoomaaGreat
