/-
  WalPlays: ZWr ZSe ZNw ZRd.
  Conditions: named in each theorem.
-/
import Derived.Test.YtnobeoppffoomaaGreatP01
import Derived.StillTailTactics
import Derived.Laws.IdiomStrings
import Derived.Test.YtnobeoppffoomaaGreatP0
set_option linter.unusedVariables false
set_option linter.unusedSimpArgs false
set_option maxHeartbeats 8000000
set_option maxRecDepth 100000
namespace Go.Proofs.YtnobeoppffoomaaGreat
open Go.RowKit Dk
theorem wp_at {P:Program} {c:Code} {Q:Exit→Act→World→Prop} {a:Act} {w w':World} (h:w'=w) (k:c.wp P Q a w):c.wp P Q a w':=by rw [h];exact k
theorem pad_cells (s:List UInt8):(List.take 0 (Lib.byteCells zsec).toArray.toList++Lib.byteCells (txt s).data.toList++List.drop (0+(txt s).size) (Lib.byteCells zsec).toArray.toList).toArray=(Lib.byteCells (pad s)).toArray:=by
 have e:(Lib.byteCells zsec).drop s.length=Lib.byteCells (List.replicate (64-s.length) 0):=by
  unfold Lib.byteCells zsec
  rw [←List.map_drop,List.drop_replicate]
 rw [List.take_zero,List.nil_append,Nat.zero_add,txt_list,txt_size]
 unfold pad
 rw [Lib.byteCells_append,←e]
theorem load_sec {w:World} {b o:Nat} {l:Sec} (hl:l.length=64) (h:w.rangeAt b o (Lib.byteCells l)):(Instr.loadAt 106 (.pointer (some ⟨b,o,none⟩))).run Tryz.prog w=.ok (sv l) w :=
 run_loadAt_mid w b o 106 (Lib.byteCells l) _ h Tryz.underlying106 rfl (by rw [Lib.byteCells_length,hl];kernel_rfl)
theorem range_of_heap {w:World} {b:Nat} {l:Sec} (h:w.heap[b]?=some (.cells (Lib.byteCells l).toArray 106 (0,0))):w.rangeAt b 0 (Lib.byteCells l):=fun j v hv=>by
 rw [zcr w b _ _ 106 (0,0) h,Nat.zero_add]
 simpa using hv
theorem key_i64 (i:Nat) (hi:i<4096):keyOf Tryz.prog 3 (.int .i64 (i:Int))=some (.int .i64 (i:Int)):=Maps.keyOf_int_mk Tryz.underlying3 (WalkArith.wf_i64 (by omega))
theorem Dk.MapAt.stored {w':World} {mb i n:Nat} {M:Nat→Option Sec} {s:Sec} {D:DataW Unit} (hM:MapIs D M) (hm:Maps.IsMap D) (hn:∀ j t,M j=some t→j<n) (hi:i<n) (hn4:n≤4096)
 (h:w'.ownsMap Tryz.prog 3 secR mb (4096+1) (D.put (.int .i64 i) (.lit (.string s)))):MapAt w' mb (fun j=>if j=i then some s else M j):=by
 have h2:=mapIs_put hM hm i s
 refine ⟨_,owns_tight h (Nat.le_trans (mapSize_le (n:=n) h h2 (fun j t hj=>?_)) hn4),h2⟩
 change (if j=i then some s else M j)=some t at hj
 split at hj
 ·omega
 ·exact hn j t hj
theorem still_load {P:Program} {ops:Array Oper} {w:World} {Q:Act→Prop} {a:Act} {o:Oper} {rest:List Oper} (hg:o.guard=none) (ty:TypeId) (x:Operand) (ho:o.op=.load ty x)
 (p v:Value) (hx:a.eval x=p) (hr:(Instr.loadAt ty p).run P w=.ok v w) (h:wpStill P ops w Q rest (a.put o.dst v)):wpStill P ops w Q (o :: rest) a:=by
 have hw:Region.wanted o (yielded ops a.tmps)=true:=by simp [Region.wanted,hg]
 unfold wpStill
 rw [if_pos hw]
 unfold Oper.still execOp
 simp [ho,hx,hr,Result.andThen,Oper.stillUpon]
 exact h
def zw (w:World):World:=w.alloc (.cells (Lib.byteCells zsec).toArray 106)
theorem write1_any (g sb db ib i:Nat) (L:List Nat) (d:St) (s:List UInt8) (w:World) (h:Dv w g L d) (hs:s.length≤64) (hi:i<d.n)
 (cs:w.cell? ⟨sb,0,none⟩=some (.string (txt s))) (cd:w.cell? ⟨db,0,none⟩=some (ptr g)) (ci:w.cell? ⟨ib,0,none⟩=some (.int .i64 i)) :
 Calls Tryz.prog 72 #[ptr sb,ptr db,ptr ib] w fun e w'=>e=.returned (.tuple #[])∧Moves g L (d.put i (pad s)) w w':=by
 unfold ptr at *
 go_enter Tryz.func72,Tryz.ntmps72
 go_wp2
 refine wp_at (w:=zw w) rfl ?_
 have hbl:Below w.heap.size w (zw w):=(Below.refl _ w).alloc (Nat.le_refl _) _
 have e1:=World.block_lt_of_cell? w _ cs
 have e2:=World.block_lt_of_cell? w _ cd
 have e3:=World.block_lt_of_cell? w _ ci
 have cs':=(hbl.cell e1).trans cs
 have cd':=(hbl.cell e2).trans cd
 have ci':=(hbl.cell e3).trans ci
 have hg:(zw w).heap[w.heap.size]?=some (.cells (Lib.byteCells zsec).toArray 106 (0,0)):=heap_alloc_new w _
 have hD:=h.below hbl
 have hzl:∀ k∈L,k<w.heap.size:=h.lt
 clear cs cd ci
 generalize zw w=w0 at *
 generalize hz:w.heap.size=z at *
 have hcp:=Lib.run_copy_row_string (P:=Tryz.prog) w0.drew 68 9 3 5 z 0 64 64 (txt s) (Lib.byteCells zsec).toArray 106 Tryz.underlying68 (by kernel_rfl) hg (by rw [txt_size];exact hs) (by rw [txt_size];simp [Lib.byteCells_length,zsec_length];exact hs)
 rw [pad_cells,txt_size] at hcp
 go_still_tail 2,(by kernel_rfl)
 change wpList _ _ _ _ _ w0.drew
 have hg1:(w0.drew.setRow z (Lib.byteCells (pad s)).toArray).heap[z]?=some (.cells (Lib.byteCells (pad s)).toArray 106 (0,0)):=setRow_heap _ _ _ _ 106 (0,0) hg
 have hb1:Below z w0 (w0.drew.setRow z (Lib.byteCells (pad s)).toArray):=⟨rfl,rfl,rfl,by simp,fun k hk=>setRow_other _ _ _ _ (by omega)⟩
 have HB1:=zh hb1
 have HG1:=zh hg1
 clear hb1 hg1
 go_wp2
 have hb1:=HB1.out
 have hg1:=HG1.out
 clear HB1 HG1 hcp
 generalize w0.drew.setRow z (Lib.byteCells (pad s)).toArray=w1 at *
 have hps:=pad_length s hs
 have hD1:=hD.of_heap (w':=w1.drew) (fun k hk=>hb1.block k (hzl k hk))
 have cd1:w1.drew.cell? ⟨db,0,none⟩=_:=(hb1.cell e2).trans cd'
 have ci1:w1.drew.cell? ⟨ib,0,none⟩=_:=(hb1.cell e3).trans ci'
 have hld:=load_sec hps (range_of_heap (w:=w1.drew) hg1)
 obtain ⟨ho,fb,mb,cap,rfl,hA⟩:=hD1
 have c1:=hA.c1
 obtain ⟨D,hown,hMI⟩:=hA.map
 have hkey:=key_i64 i (by have:=ho.n2;omega)
 have HA:=zh hA
 have HO:=zh ho
 clear hA hD hg1 ho
 go_still_tail 6,(by kernel_rfl)
 refine still_load rfl 106 _ rfl _ _ rfl hld ?_
 refine wpStill_nil ?_
 change wpList _ _ _ _ _ w1.drew
 have hm:=hown.isMap
 have hlt:=hown.lt
 have HM:=zh hMI
 have hk2:Below z w1 w1.drew:=(Below.refl _ _).drew
 clear hld c1 cd1 ci1 hMI
 generalize w1.drew=w2 at *
 go_wp2_with (at_mapUpdate;refine wpList_mapUpdate_own _ rfl _ _ _ 107 rfl 3 106 law3 Tryz.underlying107 secR mb 4096 D rfl hown (by unfold maxLen;omega) _ _ _ rfl rfl hkey (.lit (.string (pad s))) [] (secR_of hps) ?_;intro w3 hown3 hg3)
 go_end0
 have ho:=HO.out
 have hA:=HA.out
 have hr:∀ k,some k≠some mb→w3.heap[k]?=w2.heap[k]?∨w2.heap.size≤k:=fun k hk=>by
  rcases Nat.lt_or_ge k w2.heap.size with h1|h1
  ·exact .inl (hg3.block k h1 hk)
  ·exact .inr h1
 have h3:∀ k,k=g∨k=fb→w3.heap[k]?=w2.heap[k]?:=fun k hk=>by
  refine hg3.block k ?_ ?_
  ·rcases hk with rfl|rfl
   ·exact lt_of_heap hA.blk
   ·exact hA.row.lt
  ·rcases hk with rfl|rfl
   ·exact fun e=>hA.gm (Option.some.inj e)
   ·exact fun e=>hA.fm (Option.some.inj e)
 refine ⟨rfl,[g,fb,mb],⟨ho.put hi hps,fb,mb,cap,rfl,⟨(h3 g (.inl rfl)).trans hA.blk,hA.row.of_heap (h3 fb (.inr rfl)),?_,hA.hcap⟩⟩,?_,Fresh.refl _ _⟩
 ·exact MapAt.stored HM.out hm (fun j t hj=>(ho.wlen j t hj).1) hi ho.n2 hown3
 ·have hb2:Below z w w2:=hbl.trans (hb1.trans hk2)
  have hk:Keep [g,fb,mb] w2 w3:=Keep.of_grown hg3 (fun k hk=>.inl (by cases hk;simp))
  exact (Keep.of_below (by rw [hz];exact hb2)).trans hk
theorem heap3 (w:World) (A B C:Obj):(((w.alloc A).alloc B).alloc C).heap[w.heap.size]?=some A∧(((w.alloc A).alloc B).alloc C).heap[w.heap.size+1]?=some B∧(((w.alloc A).alloc B).alloc C).heap[w.heap.size+2]?=some C:=by
 show (((w.heap.push A).push B).push C)[w.heap.size]?=some A∧(((w.heap.push A).push B).push C)[w.heap.size+1]?=some B∧(((w.heap.push A).push B).push C)[w.heap.size+2]?=some C
 refine ⟨?_,?_,?_⟩
 ·rw [Array.getElem?_push,if_neg (by simp;omega),Array.getElem?_push,if_neg (by simp),Array.getElem?_push,if_pos rfl]
 ·rw [Array.getElem?_push,if_neg (by simp),Array.getElem?_push,if_pos (by simp)]
 ·rw [Array.getElem?_push,if_pos (by simp)]
theorem write_no (g:Nat) (L:List Nat) (d:St) (at_:Int) (s:List UInt8) (w:World) (h:Dv w g L d) (hr:d.refuses at_≠0) :
 Calls Tryz.prog 29 #[ptr g,.int .i64 at_,.string (txt s)] w fun e w'=>e=.returned (.int .i64 (d.refuses at_))∧Below w.heap.size w w':=by
 have HC:=zh (fun w1 (h1:Dv w1 g L d)=>refuses_any g L d at_ w1 h1)
 have hb:Below w.heap.size w (((w.alloc (.cells #[ptr g] 42)).alloc (.cells #[.int .i64 at_] 3)).alloc (.cells #[.string (txt s)] 9)) :=
  (((Below.refl _ w).alloc (Nat.le_refl _) _).alloc (by simp) _).alloc (by simp;omega) _
 have hD:=h.below hb
 have HD:=zh hD
 have HB:=zh hb
 clear h hD hb
 have hne:(d.refuses at_ != 0)=true:=by simpa using hr
 generalize d.refuses at_=r at *
 unfold ptr at *
 go_enter Tryz.func29,Tryz.ntmps29
 go_wp2_with fail
 refine (HC.out _ HD.out).mono ?_
 rintro e w1 ⟨rfl,rfl⟩
 have hne:(r != 0)=true:=by simpa using hr
 go_wp2
 go_ret
 exact ⟨rfl,HB.out⟩
theorem write_long (g:Nat) (L:List Nat) (d:St) (at_:Int) (s:List UInt8) (w:World) (h:Dv w g L d) (hr:d.refuses at_=0) (hs:64<s.length) :
 Calls Tryz.prog 29 #[ptr g,.int .i64 at_,.string (txt s)] w fun e w'=>e=.returned (.int .i64 3)∧Below w.heap.size w w':=by
 have HC:=zh (fun w1 (h1:Dv w1 g L d)=>refuses_any g L d at_ w1 h1)
 rw [hr] at HC
 have hb:Below w.heap.size w (((w.alloc (.cells #[ptr g] 42)).alloc (.cells #[.int .i64 at_] 3)).alloc (.cells #[.string (txt s)] 9)) :=
  (((Below.refl _ w).alloc (Nat.le_refl _) _).alloc (by simp) _).alloc (by simp;omega) _
 have hD:=h.below hb
 have HD:=zh hD
 have HB:=zh hb
 have hl:(64:Int)<(txt s).size:=by rw [txt_size];omega
 generalize txt s=t at *
 clear h hD hb hr hs
 unfold ptr at *
 go_enter Tryz.func29,Tryz.ntmps29
 go_wp2_with fail
 refine (HC.out _ HD.out).mono ?_
 rintro e w1 ⟨rfl,rfl⟩
 go_wp2
 go_ret
 exact ⟨rfl,HB.out⟩
theorem write_try (g:Nat) (L:List Nat) (d:St) (i:Nat) (s:List UInt8) (w:World) (h:Dv w g L d) (hr:d.refuses i=0) (hs:s.length≤64) :
 Calls Tryz.prog 29 #[ptr g,.int .i64 i,.string (txt s)] w fun e w'=>e=.returned (.int .i64 (d.try_ (fun x=>x.put i (pad s))).2)∧Moves g L (d.try_ (fun x=>x.put i (pad s))).1 w w':=by
 have hdd:d.dead=false∧i<d.n:=by
  unfold St.refuses at hr
  cases hd:d.dead
  ·rw [hd,if_neg (by decide)] at hr
   split at hr
   ·cases hr
   ·exact ⟨rfl,by omega⟩
  ·rw [hd,if_pos rfl] at hr;cases hr
 have HC:=zh (fun w1 (h1:Dv w1 g L d)=>refuses_any g L d i w1 h1)
 rw [hr] at HC
 have hw:∃ W,W=((w.alloc (.cells #[ptr g] 42)).alloc (.cells #[.int .i64 i] 3)).alloc (.cells #[.string (txt s)] 9):=⟨_,rfl⟩
 obtain ⟨W,hW⟩:=hw
 have hb:Below w.heap.size w W:=by
  rw [hW];exact (((Below.refl _ w).alloc (Nat.le_refl _) _).alloc (by simp) _).alloc (by simp;omega) _
 have hD:=h.below hb
 have c5:W.cell? ⟨w.heap.size+2,0,none⟩=some (.string (txt s)):=zcr W _ 0 #[.string (txt s)] 9 (0,0) (by rw [hW];exact (heap3 w _ _ _).2.2)
 have c3:W.cell? ⟨w.heap.size,0,none⟩=some (ptr g):=zcr W _ 0 #[ptr g] 42 (0,0) (by rw [hW];exact (heap3 w _ _ _).1)
 have c4:W.cell? ⟨w.heap.size+1,0,none⟩=some (.int .i64 i):=zcr W _ 0 #[.int .i64 i] 3 (0,0) (by rw [hW];exact (heap3 w _ _ _).2.1)
 have key:Calls Tryz.prog 70 #[ptr g,.func (.func 72) #[] #[ptr (w.heap.size+2),ptr w.heap.size,ptr (w.heap.size+1)]] W fun e w' =>
  e=.returned (.int .i64 (d.try_ (fun x=>x.put i (pad s))).2)∧Moves g L (d.try_ (fun x=>x.put i (pad s))).1 w w':=by
  have hk:Keep L w W:=Keep.of_below hb
  unfold St.try_
  by_cases hl:d.left=0
  ·rw [if_pos hl]
   refine (attempt_zero g L d _ W hD hl).mono ?_
   rintro e w' ⟨rfl,L',h1,h2,h3⟩
   exact ⟨rfl,L',h1,hk.trans h2,(Fresh.refl w L).trans (fun k hk'=>(h3 k hk').elim .inl (fun h=>.inr h)) hb.size⟩
  ·rw [if_neg hl,hdd.1,if_neg (by decide)]
   refine (attempt_go 72 (.inr rfl) g L d #[] _ W hD hl hdd.1 (fun w'=>Moves g L (d.step.put i (pad s)) w w') (.inr ⟨rfl,rfl,_,_,_,rfl⟩) ?_).mono ?_
   ·intro w1 hd1 hk1 hsz
    have hn:∀ k∈L,k<w.heap.size:=h.lt
    have hcell:∀ k,w.heap.size≤k→k<W.heap.size→w1.heap[k]?=W.heap[k]?:=fun k hk2 hk3=>hk1.block k hk3 (fun hm=>by have:=hn k hm;omega)
    have hWs:W.heap.size=w.heap.size+3:=by rw [hW];simp
    refine (write1_any g (w.heap.size+2) w.heap.size (w.heap.size+1) i L d.step s w1 hd1 hs hdd.2 ?_ ?_ ?_).mono ?_
    ·exact (World.cell?_of_block (w:=W) (a:=⟨w.heap.size+2,0,none⟩) (hcell (w.heap.size+2) (by omega) (by omega))).trans c5
    ·exact (World.cell?_of_block (w:=W) (a:=⟨w.heap.size,0,none⟩) (hcell (w.heap.size) (by omega) (by omega))).trans c3
    ·exact (World.cell?_of_block (w:=W) (a:=⟨w.heap.size+1,0,none⟩) (hcell (w.heap.size+1) (by omega) (by omega))).trans c4
    ·rintro e w' ⟨rfl,L',h1,h2,h3⟩
     exact ⟨rfl,L',h1,(hk.trans hk1).trans h2,(Fresh.refl w L).trans (fun k hk'=>(h3 k hk').elim .inl (fun h=>.inr h)) (Nat.le_trans hb.size hk1.size)⟩
   ·rintro e w' ⟨rfl,hR⟩
    exact ⟨rfl,hR⟩
 have HK:=zh key
 have HW:=zh hW
 have HD:=zh hD
 have H5:=zh c5
 have H3:=zh c3
 have hl:((txt s).size:Int)≤64:=by rw [txt_size];omega
 generalize txt s=t at *
 clear key hW hD c5 c3 c4 hb hdd h hr
 unfold ptr at *
 go_enter Tryz.func29,Tryz.ntmps29
 go_wp2_with fail
 rw [←HW.out]
 refine (HC.out _ HD.out).mono ?_
 rintro e w1 ⟨rfl,rfl⟩
 have c5:=H5.out
 have c3:=H3.out
 clear H5 H3
 go_wp2_with fail
 refine HK.out.mono ?_
 rintro e w1 ⟨rfl,hR⟩
 go_wp2
 go_ret
 exact ⟨rfl,hR⟩
theorem write_any (g:Nat) (L:List Nat) (d:St) (at_:Int) (s:List UInt8) (w:World) (h:Dv w g L d) :
 Calls Tryz.prog 29 #[ptr g,.int .i64 at_,.string (txt s)] w fun e w'=>e=.returned (.int .i64 (d.write at_ s).2)∧Moves g L (d.write at_ s).1 w w':=by
 unfold St.write
 by_cases hr:d.refuses at_=0
 ·rw [if_neg (by simpa using hr)]
  by_cases hs:64<s.length
  ·rw [if_pos hs]
   exact (write_long g L d at_ s w h hr hs).mono fun e w' ⟨he,hb⟩=>⟨he,Moves.same h (Keep.of_below hb) (h.below hb)⟩
  ·rw [if_neg hs]
   have h0:0≤at_:=by
    unfold St.refuses at hr
    split at hr
    ·cases hr
    ·split at hr
     ·cases hr
     ·omega
   obtain ⟨i,rfl⟩:=Int.eq_ofNat_of_zero_le h0
   exact write_try g L d i s w h hr (by omega)
 ·rw [if_pos hr]
  exact (write_no g L d at_ s w h hr).mono fun e w' ⟨he,hb⟩=>⟨he,Moves.same h (Keep.of_below hb) (h.below hb)⟩
end Go.Proofs.YtnobeoppffoomaaGreat
namespace Go.Proofs.YtnobeoppffoomaaGreat
open Go.RowKit Dk
theorem Tryz.sec64:(Tryz.prog.info? 106).map (·.size)=some 64:=by kernel_rfl
theorem wpList_store_newsec {ops:Array Oper} {rest:List Oper} {op:Oper} {a:Act} {Q:Exit→Act→World→Prop} (hgd:op.guard=none) (x y:Operand) (ho:op.op=.store 106 x y)
 (w:World) (c:Array Value) (l:Sec) (hl:l.length=64) (hx:a.eval x=.pointer (some ⟨w.heap.size,0,none⟩)) (hy:a.eval y=sv l) (hc:c.size=64)
 (h:wpList Tryz.prog ops Q rest (a.put op.dst undef) (w.alloc (.cells (Lib.byteCells l).toArray 106))):wpList Tryz.prog ops Q (op :: rest) a (w.alloc (.cells c 106)):=by
 have hr:=run_storeAt_new (P:=Tryz.prog) w 106 c (Lib.byteCells l).toArray (by rw [Tryz.sec64];simp [Lib.byteCells_length,hl]) (by simp [Lib.byteCells_length,hl,hc])
  (all_oneCell_toArray (Lib.byteCells_one l))
 refine wpList_plain hgd fun K hK=>?_
 unfold Oper.wp execOp
 simp only [ho,hx,hy,sv]
 simp [hr,Result.andThen]
 exact hK _ _ h
def Dk.setMany (cur:Array Value):Nat→List Value→Array Value
 | _,[]=>cur
 | o,v :: r=>Dk.setMany (cur.setIfInBounds o v) (o+1) r
theorem setMany_size:∀ (vs:List Value) (cur:Array Value) (o:Nat),(Dk.setMany cur o vs).size=cur.size
 | [],_,_=>rfl
 | v :: r,cur,o=>by rw [Dk.setMany,setMany_size r];simp
theorem setMany_out:∀ (vs:List Value) (cur:Array Value) (o k:Nat),(k<o∨o+vs.length≤k)→(Dk.setMany cur o vs)[k]?=cur[k]?
 | [],_,_,_,_=>rfl
 | v :: r,cur,o,k,h=>by
   rw [List.length_cons] at h
   rw [Dk.setMany,setMany_out r _ (o+1) k (by omega),Array.getElem?_setIfInBounds_ne (by omega)]
theorem setMany_in:∀ (vs:List Value) (cur:Array Value) (o j:Nat),j<vs.length→o+vs.length≤cur.size→(Dk.setMany cur o vs)[o+j]?=vs[j]?
 | [],_,_,_,h,_=>by simp at h
 | v :: r,cur,o,j,h,hs=>by
   rw [List.length_cons] at h hs
   rw [Dk.setMany]
   match j with
   | 0 =>
     rw [setMany_out r _ (o+1) (o+0) (by omega),Nat.add_zero,Array.getElem?_setIfInBounds_self_of_lt (by omega)];rfl
   | j+1 =>
     have:=setMany_in r (cur.setIfInBounds o v) (o+1) j (by omega) (by simp;omega)
     rw [List.getElem?_cons_succ,←this]
     congr 1
     omega
theorem heap_setCells:∀ (vs:List Value) (w:World) (b o:Nat) (cur:Array Value) (t:TypeId),w.heap[b]?=some (.cells cur t (0,0))→(w.setCells b o vs).heap[b]?=some (.cells (Dk.setMany cur o vs) t (0,0))
 | [],_,_,_,_,_,h=>h
 | v :: r,w,b,o,cur,t,h=>by
   rw [World.setCells,Dk.setMany]
   exact heap_setCells r _ b (o+1) _ t (heap_setCell_same w b o cur t v h)
theorem grown_setCells {b:Nat}:∀ (vs:List Value) (w:World) (o:Nat),w.grownBy (w.setCells b o vs) (some b)∧(w.setCells b o vs).heap.size=w.heap.size
 | [],w,_=>⟨World.grownBy.refl w _,rfl⟩
 | v :: r,w,o=>by
   obtain ⟨h1,h2⟩:=grown_setCells (b:=b) r (w.setCell ⟨b,o,none⟩ v) (o+1)
   have h0:w.grownBy (w.setCell ⟨b,o,none⟩ v) (some b):=⟨rfl,rfl,rfl,by simp,fun k _ hk=>heap_setCell_other w ⟨b,o,none⟩ k v (fun e=>hk (by simp [e]))⟩
   exact ⟨h0.trans h1,h2.trans (by simp)⟩
theorem Dk.RowAt.stored {w:World} {fb n i:Nat} {F:Nat→Sec} {l:Sec} (h:RowAt w fb n F) (hi:i<n) (hl:l.length=64) (G:Nat→Sec) (hG:∀ j,j<n→G j=if j=i then l else F j) :
 RowAt (w.setCells fb (i*64) (Lib.byteCells l)) fb n G:=by
 obtain ⟨cur,h1,h2,h3⟩:=h
 have hlen:(Lib.byteCells l).length=64:=by rw [Lib.byteCells_length,hl]
 have hin:(i+1)*64≤n*64:=Nat.mul_le_mul_right _ hi
 refine ⟨_,heap_setCells _ w fb _ cur 106 h1,by rw [setMany_size];exact h2,fun j hj k hk=>?_⟩
 rw [hG j hj]
 by_cases e:j=i
 ·subst e
  rw [if_pos rfl,setMany_in _ _ _ _ (by omega) (by omega)]
 ·rw [if_neg e,setMany_out _ _ _ _ (by rw [hlen];omega),h3 j hj k hk]
def mrg (d:St) (left:Lit→Bool) (i:Nat):Sec:=if left (.int .i64 (i:Int))=true then d.fl i else d.now i
theorem grown_drew (w:World) (row:Option Nat):w.grownBy w.drew row:=⟨rfl,rfl,rfl,Nat.le_refl _,fun _ _ _=>rfl⟩
theorem mrg_step (d:St) (left:Lit→Bool) (i:Nat) (l:Sec) (hwi:d.wt i=some l) (j:Nat):mrg d (fun z=>left z&&!z.sameKey (Lit.int IntKind.i64 (i:Int))) j=if j=i then l else mrg d left j:=by
 show (if (left (.int .i64 (j:Int))&&!(Lit.int .i64 (j:Int)).sameKey (.int .i64 (i:Int)))=true then d.fl j else d.now j)=_
 by_cases e:j=i
 ·subst e
  rw [if_pos rfl,WideAt.sameKey_self (isKey_i64 _)]
  simp only [Bool.not_true,Bool.and_false,Bool.false_eq_true,if_false]
  unfold St.now
  rw [hwi];rfl
 ·rw [if_neg e,Maps.sameKey_ne (fun e1=>e (by cases e1;rfl))]
  simp only [Bool.not_false,Bool.and_true]
  rfl
theorem settle_any (g:Nat) (L:List Nat) (d:St) (w:World) (h:Dv w g L d) :
 Calls Tryz.prog 50 #[ptr g] w fun e w'=>e=.returned (.tuple #[])∧Moves g L d.settle w w':=by
 have hmm:=@run_makeMap Tryz.prog
 obtain ⟨ho,fb,mb,cap,rfl,hA⟩:=h
 have c1:=hA.c1
 obtain ⟨D,hown,hMI⟩:=hA.map
 have HO:=zh ho
 have HA:=zh hA
 have HM:=zh hMI
 clear ho hA hMI
 unfold ptr
 go_enter Tryz.func50,Tryz.ntmps50
 go_wp2_with (at_range;refine wpList_range_own _ rfl _ 107 rfl 3 106 law3 Tryz.underlying107 secR mb 4096 D rfl hown ?_;intro w0 hrg0 hg0 hs0)
 go_frame
 go_loopw [9] (fun _ wr=>∃ (left:Lit→Bool) (cnt:Nat),wr.ranges Tryz.prog 3 secR mb w.heap.size 4096 D left cnt∧RowAt wr fb d.n (mrg d left)∧Keep [fb] w wr)
  (fun _ wr=>wr.rangeLeft mb w.heap.size)
 case atStart =>
  refine ⟨_,_,hrg0,?_,Keep.of_grown hg0 (fun k hk=>by cases hk)⟩
  have hrow:=HA.out.row.of_heap (hg0.block fb HA.out.row.lt (by simp))
  obtain ⟨cur,h1,h2,h3⟩:=hrow
  refine ⟨cur,h1,h2,fun i hi j hj=>?_⟩
  rw [h3 i hi j hj]
  unfold mrg
  split
  ·rfl
  ·rename_i hh
   rw [HM.out.1 i] at hh
   simp only [Int.toNat_natCast,Int.natCast_nonneg,decide_true,Bool.true_and] at hh
   unfold St.now
   cases e:d.wt i with
   | none=>rfl
   | some s=>rw [e] at hh;simp at hh
 case round =>
  obtain ⟨left,cnt,hrg,hrow,hK⟩:=hrel
  have hA:=HA.out
  have hgr:wr.heap[g]?=_:=(hK.block g (lt_of_heap hA.blk) (by simpa using hA.gf)).trans hA.blk
  have hgl:=lt_of_heap hgr
  have hgf:=hA.gf
  have hcp:=hA.hcap
  have HGR:=zh hgr
  clear hA hgr
  go_wp2_with (at_next;refine wpList_next_ranges _ rfl _ rfl 3 law3 secR encZ (fun c:{ l:Sec // l.length=64 }=>sv c.1) (fun key kl hk=>by obtain ⟨x,hx,_⟩:=Maps.keyOf_i64 Tryz.underlying3 hk;exact ⟨x,hx⟩) (fun v y hv=>by obtain ⟨l,hl,he,_⟩:=secR_inv hv;exact ⟨⟨l,hl⟩,he⟩) mb w.heap.size 4096 _ _ _ rfl hrg ?_ ?_)
  ·intro hc0 hl0
   have hg1:(wr.alloc (.map #[] 0)).heap[g]?=_:=(Below.heap_alloc wr _ g hgl).trans HGR.out
   have c1:=zcr _ g 1 _ 109 (0,0) hg1
   have f1:=frozen_of_row _ g 1 _ 109 hg1
   have HL:=zh hl0
   clear hg1 hl0
   go_wp2
   go_end0
   have e1:(wr.setCell ⟨g,1,none⟩ (.map (some wr.heap.size))).heap.size=wr.heap.size:=by simp
   refine ⟨rfl,[g,fb,wr.heap.size],⟨HO.out.settle,fb,wr.heap.size,cap,rfl,⟨?_,?_,?_,hcp⟩⟩,?_,?_⟩
   ·exact (Below.heap_alloc _ _ g (by rw [e1];exact hgl)).trans (heap_setCell_same wr g 1 _ 109 _ HGR.out)
   ·have e:mrg d left=d.now:=by
     funext i
     unfold mrg
     rw [HL.out]
     rfl
    rw [e] at hrow
    exact (hrow.of_heap (heap_setCell_other wr ⟨g,1,none⟩ fb _ (fun e=>hgf e.symm))).of_heap (Below.heap_alloc _ _ fb (by rw [e1];exact hrow.lt))
   ·have:=mapAt_made (wr.setCell ⟨g,1,none⟩ (.map (some wr.heap.size)))
    rw [e1] at this
    exact this
   ·exact ((hK.mono (L':=[g,fb,mb]) (by simp)).trans (Keep.setCell (p:=⟨g,1,none⟩) (by simp) _)).trans (Keep.alloc _)
   ·intro k hk
    simp at hk
    rcases hk with rfl|rfl|rfl
    ·exact .inl (by simp)
    ·exact .inl (by simp)
    ·exact .inr hK.size
  ·intro x l hl kl yd yp w1 cnt1 hkey hlk hv hat hrg1 hlt hg1 hs1 hen
   obtain ⟨i,rfl,hin,hwi,hkl⟩:∃ i:Nat,x=(i:Int)∧i<d.n∧d.wt i=some l∧kl=.int .i64 (i:Int):=by
    obtain ⟨x',hx,rfl,_⟩:=Maps.keyOf_i64 Tryz.underlying3 hkey
    obtain rfl:=encZ_inj hx
    have h1:=Maps.has_true_of_atKey hat
    rw [HM.out.1 x] at h1
    simp only [Bool.and_eq_true,decide_eq_true_eq] at h1
    obtain ⟨s,hs⟩:=Option.isSome_iff_exists.1 h1.2
    have e:x=(x.toNat:Int):=by omega
    have h2:=HM.out.2 x.toNat s hs .nil
    rw [←e,hat] at h2
    rw [secR_of hl] at hv
    cases hv
    cases h2
    exact ⟨x.toNat,e,(HO.out.wlen _ _ hs).1,hs,by rw [←e]⟩
   subst hkl
   have HS1:=zh hs1
   have HA1:=zh hat
   clear hs1 hat
   go_wp2_with (refine wpList_store_newsec rfl _ _ rfl _ _ l hl rfl rfl rfl ?_)
   have hgb:w1.heap[g]?=_:=(hg1.block g hgl (fun e=>by have h1:=lt_of_heap HA.out.blk;have:=Option.some.inj e;omega)).trans HGR.out
   have hrow1:RowAt w1 fb d.n (mrg d left):=hrow.of_heap (hg1.block fb hrow.lt (fun e=>by have h1:=HA.out.row.lt;have:=Option.some.inj e;omega))
   have hk1:Keep [fb] w w1:=hK.trans' (L':=[w.heap.size]) (Keep.of_grown hg1 (fun k hk=>by cases hk;exact .inl (by simp))) (fun k hk=>by simp at hk;exact .inr (by omega))
   obtain ⟨w2,hw2⟩:∃ w2,w2=w1.alloc (.cells (Lib.byteCells l).toArray 106):=⟨_,rfl⟩
   have hb2:Below w1.heap.size w1 w2:=by rw [hw2];exact (Below.refl _ _).alloc (Nat.le_refl _) _
   have hn2:w2.heap[w1.heap.size]?=some (.cells (Lib.byteCells l).toArray 106 (0,0)):=by rw [hw2];exact heap_alloc_new w1 _
   have hrg2:w2.ranges Tryz.prog 3 secR mb w.heap.size 4096 D (fun z=>left z&&!z.sameKey (Lit.int IntKind.i64 (i:Int))) cnt1:=by rw [hw2];exact hrg1.alloc _
   rw [←hw2]
   have hk2:Keep [fb] w w2:=hk1.trans (Keep.of_below hb2)
   have hrow2:RowAt w2 fb d.n (mrg d left):=hrow1.of_heap (hb2.block fb hrow1.lt)
   have hg2:w2.heap[g]?=_:=(hb2.block g (lt_of_heap hgb)).trans hgb
   clear hw2 hrg1 hb2 hgb hrow1 hk1 hg1 hen
   generalize w1.heap.size=z at *
   have hld:=load_sec hl (range_of_heap (w:=w2.drew) hn2)
   have c0:=zcr w2.drew g 0 _ 109 (0,0) hg2
   have hth:=hrow2.there i hin
   have hin0:(0:Int)≤i:=by omega
   have hin1:(i:Int)<d.n:=by omega
   have HG2:=zh hg2
   clear hg2
   go_still_tail 7,(by kernel_rfl)
   refine still_load rfl 106 _ rfl _ _ rfl hld ?_
   repeat still_step
   refine wpStill_nil ?_
   change wpList _ _ _ _ _ w2.drew
   refine wpList_store_mid rfl 106 _ _ rfl fb (i*64) (Lib.byteCells l).toArray rfl rfl (by simpa [Lib.byteCells_length,hl] using hth) (by rw [Tryz.sec64];simp [Lib.byteCells_length,hl]) (all_oneCell_toArray (Lib.byteCells_one l)) ?_
   have hw3:∃ w3,w3=w2.drew.setCells fb (i*64) (Lib.byteCells l).toArray.toList:=⟨_,rfl⟩
   obtain ⟨w3,hw3⟩:=hw3
   have hdr:RowAt w2.drew fb d.n (mrg d left):=hrow2
   have hrow3:RowAt w3 fb d.n (mrg d (fun z=>left z&&!z.sameKey (Lit.int IntKind.i64 (i:Int)))):=by
    rw [hw3]
    exact hdr.stored hin hl _ (fun j _=>mrg_step d left i l hwi j)
   have hgr3:w2.grownBy w3 (some fb):=by rw [hw3];exact (grown_drew w2 _).trans (grown_setCells _ w2.drew (i*64)).1
   have hrg3:=hrg2.kept hgr3 (fun e=>by have h1:=HA.out.fm;exact h1 (Option.some.inj e).symm) (fun e=>by have h1:=HA.out.row.lt;have:=Option.some.inj e;omega)
   have hk3:Keep [fb] w w3:=hk2.trans (Keep.of_grown hgr3 (fun k hk=>by cases hk;exact .inl (by simp)))
   rw [←hw3]
   clear hw3 hdr hth hld c0 hrg2 hgr3
   go_frame
   go_wp2
   go_roundw
   case rel =>
    exact ⟨_,cnt1,hrg3,hrow3,hk3⟩
   case measure=>rw [hrg3.left_eq,hrg.left_eq];exact hlt
theorem flush_any (g:Nat) (L:List Nat) (d:St) (w:World) (h:Dv w g L d) :
 Calls Tryz.prog 28 #[ptr g] w fun e w'=>e=.returned (.int .i64 d.flush.2)∧Moves g L d.flush.1 w w':=by
 have key:Calls Tryz.prog 70 #[ptr g,.func (.func 50) #[ptr g] #[]] w fun e w'=>e=.returned (.int .i64 d.flush.2)∧Moves g L d.flush.1 w w':=by
  unfold St.flush St.try_
  by_cases hl:d.left=0
  ·rw [if_pos hl];exact attempt_zero g L d _ w h hl
  ·rw [if_neg hl]
   cases hd:d.dead
   ·rw [if_neg (by decide)]
    refine attempt_go 50 (.inl rfl) g L d _ _ w h hl hd (fun w'=>Moves g L d.step.settle w w') (.inl ⟨rfl,rfl,rfl⟩) ?_
    intro w1 hd1 hk1 hs1
    refine (settle_any g L d.step w1 hd1).mono ?_
    rintro e w' ⟨rfl,L',h1,h2,h3⟩
    exact ⟨rfl,L',h1,hk1.trans h2,(Fresh.refl w L).trans h3 hk1.size⟩
   ·rw [if_pos rfl]
    exact (attempt_dead g L d _ w h hl hd).mono fun e w' ⟨he,hw⟩=>⟨he,by subst hw;exact Moves.same h (Keep.refl _ _) h⟩
 have HK:=zh key
 clear key h
 generalize d.flush=p at *
 unfold ptr at *
 go_enter Tryz.func28,Tryz.ntmps28
 go_wp2_with fail
 refine HK.out.mono ?_
 rintro e w1 ⟨rfl,hR⟩
 go_wp2
 go_ret
 exact ⟨rfl,hR⟩
end Go.Proofs.YtnobeoppffoomaaGreat
namespace Go.Proofs.YtnobeoppffoomaaGreat
open Go.RowKit Dk
theorem wpList_lookup_sec {ops:Array Oper} {rest:List Oper} {o:Oper} {a:Act} {Q:Exit→Act→World→Prop} (hg:o.guard=none) (m x:Operand) (hop:o.op=Op.lookup 107 m x true)
 (w:World) (mb i:Nat) (M:Nat→Option Sec) (hm:a.eval m=.map (some mb)) (hx:a.eval x=.int .i64 (i:Int)) (hM:MapAt w mb M) (hi:i<4096)
 (hK:wpList Tryz.prog ops Q rest (a.put o.dst (.tuple #[sv ((M i).getD zsec),.bool (M i).isSome])) w):wpList Tryz.prog ops Q (o :: rest) a w:=by
 obtain ⟨D,hown,hMI⟩:=hM
 refine wpList_lookup_own_ok w hg m x 107 hop 3 106 law3 Tryz.underlying107 secR (z:=sv zsec) (Tryz.zeroValue106 w) (.lit (.string zsec)) [] (secR_of zsec_length) mb 4096 D hm hown _ (.int .i64 (i:Int)) hx (key_i64 i hi) ?_
 intro v ps hv
 obtain ⟨l,hl,rfl,hy⟩:=secR_inv hv
 have h1:=hMI.1 (i:Int)
 simp only [Int.toNat_natCast,Int.natCast_nonneg,decide_true,Bool.true_and] at h1
 rw [h1]
 have e:l=(M i).getD zsec:=by
  simp only [Prod.mk.injEq] at hy
  cases hmi:M i with
  | none =>
    rw [hmi] at h1
    rw [Maps.atKey_of_not_has h1] at hy
    have h2:=hy.1
    simp only [DataW.lit.injEq,Lit.string.injEq] at h2
    exact h2.symm
  | some s =>
    rw [hMI.2 i s hmi] at hy
    have h2:=hy.1
    simp only [DataW.lit.injEq,Lit.string.injEq] at h2
    exact h2.symm
 rw [e]
 exact hK
theorem wpList_store_sec {ops:Array Oper} {rest:List Oper} {op:Oper} {a:Act} {Q:Exit→Act→World→Prop} (hgd:op.guard=none) (x y:Operand) (ho:op.op=.store 106 x y)
 (w:World) (z:Nat) (old l:Sec) (hl:l.length=64) (hol:old.length=64) (hx:a.eval x=.pointer (some ⟨z,0,none⟩)) (hy:a.eval y=sv l) (hz:w.heap[z]?=some (.cells (Lib.byteCells old).toArray 106 (0,0)))
 (h:wpList Tryz.prog ops Q rest (a.put op.dst undef) (w.setRow z (Lib.byteCells l).toArray)):wpList Tryz.prog ops Q (op :: rest) a w :=
 wpList_store_row hgd 106 x y ho z _ hx hy 106 _ hz (by rw [Tryz.sec64];simp [Lib.byteCells_length,hl]) (by simp [Lib.byteCells_length,hl,hol]) (all_oneCell_toArray (Lib.byteCells_one l)) h
theorem wpList_load_sec {ops:Array Oper} {rest:List Oper} {op:Oper} {a:Act} {Q:Exit→Act→World→Prop} (hgd:op.guard=none) (x:Operand) (ho:op.op=.load 106 x)
 (w:World) (b o:Nat) (l:Sec) (hl:l.length=64) (hx:a.eval x=.pointer (some ⟨b,o,none⟩)) (hr:w.rangeAt b o (Lib.byteCells l))
 (h:wpList Tryz.prog ops Q rest (a.put op.dst (sv l)) w):wpList Tryz.prog ops Q (op :: rest) a w :=
 wpList_load_mid hgd 106 x ho b o hx _ _ hr Tryz.underlying106 rfl (by rw [Tryz.sec64,Lib.byteCells_length,hl]) h
theorem wpList_alloc_sec {ops:Array Oper} {rest:List Oper} {op:Oper} {a:Act} {Q:Exit→Act→World→Prop} (hgd:op.guard=none) (ho:op.op=.alloc 106) (w:World)
 (h:wpList Tryz.prog ops Q rest (a.put op.dst (.pointer (some ⟨w.heap.size,0,none⟩))) (zw w)):wpList Tryz.prog ops Q (op :: rest) a w:=by
 refine wpList_plain hgd fun K hK=>?_
 unfold Oper.wp execOp
 simp only [ho]
 go_simp
 exact hK _ _ h
theorem wpList_at {P:Program} {ops rest:_} {Q:Exit→Act→World→Prop} {a:Act} {w w':World} (h:w'=w) (k:wpList P ops Q rest a w):wpList P ops Q rest a w':=by rw [h];exact k
theorem zw_below (w:World):Below w.heap.size w (zw w):=(Below.refl _ _).alloc (Nat.le_refl _) _
theorem zw_new (w:World):(zw w).heap[w.heap.size]?=some (.cells (Lib.byteCells zsec).toArray 106 (0,0)):=heap_alloc_new w _
theorem zw_size (w:World):(zw w).heap.size=w.heap.size+1:=by unfold zw;simp
theorem Dk.DevAt.below {w w':World} {g fb mb cap:Nat} {d:St} (h:DevAt w g fb mb cap d) (hb:Below w.heap.size w w'):DevAt w' g fb mb cap d:=h.of_heap (fun k hk=>hb.block k (by
 rcases hk with rfl|rfl|rfl
 ·exact lt_of_heap h.blk
 ·exact h.row.lt
 ·exact h.map.lt))
theorem below_setRow {B z:Nat} {w:World} (hz:B≤z) (cs:Array Value):Below B w (w.setRow z cs):=⟨rfl,rfl,rfl,by simp,fun k hk=>setRow_other _ _ _ _ (by omega)⟩
theorem now_any (g:Nat) (L:List Nat) (d:St) (i:Nat) (w:World) (h:Dv w g L d) (hi:i<d.n) :
 Calls Tryz.prog 61 #[ptr g,.int .i64 i] w fun e w'=>e=.returned (sv (d.now i))∧Below w.heap.size w w':=by
 obtain ⟨ho,fb,mb,cap,rfl,hA⟩:=h
 have HO:=zh ho
 have hi0:(0:Int)≤i:=by omega
 have hi1:(i:Int)<d.n:=by omega
 have hi4:i<4096:=by have:=ho.n2;omega
 have hA0:=hA.below (zw_below w)
 have c1:=hA0.c1
 have hM:=hA0.map
 have hlen:((d.wt i).getD zsec).length=64:=by
  cases e:d.wt i with
  | none=>exact zsec_length
  | some s=>exact (ho.wlen i s e).2
 obtain ⟨w2,hw2⟩:∃ w2,w2=(zw (zw w)).setRow (zw w).heap.size (Lib.byteCells ((d.wt i).getD zsec)).toArray:=⟨_,rfl⟩
 have hb2:Below (zw w).heap.size (zw w) w2:=by rw [hw2];exact (zw_below _).trans (below_setRow (Nat.le_refl _) _)
 have hA2:=hA0.below hb2
 have c0:=hA2.c0
 have hr2:=hA2.row.range ho.flen i hi
 have hn2:w2.heap[(zw w).heap.size]?=some (.cells (Lib.byteCells ((d.wt i).getD zsec)).toArray 106 (0,0)):=by rw [hw2];exact setRow_heap _ _ _ _ 106 (0,0) (zw_new _)
 have hz2:w2.heap[w.heap.size]?=some (.cells (Lib.byteCells zsec).toArray 106 (0,0)):=(hb2.block _ (by rw [zw_size];omega)).trans (zw_new w)
 have hB:Below w.heap.size w w2:=(zw_below w).trans (hb2.mono (by rw [zw_size];omega))
 have HW:=zh hw2
 have HI:=zh hi
 clear ho hA hA0 hb2 hA2 hw2 hi
 unfold ptr
 cases e:d.wt i with
 | none =>
   have HE:=zh e
   rw [e] at hlen hn2 HW
   clear e
   have hfl:=HO.out.flen i
   have hnow:Hid (d.now i=d.fl i):=by show _=_;unfold St.now;rw [HE.out];rfl
   go_enter Tryz.func61,Tryz.ntmps61
   go_wp2_with (first
    | (refine wpList_alloc_sec rfl rfl _ ?_;go_frame)
    | (at_lookup;refine wpList_lookup_sec rfl _ _ rfl _ mb i d.wt rfl rfl hM hi4 ?_;rw [HE.out];go_frame)
    | (refine wpList_store_sec rfl _ _ rfl _ _ zsec _ hlen zsec_length rfl rfl (zw_new _) ?_;rw [←HW.out];go_frame)
    | (refine wpList_load_sec rfl _ rfl _ fb (i*64) (d.fl i) hfl rfl hr2 ?_;go_frame)
    | (refine wpList_store_sec rfl _ _ rfl _ w.heap.size zsec (d.fl i) hfl zsec_length rfl rfl hz2 ?_;go_frame))
   rw [hnow.out]
   exact bodyPost_ret (v:=sv (d.fl i)) (results_cell_row Tryz.results61 _ _ w.heap.size 106 _ (0,0) _ rfl (setRow_heap _ _ _ _ 106 (0,0) hz2) Tryz.underlying106 rfl (by rw [Tryz.sec64];simp [Lib.byteCells_length,hfl])) rfl
    ⟨rfl,hB.trans (below_setRow (Nat.le_refl _) _)⟩
 | some s =>
   have HE:=zh e
   rw [e] at hlen hn2 HW
   change List.length s=64 at hlen
   clear e
   have hnow:Hid (d.now i=s):=by show _=_;unfold St.now;rw [HE.out];rfl
   have hr3:w2.rangeAt (zw w).heap.size 0 (Lib.byteCells s):=range_of_heap hn2
   go_enter Tryz.func61,Tryz.ntmps61
   go_wp2_with (first
    | (refine wpList_alloc_sec rfl rfl _ ?_;go_frame)
    | (at_lookup;refine wpList_lookup_sec rfl _ _ rfl _ mb i d.wt rfl rfl hM hi4 ?_;rw [HE.out];go_frame)
    | (refine wpList_store_sec rfl _ _ rfl _ _ zsec s hlen zsec_length rfl rfl (zw_new _) ?_;refine wpList_at HW.out.symm ?_;go_frame)
    | (refine wpList_load_sec rfl _ rfl _ (zw w).heap.size 0 s hlen rfl hr3 ?_;go_frame)
    | (refine wpList_store_sec rfl _ _ rfl _ w.heap.size zsec s hlen zsec_length rfl rfl hz2 ?_;go_frame))
   rw [hnow.out]
   exact bodyPost_ret (v:=sv s) (results_cell_row Tryz.results61 _ _ w.heap.size 106 _ (0,0) _ rfl (setRow_heap _ _ _ _ 106 (0,0) hz2) Tryz.underlying106 rfl (by rw [Tryz.sec64];simp [Lib.byteCells_length,hlen])) rfl
    ⟨rfl,hB.trans (below_setRow (Nat.le_refl _) _)⟩
end Go.Proofs.YtnobeoppffoomaaGreat
namespace Go.Proofs.YtnobeoppffoomaaGreat
open Go.RowKit Dk
theorem conv_sec {w:World} {z o n cap:Nat} {l:List UInt8} (hl:l.length=n) (h:w.rangeAt z o (Lib.byteCells l)):(convert 68 9 (.slice (some ⟨z,o,none⟩) n cap)).run Tryz.prog w=.ok (.string (txt l)) w:=by
 subst hl
 exact run_convert_bytes_back w 68 9 5 ⟨z,o,none⟩ cap l Tryz.underlying68 Tryz.underlying5 Tryz.underlying9 (fun j hj=>by rw [Addr.add_mid];exact h j _ (by simp [Lib.byteCells,List.getElem?_eq_getElem hj]))
theorem read_no (g:Nat) (L:List Nat) (d:St) (at_:Int) (w:World) (h:Dv w g L d) (hr:d.refuses at_≠0) :
 Calls Tryz.prog 32 #[ptr g,.int .i64 at_] w fun e w'=>e=.returned (.tuple #[.string ⟨#[]⟩,.int .i64 (d.refuses at_)])∧w=w':=by
 have HC:=zh (refuses_any g L d at_ w h)
 have hne:(d.refuses at_ != 0)=true:=by simpa using hr
 generalize d.refuses at_=r at *
 clear h
 unfold ptr at *
 go_enter Tryz.func32,Tryz.ntmps32
 go_wp2_with fail
 refine HC.out.mono ?_
 rintro e w1 ⟨rfl,rfl⟩
 go_wp2
 go_ret2
 exact ⟨rfl,rfl⟩
theorem read_yes (g:Nat) (L:List Nat) (d:St) (i:Nat) (w:World) (h:Dv w g L d) (hr:d.refuses i=0) :
 Calls Tryz.prog 32 #[ptr g,.int .i64 i] w fun e w'=>e=.returned (.tuple #[.string (txt (d.now i)),.int .i64 0])∧Below w.heap.size w w':=by
 have hin:i<d.n:=by
  unfold St.refuses at hr
  split at hr
  ·cases hr
  ·split at hr
   ·cases hr
   ·omega
 have HC:=zh (refuses_any g L d i w h)
 rw [hr] at HC
 have HN:=zh (now_any g L d i w h hin)
 have hl:=h.1.now i
 generalize d.now i=l at *
 clear h hr
 unfold ptr at *
 go_enter Tryz.func32,Tryz.ntmps32
 go_wp2_with fail
 refine HC.out.mono ?_
 rintro e w1 ⟨rfl,rfl⟩
 go_wp2_with fail
 refine HN.out.mono ?_
 rintro e w1 ⟨rfl,hb1⟩
 have hcv:(convert 68 9 (.slice (some ⟨w1.heap.size,0,none⟩) 64 64)).run Tryz.prog (w1.alloc (.cells (Lib.byteCells l).toArray 106))=.ok (.string (txt l)) (w1.alloc (.cells (Lib.byteCells l).toArray 106)):=conv_sec hl (range_of_heap (heap_alloc_new w1 _))
 go_wp2_with (refine wpList_store_newsec rfl _ _ rfl _ _ l hl rfl rfl rfl ?_)
 go_ret2
 exact ⟨rfl,hb1.trans ((Below.refl _ _).alloc hb1.size _)⟩
namespace Dk
def St.readS (d:St) (at_:Int):List UInt8:=if d.refuses at_=0 then d.now at_.toNat else []
end Dk
theorem refuses_nonneg {d:St} {at_:Int} (hr:d.refuses at_=0):0≤at_∧at_<d.n∧d.dead=false:=by
 unfold St.refuses at hr
 cases hd:d.dead
 ·rw [hd,if_neg (by decide)] at hr
  split at hr
  ·cases hr
  ·exact ⟨by omega,by omega,rfl⟩
 ·rw [hd,if_pos rfl] at hr;cases hr
theorem read_any (g:Nat) (L:List Nat) (d:St) (at_:Int) (w:World) (h:Dv w g L d) :
 Calls Tryz.prog 32 #[ptr g,.int .i64 at_] w fun e w'=>e=.returned (.tuple #[.string (txt (d.readS at_)),.int .i64 (d.refuses at_)])∧Below w.heap.size w w':=by
 unfold St.readS
 by_cases hr:d.refuses at_=0
 ·obtain ⟨i,rfl⟩:=Int.eq_ofNat_of_zero_le (refuses_nonneg hr).1
  rw [if_pos hr,hr]
  exact read_yes g L d i w h hr
 ·rw [if_neg hr]
  exact (read_no g L d at_ w h hr).mono fun e w' ⟨he,hw⟩=>⟨he,by subst hw;exact Below.refl _ _⟩
end Go.Proofs.YtnobeoppffoomaaGreat
