/-
  FrameCodes: part G32.
  Conditions: named in each theorem.
-/
import Derived.Test.YtpdbeijfchmlgaaGreatZ0
import Derived.Test.YtpdbeijfchmlgaaGreatG27
import Derived.Test.YtpdbeijfchmlgaaGreatG30
import Derived.Test.YtpdbeijfchmlgaaGreatG31
set_option linter.unusedVariables false
set_option linter.unusedSimpArgs false
set_option maxHeartbeats 16000000
set_option maxRecDepth 100000
namespace Go.Proofs.YtpdbeijfchmlgaaGreat.D
open Go.RowKit
open Vi
theorem catE_snoc:∀ (l:List En) (e:En),catE (l++[e])=catE l++sbE e
 | [],e=>by
   show sbE e++⟨#[]⟩=⟨#[]⟩++sbE e
   apply ByteArray.ext;simp
 | a :: l,e=>by
   show sbE a++catE (l++[e])=sbE a++catE l++sbE e
   rw [catE_snoc l e,append_assoc3]
theorem sbE_le {X:En} (ok:X.Ok) (fw:Few_b X):(sbE X).size≤1000:=by
 have h:=secU_le ok fw 11 (Nat.le_refl _)
 show (secU eF X 11++putB 0).size≤1000
 rw [ByteArray.size_append]
 have:=putB_le 0 (by omega)
 omega
theorem catE_le:∀ (l:List En),(∀ e∈l,e.Ok∧rightB e=true)→(catE l).size≤1000*l.length
 | [],_=>Nat.zero_le _
 | a :: l,h=>by
   show (sbE a++catE l).size≤_
   have h1:=h a (by simp);have h2:=sbE_le h1.1 (few_of_b h1.1 h1.2);have h3:=catE_le l (fun e he=>h e (by simp [he]));rw [ByteArray.size_append,List.length_cons];omega
theorem zeroB_any (b:Bool) (w:World):Calls Tryz.prog 180 #[.bool b] w fun e w'=>e=.returned (.bool (!b))∧w=w':=by
 cases b
 all_goals
  go_enter Tryz.func180,Tryz.ntmps180
  go_wp2;go_ret;exact ⟨rfl,rfl⟩
theorem putFlag_any (w:World):Calls Tryz.prog 181 #[.bool true] w fun e w'=>e=.returned (.string (putB 1))∧Below w.heap.size w w':=by
 have K:=zh (put_any 1 w (by omega))
 go_enter Tryz.func181,Tryz.ntmps181
 go_wp2_with fail
 refine K.out.mono ?_;rintro e w1 ⟨rfl,hb⟩;go_wp2;go_ret;exact ⟨rfl,hb⟩
theorem noE_yes (A:Option Addr) (c:Nat) (w:World):Calls Tryz.prog 149 #[.slice A 0 c] w fun e w'=>e=.returned (.bool true)∧w=w':=by
 go_enter Tryz.func149,Tryz.ntmps149
 go_wp2;go_ret;exact ⟨rfl,rfl⟩
theorem noE_no (A:Option Addr) (n c:Nat) (w:World) (h:n≠0):Calls Tryz.prog 149 #[.slice A n c] w fun e w'=>e=.returned (.bool false)∧w=w':=by
 have e:((n:Int)==0)=false:=by simp;omega
 go_enter Tryz.func149,Tryz.ntmps149
 go_wp2;go_ret;exact ⟨by simp [h],rfl⟩
structure Pq (w0:World) (fb B:Nat) (A:Option Addr) (n:Nat) (es:List En) (x:ByteArray) (w:World):Prop where
 t:Wt_b B B x w
 lb:w0.heap.size≤B
 be:Below w0.heap.size w0 w
 fl:Flds fb w
 en:Ents w0.heap.size A n es w
section
variable {w0 w w1:World} {fb B n:Nat} {A:Option Addr} {es:List En} {x y:ByteArray}
theorem Pq.sz (h:Pq w0 fb B A n es x w):B<w.heap.size:=by
 obtain ⟨cs,hb⟩:=h.t.blk;exact (zgx hb)
theorem Pq.call (h:Pq w0 fb B A n es x w) (hb:Below w.heap.size w w1):Pq w0 fb B A n es x w1:=by
 have hs:=h.sz;have hl:=h.lb;exact ⟨h.t.below hb,hl,h.be.trans (hb.mono (by omega)),h.fl.on (Stab.below hb),h.en.below (hb.mono (by omega))⟩
theorem Pq.write (h:Pq w0 fb B A n es x w) (ht:Wt_b B B y w1) (hb:Below B w w1) (ho:Lib.OthersKept 5 (some B) w w1):Pq w0 fb B A n es y w1:=by
 obtain ⟨cs,hc⟩:=h.t.blk;exact ⟨ht,h.lb,h.be.trans (hb.mono h.lb),h.fl.on (Stab.others ho hc (.inr (.inr rfl))),h.en.below (hb.mono h.lb)⟩
end
theorem pq_write (w0:World) (fb B:Nat) (A:Option Addr) (n:Nat) (es:List En) (x s:ByteArray) (w:World) (h:Pq w0 fb B A n es x w) (hl:x.size+s.size≤140737488355328) :
 Calls Tryz.prog 110 #[.pointer (some ⟨B,0,none⟩),.string s] w fun e w'=>e=.returned (.tuple #[.int .i64 s.size,.nilIface])∧Pq w0 fb B A n es (x++s) w':=by
 have hs:=h.sz;exact (wwrite_b _ _ x s w h.t hl (by omega)).mono fun e w' ⟨h1,h2,h3,h4⟩=>⟨h1,h.write h2 h3 h4⟩
theorem putEntries_any (A:Option Addr) (n c:Nat) (es:List En) (w:World) (hE:Ents w.heap.size A n es w) (hn:n≤64) (hok:∀ e∈es,e.Ok∧rightB e=true) :
 Calls Tryz.prog 150 #[.slice A n c] w fun e w'=>e=.returned (.string (putB n++catE es))∧Below w.heap.size w w':=by
 have hlen:=hE.len;have HE:=zh hE;have HOK:=zh hok;have HLEN:=zh hlen;have K32:=zh (fields_any2 w);have hw:IntKind.u64.wrap (n:Int)=(n:Int):=IntWalk.u64_in _ (by omega);have K29:=zh (fun (W:World)=>put_any n W (by omega));have hps:=putB_le n (by omega);clear hE hok hlen
 go_enter Tryz.func150,Tryz.ntmps150
 go_wp2_with fail
 refine K32.out.mono ?_;rintro e w1 ⟨fb,rfl,F1,b1⟩;obtain ⟨W0,hW0⟩:∃ W0,W0=w1.alloc (Obj.cells #[.pointer none,.slice none 0 0] 93):=⟨_,rfl⟩
 have P0:Pq w fb w1.heap.size A n es ⟨#[]⟩ W0:=by
  have hb:Below w1.heap.size w1 W0:=by rw [hW0];exact zba
  have k1:W0.heap[w1.heap.size]?=some (.cells #[.pointer none,.slice none 0 0] 93 (0,0)):=by rw [hW0];exact heap_alloc_new w1 _
  have hB:Below w.heap.size w W0:=b1.trans (hb.mono b1.size);exact ⟨.inl ⟨Nat.le_refl _,_,k1,World.ownsRow_nil _ _ _ _,by simp [Value.ownBlock]⟩,b1.size,hB,F1.on (Stab.below hb),HE.out.below hB⟩
 have HW:=zh hW0;have HP0:=zh P0;obtain ⟨B,hB⟩:∃ B,B=w1.heap.size:=⟨_,rfl⟩;rw [←hB] at HP0;have HBB:=zh hB;clear hW0 P0 F1 b1 hB
 go_wp2_with fail
 rw [←HW.out]
 try rw [←HBB.out]
 refine (K29.out _).mono ?_;rintro e w2 ⟨rfl,hb2⟩;have HP2:=zh (HP0.out.call hb2);clear hb2
 go_wp2_with fail
 try rw [←HBB.out]
 refine (pq_write w fb B A n es ⟨#[]⟩ (putB n) w2 HP2.out (by show 0+_≤_;omega)).mono ?_;rintro e w3 ⟨rfl,h3⟩
 have HP3:Hid (Pq w fb B A n es (putB n++catE (es.take 0)) w3):=by
  have e0:(⟨#[]⟩:ByteArray)++putB n=putB n++catE (es.take 0):=by
   rw [empty_app_b,List.take_zero]
   show _=putB n++⟨#[]⟩
   apply ByteArray.ext;simp
  rw [e0] at h3;exact h3
 clear h3 HP0 HP2 HW
 go_wp2_with fail
 go_loopw [15] (fun i wr=>∃ k:Nat,k≤n∧i=.int .i64 k∧Pq w fb B A n es (putB n++catE (es.take k)) wr) (fun i _=>n-(intOf i).toNat)
 case atStart=>exact ⟨0,Nat.zero_le _,rfl,HP3.out⟩
 case round =>
  obtain ⟨k,hk,rfl,hr⟩:=hrel;clear HP3
  by_cases hlt:k<n
  ·obtain ⟨e,he⟩:∃ e,es[k]?=some e:=⟨_,List.getElem?_eq_getElem (by rw [HLEN.out];exact hlt)⟩;obtain ⟨a,hA,hBl,hc⟩:=hr.en.at_ k e he;have hef:=HOK.out e (List.mem_of_getElem? he)
   have hst:Hid (putB n++catE (es.take k)++sbE e=putB n++catE (es.take (k+1))):=by
    show _=_
    rw [show es.take (k+1)=es.take k++[e] by rw [List.take_add_one,he];rfl,catE_snoc,append_assoc3]
   have hcs:(catE (es.take k)).size≤64000:=by
    have h:=catE_le (es.take k) (fun x hx=>HOK.out x (List.mem_of_mem_take hx));have h2:(es.take k).length≤64:=by rw [List.length_take];omega
    omega
   have hfw:=few_of_b hef.1 hef.2;have hsl:=sbE_le hef.1 hfw;have KP:=zh (fun (W:World) (h:Flds fb W)=>putFields_any fb e W hef.1 hfw h);have KW:=zh (fun (W:World) (h:Pq w fb B A n es (putB n++catE (es.take k)) W)=>pq_write w fb B A n es _ (sbE e) W h (by rw [ByteArray.size_append];omega));have d0:wr.cell? (a.add (k*11))=some (.int .u64 e.term):=hc 0 (by omega);have d1:wr.cell? ⟨(a.add (k*11)).block,(a.add (k*11)).off+1,none⟩=some (.int .u64 e.index):=hc 1 (by omega);have d2:wr.cell? ⟨(a.add (k*11)).block,(a.add (k*11)).off+2,none⟩=some (.int .i64 e.kind):=hc 2 (by omega);have d3:wr.cell? ⟨(a.add (k*11)).block,(a.add (k*11)).off+3,none⟩=some (.int .u64 e.client):=hc 3 (by omega);have d4:wr.cell? ⟨(a.add (k*11)).block,(a.add (k*11)).off+4,none⟩=some (.int .u64 e.seq):=hc 4 (by omega);have d5:wr.cell? ⟨(a.add (k*11)).block,(a.add (k*11)).off+5,none⟩=some (.int .u64 e.block):=hc 5 (by omega);have d6:wr.cell? ⟨(a.add (k*11)).block,(a.add (k*11)).off+6,none⟩=some (.int .u64 e.many):=hc 6 (by omega);have d7:wr.cell? ⟨(a.add (k*11)).block,(a.add (k*11)).off+7,none⟩=some (.int .i64 e.node):=hc 7 (by omega);have d8:wr.cell? ⟨(a.add (k*11)).block,(a.add (k*11)).off+8,none⟩=some (.int .i64 e.level):=hc 8 (by omega);have d9:wr.cell? ⟨(a.add (k*11)).block,(a.add (k*11)).off+9,none⟩=some (.string e.data):=hc 9 (by omega);have d10:wr.cell? ⟨(a.add (k*11)).block,(a.add (k*11)).off+10,none⟩=some (.string e.old):=hc 10 (by omega);have HR:=zh hr;have HA:=zh hA;rw [hA];clear hr hc hA hBl hef hcs hfw hsl he
   go_wp2_with fail
   have HR2:=zh (HR.out.call ((Below.refl _ _).alloc (Nat.le_refl _) (Obj.cells (ec e) 24)));refine (KP.out _ HR2.out.fl).mono ?_;rintro q w4 ⟨rfl,hb4⟩;have HR4:=zh (HR2.out.call hb4);clear hb4
   go_wp2_with fail
   refine (KW.out _ HR4.out).mono ?_;rintro q w5 ⟨rfl,h5⟩
   have h6:Hid (Pq w fb B A n es (putB n++catE (es.take (k+1))) w5):=by
    show Pq _ _ _ _ _ _ _ _
    rw [←hst.out];exact h5
   clear h5;go_wp2
   go_roundw
   case rel=>exact ⟨k+1,by omega,by go_num,by rw [←HA.out];exact h6.out⟩
   case measure=>simp [intOf];omega
  ·have hkn:k=n:=by omega
   subst hkn;have htk:es.take k=es:=List.take_of_length_le (by rw [HLEN.out];omega);rw [htk] at hr;have hpos:=putB_pos_b k;have K:=zh (wstring_b B B (putB k++catE es) wr hr.t (by rw [ByteArray.size_append];omega));have HR:=zh hr;clear hr hpos
   go_wp2_with fail
   refine K.out.mono ?_;rintro q w4 ⟨rfl,hb4⟩;go_wp2;go_ret;exact ⟨rfl,HR.out.be.trans (hb4.mono HR.out.lb)⟩
theorem mat1_any (q:Nat) (w:World):Calls Tryz.prog 134 #[.pointer (some ⟨q,0,none⟩)] w fun e w'=>e=.returned (.pointer (some ⟨q,0,none⟩))∧w=w':=by
 go_enter Tryz.func134,Tryz.ntmps134
 go_wp2;go_ret;exact ⟨rfl,rfl⟩
theorem mput1_any (q a nn p:Nat) (n:Nat) (w:World) (hc:w.cell? ⟨q,0,none⟩=some (.int .i64 n)) (ha:w.cell? ⟨a,0,none⟩=some (.func (.func 134) #[] #[])) (hn:w.cell? ⟨nn,0,none⟩=some (.func (.func 166) #[] #[])) (hp:w.cell? ⟨p,0,none⟩=some (.func (.func 167) #[] #[])) (h:n<9223372036854775808) :
 Calls Tryz.prog 203 #[.pointer (some ⟨q,0,none⟩),.pointer (some ⟨a,0,none⟩),.pointer (some ⟨nn,0,none⟩),.pointer (some ⟨p,0,none⟩)] w fun e w'=>e=.returned (.string (nb n))∧Below w.heap.size w w':=by
 have HAT:=zh (mat1_any q)
 by_cases h0:n=0
 ·skip
  subst h0;have K:=zh zeroI_yes;have e0:nb ((0:Nat):Int)=⟨#[]⟩:=rfl;rw [e0];clear h e0
  go_enter Tryz.func203,Tryz.ntmps203
  go_wp2_with fail
  refine (HAT.out _).mono ?_;rintro e w1 ⟨rfl,rfl⟩
  go_wp2_with fail
  refine (K.out _).mono ?_;rintro e w1 ⟨rfl,rfl⟩;go_wp2;go_ret;exact ⟨rfl,Below.refl _ _⟩
 ·skip
  have K:=zh (fun W=>zeroI_no (n:Int) W (by omega));have K2:=zh (fun W=>putNI_any n W h);have e0:nb (n:Int)=putB n:=by unfold nb;rw [if_neg (by omega),Int.toNat_natCast]
  rw [e0];clear h e0 h0
  go_enter Tryz.func203,Tryz.ntmps203
  go_wp2_with fail
  refine (HAT.out _).mono ?_;rintro e w1 ⟨rfl,rfl⟩
  go_wp2_with fail
  refine (K.out _).mono ?_;rintro e w1 ⟨rfl,rfl⟩
  go_wp2_with fail
  refine (K2.out _).mono ?_;rintro e w1 ⟨rfl,hb⟩;go_wp2;go_ret;exact ⟨rfl,hb⟩
theorem mat2_any (q:Nat) (w:World):Calls Tryz.prog 135 #[.pointer (some ⟨q,0,none⟩)] w fun e w'=>e=.returned (.pointer (some ⟨q,1,none⟩))∧w=w':=by
 go_enter Tryz.func135,Tryz.ntmps135
 go_wp2;go_ret;exact ⟨rfl,rfl⟩
theorem mput2_any (q a nn p:Nat) (n:Nat) (w:World) (hc:w.cell? ⟨q,1,none⟩=some (.int .i64 n)) (ha:w.cell? ⟨a,0,none⟩=some (.func (.func 135) #[] #[])) (hn:w.cell? ⟨nn,0,none⟩=some (.func (.func 166) #[] #[])) (hp:w.cell? ⟨p,0,none⟩=some (.func (.func 167) #[] #[])) (h:n<9223372036854775808) :
 Calls Tryz.prog 203 #[.pointer (some ⟨q,0,none⟩),.pointer (some ⟨a,0,none⟩),.pointer (some ⟨nn,0,none⟩),.pointer (some ⟨p,0,none⟩)] w fun e w'=>e=.returned (.string (nb n))∧Below w.heap.size w w':=by
 have HAT:=zh (mat2_any q)
 by_cases h0:n=0
 ·skip
  subst h0;have K:=zh zeroI_yes;have e0:nb ((0:Nat):Int)=⟨#[]⟩:=rfl;rw [e0];clear h e0
  go_enter Tryz.func203,Tryz.ntmps203
  go_wp2_with fail
  refine (HAT.out _).mono ?_;rintro e w1 ⟨rfl,rfl⟩
  go_wp2_with fail
  refine (K.out _).mono ?_;rintro e w1 ⟨rfl,rfl⟩;go_wp2;go_ret;exact ⟨rfl,Below.refl _ _⟩
 ·skip
  have K:=zh (fun W=>zeroI_no (n:Int) W (by omega));have K2:=zh (fun W=>putNI_any n W h);have e0:nb (n:Int)=putB n:=by unfold nb;rw [if_neg (by omega),Int.toNat_natCast]
  rw [e0];clear h e0 h0
  go_enter Tryz.func203,Tryz.ntmps203
  go_wp2_with fail
  refine (HAT.out _).mono ?_;rintro e w1 ⟨rfl,rfl⟩
  go_wp2_with fail
  refine (K.out _).mono ?_;rintro e w1 ⟨rfl,rfl⟩
  go_wp2_with fail
  refine (K2.out _).mono ?_;rintro e w1 ⟨rfl,hb⟩;go_wp2;go_ret;exact ⟨rfl,hb⟩
theorem mat3_any (q:Nat) (w:World):Calls Tryz.prog 136 #[.pointer (some ⟨q,0,none⟩)] w fun e w'=>e=.returned (.pointer (some ⟨q,2,none⟩))∧w=w':=by
 go_enter Tryz.func136,Tryz.ntmps136
 go_wp2;go_ret;exact ⟨rfl,rfl⟩
theorem mput3_any (q a nn p:Nat) (n:Nat) (w:World) (hc:w.cell? ⟨q,2,none⟩=some (.int .i64 n)) (ha:w.cell? ⟨a,0,none⟩=some (.func (.func 136) #[] #[])) (hn:w.cell? ⟨nn,0,none⟩=some (.func (.func 166) #[] #[])) (hp:w.cell? ⟨p,0,none⟩=some (.func (.func 167) #[] #[])) (h:n<9223372036854775808) :
 Calls Tryz.prog 203 #[.pointer (some ⟨q,0,none⟩),.pointer (some ⟨a,0,none⟩),.pointer (some ⟨nn,0,none⟩),.pointer (some ⟨p,0,none⟩)] w fun e w'=>e=.returned (.string (nb n))∧Below w.heap.size w w':=by
 have HAT:=zh (mat3_any q)
 by_cases h0:n=0
 ·skip
  subst h0;have K:=zh zeroI_yes;have e0:nb ((0:Nat):Int)=⟨#[]⟩:=rfl;rw [e0];clear h e0
  go_enter Tryz.func203,Tryz.ntmps203
  go_wp2_with fail
  refine (HAT.out _).mono ?_;rintro e w1 ⟨rfl,rfl⟩
  go_wp2_with fail
  refine (K.out _).mono ?_;rintro e w1 ⟨rfl,rfl⟩;go_wp2;go_ret;exact ⟨rfl,Below.refl _ _⟩
 ·skip
  have K:=zh (fun W=>zeroI_no (n:Int) W (by omega));have K2:=zh (fun W=>putNI_any n W h);have e0:nb (n:Int)=putB n:=by unfold nb;rw [if_neg (by omega),Int.toNat_natCast]
  rw [e0];clear h e0 h0
  go_enter Tryz.func203,Tryz.ntmps203
  go_wp2_with fail
  refine (HAT.out _).mono ?_;rintro e w1 ⟨rfl,rfl⟩
  go_wp2_with fail
  refine (K.out _).mono ?_;rintro e w1 ⟨rfl,rfl⟩
  go_wp2_with fail
  refine (K2.out _).mono ?_;rintro e w1 ⟨rfl,hb⟩;go_wp2;go_ret;exact ⟨rfl,hb⟩
theorem mat4_any (q:Nat) (w:World):Calls Tryz.prog 138 #[.pointer (some ⟨q,0,none⟩)] w fun e w'=>e=.returned (.pointer (some ⟨q,3,none⟩))∧w=w':=by
 go_enter Tryz.func138,Tryz.ntmps138
 go_wp2;go_ret;exact ⟨rfl,rfl⟩
theorem mput4_any (q a nn p:Nat) (n:Nat) (w:World) (hc:w.cell? ⟨q,3,none⟩=some (.int .u64 n)) (ha:w.cell? ⟨a,0,none⟩=some (.func (.func 138) #[] #[])) (hn:w.cell? ⟨nn,0,none⟩=some (.func (.func 170) #[] #[])) (hp:w.cell? ⟨p,0,none⟩=some (.func (.func 171) #[] #[])) (h:n<18446744073709551616) :
 Calls Tryz.prog 205 #[.pointer (some ⟨q,0,none⟩),.pointer (some ⟨a,0,none⟩),.pointer (some ⟨nn,0,none⟩),.pointer (some ⟨p,0,none⟩)] w fun e w'=>e=.returned (.string (nb n))∧Below w.heap.size w w':=by
 have HAT:=zh (mat4_any q)
 by_cases h0:n=0
 ·skip
  subst h0;have K:=zh zeroU_yes;have e0:nb ((0:Nat):Int)=⟨#[]⟩:=rfl;rw [e0];clear h e0
  go_enter Tryz.func205,Tryz.ntmps205
  go_wp2_with fail
  refine (HAT.out _).mono ?_;rintro e w1 ⟨rfl,rfl⟩
  go_wp2_with fail
  refine (K.out _).mono ?_;rintro e w1 ⟨rfl,rfl⟩;go_wp2;go_ret;exact ⟨rfl,Below.refl _ _⟩
 ·skip
  have K:=zh (fun W=>zeroU_no (n:Int) W (by omega));have K2:=zh (fun W=>putNU_any n W h);have e0:nb (n:Int)=putB n:=by unfold nb;rw [if_neg (by omega),Int.toNat_natCast]
  rw [e0];clear h e0 h0
  go_enter Tryz.func205,Tryz.ntmps205
  go_wp2_with fail
  refine (HAT.out _).mono ?_;rintro e w1 ⟨rfl,rfl⟩
  go_wp2_with fail
  refine (K.out _).mono ?_;rintro e w1 ⟨rfl,rfl⟩
  go_wp2_with fail
  refine (K2.out _).mono ?_;rintro e w1 ⟨rfl,hb⟩;go_wp2;go_ret;exact ⟨rfl,hb⟩
theorem mat5_any (q:Nat) (w:World):Calls Tryz.prog 139 #[.pointer (some ⟨q,0,none⟩)] w fun e w'=>e=.returned (.pointer (some ⟨q,4,none⟩))∧w=w':=by
 go_enter Tryz.func139,Tryz.ntmps139
 go_wp2;go_ret;exact ⟨rfl,rfl⟩
theorem mput5_any (q a nn p:Nat) (n:Nat) (w:World) (hc:w.cell? ⟨q,4,none⟩=some (.int .u64 n)) (ha:w.cell? ⟨a,0,none⟩=some (.func (.func 139) #[] #[])) (hn:w.cell? ⟨nn,0,none⟩=some (.func (.func 170) #[] #[])) (hp:w.cell? ⟨p,0,none⟩=some (.func (.func 171) #[] #[])) (h:n<18446744073709551616) :
 Calls Tryz.prog 205 #[.pointer (some ⟨q,0,none⟩),.pointer (some ⟨a,0,none⟩),.pointer (some ⟨nn,0,none⟩),.pointer (some ⟨p,0,none⟩)] w fun e w'=>e=.returned (.string (nb n))∧Below w.heap.size w w':=by
 have HAT:=zh (mat5_any q)
 by_cases h0:n=0
 ·skip
  subst h0;have K:=zh zeroU_yes;have e0:nb ((0:Nat):Int)=⟨#[]⟩:=rfl;rw [e0];clear h e0
  go_enter Tryz.func205,Tryz.ntmps205
  go_wp2_with fail
  refine (HAT.out _).mono ?_;rintro e w1 ⟨rfl,rfl⟩
  go_wp2_with fail
  refine (K.out _).mono ?_;rintro e w1 ⟨rfl,rfl⟩;go_wp2;go_ret;exact ⟨rfl,Below.refl _ _⟩
 ·skip
  have K:=zh (fun W=>zeroU_no (n:Int) W (by omega));have K2:=zh (fun W=>putNU_any n W h);have e0:nb (n:Int)=putB n:=by unfold nb;rw [if_neg (by omega),Int.toNat_natCast]
  rw [e0];clear h e0 h0
  go_enter Tryz.func205,Tryz.ntmps205
  go_wp2_with fail
  refine (HAT.out _).mono ?_;rintro e w1 ⟨rfl,rfl⟩
  go_wp2_with fail
  refine (K.out _).mono ?_;rintro e w1 ⟨rfl,rfl⟩
  go_wp2_with fail
  refine (K2.out _).mono ?_;rintro e w1 ⟨rfl,hb⟩;go_wp2;go_ret;exact ⟨rfl,hb⟩
theorem mat6_any (q:Nat) (w:World):Calls Tryz.prog 140 #[.pointer (some ⟨q,0,none⟩)] w fun e w'=>e=.returned (.pointer (some ⟨q,5,none⟩))∧w=w':=by
 go_enter Tryz.func140,Tryz.ntmps140
 go_wp2;go_ret;exact ⟨rfl,rfl⟩
theorem mput6_any (q a nn p:Nat) (n:Nat) (w:World) (hc:w.cell? ⟨q,5,none⟩=some (.int .u64 n)) (ha:w.cell? ⟨a,0,none⟩=some (.func (.func 140) #[] #[])) (hn:w.cell? ⟨nn,0,none⟩=some (.func (.func 170) #[] #[])) (hp:w.cell? ⟨p,0,none⟩=some (.func (.func 171) #[] #[])) (h:n<18446744073709551616) :
 Calls Tryz.prog 205 #[.pointer (some ⟨q,0,none⟩),.pointer (some ⟨a,0,none⟩),.pointer (some ⟨nn,0,none⟩),.pointer (some ⟨p,0,none⟩)] w fun e w'=>e=.returned (.string (nb n))∧Below w.heap.size w w':=by
 have HAT:=zh (mat6_any q)
 by_cases h0:n=0
 ·skip
  subst h0;have K:=zh zeroU_yes;have e0:nb ((0:Nat):Int)=⟨#[]⟩:=rfl;rw [e0];clear h e0
  go_enter Tryz.func205,Tryz.ntmps205
  go_wp2_with fail
  refine (HAT.out _).mono ?_;rintro e w1 ⟨rfl,rfl⟩
  go_wp2_with fail
  refine (K.out _).mono ?_;rintro e w1 ⟨rfl,rfl⟩;go_wp2;go_ret;exact ⟨rfl,Below.refl _ _⟩
 ·skip
  have K:=zh (fun W=>zeroU_no (n:Int) W (by omega));have K2:=zh (fun W=>putNU_any n W h);have e0:nb (n:Int)=putB n:=by unfold nb;rw [if_neg (by omega),Int.toNat_natCast]
  rw [e0];clear h e0 h0
  go_enter Tryz.func205,Tryz.ntmps205
  go_wp2_with fail
  refine (HAT.out _).mono ?_;rintro e w1 ⟨rfl,rfl⟩
  go_wp2_with fail
  refine (K.out _).mono ?_;rintro e w1 ⟨rfl,rfl⟩
  go_wp2_with fail
  refine (K2.out _).mono ?_;rintro e w1 ⟨rfl,hb⟩;go_wp2;go_ret;exact ⟨rfl,hb⟩
theorem mat7_any (q:Nat) (w:World):Calls Tryz.prog 141 #[.pointer (some ⟨q,0,none⟩)] w fun e w'=>e=.returned (.pointer (some ⟨q,6,none⟩))∧w=w':=by
 go_enter Tryz.func141,Tryz.ntmps141
 go_wp2;go_ret;exact ⟨rfl,rfl⟩
theorem mput7_any (q a nn p:Nat) (n:Nat) (w:World) (hc:w.cell? ⟨q,6,none⟩=some (.int .u64 n)) (ha:w.cell? ⟨a,0,none⟩=some (.func (.func 141) #[] #[])) (hn:w.cell? ⟨nn,0,none⟩=some (.func (.func 170) #[] #[])) (hp:w.cell? ⟨p,0,none⟩=some (.func (.func 171) #[] #[])) (h:n<18446744073709551616) :
 Calls Tryz.prog 205 #[.pointer (some ⟨q,0,none⟩),.pointer (some ⟨a,0,none⟩),.pointer (some ⟨nn,0,none⟩),.pointer (some ⟨p,0,none⟩)] w fun e w'=>e=.returned (.string (nb n))∧Below w.heap.size w w':=by
 have HAT:=zh (mat7_any q)
 by_cases h0:n=0
 ·skip
  subst h0;have K:=zh zeroU_yes;have e0:nb ((0:Nat):Int)=⟨#[]⟩:=rfl;rw [e0];clear h e0
  go_enter Tryz.func205,Tryz.ntmps205
  go_wp2_with fail
  refine (HAT.out _).mono ?_;rintro e w1 ⟨rfl,rfl⟩
  go_wp2_with fail
  refine (K.out _).mono ?_;rintro e w1 ⟨rfl,rfl⟩;go_wp2;go_ret;exact ⟨rfl,Below.refl _ _⟩
 ·skip
  have K:=zh (fun W=>zeroU_no (n:Int) W (by omega));have K2:=zh (fun W=>putNU_any n W h);have e0:nb (n:Int)=putB n:=by unfold nb;rw [if_neg (by omega),Int.toNat_natCast]
  rw [e0];clear h e0 h0
  go_enter Tryz.func205,Tryz.ntmps205
  go_wp2_with fail
  refine (HAT.out _).mono ?_;rintro e w1 ⟨rfl,rfl⟩
  go_wp2_with fail
  refine (K.out _).mono ?_;rintro e w1 ⟨rfl,rfl⟩
  go_wp2_with fail
  refine (K2.out _).mono ?_;rintro e w1 ⟨rfl,hb⟩;go_wp2;go_ret;exact ⟨rfl,hb⟩
theorem mat8_any (q:Nat) (w:World):Calls Tryz.prog 142 #[.pointer (some ⟨q,0,none⟩)] w fun e w'=>e=.returned (.pointer (some ⟨q,7,none⟩))∧w=w':=by
 go_enter Tryz.func142,Tryz.ntmps142
 go_wp2;go_ret;exact ⟨rfl,rfl⟩
theorem mput8_any (q a nn p:Nat) (n:Nat) (w:World) (hc:w.cell? ⟨q,7,none⟩=some (.int .u64 n)) (ha:w.cell? ⟨a,0,none⟩=some (.func (.func 142) #[] #[])) (hn:w.cell? ⟨nn,0,none⟩=some (.func (.func 170) #[] #[])) (hp:w.cell? ⟨p,0,none⟩=some (.func (.func 171) #[] #[])) (h:n<18446744073709551616) :
 Calls Tryz.prog 205 #[.pointer (some ⟨q,0,none⟩),.pointer (some ⟨a,0,none⟩),.pointer (some ⟨nn,0,none⟩),.pointer (some ⟨p,0,none⟩)] w fun e w'=>e=.returned (.string (nb n))∧Below w.heap.size w w':=by
 have HAT:=zh (mat8_any q)
 by_cases h0:n=0
 ·skip
  subst h0;have K:=zh zeroU_yes;have e0:nb ((0:Nat):Int)=⟨#[]⟩:=rfl;rw [e0];clear h e0
  go_enter Tryz.func205,Tryz.ntmps205
  go_wp2_with fail
  refine (HAT.out _).mono ?_;rintro e w1 ⟨rfl,rfl⟩
  go_wp2_with fail
  refine (K.out _).mono ?_;rintro e w1 ⟨rfl,rfl⟩;go_wp2;go_ret;exact ⟨rfl,Below.refl _ _⟩
 ·skip
  have K:=zh (fun W=>zeroU_no (n:Int) W (by omega));have K2:=zh (fun W=>putNU_any n W h);have e0:nb (n:Int)=putB n:=by unfold nb;rw [if_neg (by omega),Int.toNat_natCast]
  rw [e0];clear h e0 h0
  go_enter Tryz.func205,Tryz.ntmps205
  go_wp2_with fail
  refine (HAT.out _).mono ?_;rintro e w1 ⟨rfl,rfl⟩
  go_wp2_with fail
  refine (K.out _).mono ?_;rintro e w1 ⟨rfl,rfl⟩
  go_wp2_with fail
  refine (K2.out _).mono ?_;rintro e w1 ⟨rfl,hb⟩;go_wp2;go_ret;exact ⟨rfl,hb⟩
theorem mat9_any (q:Nat) (w:World):Calls Tryz.prog 144 #[.pointer (some ⟨q,0,none⟩)] w fun e w'=>e=.returned (.pointer (some ⟨q,8,none⟩))∧w=w':=by
 go_enter Tryz.func144,Tryz.ntmps144
 go_wp2;go_ret;exact ⟨rfl,rfl⟩
theorem mput9_any (q a nn p:Nat) (d:Bool) (w:World) (hc:w.cell? ⟨q,8,none⟩=some (.bool d)) (ha:w.cell? ⟨a,0,none⟩=some (.func (.func 144) #[] #[])) (hn:w.cell? ⟨nn,0,none⟩=some (.func (.func 180) #[] #[])) (hp:w.cell? ⟨p,0,none⟩=some (.func (.func 181) #[] #[]))  :
 Calls Tryz.prog 207 #[.pointer (some ⟨q,0,none⟩),.pointer (some ⟨a,0,none⟩),.pointer (some ⟨nn,0,none⟩),.pointer (some ⟨p,0,none⟩)] w fun e w'=>e=.returned (.string (fb1 d))∧Below w.heap.size w w':=by
 have HAT:=zh (mat9_any q)
 by_cases h0:d=false
 ·skip
  subst h0;have e0:fb1 false=⟨#[]⟩:=rfl;rw [e0];have K:=zh (zeroB_any false);clear e0
  go_enter Tryz.func207,Tryz.ntmps207
  go_wp2_with fail
  refine (HAT.out _).mono ?_;rintro e w1 ⟨rfl,rfl⟩
  go_wp2_with fail
  refine (K.out _).mono ?_;rintro e w1 ⟨rfl,rfl⟩;go_wp2;go_ret;exact ⟨rfl,Below.refl _ _⟩
 ·skip
  have h1:d=true:=by simpa using h0
  subst h1;have K:=zh (zeroB_any true);have K2:=zh putFlag_any;have e0:fb1 true=putB 1:=rfl;rw [e0];clear e0 h0
  go_enter Tryz.func207,Tryz.ntmps207
  go_wp2_with fail
  refine (HAT.out _).mono ?_;rintro e w1 ⟨rfl,rfl⟩
  go_wp2_with fail
  refine (K.out _).mono ?_;rintro e w1 ⟨rfl,rfl⟩
  go_wp2_with fail
  refine (K2.out _).mono ?_;rintro e w1 ⟨rfl,hb⟩;go_wp2;go_ret;exact ⟨rfl,hb⟩
theorem mat10_any (q:Nat) (w:World):Calls Tryz.prog 146 #[.pointer (some ⟨q,0,none⟩)] w fun e w'=>e=.returned (.pointer (some ⟨q,10,none⟩))∧w=w':=by
 go_enter Tryz.func146,Tryz.ntmps146
 go_wp2;go_ret;exact ⟨rfl,rfl⟩
theorem mput10_any (q a nn p:Nat) (d:ByteArray) (w:World) (hc:w.cell? ⟨q,10,none⟩=some (.string d)) (ha:w.cell? ⟨a,0,none⟩=some (.func (.func 146) #[] #[])) (hn:w.cell? ⟨nn,0,none⟩=some (.func (.func 174) #[] #[])) (hp:w.cell? ⟨p,0,none⟩=some (.func (.func 175) #[] #[])) (h:d.size≤140737488355328) :
 Calls Tryz.prog 210 #[.pointer (some ⟨q,0,none⟩),.pointer (some ⟨a,0,none⟩),.pointer (some ⟨nn,0,none⟩),.pointer (some ⟨p,0,none⟩)] w fun e w'=>e=.returned (.string (tb d))∧Below w.heap.size w w':=by
 have HAT:=zh (mat10_any q)
 by_cases h0:d.size=0
 ·skip
  have hd:=(size0 d).1 h0;subst hd;have e0:tb ⟨#[]⟩=⟨#[]⟩:=rfl;rw [e0];have K:=zh zeroS_yes;clear h e0 h0
  go_enter Tryz.func210,Tryz.ntmps210
  go_wp2_with fail
  refine (HAT.out _).mono ?_;rintro e w1 ⟨rfl,rfl⟩
  go_wp2_with fail
  refine (K.out _).mono ?_;rintro e w1 ⟨rfl,rfl⟩;go_wp2;go_ret;exact ⟨rfl,Below.refl _ _⟩
 ·skip
  have K:=zh (fun W=>zeroS_no d W h0);have K2:=zh (fun W=>text_any d W h);have e0:tb d=putB d.size++d:=by unfold tb;rw [if_neg h0]
  rw [e0];clear h e0 h0
  go_enter Tryz.func210,Tryz.ntmps210
  go_wp2_with fail
  refine (HAT.out _).mono ?_;rintro e w1 ⟨rfl,rfl⟩
  go_wp2_with fail
  refine (K.out _).mono ?_;rintro e w1 ⟨rfl,rfl⟩
  go_wp2_with fail
  refine (K2.out _).mono ?_;rintro e w1 ⟨rfl,hb⟩;go_wp2;go_ret;exact ⟨rfl,hb⟩
theorem mat11_any (q:Nat) (w:World):Calls Tryz.prog 148 #[.pointer (some ⟨q,0,none⟩)] w fun e w'=>e=.returned (.pointer (some ⟨q,9,none⟩))∧w=w':=by
 go_enter Tryz.func148,Tryz.ntmps148
 go_wp2;go_ret;exact ⟨rfl,rfl⟩
theorem mput11_any (q a nn p:Nat) (A:Option Addr) (n c:Nat) (es:List En) (w:World) (hc:w.cell? ⟨q,9,none⟩=some (.slice A n c)) (ha:w.cell? ⟨a,0,none⟩=some (.func (.func 148) #[] #[])) (hn:w.cell? ⟨nn,0,none⟩=some (.func (.func 149) #[] #[])) (hp:w.cell? ⟨p,0,none⟩=some (.func (.func 150) #[] #[])) (hE:Ents w.heap.size A n es w) (h:n≤64) (hok:∀ e∈es,e.Ok∧rightB e=true) :
 Calls Tryz.prog 184 #[.pointer (some ⟨q,0,none⟩),.pointer (some ⟨a,0,none⟩),.pointer (some ⟨nn,0,none⟩),.pointer (some ⟨p,0,none⟩)] w fun e w'=>e=.returned (.string (eb es))∧Below w.heap.size w w':=by
 have HAT:=zh (mat11_any q)
 by_cases h0:n=0
 ·skip
  have hl:=hE.len;subst h0;have e0:eb es=⟨#[]⟩:=by unfold eb;rw [if_pos hl]
  rw [e0];have K:=zh (noE_yes A c);clear h e0 hl hE hok
  go_enter Tryz.func184,Tryz.ntmps184
  go_wp2_with fail
  refine (HAT.out _).mono ?_;rintro e w1 ⟨rfl,rfl⟩
  go_wp2_with fail
  refine (K.out _).mono ?_;rintro e w1 ⟨rfl,rfl⟩;go_wp2;go_ret;exact ⟨rfl,Below.refl _ _⟩
 ·skip
  have hl:=hE.len;have K:=zh (fun W=>noE_no A n c W h0);have K2:=zh (putEntries_any A n c es w hE h hok);have e0:eb es=putB n++catE es:=by unfold eb;rw [if_neg (by omega),hl]
  rw [e0];clear h e0 h0 hl hE hok
  go_enter Tryz.func184,Tryz.ntmps184
  go_wp2_with fail
  refine (HAT.out _).mono ?_;rintro e w1 ⟨rfl,rfl⟩
  go_wp2_with fail
  refine (K.out _).mono ?_;rintro e w1 ⟨rfl,rfl⟩
  go_wp2_with fail
  refine K2.out.mono ?_;rintro e w1 ⟨rfl,hb⟩;go_wp2;go_ret;exact ⟨rfl,hb⟩
end Go.Proofs.YtpdbeijfchmlgaaGreat.D
