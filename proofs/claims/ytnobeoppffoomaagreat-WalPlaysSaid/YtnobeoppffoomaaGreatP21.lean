/-
  WalPlays: SFl.
  Conditions: named in each theorem.
-/
import Derived.Test.YtnobeoppffoomaaGreatP20
import Derived.Laws.EntriesVeiled
import Derived.Test.YtnobeoppffoomaaGreatP0
set_option linter.unusedVariables false
set_option linter.unusedSimpArgs false
set_option maxHeartbeats 8000000
set_option maxRecDepth 100000
namespace Go.Proofs.YtnobeoppffoomaaGreat
open Go.RowKit
def Stab (w w':World):Prop:=∀ (k:Nat) (cs:Array Value) (T:TypeId),w.heap[k]?=some (.cells cs T (0,0))→70<T→T≠225→T≠81→w'.heap[k]?=some (.cells cs T (0,0))
theorem tyno {T T':TypeId} (hT:T≤70∨T=225∨T=81) (h2:70<T') (h3:T'≠225) (h4:T'≠81) (h5:T=T'):False:=by
 subst h5
 have g2:(70:Nat)<(T:Nat):=h2
 have g3:(T:Nat)≠225:=h3
 have g4:(T:Nat)≠81:=h4
 rcases hT with h|h|h
 ·exact absurd h (Nat.not_le_of_lt g2)
 ·exact g3 h
 ·exact g4 h
theorem Stab.refl (w:World):Stab w w:=fun _ _ _ h _ _ _=>h
theorem Stab.trans {a b c:World} (h:Stab a b) (k:Stab b c):Stab a c:=fun i cs T h1 h2 h3 h4=>k i cs T (h i cs T h1 h2 h3 h4) h2 h3 h4
theorem Stab.below {w w':World} (h:Below w.heap.size w w'):Stab w w':=fun i cs T h1 _ _ _=>(h.block i (zgx h1)).trans h1
theorem Stab.grown {w w':World} {g:Nat} {cs:Array Value} {T:TypeId} (h:w.grownBy w' (some g)) (hg:w.heap[g]?=some (.cells cs T (0,0))) (hT:T≤70∨T=225∨T=81):Stab w w':=fun i cs' T' h1 h2 h3 h4=>(h.block i (zgx h1) (fun e=>by
 have e':i=g:=by injection e
 subst e'
 rw [hg] at h1
 injection h1 with h1
 injection h1 with _ h5
 exact tyno hT h2 h3 h4 h5)).trans h1
theorem Stab.set {w:World} {p:Addr} {v:Value} {cs:Array Value} {T:TypeId} (hg:w.heap[p.block]?=some (.cells cs T (0,0))) (hT:T≤70∨T=225∨T=81):Stab w (w.setCell p v):=fun i cs' T' h1 h2 h3 h4=>by
 rw [Below.heap_setCell w p v i (fun e=>by
  subst e
  rw [hg] at h1
  injection h1 with h1
  injection h1 with _ h5
  exact tyno hT h2 h3 h4 h5)]
 exact h1
theorem Stab.others {w w':World} {b:Nat} {cs:Array Value} {T:TypeId} (h:Lib.OthersKept 5 (some b) w w') (hg:w.heap[b]?=some (.cells cs T (0,0))) (hT:T≤70∨T=225∨T=81):Stab w w':=fun i cs' T' h1 h2 h3 h4=>h i _ h1 (fun e=>by
 have e':i=b:=by injection e
 subst e'
 rw [hg] at h1
 injection h1 with h1
 injection h1 with _ h5
 exact tyno hT h2 h3 h4 h5) (fun c z he=>by
 injection he with _ h5
 exact tyno (T:=5) (.inl (by decide)) h2 h3 h4 h5.symm)
theorem blk_al_b {w:World} {k:Nat} {x:Obj} (o:Obj) (h:w.heap[k]?=some x):(w.alloc o).heap[k]?=some x:=(Lib.alloc_old w o k (zgx h)).trans h
def FldI (lo:Nat) (tA tN tP tR:TypeId) (kP kT fa fn fp fr:FuncId) (v1 v2:Value) (w:World):Prop :=
 ∃ a n p r:Nat,(lo≤a∧lo≤n∧lo≤p∧lo≤r)∧v1=.func (.func kP) #[] #[.pointer (some ⟨a,0,none⟩),.pointer (some ⟨n,0,none⟩),.pointer (some ⟨p,0,none⟩)]∧v2=.func (.func kT) #[] #[.pointer (some ⟨r,0,none⟩),.pointer (some ⟨n,0,none⟩),.pointer (some ⟨a,0,none⟩)] ∧
  w.heap[a]?=some (.cells #[.func (.func fa) #[] #[]] tA (0,0))∧w.heap[n]?=some (.cells #[.func (.func fn) #[] #[]] tN (0,0))∧w.heap[p]?=some (.cells #[.func (.func fp) #[] #[]] tP (0,0))∧w.heap[r]?=some (.cells #[.func (.func fr) #[] #[]] tR (0,0))
theorem FldI.on {lo:Nat} {tA tN tP tR:TypeId} {kP kT fa fn fp fr:FuncId} {v1 v2:Value} {w w':World} (h:FldI lo tA tN tP tR kP kT fa fn fp fr v1 v2 w) (hs:Stab w w') (c:(70<tA∧tA≠225∧tA≠81)∧(70<tN∧tN≠225∧tN≠81)∧(70<tP∧tP≠225∧tP≠81)∧(70<tR∧tR≠225∧tR≠81)):FldI lo tA tN tP tR kP kT fa fn fp fr v1 v2 w':=by
 obtain ⟨a,n,p,r,h0,h1,h2,h3,h4,h5,h6⟩:=h
 exact ⟨a,n,p,r,h0,h1,h2,hs _ _ _ h3 c.1.1 c.1.2.1 c.1.2.2,hs _ _ _ h4 c.2.1.1 c.2.1.2.1 c.2.1.2.2,hs _ _ _ h5 c.2.2.1.1 c.2.2.1.2.1 c.2.2.1.2.2,hs _ _ _ h6 c.2.2.2.1 c.2.2.2.2.1 c.2.2.2.2.2⟩
theorem FldI.set {lo:Nat} {tA tN tP tR:TypeId} {kP kT fa fn fp fr:FuncId} {v1 v2:Value} {w:World} {q:Addr} {u:Value} (h:FldI lo tA tN tP tR kP kT fa fn fp fr v1 v2 w) (hq:q.block<lo):FldI lo tA tN tP tR kP kT fa fn fp fr v1 v2 (w.setCell q u):=by
 obtain ⟨a,n,p,r,h0,h1,h2,h3,h4,h5,h6⟩:=h
 exact ⟨a,n,p,r,h0,h1,h2,(Below.heap_setCell w q u _ (by omega)).trans h3,(Below.heap_setCell w q u _ (by omega)).trans h4,(Below.heap_setCell w q u _ (by omega)).trans h5,(Below.heap_setCell w q u _ (by omega)).trans h6⟩
theorem FldI.lo {lo lo':Nat} {tA tN tP tR:TypeId} {kP kT fa fn fp fr:FuncId} {v1 v2:Value} {w:World} (h:FldI lo tA tN tP tR kP kT fa fn fp fr v1 v2 w) (hl:lo'≤lo):FldI lo' tA tN tP tR kP kT fa fn fp fr v1 v2 w:=by
 obtain ⟨a,n,p,r,h0,h1⟩:=h
 exact ⟨a,n,p,r,by omega,h1⟩
abbrev FI (lo:Nat) (fa:FuncId) (v1 v2:Value) (w:World):Prop:=FldI lo 192 78 87 218 195 196 fa 173 174 175 v1 v2 w
abbrev FU (lo:Nat) (fa:FuncId) (v1 v2:Value) (w:World):Prop:=FldI lo 195 220 171 221 198 199 fa 177 178 179 v1 v2 w
abbrev FS (lo:Nat) (fa:FuncId) (v1 v2:Value) (w:World):Prop:=FldI lo 198 152 204 223 201 202 fa 181 182 183 v1 v2 w
theorem madeI_any (fa:FuncId) (w:World) :
 Calls Tryz.prog 172 #[.func (.func fa) #[] #[],.func (.func 173) #[] #[],.func (.func 174) #[] #[],.func (.func 175) #[] #[]] w fun e w'=>∃ v1 v2,e=.returned (.agg #[v1,v2])∧FI w.heap.size fa v1 v2 w'∧Below w.heap.size w w':=by
 have hmf:∀ (fn:Fn) (first cap:Array Value) (w:World),(Instr.makeFunc fn first cap).run Tryz.prog w=.ok (.func fn first cap) w:=fun _ _ _ _=>rfl
 obtain ⟨W,hW⟩:∃ W,W=((((w.alloc (Obj.cells #[.func (.func fa) #[] #[]] 192)).alloc (Obj.cells #[.func (.func 173) #[] #[]] 78)).alloc (Obj.cells #[.func (.func 174) #[] #[]] 87)).alloc (Obj.cells #[.func (.func 175) #[] #[]] 218)):=⟨_,rfl⟩
 have hb:Below w.heap.size w W:=by rw [hW];exact ((((Below.refl _ _).alloc (Nat.le_refl _) _).alloc (by simp) _).alloc (by simp;omega) _).alloc (by simp;omega) _
 have k0:W.heap[w.heap.size]?=some (.cells #[.func (.func fa) #[] #[]] 192 (0,0)):=by
  have h:=heap_alloc_new w (Obj.cells #[.func (.func fa) #[] #[]] 192)
  rw [hW];exact blk_al_b _ (blk_al_b _ (blk_al_b _ (h)))
 have k1:W.heap[w.heap.size+1]?=some (.cells #[.func (.func 173) #[] #[]] 78 (0,0)):=by
  have h:=heap_alloc_new (w.alloc (Obj.cells #[.func (.func fa) #[] #[]] 192)) (Obj.cells #[.func (.func 173) #[] #[]] 78)
  rw [show (w.alloc (Obj.cells #[.func (.func fa) #[] #[]] 192)).heap.size=w.heap.size+1 by simp] at h
  rw [hW];exact blk_al_b _ (blk_al_b _ (h))
 have k2:W.heap[w.heap.size+1+1]?=some (.cells #[.func (.func 174) #[] #[]] 87 (0,0)):=by
  have h:=heap_alloc_new ((w.alloc (Obj.cells #[.func (.func fa) #[] #[]] 192)).alloc (Obj.cells #[.func (.func 173) #[] #[]] 78)) (Obj.cells #[.func (.func 174) #[] #[]] 87)
  rw [show ((w.alloc (Obj.cells #[.func (.func fa) #[] #[]] 192)).alloc (Obj.cells #[.func (.func 173) #[] #[]] 78)).heap.size=w.heap.size+1+1 by simp] at h
  rw [hW];exact blk_al_b _ (h)
 have k3:W.heap[w.heap.size+1+1+1]?=some (.cells #[.func (.func 175) #[] #[]] 218 (0,0)):=by
  have h:=heap_alloc_new (((w.alloc (Obj.cells #[.func (.func fa) #[] #[]] 192)).alloc (Obj.cells #[.func (.func 173) #[] #[]] 78)).alloc (Obj.cells #[.func (.func 174) #[] #[]] 87)) (Obj.cells #[.func (.func 175) #[] #[]] 218)
  rw [show (((w.alloc (Obj.cells #[.func (.func fa) #[] #[]] 192)).alloc (Obj.cells #[.func (.func 173) #[] #[]] 78)).alloc (Obj.cells #[.func (.func 174) #[] #[]] 87)).heap.size=w.heap.size+1+1+1 by simp] at h
  rw [hW];exact h
 have hWs:W.heap.size=w.heap.size+1+1+1+1:=by rw [hW];simp
 have HW:=zh hW
 have HS:=zh hWs
 have HB:=zh hb
 have HK:Hid (FI w.heap.size fa (.func (.func 195) #[] #[.pointer (some ⟨w.heap.size,0,none⟩),.pointer (some ⟨w.heap.size+1,0,none⟩),.pointer (some ⟨w.heap.size+1+1,0,none⟩)]) (.func (.func 196) #[] #[.pointer (some ⟨w.heap.size+1+1+1,0,none⟩),.pointer (some ⟨w.heap.size+1,0,none⟩),.pointer (some ⟨w.heap.size,0,none⟩)]) W):=⟨_,_,_,_,⟨Nat.le_refl _,by omega,by omega,by omega⟩,rfl,rfl,k0,k1,k2,k3⟩
 clear hW hWs hb k0 k1 k2 k3
 go_enter Tryz.func172,Tryz.ntmps172
 go_wp2
 refine bodyPost_ret (v:=.agg #[.func (.func 195) #[] #[.pointer (some ⟨w.heap.size,0,none⟩),.pointer (some ⟨w.heap.size+1,0,none⟩),.pointer (some ⟨w.heap.size+1+1,0,none⟩)],.func (.func 196) #[] #[.pointer (some ⟨w.heap.size+1+1+1,0,none⟩),.pointer (some ⟨w.heap.size+1,0,none⟩),.pointer (some ⟨w.heap.size,0,none⟩)]]) (by simp [results,Tryz.results172,go_sem]) rfl ⟨_,_,rfl,?_,?_⟩
 ·rw [←HW.out]
  exact HK.out.on (Stab.below ((Below.refl _ _).alloc (Nat.le_refl _) _)) (by decide)
 ·rw [←HW.out]
  exact HB.out.alloc (by have:=HS.out;omega) _
theorem madeU_any (fa:FuncId) (w:World) :
 Calls Tryz.prog 176 #[.func (.func fa) #[] #[],.func (.func 177) #[] #[],.func (.func 178) #[] #[],.func (.func 179) #[] #[]] w fun e w'=>∃ v1 v2,e=.returned (.agg #[v1,v2])∧FU w.heap.size fa v1 v2 w'∧Below w.heap.size w w':=by
 have hmf:∀ (fn:Fn) (first cap:Array Value) (w:World),(Instr.makeFunc fn first cap).run Tryz.prog w=.ok (.func fn first cap) w:=fun _ _ _ _=>rfl
 obtain ⟨W,hW⟩:∃ W,W=((((w.alloc (Obj.cells #[.func (.func fa) #[] #[]] 195)).alloc (Obj.cells #[.func (.func 177) #[] #[]] 220)).alloc (Obj.cells #[.func (.func 178) #[] #[]] 171)).alloc (Obj.cells #[.func (.func 179) #[] #[]] 221)):=⟨_,rfl⟩
 have hb:Below w.heap.size w W:=by rw [hW];exact ((((Below.refl _ _).alloc (Nat.le_refl _) _).alloc (by simp) _).alloc (by simp;omega) _).alloc (by simp;omega) _
 have k0:W.heap[w.heap.size]?=some (.cells #[.func (.func fa) #[] #[]] 195 (0,0)):=by
  have h:=heap_alloc_new w (Obj.cells #[.func (.func fa) #[] #[]] 195)
  rw [hW];exact blk_al_b _ (blk_al_b _ (blk_al_b _ (h)))
 have k1:W.heap[w.heap.size+1]?=some (.cells #[.func (.func 177) #[] #[]] 220 (0,0)):=by
  have h:=heap_alloc_new (w.alloc (Obj.cells #[.func (.func fa) #[] #[]] 195)) (Obj.cells #[.func (.func 177) #[] #[]] 220)
  rw [show (w.alloc (Obj.cells #[.func (.func fa) #[] #[]] 195)).heap.size=w.heap.size+1 by simp] at h
  rw [hW];exact blk_al_b _ (blk_al_b _ (h))
 have k2:W.heap[w.heap.size+1+1]?=some (.cells #[.func (.func 178) #[] #[]] 171 (0,0)):=by
  have h:=heap_alloc_new ((w.alloc (Obj.cells #[.func (.func fa) #[] #[]] 195)).alloc (Obj.cells #[.func (.func 177) #[] #[]] 220)) (Obj.cells #[.func (.func 178) #[] #[]] 171)
  rw [show ((w.alloc (Obj.cells #[.func (.func fa) #[] #[]] 195)).alloc (Obj.cells #[.func (.func 177) #[] #[]] 220)).heap.size=w.heap.size+1+1 by simp] at h
  rw [hW];exact blk_al_b _ (h)
 have k3:W.heap[w.heap.size+1+1+1]?=some (.cells #[.func (.func 179) #[] #[]] 221 (0,0)):=by
  have h:=heap_alloc_new (((w.alloc (Obj.cells #[.func (.func fa) #[] #[]] 195)).alloc (Obj.cells #[.func (.func 177) #[] #[]] 220)).alloc (Obj.cells #[.func (.func 178) #[] #[]] 171)) (Obj.cells #[.func (.func 179) #[] #[]] 221)
  rw [show (((w.alloc (Obj.cells #[.func (.func fa) #[] #[]] 195)).alloc (Obj.cells #[.func (.func 177) #[] #[]] 220)).alloc (Obj.cells #[.func (.func 178) #[] #[]] 171)).heap.size=w.heap.size+1+1+1 by simp] at h
  rw [hW];exact h
 have hWs:W.heap.size=w.heap.size+1+1+1+1:=by rw [hW];simp
 have HW:=zh hW
 have HS:=zh hWs
 have HB:=zh hb
 have HK:Hid (FU w.heap.size fa (.func (.func 198) #[] #[.pointer (some ⟨w.heap.size,0,none⟩),.pointer (some ⟨w.heap.size+1,0,none⟩),.pointer (some ⟨w.heap.size+1+1,0,none⟩)]) (.func (.func 199) #[] #[.pointer (some ⟨w.heap.size+1+1+1,0,none⟩),.pointer (some ⟨w.heap.size+1,0,none⟩),.pointer (some ⟨w.heap.size,0,none⟩)]) W):=⟨_,_,_,_,⟨Nat.le_refl _,by omega,by omega,by omega⟩,rfl,rfl,k0,k1,k2,k3⟩
 clear hW hWs hb k0 k1 k2 k3
 go_enter Tryz.func176,Tryz.ntmps176
 go_wp2
 refine bodyPost_ret (v:=.agg #[.func (.func 198) #[] #[.pointer (some ⟨w.heap.size,0,none⟩),.pointer (some ⟨w.heap.size+1,0,none⟩),.pointer (some ⟨w.heap.size+1+1,0,none⟩)],.func (.func 199) #[] #[.pointer (some ⟨w.heap.size+1+1+1,0,none⟩),.pointer (some ⟨w.heap.size+1,0,none⟩),.pointer (some ⟨w.heap.size,0,none⟩)]]) (by simp [results,Tryz.results176,go_sem]) rfl ⟨_,_,rfl,?_,?_⟩
 ·rw [←HW.out]
  exact HK.out.on (Stab.below ((Below.refl _ _).alloc (Nat.le_refl _) _)) (by decide)
 ·rw [←HW.out]
  exact HB.out.alloc (by have:=HS.out;omega) _
theorem madeS_any (fa:FuncId) (w:World) :
 Calls Tryz.prog 180 #[.func (.func fa) #[] #[],.func (.func 181) #[] #[],.func (.func 182) #[] #[],.func (.func 183) #[] #[]] w fun e w'=>∃ v1 v2,e=.returned (.agg #[v1,v2])∧FS w.heap.size fa v1 v2 w'∧Below w.heap.size w w':=by
 have hmf:∀ (fn:Fn) (first cap:Array Value) (w:World),(Instr.makeFunc fn first cap).run Tryz.prog w=.ok (.func fn first cap) w:=fun _ _ _ _=>rfl
 obtain ⟨W,hW⟩:∃ W,W=((((w.alloc (Obj.cells #[.func (.func fa) #[] #[]] 198)).alloc (Obj.cells #[.func (.func 181) #[] #[]] 152)).alloc (Obj.cells #[.func (.func 182) #[] #[]] 204)).alloc (Obj.cells #[.func (.func 183) #[] #[]] 223)):=⟨_,rfl⟩
 have hb:Below w.heap.size w W:=by rw [hW];exact ((((Below.refl _ _).alloc (Nat.le_refl _) _).alloc (by simp) _).alloc (by simp;omega) _).alloc (by simp;omega) _
 have k0:W.heap[w.heap.size]?=some (.cells #[.func (.func fa) #[] #[]] 198 (0,0)):=by
  have h:=heap_alloc_new w (Obj.cells #[.func (.func fa) #[] #[]] 198)
  rw [hW];exact blk_al_b _ (blk_al_b _ (blk_al_b _ (h)))
 have k1:W.heap[w.heap.size+1]?=some (.cells #[.func (.func 181) #[] #[]] 152 (0,0)):=by
  have h:=heap_alloc_new (w.alloc (Obj.cells #[.func (.func fa) #[] #[]] 198)) (Obj.cells #[.func (.func 181) #[] #[]] 152)
  rw [show (w.alloc (Obj.cells #[.func (.func fa) #[] #[]] 198)).heap.size=w.heap.size+1 by simp] at h
  rw [hW];exact blk_al_b _ (blk_al_b _ (h))
 have k2:W.heap[w.heap.size+1+1]?=some (.cells #[.func (.func 182) #[] #[]] 204 (0,0)):=by
  have h:=heap_alloc_new ((w.alloc (Obj.cells #[.func (.func fa) #[] #[]] 198)).alloc (Obj.cells #[.func (.func 181) #[] #[]] 152)) (Obj.cells #[.func (.func 182) #[] #[]] 204)
  rw [show ((w.alloc (Obj.cells #[.func (.func fa) #[] #[]] 198)).alloc (Obj.cells #[.func (.func 181) #[] #[]] 152)).heap.size=w.heap.size+1+1 by simp] at h
  rw [hW];exact blk_al_b _ (h)
 have k3:W.heap[w.heap.size+1+1+1]?=some (.cells #[.func (.func 183) #[] #[]] 223 (0,0)):=by
  have h:=heap_alloc_new (((w.alloc (Obj.cells #[.func (.func fa) #[] #[]] 198)).alloc (Obj.cells #[.func (.func 181) #[] #[]] 152)).alloc (Obj.cells #[.func (.func 182) #[] #[]] 204)) (Obj.cells #[.func (.func 183) #[] #[]] 223)
  rw [show (((w.alloc (Obj.cells #[.func (.func fa) #[] #[]] 198)).alloc (Obj.cells #[.func (.func 181) #[] #[]] 152)).alloc (Obj.cells #[.func (.func 182) #[] #[]] 204)).heap.size=w.heap.size+1+1+1 by simp] at h
  rw [hW];exact h
 have hWs:W.heap.size=w.heap.size+1+1+1+1:=by rw [hW];simp
 have HW:=zh hW
 have HS:=zh hWs
 have HB:=zh hb
 have HK:Hid (FS w.heap.size fa (.func (.func 201) #[] #[.pointer (some ⟨w.heap.size,0,none⟩),.pointer (some ⟨w.heap.size+1,0,none⟩),.pointer (some ⟨w.heap.size+1+1,0,none⟩)]) (.func (.func 202) #[] #[.pointer (some ⟨w.heap.size+1+1+1,0,none⟩),.pointer (some ⟨w.heap.size+1,0,none⟩),.pointer (some ⟨w.heap.size,0,none⟩)]) W):=⟨_,_,_,_,⟨Nat.le_refl _,by omega,by omega,by omega⟩,rfl,rfl,k0,k1,k2,k3⟩
 clear hW hWs hb k0 k1 k2 k3
 go_enter Tryz.func180,Tryz.ntmps180
 go_wp2
 refine bodyPost_ret (v:=.agg #[.func (.func 201) #[] #[.pointer (some ⟨w.heap.size,0,none⟩),.pointer (some ⟨w.heap.size+1,0,none⟩),.pointer (some ⟨w.heap.size+1+1,0,none⟩)],.func (.func 202) #[] #[.pointer (some ⟨w.heap.size+1+1+1,0,none⟩),.pointer (some ⟨w.heap.size+1,0,none⟩),.pointer (some ⟨w.heap.size,0,none⟩)]]) (by simp [results,Tryz.results180,go_sem]) rfl ⟨_,_,rfl,?_,?_⟩
 ·rw [←HW.out]
  exact HK.out.on (Stab.below ((Below.refl _ _).alloc (Nat.le_refl _) _)) (by decide)
 ·rw [←HW.out]
  exact HB.out.alloc (by have:=HS.out;omega) _
theorem numI_any (fa:FuncId) (w:World) :
 Calls Tryz.prog 136 #[.func (.func fa) #[] #[]] w fun e w'=>∃ v1 v2,e=.returned (.agg #[v1,v2])∧FI (w.heap.size+1) fa v1 v2 w'∧Below w.heap.size w w':=by
 have K:=zh (fun (W:World)=>madeI_any fa W)
 obtain ⟨W0,hW0⟩:∃ W0,W0=w.alloc (Obj.cells #[.nilFunc,.nilFunc] 189):=⟨_,rfl⟩
 have hb0:Below w.heap.size w W0:=by rw [hW0];exact (Below.refl _ _).alloc (Nat.le_refl _) _
 have hs0:W0.heap.size=w.heap.size+1:=by rw [hW0];simp
 have hk0:W0.heap[w.heap.size]?=some (.cells #[.nilFunc,.nilFunc] 189 (0,0)):=by rw [hW0];exact heap_alloc_new w _
 have HW:=zh hW0
 have HB:=zh hb0
 have HS:=zh hs0
 have HK:=zh hk0
 clear hW0 hb0 hs0 hk0
 go_enter Tryz.func136,Tryz.ntmps136
 go_wp2_with fail
 rw [←HW.out]
 refine (K.out _).mono ?_
 rintro e w1 ⟨v1,v2,rfl,⟨a,n,p,r,h0,rfl,rfl,h3,h4,h5,h6⟩,hb1⟩
 have hk1:w1.heap[w.heap.size]?=some (.cells #[.nilFunc,.nilFunc] 189 (0,0)):=(hb1.block _ (by have:=HS.out;omega)).trans HK.out
 have c0:w1.cell? ⟨w.heap.size,0,none⟩=some .nilFunc:=zcr w1 _ 0 _ 189 (0,0) hk1
 have c1:w1.cell? ⟨w.heap.size,1,none⟩=some .nilFunc:=zcr w1 _ 1 _ 189 (0,0) hk1
 have fz:∀ i,w1.frozen? ⟨w.heap.size,i,none⟩=false:=fun i=>Lib.frozen_of_heap hk1 i
 have HF:Hid (FI W0.heap.size fa (.func (.func 195) #[] #[.pointer (some ⟨a,0,none⟩),.pointer (some ⟨n,0,none⟩),.pointer (some ⟨p,0,none⟩)]) (.func (.func 196) #[] #[.pointer (some ⟨r,0,none⟩),.pointer (some ⟨n,0,none⟩),.pointer (some ⟨a,0,none⟩)]) w1):=⟨a,n,p,r,h0,rfl,rfl,h3,h4,h5,h6⟩
 have HB1:Hid (Below w.heap.size w w1):=HB.out.trans (hb1.mono HB.out.size)
 clear h0 h3 h4 h5 h6 hb1 hk1
 go_wp2
 refine bodyPost_ret (v:=.agg #[.func (.func 195) #[] #[.pointer (some ⟨a,0,none⟩),.pointer (some ⟨n,0,none⟩),.pointer (some ⟨p,0,none⟩)],.func (.func 196) #[] #[.pointer (some ⟨r,0,none⟩),.pointer (some ⟨n,0,none⟩),.pointer (some ⟨a,0,none⟩)]]) (by simp [results,Tryz.results136,go_sem,c0,c1]) rfl ⟨_,_,rfl,?_,?_⟩
 ·have hs:=HS.out
  have h:=HF.out
  rw [hs] at h
  exact (h.set (by simp)).set (by simp)
 ·exact (HB1.out.setCell (p:=⟨w.heap.size,0,none⟩) (Nat.le_refl _) _).setCell (p:=⟨w.heap.size,1,none⟩) (Nat.le_refl _) _
theorem numU_any (fa:FuncId) (w:World) :
 Calls Tryz.prog 138 #[.func (.func fa) #[] #[]] w fun e w'=>∃ v1 v2,e=.returned (.agg #[v1,v2])∧FU (w.heap.size+1) fa v1 v2 w'∧Below w.heap.size w w':=by
 have K:=zh (fun (W:World)=>madeU_any fa W)
 obtain ⟨W0,hW0⟩:∃ W0,W0=w.alloc (Obj.cells #[.nilFunc,.nilFunc] 189):=⟨_,rfl⟩
 have hb0:Below w.heap.size w W0:=by rw [hW0];exact (Below.refl _ _).alloc (Nat.le_refl _) _
 have hs0:W0.heap.size=w.heap.size+1:=by rw [hW0];simp
 have hk0:W0.heap[w.heap.size]?=some (.cells #[.nilFunc,.nilFunc] 189 (0,0)):=by rw [hW0];exact heap_alloc_new w _
 have HW:=zh hW0
 have HB:=zh hb0
 have HS:=zh hs0
 have HK:=zh hk0
 clear hW0 hb0 hs0 hk0
 go_enter Tryz.func138,Tryz.ntmps138
 go_wp2_with fail
 rw [←HW.out]
 refine (K.out _).mono ?_
 rintro e w1 ⟨v1,v2,rfl,⟨a,n,p,r,h0,rfl,rfl,h3,h4,h5,h6⟩,hb1⟩
 have hk1:w1.heap[w.heap.size]?=some (.cells #[.nilFunc,.nilFunc] 189 (0,0)):=(hb1.block _ (by have:=HS.out;omega)).trans HK.out
 have c0:w1.cell? ⟨w.heap.size,0,none⟩=some .nilFunc:=zcr w1 _ 0 _ 189 (0,0) hk1
 have c1:w1.cell? ⟨w.heap.size,1,none⟩=some .nilFunc:=zcr w1 _ 1 _ 189 (0,0) hk1
 have fz:∀ i,w1.frozen? ⟨w.heap.size,i,none⟩=false:=fun i=>Lib.frozen_of_heap hk1 i
 have HF:Hid (FU W0.heap.size fa (.func (.func 198) #[] #[.pointer (some ⟨a,0,none⟩),.pointer (some ⟨n,0,none⟩),.pointer (some ⟨p,0,none⟩)]) (.func (.func 199) #[] #[.pointer (some ⟨r,0,none⟩),.pointer (some ⟨n,0,none⟩),.pointer (some ⟨a,0,none⟩)]) w1):=⟨a,n,p,r,h0,rfl,rfl,h3,h4,h5,h6⟩
 have HB1:Hid (Below w.heap.size w w1):=HB.out.trans (hb1.mono HB.out.size)
 clear h0 h3 h4 h5 h6 hb1 hk1
 go_wp2
 refine bodyPost_ret (v:=.agg #[.func (.func 198) #[] #[.pointer (some ⟨a,0,none⟩),.pointer (some ⟨n,0,none⟩),.pointer (some ⟨p,0,none⟩)],.func (.func 199) #[] #[.pointer (some ⟨r,0,none⟩),.pointer (some ⟨n,0,none⟩),.pointer (some ⟨a,0,none⟩)]]) (by simp [results,Tryz.results138,go_sem,c0,c1]) rfl ⟨_,_,rfl,?_,?_⟩
 ·have hs:=HS.out
  have h:=HF.out
  rw [hs] at h
  exact (h.set (by simp)).set (by simp)
 ·exact (HB1.out.setCell (p:=⟨w.heap.size,0,none⟩) (Nat.le_refl _) _).setCell (p:=⟨w.heap.size,1,none⟩) (Nat.le_refl _) _
theorem numS_any (fa:FuncId) (w:World) :
 Calls Tryz.prog 147 #[.func (.func fa) #[] #[]] w fun e w'=>∃ v1 v2,e=.returned (.agg #[v1,v2])∧FS (w.heap.size+1) fa v1 v2 w'∧Below w.heap.size w w':=by
 have K:=zh (fun (W:World)=>madeS_any fa W)
 obtain ⟨W0,hW0⟩:∃ W0,W0=w.alloc (Obj.cells #[.nilFunc,.nilFunc] 189):=⟨_,rfl⟩
 have hb0:Below w.heap.size w W0:=by rw [hW0];exact (Below.refl _ _).alloc (Nat.le_refl _) _
 have hs0:W0.heap.size=w.heap.size+1:=by rw [hW0];simp
 have hk0:W0.heap[w.heap.size]?=some (.cells #[.nilFunc,.nilFunc] 189 (0,0)):=by rw [hW0];exact heap_alloc_new w _
 have HW:=zh hW0
 have HB:=zh hb0
 have HS:=zh hs0
 have HK:=zh hk0
 clear hW0 hb0 hs0 hk0
 go_enter Tryz.func147,Tryz.ntmps147
 go_wp2_with fail
 rw [←HW.out]
 refine (K.out _).mono ?_
 rintro e w1 ⟨v1,v2,rfl,⟨a,n,p,r,h0,rfl,rfl,h3,h4,h5,h6⟩,hb1⟩
 have hk1:w1.heap[w.heap.size]?=some (.cells #[.nilFunc,.nilFunc] 189 (0,0)):=(hb1.block _ (by have:=HS.out;omega)).trans HK.out
 have c0:w1.cell? ⟨w.heap.size,0,none⟩=some .nilFunc:=zcr w1 _ 0 _ 189 (0,0) hk1
 have c1:w1.cell? ⟨w.heap.size,1,none⟩=some .nilFunc:=zcr w1 _ 1 _ 189 (0,0) hk1
 have fz:∀ i,w1.frozen? ⟨w.heap.size,i,none⟩=false:=fun i=>Lib.frozen_of_heap hk1 i
 have HF:Hid (FS W0.heap.size fa (.func (.func 201) #[] #[.pointer (some ⟨a,0,none⟩),.pointer (some ⟨n,0,none⟩),.pointer (some ⟨p,0,none⟩)]) (.func (.func 202) #[] #[.pointer (some ⟨r,0,none⟩),.pointer (some ⟨n,0,none⟩),.pointer (some ⟨a,0,none⟩)]) w1):=⟨a,n,p,r,h0,rfl,rfl,h3,h4,h5,h6⟩
 have HB1:Hid (Below w.heap.size w w1):=HB.out.trans (hb1.mono HB.out.size)
 clear h0 h3 h4 h5 h6 hb1 hk1
 go_wp2
 refine bodyPost_ret (v:=.agg #[.func (.func 201) #[] #[.pointer (some ⟨a,0,none⟩),.pointer (some ⟨n,0,none⟩),.pointer (some ⟨p,0,none⟩)],.func (.func 202) #[] #[.pointer (some ⟨r,0,none⟩),.pointer (some ⟨n,0,none⟩),.pointer (some ⟨a,0,none⟩)]]) (by simp [results,Tryz.results147,go_sem,c0,c1]) rfl ⟨_,_,rfl,?_,?_⟩
 ·have hs:=HS.out
  have h:=HF.out
  rw [hs] at h
  exact (h.set (by simp)).set (by simp)
 ·exact (HB1.out.setCell (p:=⟨w.heap.size,0,none⟩) (Nat.le_refl _) _).setCell (p:=⟨w.heap.size,1,none⟩) (Nat.le_refl _) _
def Flds (b:Nat) (w:World):Prop :=
 ∃ v:Nat→Value×Value,w.heap[b]?=some (.cells #[.nilFunc,.nilFunc,(v 1).1,(v 1).2,(v 2).1,(v 2).2,(v 3).1,(v 3).2,(v 4).1,(v 4).2,(v 5).1,(v 5).2,(v 6).1,(v 6).2,(v 7).1,(v 7).2,(v 8).1,(v 8).2,(v 9).1,(v 9).2,(v 10).1,(v 10).2,(v 11).1,(v 11).2] 189 (0,0))∧FI 0 137 (v 1).1 (v 1).2 w∧FU 0 139 (v 2).1 (v 2).2 w∧FU 0 140 (v 3).1 (v 3).2 w∧FU 0 141 (v 4).1 (v 4).2 w∧FU 0 142 (v 5).1 (v 5).2 w∧FU 0 143 (v 6).1 (v 6).2 w∧FU 0 144 (v 7).1 (v 7).2 w∧FI 0 145 (v 8).1 (v 8).2 w∧FI 0 146 (v 9).1 (v 9).2 w∧FS 0 148 (v 10).1 (v 10).2 w∧FS 0 149 (v 11).1 (v 11).2 w
theorem Flds.on {b:Nat} {w w':World} (h:Flds b w) (hs:Stab w w'):Flds b w':=by
 obtain ⟨v,h0,h1,h2,h3,h4,h5,h6,h7,h8,h9,h10,h11⟩:=h
 exact ⟨v,hs _ _ _ h0 (by decide) (by decide) (by decide),h1.on hs (by decide),h2.on hs (by decide),h3.on hs (by decide),h4.on hs (by decide),h5.on hs (by decide),h6.on hs (by decide),h7.on hs (by decide),h8.on hs (by decide),h9.on hs (by decide),h10.on hs (by decide),h11.on hs (by decide)⟩
theorem Flds.lt {b:Nat} {w:World} (h:Flds b w):b<w.heap.size:=by
 obtain ⟨v,h0,_⟩:=h
 exact (zgx h0)
def pairs (p1 p2 p3 p4 p5 p6 p7 p8 p9 p10 p11:Value×Value):Nat→Value×Value
 | 1=>p1
 | 2=>p2
 | 3=>p3
 | 4=>p4
 | 5=>p5
 | 6=>p6
 | 7=>p7
 | 8=>p8
 | 9=>p9
 | 10=>p10
 | 11=>p11
 | _=>p1
theorem fields_any2 (w:World) :
 Calls Tryz.prog 108 #[] w fun e w'=>∃ b,e=.returned (.slice (some ⟨b,0,none⟩) 12 12)∧Flds b w'∧Below w.heap.size w w':=by
 have KI:=zh (fun (fa:FuncId) (W:World)=>numI_any fa W)
 have KU:=zh (fun (fa:FuncId) (W:World)=>numU_any fa W)
 have KS:=zh (fun (fa:FuncId) (W:World)=>numS_any fa W)
 go_enter Tryz.func108,Tryz.ntmps108
 go_wp2_with fail
 refine (KI.out 137 _).mono ?_
 rintro e w1 ⟨_,_,rfl,⟨a1,n1,p1,r1,o1,rfl,rfl,ha1,hn1,hp1,hr1⟩,hb1⟩
 have HF1:Hid (FI 0 137 (.func (.func 195) #[] #[.pointer (some ⟨a1,0,none⟩),.pointer (some ⟨n1,0,none⟩),.pointer (some ⟨p1,0,none⟩)]) (.func (.func 196) #[] #[.pointer (some ⟨r1,0,none⟩),.pointer (some ⟨n1,0,none⟩),.pointer (some ⟨a1,0,none⟩)]) w1):=⟨_,_,_,_,⟨Nat.zero_le _,Nat.zero_le _,Nat.zero_le _,Nat.zero_le _⟩,rfl,rfl,ha1,hn1,hp1,hr1⟩
 have HB1:=zh hb1
 clear o1 ha1 hn1 hp1 hr1 hb1
 go_wp2_with fail
 refine (KU.out 139 _).mono ?_
 rintro e w2 ⟨_,_,rfl,⟨a2,n2,p2,r2,o2,rfl,rfl,ha2,hn2,hp2,hr2⟩,hb2⟩
 have HF2:Hid (FU 0 139 (.func (.func 198) #[] #[.pointer (some ⟨a2,0,none⟩),.pointer (some ⟨n2,0,none⟩),.pointer (some ⟨p2,0,none⟩)]) (.func (.func 199) #[] #[.pointer (some ⟨r2,0,none⟩),.pointer (some ⟨n2,0,none⟩),.pointer (some ⟨a2,0,none⟩)]) w2):=⟨_,_,_,_,⟨Nat.zero_le _,Nat.zero_le _,Nat.zero_le _,Nat.zero_le _⟩,rfl,rfl,ha2,hn2,hp2,hr2⟩
 have HB2:=zh hb2
 clear o2 ha2 hn2 hp2 hr2 hb2
 go_wp2_with fail
 refine (KU.out 140 _).mono ?_
 rintro e w3 ⟨_,_,rfl,⟨a3,n3,p3,r3,o3,rfl,rfl,ha3,hn3,hp3,hr3⟩,hb3⟩
 have HF3:Hid (FU 0 140 (.func (.func 198) #[] #[.pointer (some ⟨a3,0,none⟩),.pointer (some ⟨n3,0,none⟩),.pointer (some ⟨p3,0,none⟩)]) (.func (.func 199) #[] #[.pointer (some ⟨r3,0,none⟩),.pointer (some ⟨n3,0,none⟩),.pointer (some ⟨a3,0,none⟩)]) w3):=⟨_,_,_,_,⟨Nat.zero_le _,Nat.zero_le _,Nat.zero_le _,Nat.zero_le _⟩,rfl,rfl,ha3,hn3,hp3,hr3⟩
 have HB3:=zh hb3
 clear o3 ha3 hn3 hp3 hr3 hb3
 go_wp2_with fail
 refine (KU.out 141 _).mono ?_
 rintro e w4 ⟨_,_,rfl,⟨a4,n4,p4,r4,o4,rfl,rfl,ha4,hn4,hp4,hr4⟩,hb4⟩
 have HF4:Hid (FU 0 141 (.func (.func 198) #[] #[.pointer (some ⟨a4,0,none⟩),.pointer (some ⟨n4,0,none⟩),.pointer (some ⟨p4,0,none⟩)]) (.func (.func 199) #[] #[.pointer (some ⟨r4,0,none⟩),.pointer (some ⟨n4,0,none⟩),.pointer (some ⟨a4,0,none⟩)]) w4):=⟨_,_,_,_,⟨Nat.zero_le _,Nat.zero_le _,Nat.zero_le _,Nat.zero_le _⟩,rfl,rfl,ha4,hn4,hp4,hr4⟩
 have HB4:=zh hb4
 clear o4 ha4 hn4 hp4 hr4 hb4
 go_wp2_with fail
 refine (KU.out 142 _).mono ?_
 rintro e w5 ⟨_,_,rfl,⟨a5,n5,p5,r5,o5,rfl,rfl,ha5,hn5,hp5,hr5⟩,hb5⟩
 have HF5:Hid (FU 0 142 (.func (.func 198) #[] #[.pointer (some ⟨a5,0,none⟩),.pointer (some ⟨n5,0,none⟩),.pointer (some ⟨p5,0,none⟩)]) (.func (.func 199) #[] #[.pointer (some ⟨r5,0,none⟩),.pointer (some ⟨n5,0,none⟩),.pointer (some ⟨a5,0,none⟩)]) w5):=⟨_,_,_,_,⟨Nat.zero_le _,Nat.zero_le _,Nat.zero_le _,Nat.zero_le _⟩,rfl,rfl,ha5,hn5,hp5,hr5⟩
 have HB5:=zh hb5
 clear o5 ha5 hn5 hp5 hr5 hb5
 go_wp2_with fail
 refine (KU.out 143 _).mono ?_
 rintro e w6 ⟨_,_,rfl,⟨a6,n6,p6,r6,o6,rfl,rfl,ha6,hn6,hp6,hr6⟩,hb6⟩
 have HF6:Hid (FU 0 143 (.func (.func 198) #[] #[.pointer (some ⟨a6,0,none⟩),.pointer (some ⟨n6,0,none⟩),.pointer (some ⟨p6,0,none⟩)]) (.func (.func 199) #[] #[.pointer (some ⟨r6,0,none⟩),.pointer (some ⟨n6,0,none⟩),.pointer (some ⟨a6,0,none⟩)]) w6):=⟨_,_,_,_,⟨Nat.zero_le _,Nat.zero_le _,Nat.zero_le _,Nat.zero_le _⟩,rfl,rfl,ha6,hn6,hp6,hr6⟩
 have HB6:=zh hb6
 clear o6 ha6 hn6 hp6 hr6 hb6
 go_wp2_with fail
 refine (KU.out 144 _).mono ?_
 rintro e w7 ⟨_,_,rfl,⟨a7,n7,p7,r7,o7,rfl,rfl,ha7,hn7,hp7,hr7⟩,hb7⟩
 have HF7:Hid (FU 0 144 (.func (.func 198) #[] #[.pointer (some ⟨a7,0,none⟩),.pointer (some ⟨n7,0,none⟩),.pointer (some ⟨p7,0,none⟩)]) (.func (.func 199) #[] #[.pointer (some ⟨r7,0,none⟩),.pointer (some ⟨n7,0,none⟩),.pointer (some ⟨a7,0,none⟩)]) w7):=⟨_,_,_,_,⟨Nat.zero_le _,Nat.zero_le _,Nat.zero_le _,Nat.zero_le _⟩,rfl,rfl,ha7,hn7,hp7,hr7⟩
 have HB7:=zh hb7
 clear o7 ha7 hn7 hp7 hr7 hb7
 go_wp2_with fail
 refine (KI.out 145 _).mono ?_
 rintro e w8 ⟨_,_,rfl,⟨a8,n8,p8,r8,o8,rfl,rfl,ha8,hn8,hp8,hr8⟩,hb8⟩
 have HF8:Hid (FI 0 145 (.func (.func 195) #[] #[.pointer (some ⟨a8,0,none⟩),.pointer (some ⟨n8,0,none⟩),.pointer (some ⟨p8,0,none⟩)]) (.func (.func 196) #[] #[.pointer (some ⟨r8,0,none⟩),.pointer (some ⟨n8,0,none⟩),.pointer (some ⟨a8,0,none⟩)]) w8):=⟨_,_,_,_,⟨Nat.zero_le _,Nat.zero_le _,Nat.zero_le _,Nat.zero_le _⟩,rfl,rfl,ha8,hn8,hp8,hr8⟩
 have HB8:=zh hb8
 clear o8 ha8 hn8 hp8 hr8 hb8
 go_wp2_with fail
 refine (KI.out 146 _).mono ?_
 rintro e w9 ⟨_,_,rfl,⟨a9,n9,p9,r9,o9,rfl,rfl,ha9,hn9,hp9,hr9⟩,hb9⟩
 have HF9:Hid (FI 0 146 (.func (.func 195) #[] #[.pointer (some ⟨a9,0,none⟩),.pointer (some ⟨n9,0,none⟩),.pointer (some ⟨p9,0,none⟩)]) (.func (.func 196) #[] #[.pointer (some ⟨r9,0,none⟩),.pointer (some ⟨n9,0,none⟩),.pointer (some ⟨a9,0,none⟩)]) w9):=⟨_,_,_,_,⟨Nat.zero_le _,Nat.zero_le _,Nat.zero_le _,Nat.zero_le _⟩,rfl,rfl,ha9,hn9,hp9,hr9⟩
 have HB9:=zh hb9
 clear o9 ha9 hn9 hp9 hr9 hb9
 go_wp2_with fail
 refine (KS.out 148 _).mono ?_
 rintro e w10 ⟨_,_,rfl,⟨a10,n10,p10,r10,o10,rfl,rfl,ha10,hn10,hp10,hr10⟩,hb10⟩
 have HF10:Hid (FS 0 148 (.func (.func 201) #[] #[.pointer (some ⟨a10,0,none⟩),.pointer (some ⟨n10,0,none⟩),.pointer (some ⟨p10,0,none⟩)]) (.func (.func 202) #[] #[.pointer (some ⟨r10,0,none⟩),.pointer (some ⟨n10,0,none⟩),.pointer (some ⟨a10,0,none⟩)]) w10):=⟨_,_,_,_,⟨Nat.zero_le _,Nat.zero_le _,Nat.zero_le _,Nat.zero_le _⟩,rfl,rfl,ha10,hn10,hp10,hr10⟩
 have HB10:=zh hb10
 clear o10 ha10 hn10 hp10 hr10 hb10
 go_wp2_with fail
 refine (KS.out 149 _).mono ?_
 rintro e w11 ⟨_,_,rfl,⟨a11,n11,p11,r11,o11,rfl,rfl,ha11,hn11,hp11,hr11⟩,hb11⟩
 have HF11:Hid (FS 0 149 (.func (.func 201) #[] #[.pointer (some ⟨a11,0,none⟩),.pointer (some ⟨n11,0,none⟩),.pointer (some ⟨p11,0,none⟩)]) (.func (.func 202) #[] #[.pointer (some ⟨r11,0,none⟩),.pointer (some ⟨n11,0,none⟩),.pointer (some ⟨a11,0,none⟩)]) w11):=⟨_,_,_,_,⟨Nat.zero_le _,Nat.zero_le _,Nat.zero_le _,Nat.zero_le _⟩,rfl,rfl,ha11,hn11,hp11,hr11⟩
 have HB11:=zh hb11
 clear o11 ha11 hn11 hp11 hr11 hb11
 go_wp2
 go_ret
 have s12:=Stab.below ((Below.refl w11.heap.size w11).alloc (Nat.le_refl _) (Obj.cells #[.nilFunc,.nilFunc,.func (.func 195) #[] #[.pointer (some ⟨a1,0,none⟩),.pointer (some ⟨n1,0,none⟩),.pointer (some ⟨p1,0,none⟩)],.func (.func 196) #[] #[.pointer (some ⟨r1,0,none⟩),.pointer (some ⟨n1,0,none⟩),.pointer (some ⟨a1,0,none⟩)],.func (.func 198) #[] #[.pointer (some ⟨a2,0,none⟩),.pointer (some ⟨n2,0,none⟩),.pointer (some ⟨p2,0,none⟩)],.func (.func 199) #[] #[.pointer (some ⟨r2,0,none⟩),.pointer (some ⟨n2,0,none⟩),.pointer (some ⟨a2,0,none⟩)],.func (.func 198) #[] #[.pointer (some ⟨a3,0,none⟩),.pointer (some ⟨n3,0,none⟩),.pointer (some ⟨p3,0,none⟩)],.func (.func 199) #[] #[.pointer (some ⟨r3,0,none⟩),.pointer (some ⟨n3,0,none⟩),.pointer (some ⟨a3,0,none⟩)],.func (.func 198) #[] #[.pointer (some ⟨a4,0,none⟩),.pointer (some ⟨n4,0,none⟩),.pointer (some ⟨p4,0,none⟩)],.func (.func 199) #[] #[.pointer (some ⟨r4,0,none⟩),.pointer (some ⟨n4,0,none⟩),.pointer (some ⟨a4,0,none⟩)],.func (.func 198) #[] #[.pointer (some ⟨a5,0,none⟩),.pointer (some ⟨n5,0,none⟩),.pointer (some ⟨p5,0,none⟩)],.func (.func 199) #[] #[.pointer (some ⟨r5,0,none⟩),.pointer (some ⟨n5,0,none⟩),.pointer (some ⟨a5,0,none⟩)],.func (.func 198) #[] #[.pointer (some ⟨a6,0,none⟩),.pointer (some ⟨n6,0,none⟩),.pointer (some ⟨p6,0,none⟩)],.func (.func 199) #[] #[.pointer (some ⟨r6,0,none⟩),.pointer (some ⟨n6,0,none⟩),.pointer (some ⟨a6,0,none⟩)],.func (.func 198) #[] #[.pointer (some ⟨a7,0,none⟩),.pointer (some ⟨n7,0,none⟩),.pointer (some ⟨p7,0,none⟩)],.func (.func 199) #[] #[.pointer (some ⟨r7,0,none⟩),.pointer (some ⟨n7,0,none⟩),.pointer (some ⟨a7,0,none⟩)],.func (.func 195) #[] #[.pointer (some ⟨a8,0,none⟩),.pointer (some ⟨n8,0,none⟩),.pointer (some ⟨p8,0,none⟩)],.func (.func 196) #[] #[.pointer (some ⟨r8,0,none⟩),.pointer (some ⟨n8,0,none⟩),.pointer (some ⟨a8,0,none⟩)],.func (.func 195) #[] #[.pointer (some ⟨a9,0,none⟩),.pointer (some ⟨n9,0,none⟩),.pointer (some ⟨p9,0,none⟩)],.func (.func 196) #[] #[.pointer (some ⟨r9,0,none⟩),.pointer (some ⟨n9,0,none⟩),.pointer (some ⟨a9,0,none⟩)],.func (.func 201) #[] #[.pointer (some ⟨a10,0,none⟩),.pointer (some ⟨n10,0,none⟩),.pointer (some ⟨p10,0,none⟩)],.func (.func 202) #[] #[.pointer (some ⟨r10,0,none⟩),.pointer (some ⟨n10,0,none⟩),.pointer (some ⟨a10,0,none⟩)],.func (.func 201) #[] #[.pointer (some ⟨a11,0,none⟩),.pointer (some ⟨n11,0,none⟩),.pointer (some ⟨p11,0,none⟩)],.func (.func 202) #[] #[.pointer (some ⟨r11,0,none⟩),.pointer (some ⟨n11,0,none⟩),.pointer (some ⟨a11,0,none⟩)]] 189))
 have s11:Stab w11 _:=s12
 have s10:=(Stab.below HB11.out).trans s11
 have s9:=(Stab.below HB10.out).trans s10
 have s8:=(Stab.below HB9.out).trans s9
 have s7:=(Stab.below HB8.out).trans s8
 have s6:=(Stab.below HB7.out).trans s7
 have s5:=(Stab.below HB6.out).trans s6
 have s4:=(Stab.below HB5.out).trans s5
 have s3:=(Stab.below HB4.out).trans s4
 have s2:=(Stab.below HB3.out).trans s3
 have s1:=(Stab.below HB2.out).trans s2
 have b1:=HB1.out
 have b2:=b1.trans (HB2.out.mono b1.size)
 have b3:=b2.trans (HB3.out.mono b2.size)
 have b4:=b3.trans (HB4.out.mono b3.size)
 have b5:=b4.trans (HB5.out.mono b4.size)
 have b6:=b5.trans (HB6.out.mono b5.size)
 have b7:=b6.trans (HB7.out.mono b6.size)
 have b8:=b7.trans (HB8.out.mono b7.size)
 have b9:=b8.trans (HB9.out.mono b8.size)
 have b10:=b9.trans (HB10.out.mono b9.size)
 have b11:=b10.trans (HB11.out.mono b10.size)
 refine ⟨_,rfl,⟨pairs (.func (.func 195) #[] #[.pointer (some ⟨a1,0,none⟩),.pointer (some ⟨n1,0,none⟩),.pointer (some ⟨p1,0,none⟩)],.func (.func 196) #[] #[.pointer (some ⟨r1,0,none⟩),.pointer (some ⟨n1,0,none⟩),.pointer (some ⟨a1,0,none⟩)]) (.func (.func 198) #[] #[.pointer (some ⟨a2,0,none⟩),.pointer (some ⟨n2,0,none⟩),.pointer (some ⟨p2,0,none⟩)],.func (.func 199) #[] #[.pointer (some ⟨r2,0,none⟩),.pointer (some ⟨n2,0,none⟩),.pointer (some ⟨a2,0,none⟩)]) (.func (.func 198) #[] #[.pointer (some ⟨a3,0,none⟩),.pointer (some ⟨n3,0,none⟩),.pointer (some ⟨p3,0,none⟩)],.func (.func 199) #[] #[.pointer (some ⟨r3,0,none⟩),.pointer (some ⟨n3,0,none⟩),.pointer (some ⟨a3,0,none⟩)]) (.func (.func 198) #[] #[.pointer (some ⟨a4,0,none⟩),.pointer (some ⟨n4,0,none⟩),.pointer (some ⟨p4,0,none⟩)],.func (.func 199) #[] #[.pointer (some ⟨r4,0,none⟩),.pointer (some ⟨n4,0,none⟩),.pointer (some ⟨a4,0,none⟩)]) (.func (.func 198) #[] #[.pointer (some ⟨a5,0,none⟩),.pointer (some ⟨n5,0,none⟩),.pointer (some ⟨p5,0,none⟩)],.func (.func 199) #[] #[.pointer (some ⟨r5,0,none⟩),.pointer (some ⟨n5,0,none⟩),.pointer (some ⟨a5,0,none⟩)]) (.func (.func 198) #[] #[.pointer (some ⟨a6,0,none⟩),.pointer (some ⟨n6,0,none⟩),.pointer (some ⟨p6,0,none⟩)],.func (.func 199) #[] #[.pointer (some ⟨r6,0,none⟩),.pointer (some ⟨n6,0,none⟩),.pointer (some ⟨a6,0,none⟩)]) (.func (.func 198) #[] #[.pointer (some ⟨a7,0,none⟩),.pointer (some ⟨n7,0,none⟩),.pointer (some ⟨p7,0,none⟩)],.func (.func 199) #[] #[.pointer (some ⟨r7,0,none⟩),.pointer (some ⟨n7,0,none⟩),.pointer (some ⟨a7,0,none⟩)]) (.func (.func 195) #[] #[.pointer (some ⟨a8,0,none⟩),.pointer (some ⟨n8,0,none⟩),.pointer (some ⟨p8,0,none⟩)],.func (.func 196) #[] #[.pointer (some ⟨r8,0,none⟩),.pointer (some ⟨n8,0,none⟩),.pointer (some ⟨a8,0,none⟩)]) (.func (.func 195) #[] #[.pointer (some ⟨a9,0,none⟩),.pointer (some ⟨n9,0,none⟩),.pointer (some ⟨p9,0,none⟩)],.func (.func 196) #[] #[.pointer (some ⟨r9,0,none⟩),.pointer (some ⟨n9,0,none⟩),.pointer (some ⟨a9,0,none⟩)]) (.func (.func 201) #[] #[.pointer (some ⟨a10,0,none⟩),.pointer (some ⟨n10,0,none⟩),.pointer (some ⟨p10,0,none⟩)],.func (.func 202) #[] #[.pointer (some ⟨r10,0,none⟩),.pointer (some ⟨n10,0,none⟩),.pointer (some ⟨a10,0,none⟩)]) (.func (.func 201) #[] #[.pointer (some ⟨a11,0,none⟩),.pointer (some ⟨n11,0,none⟩),.pointer (some ⟨p11,0,none⟩)],.func (.func 202) #[] #[.pointer (some ⟨r11,0,none⟩),.pointer (some ⟨n11,0,none⟩),.pointer (some ⟨a11,0,none⟩)]),heap_alloc_new w11 _,HF1.out.on s1 (by decide),HF2.out.on s2 (by decide),HF3.out.on s3 (by decide),HF4.out.on s4 (by decide),HF5.out.on s5 (by decide),HF6.out.on s6 (by decide),HF7.out.on s7 (by decide),HF8.out.on s8 (by decide),HF9.out.on s9 (by decide),HF10.out.on s10 (by decide),HF11.out.on s11 (by decide)⟩,b11.alloc b11.size _⟩
end Go.Proofs.YtnobeoppffoomaaGreat
