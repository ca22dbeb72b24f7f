import PyProof.Rows.All
import KE.KTurns
import KE.KLcPair
import KE.KRevIter
import OpenK.KOwn
import KE.RegKIsAll
import KE.KItem
import KE.KxBytes
import PyProof.EqAt
import PyProof.EqKinds
import PyProof.TupleCall
import PyProof.NeKinds
import PyProof.SumAny
import PyProof.LongRange
import PyProof.ZipIter
import PyProof.Rows.Range3
import KE.KStateDown
import PyProof.DictWalks
import PyProof.ListRange
import PyProof.ListNew
import KE.KIntText
import PySem.Challenge.RW_sawsign_k64_read_or_refused
set_option Elab.async false
set_option linter.all false
set_option maxRecDepth 100000
namespace Hd
open PySem PySem.W PyProof.Rows
noncomputable def s0 (w : World) (os : OsState) : Shared := ⟨boot_heap w.params, #[], boot_drawn, boot_toks, os⟩
abbrev ann : Option Value := some (.ref 6)
abbrev P0 : Pos := ⟨0, 0, 0, 0⟩
abbrev BB : List Frame := [topFrame P0]
def env (p : Program) : Env := { scope := p.main.scope, locals := mainNs, globals := mainNs, cells := [], code := .ref 13, frame := some 14 }
def cE (p : Program) : Code := .body (behindTheImports p) (env p)
noncomputable def preR (p : Program) (w : World) (os : OsState) := topGo treeTable p w 11 ann 12 (s0 w os) (topStub p)
noncomputable def SA (p : Program) (w : World) (os : OsState) : Shared := ((preR p w os).map Prod.fst).getD (s0 w os)
noncomputable def T0 (p : Program) (w : World) (os : OsState) : SharedT := ⟨((SA p w os).heap.objs.toList.foldl (fun (x : BT × Nat) o => (x.1.ins x.2 o, x.2 + 1)) (BT.nil, 0)).1, (SA p w os).heap.objs.size, (SA p w os).heap.life, (SA p w os).gens, (SA p w os).drawn, (SA p w os).toks, os⟩
noncomputable def runT (p : Program) (w : World) (os : OsState) (n : Nat) := segRunT treeTable p w 11 ann 1 n (T0 p w os) (piecesOf (behindTheImports p) (env p) (cE p) P0 BB)
noncomputable def S3 (p : Program) (w : World) (os : OsState) (n : Nat) : SharedT := ((runT p w os n).map fun x => x.2.1).getD (T0 p w os)
noncomputable def finR (p : Program) (w : World) (os : OsState) (n : Nat) (pos : Pos) : Option Shared := (runT p w os n).bind fun x => topRun treeTable p w 11 ann 2 x.2.1.abs ⟨doneF .next, cE p, pos, BB⟩
theorem size0 : ∀ w : World, ((boot_heap w.params).isNs mainGlobals && (#[] : Array GenState).size == 0, (boot_heap w.params).objs.size, (boot_heap w.params).nsMap mainGlobals "__annotations__") = (true, 11, ann) := fun w => by kernel_rfl
theorem left_tree {p q : Program} {loose : List Str} {Xt : Shared → Bool} {α : Type} {Yf : Shared → α} {Ya : World → α} {N n : Nat} {pos : Pos}
    (e : opening p = plainProg p.main.scope.names) (hN : Nat.ble 600 N = true) (f : ∀ s, fenceModules? p s = some s) (le : Nat.ble (12 + (1 + (n + 2))) N = true)
    (h1 : ∀ w os, preR p w os = some (SA p w os, ⟨denote treeTable (cE p), cE p, P0, BB⟩))
    (h2 : ∀ w os, segRun treeTable p w 11 ann 1 1 (SA p w os) (blockOf (behindTheImports p) (env p) (cE p) P0 BB) = some (.next, (T0 p w os).abs, cE p, P0))
    (h3 : ∀ w os, (runT p w os n, (finR p w os n pos).map fun s => (staticsOk (importedModules p.main.body) (boot_heap w.params) s.heap && namesBound p s.heap && gensDone s && laidKept (boot_heap w.params) s.heap, openSeen q loose (importedModules p.main.body) Xt true s, Yf s)) = (some (.next, S3 p w os n, cE p, pos), some (true, openGood q loose, Ya w))) :
    LeftO p q loose Xt Yf Ya N := fun w => by
  obtain ⟨⟨h, gs, d, k, os⟩, e0, e'⟩ := Option.map_eq_some_iff.mp (boot_open e hN f w)
  obtain ⟨rfl, rfl, rfl, rfl⟩ : h = boot_heap w.params ∧ gs = Array.mk [] ∧ d = boot_drawn ∧ k = boot_toks := by simpa using e'
  obtain ⟨z1, z2, z3⟩ : _ ∧ _ ∧ _ := by simpa only [Prod.mk.injEq] using size0 w
  have p3 := congrArg Prod.fst (h3 w os)
  have l3 := congrArg Prod.snd (h3 w os)
  dsimp only at p3 l3
  obtain ⟨s, hs, hl⟩ := Option.map_eq_some_iff.mp l3
  obtain ⟨l1, l2, l4⟩ : _ ∧ _ ∧ _ := by simpa only [Prod.mk.injEq] using hl
  unfold finR at hs
  rw [p3] at hs
  have run0 := go_top (h1 w os) (piece_block (h2 w os) (r := s) (N := n + 2) (by
    have := piece_app (env := env p) (rest := []) (segRun_of p3) (piece_nil hs)
    rwa [List.append_nil] at this))
  have r := topRun_mono (N - (12 + (1 + (n + 2)))) _ _ _ _ run0
  rw [show 12 + (1 + (n + 2)) + (N - (12 + (1 + (n + 2)))) = N by have := Nat.le_of_ble_eq_true le; omega] at r
  have t : topFrom treeTable p w N ⟨boot_heap w.params, Array.mk [], boot_drawn, boot_toks, os⟩ = some s := by
    unfold topFrom
    dsimp only
    rw [z1, z2, z3]
    have r' : topRun treeTable p w 11 ann N ⟨boot_heap w.params, Array.mk [], boot_drawn, boot_toks, os⟩ (topStub p) = some s := r
    rw [r']
    show (match staticsOk (importedModules p.main.body) (boot_heap w.params) s.heap && namesBound p s.heap && gensDone s && laidKept (boot_heap w.params) s.heap with | true => some s | false => none) = _
    rw [l1]
  unfold openEnds
  rw [e0]
  show (topFrom treeTable p w N ⟨boot_heap w.params, Array.mk [], boot_drawn, boot_toks, os⟩).map _ = _
  rw [t]
  show some (_, _) = _
  rw [l2, l4]
/-- the same, each part looked at for itself -/
theorem left_tree2 {p q : Program} {loose : List Str} {Xt : Shared → Bool} {α : Type} {Yf : Shared → α} {Ya : World → α} {N n : Nat} {pos : Pos}
    (e : opening p = plainProg p.main.scope.names) (hN : Nat.ble 600 N = true) (f : ∀ s, fenceModules? p s = some s) (le : Nat.ble (12 + (1 + (n + 2))) N = true)
    (h1 : ∀ w os, preR p w os = some (SA p w os, ⟨denote treeTable (cE p), cE p, P0, BB⟩))
    (h2 : ∀ w os, segRun treeTable p w 11 ann 1 1 (SA p w os) (blockOf (behindTheImports p) (env p) (cE p) P0 BB) = some (.next, (T0 p w os).abs, cE p, P0))
    (h3 : ∀ w os, runT p w os n = some (.next, S3 p w os n, cE p, pos))
    (h4 : ∀ w os, (finR p w os n pos).map (fun s => staticsOk (importedModules p.main.body) (boot_heap w.params) s.heap && namesBound p s.heap && gensDone s && laidKept (boot_heap w.params) s.heap) = some true)
    (h5 : ∀ w os, (finR p w os n pos).map (openSeen q loose (importedModules p.main.body) Xt true) = some (openGood q loose))
    (h6 : ∀ w os, (finR p w os n pos).map Yf = some (Ya w)) :
    LeftO p q loose Xt Yf Ya N := left_tree e hN f le h1 h2 (fun w os => by
      have a := h4 w os
      have b := h5 w os
      have c := h6 w os
      rw [h3 w os]
      cases hf : finR p w os n pos with
      | none => rw [hf] at a; cases a
      | some s =>
        rw [hf] at a b c
        have a' := Option.some.inj a
        dsimp only at a'
        have b' := Option.some.inj b
        have c' := Option.some.inj c
        show (_, some (_, _, _)) = _
        rw [a', b', c'])
noncomputable def runS (p : Program) (w : World) (n : Nat) (T : SharedT) := segRunT treeTable p w 11 ann 1 n T (piecesOf (behindTheImports p) (env p) (cE p) P0 BB)
noncomputable def finS (p : Program) (w : World) (n : Nat) (pos : Pos) (T : SharedT) : Option Shared := (runS p w n T).bind fun x => topRun treeTable p w 11 ann 2 x.2.1.abs ⟨doneF .next, cE p, pos, BB⟩
noncomputable def lk1 (p q : Program) (n : Nat) (pos : Pos) (w : World) (b : Heap) (T : SharedT) := ((runS p w n T).map fun x => (x.1, x.2.2), (finS p w n pos T).map fun s => ((staticsOk (importedModules p.main.body) b s.heap && namesBound p s.heap && gensDone s && laidKept b s.heap, plainSeenE q (looseW q []) s), pinSeenD q (drecsOf q) s, plainSeenD q [] s, clsSeenW q [] s))
noncomputable def lk3 (p q : Program) (n : Nat) (pos : Pos) (w : World) (T : SharedT) := (finS p w n pos T).map fun s => (tabsOk q s, wideSeen q s)
noncomputable def lk4 (p q : Program) (rc : WRecords) (n : Nat) (pos : Pos) (w : World) (T : SharedT) := (finS p w n pos T).map fun s => ((s.heap.bltView,  s.heap.keysOk (looseW q []) ((recsOf q).map (·.name)) ((litsOf q).map (·.1)) ((clssOf q (looseW q [])).map (·.name)) && s.heap.accountedOkI (importedModules p.main.body) && s.heap.isNs mainGlobals && s.heap.isNs builtinsNs && tablesOk q s.heap && (xlAt q [] s && recOk rc s) && (s.gens.size == 0)), seen ((recsOf q).map (·.name)) (ownsOf q) [] { s with gens := #[] })
theorem left_quick {p q : Program} {rc : WRecords} {α : Type} {Yf : Shared → α} {Ya : World → α} {N n : Nat} {pos : Pos} {L1 L3 L4 FN}
 (e1 : lk1 = L1) (e3 : lk3 = L3) (e4 : lk4 = L4) (eF : finS = FN)
 (e : opening p = plainProg p.main.scope.names) (hN : Nat.ble 600 N = true) (f : ∀ s, fenceModules? p s = some s) (le : Nat.ble (12 + (1 + (n + 2))) N = true)
 (h1 : ∀ w os, preR p w os = some (SA p w os, ⟨denote treeTable (cE p), cE p, P0, BB⟩))
 (h2 : ∀ w os, segRun treeTable p w 11 ann 1 1 (SA p w os) (blockOf (behindTheImports p) (env p) (cE p) P0 BB) = some (.next, (T0 p w os).abs, cE p, P0))
 (l1 : ∀ w os, L1 p q n pos w (boot_heap w.params) (T0 p w os) = (some (.next, cE p, pos), some ((true, plainGoodE q (looseW q [])), pinGoodD (drecsOf q), plainGoodD q [], clsGoodW q [])))
 (l3 : ∀ w os, L3 p q n pos w (T0 p w os) = some (true, wideGood q))
 (l4 : ∀ w os, L4 p q rc n pos w (T0 p w os) = some ((bltViewBooted, true), expectedOf q))
 (h4 : ∀ w os, (FN p w n pos (T0 p w os)).map Yf = some (Ya w)) :
 LeftO p q [] (fun s => xlAt q [] s && recOk rc s) Yf Ya N := by
 subst e1 e3 e4 eF
 have r3 : ∀ w os, runT p w os n = some (.next, S3 p w os n, cE p, pos) := fun w os => by
  have a : (runT p w os n).map (fun x => (x.1, x.2.2)) = some (.next, cE p, pos) := congrArg Prod.fst (l1 w os)
  obtain ⟨⟨a1, a2, a3⟩, ha, hb⟩ := Option.map_eq_some_iff.mp a
  obtain ⟨rfl, rfl⟩ := Prod.mk.inj hb
  unfold S3
  rw [ha]
  rfl
 have z : ∀ w os, (finR p w os n pos).map (fun s => ((staticsOk (importedModules p.main.body) (boot_heap w.params) s.heap && namesBound p s.heap && gensDone s && laidKept (boot_heap w.params) s.heap, plainSeenE q (looseW q []) s), pinSeenD q (drecsOf q) s, plainSeenD q [] s, clsSeenW q [] s)) = some ((true, plainGoodE q (looseW q [])), pinGoodD (drecsOf q), plainGoodD q [], clsGoodW q []) := fun w os => congrArg Prod.snd (l1 w os)
 exact left_tree2 e hN f le h1 h2 r3 (fun w os => by
  obtain ⟨s, hs, hb⟩ := Option.map_eq_some_iff.mp (z w os)
  rw [hs]
  exact congrArg some (Prod.mk.inj (Prod.mk.inj hb).1).1) (fun w os => by
  obtain ⟨s, hs, hb⟩ := Option.map_eq_some_iff.mp (z w os)
  have a3 : (finR p w os n pos).map _ = _ := l3 w os
  have a4 : (finR p w os n pos).map _ = _ := l4 w os
  rw [hs] at a3 a4 ⊢
  have b3 := Option.some.inj a3
  have b4 := Option.some.inj a4
  simp only [Prod.mk.injEq] at b3 b4 hb
  show some (_, _, (_ && _), _, _, _, _, _, _) = some (_, _, _, _, _, _, _, _, _)
  refine congrArg some (Prod.ext b4.2 (Prod.ext b4.1.1 (Prod.ext b4.1.2 (Prod.ext b3.1 (Prod.ext hb.2.1 (Prod.ext hb.1.2 (Prod.ext hb.2.2.1 (Prod.ext b3.2 hb.2.2.2))))))))) h4
end Hd
section
namespace My
open PySem
def top (i : Nat) : Stmt := PySem.Challenge.pw_sawsign_k64_read_or_refused.main.body.getD i (.Pass ⟨0, 0, 0, 0⟩)
end My
def My.view : PySem.Program := { PySem.Challenge.pw_sawsign_k64_read_or_refused with main := { PySem.Challenge.pw_sawsign_k64_read_or_refused.main with body := [My.top 1, My.top 2, My.top 3, My.top 4, My.top 5, My.top 6, My.top 7, My.top 8, My.top 9, My.top 10, My.top 11, My.top 12, My.top 13, My.top 14, My.top 15, My.top 16, My.top 18, My.top 19, My.top 21, My.top 23, My.top 24, My.top 26, My.top 27, My.top 29, My.top 30, My.top 32, My.top 33, My.top 34, My.top 35, My.top 36, My.top 37, My.top 38, My.top 39, My.top 40, My.top 42, My.top 43, My.top 44, My.top 45, My.top 46, My.top 47, My.top 48, My.top 49, My.top 50, My.top 51, My.top 52, My.top 53, My.top 54, My.top 55, My.top 56, My.top 57, My.top 58, My.top 59, My.top 60, My.top 61, My.top 62, My.top 63, My.top 64, My.top 65, My.top 66, My.top 67] } }
open PySem PySem.W PyProof.Rows
set_option maxHeartbeats 0
lay_quick Hd.lk1 Hd.lk3 Hd.lk4 Hd.finS
theorem My.elk1 : Hd.lk1 = Hd.lk1 := rfl
name_quick lk1Q for Hd.lk1 by My.elk1
theorem My.elk3 : Hd.lk3 = Hd.lk3 := rfl
name_quick lk3Q for Hd.lk3 by My.elk3
theorem My.elk4 : Hd.lk4 = Hd.lk4 := rfl
name_quick lk4Q for Hd.lk4 by My.elk4
theorem My.efinS : Hd.finS = Hd.finS := rfl
name_quick finSQ for Hd.finS by My.efinS
theorem My.h1 : ∀ w os, Hd.preR PySem.Challenge.pw_sawsign_k64_read_or_refused w os = some (Hd.SA PySem.Challenge.pw_sawsign_k64_read_or_refused w os, ⟨denote treeTable (Hd.cE PySem.Challenge.pw_sawsign_k64_read_or_refused), Hd.cE PySem.Challenge.pw_sawsign_k64_read_or_refused, Hd.P0, Hd.BB⟩) := fun _ _ => by kernel_rfl
theorem My.h2 : ∀ w os, segRun treeTable PySem.Challenge.pw_sawsign_k64_read_or_refused w 11 Hd.ann 1 1 (Hd.SA PySem.Challenge.pw_sawsign_k64_read_or_refused w os) (blockOf (behindTheImports PySem.Challenge.pw_sawsign_k64_read_or_refused) (Hd.env PySem.Challenge.pw_sawsign_k64_read_or_refused) (Hd.cE PySem.Challenge.pw_sawsign_k64_read_or_refused) Hd.P0 Hd.BB) = some (.next, (Hd.T0 PySem.Challenge.pw_sawsign_k64_read_or_refused w os).abs, Hd.cE PySem.Challenge.pw_sawsign_k64_read_or_refused, Hd.P0) := fun _ _ => by kernel_rfl
theorem My.hl1 : ∀ w os, Fast.lk1Q PySem.Challenge.pw_sawsign_k64_read_or_refused My.view 12000 ⟨313, 0, 322, 107⟩ w (boot_heap w.params) (Hd.T0 PySem.Challenge.pw_sawsign_k64_read_or_refused w os) = (some (.next, Hd.cE PySem.Challenge.pw_sawsign_k64_read_or_refused, ⟨313, 0, 322, 107⟩), some ((true, plainGoodE My.view (looseW My.view [])), pinGoodD (drecsOf My.view), plainGoodD My.view [], clsGoodW My.view [])) := fun _ _ => by kernel_rfl
theorem My.hl3 : ∀ w os, Fast.lk3Q PySem.Challenge.pw_sawsign_k64_read_or_refused My.view 12000 ⟨313, 0, 322, 107⟩ w (Hd.T0 PySem.Challenge.pw_sawsign_k64_read_or_refused w os) = some (true, wideGood My.view) := fun _ _ => by kernel_rfl
theorem My.hl4 : ∀ w os, Fast.lk4Q PySem.Challenge.pw_sawsign_k64_read_or_refused My.view (RowW.records (OpenRow.toRowW (OpenLaw.row PySem.Challenge.rw_sawsign_k64_read_or_refused))) 12000 ⟨313, 0, 322, 107⟩ w (Hd.T0 PySem.Challenge.pw_sawsign_k64_read_or_refused w os) = some ((bltViewBooted, true), expectedOf My.view) := fun _ _ => by kernel_rfl
theorem My.ews : OpenLaw.wellSaid = OpenLaw.wellSaid := rfl
name_quick wsQ for OpenLaw.wellSaid by My.ews
theorem My.hs : Fast.wsQ PySem.Challenge.rw_sawsign_k64_read_or_refused = true := by kernel_rfl
lay_quick PySem.Program.tablesWhole
theorem My.etwQ : PySem.Program.tablesWhole = PySem.Program.tablesWhole := rfl
name_quick twQ for PySem.Program.tablesWhole by My.etwQ
theorem My.twQ : Fast.twQ (OpenLaw.row PySem.Challenge.rw_sawsign_k64_read_or_refused).prog = true := by kernel_rfl
local macro_rules | `(tactic| o_law) => `(tactic| refine holds_law ((congrFun Fast.wsQ_eq PySem.Challenge.rw_sawsign_k64_read_or_refused).trans My.hs) fun said => ?_)
local macro_rules | `(tactic| o_head $H:term) => `(tactic| (
  refine holds_open (q := My.view) (loose := []) (Xt := fun s => xlAt My.view [] s && recOk (RowW.records (OpenRow.toRowW (OpenLaw.row PySem.Challenge.rw_sawsign_k64_read_or_refused))) s) (XP := XL My.view []) (Yf := Hook.obs $H) (Ya := Hook.val $H) (YP := Hook.says $H) (N := 13000) ?hl (Hook.of $H) (Hook.keeps $H) (fun s e => xl_of s (Bool.and_eq_true_iff.mp e).1) XL.keeps (by rfl) (by rfl) (by rfl) (fun s e => recFacts_of (Bool.and_eq_true_iff.mp e).2) (by rfl) (by first | assumption | decide +kernel) (by decide +kernel) ⟨rfl, rfl, rfl, rfl, rfl, (congrFun Fast.twQ_eq (OpenLaw.row PySem.Challenge.rw_sawsign_k64_read_or_refused).prog).trans My.twQ⟩ ?hw ?hc
  (case hl => exact Hd.left_quick (n := 12000) (pos := ⟨313, 0, 322, 107⟩) Fast.lk1Q_eq Fast.lk3Q_eq Fast.lk4Q_eq Fast.finSQ_eq (by kernel_rfl) (by decide) (fun _ => by kernel_rfl) (by decide) My.h1 My.h2 My.hl1 My.hl3 My.hl4 (fun _ _ => by kernel_rfl))))
set_option maxHeartbeats 0 in
open_top hd for PySem.Challenge.rw_sawsign_k64_read_or_refused
end
set_option maxRecDepth 100000
namespace L2
open PySem PySem.Spec PyProof.Rows
abbrev Key := Sum Int Str
def keyIs : Key → Value → Bool
  | .inl k, v => Value.isInt k v
  | .inr x, v => Value.isStrOf x v
def keyH (w : World) : Key → Int
  | .inl k => hashInt k
  | .inr x => hashStr w x
theorem keyIs_shape : ∀ {k : Key} {v : Value}, keyIs k v = true → (∃ i t, k = Sum.inl i ∧ v = Value.int i t) ∨ (∃ x t, k = Sum.inr x ∧ v = Value.str x t)
  | .inl i, v, h => by
    obtain ⟨t, e⟩ := Value.isInt_shape (k := i) (v := v) h
    exact .inl ⟨i, t, rfl, e⟩
  | .inr x, v, h => by
    obtain ⟨t, e⟩ := Value.isStrOf_shape (x := x) (v := v) h
    exact .inr ⟨x, t, rfl, e⟩
theorem key_ll (a b : Int) : decide ((Sum.inl a : Key) = Sum.inl b) = (a == b) := by
  by_cases e : a = b
  · subst e; simp
  · have h : ¬ (Sum.inl a : Key) = Sum.inl b := fun q => e (Sum.inl.inj q)
    rw [decide_eq_false h]
    exact (beq_eq_false_iff_ne.mpr e).symm
theorem key_rr (a b : Str) : decide ((Sum.inr a : Key) = Sum.inr b) = decide (a = b) := by
  by_cases e : a = b
  · subst e; simp
  · have h : ¬ (Sum.inr a : Key) = Sum.inr b := fun q => e (Sum.inr.inj q)
    rw [decide_eq_false h, decide_eq_false e]
theorem key_lr (a : Int) (b : Str) : decide ((Sum.inl a : Key) = Sum.inr b) = false := decide_eq_false (fun q => nomatch q)
theorem key_rl (a : Str) (b : Int) : decide ((Sum.inr a : Key) = Sum.inl b) = false := decide_eq_false (fun q => nomatch q)
def mixKind (prog : Program) (w : World) : PySem.KeyKind prog w Key where
  is := keyIs
  hash := keyH w
  inj := fun v a b ha hb => by
    rcases keyIs_shape ha with ⟨i, t, rfl, rfl⟩ | ⟨x, t, rfl, rfl⟩
    · rcases keyIs_shape hb with ⟨j, u, rfl, e⟩ | ⟨y, u, rfl, e⟩
      · injection e with e1 _; rw [e1]
      · exact nomatch e
    · rcases keyIs_shape hb with ⟨j, u, rfl, e⟩ | ⟨y, u, rfl, e⟩
      · exact nomatch e
      · injection e with e1 _; rw [e1]
  byValue := fun k v h => by
    rcases keyIs_shape h with ⟨i, t, rfl, rfl⟩ | ⟨x, t, rfl, rfl⟩ <;> rfl
  pyHash := fun hv h => by
    rcases keyIs_shape hv with ⟨i, t, rfl, rfl⟩ | ⟨x, t, rfl, rfl⟩
    · exact wpAny_pyHash_int h
    · exact wpAny_pyHash_str h
  eqBool := fun hu hv h => by
    rcases keyIs_shape hu with ⟨i, t, rfl, rfl⟩ | ⟨x, t, rfl, rfl⟩
    · rcases keyIs_shape hv with ⟨j, u, rfl, rfl⟩ | ⟨y, u, rfl, rfl⟩
      · rw [key_ll] at h; exact wpAny_eqBool_int h
      · rw [key_lr] at h; exact SeqAt.EqAt.int_str i t y u _ _ _ _ h
    · rcases keyIs_shape hv with ⟨j, u, rfl, rfl⟩ | ⟨y, u, rfl, rfl⟩
      · rw [key_rl] at h; exact SeqAt.EqAt.str_int x t j u _ _ _ _ h
      · rw [key_rr] at h; exact wpAny_eqBool_str h
  «strs» := fun k x t v h => by
    rcases keyIs_shape h with ⟨i, u, rfl, e⟩ | ⟨y, u, rfl, e⟩
    · exact nomatch e
    · injection e with e1 _
      subst e1
      cases v <;> rfl
end L2
namespace L2
open PySem PySem.Spec PyProof.Rows
inductive V where
  | non | bl (b : Bool) | int (i : Int) | str (x : Str) | byt (b : Array UInt8) | flt (b : UInt64) | ref (a : Addr) | ty (n : String)
  deriving DecidableEq
def RelV : V → Value → Prop
  | .non, u => u = Value.none
  | .bl b, u => u = Value.bool b
  | .int i, u => ∃ t, u = Value.int i t
  | .str x, u => ∃ t, u = Value.str x t
  | .byt b, u => ∃ t, u = Value.bytes b t
  | .flt b, u => ∃ t, u = Value.float b t
  | .ref a, u => u = Value.ref a
  | .ty n, u => u = Value.type n
abbrev Vals : List V → List Value → Prop := Paired RelV
theorem Vals.length {xs : List V} {us : List Value} (r : Vals xs us) : xs.length = us.length := Paired.length r
theorem Vals.get : ∀ {xs : List V} {us : List Value} {i : Nat} {x : V}, Vals xs us → xs[i]? = some x → ∃ u, us[i]? = some u ∧ RelV x u
  | _, _, _, _, .nil, e => by simp at e
  | _, _, 0, _, .cons r _, e => by simp at e; subst e; exact ⟨_, rfl, r⟩
  | _, _, i + 1, x, .cons _ t, e => by
    obtain ⟨u, h1, h2⟩ := Vals.get (i := i) (x := x) t (by simpa using e)
    exact ⟨u, by simpa using h1, h2⟩
theorem Vals.append : ∀ {xs ys : List V} {us ws : List Value}, Vals xs us → Vals ys ws → Vals (xs ++ ys) (us ++ ws)
  | _, _, _, _, .nil, s => s
  | _, _, _, _, .cons r t, s => .cons r (Vals.append t s)
theorem Vals.take : ∀ {xs : List V} {us : List Value} (n : Nat), Vals xs us → Vals (xs.take n) (us.take n)
  | _, _, 0, _ => .nil
  | _, _, _ + 1, .nil => .nil
  | _, _, n + 1, .cons r t => .cons r (Vals.take n t)
theorem Vals.drop : ∀ {xs : List V} {us : List Value} (n : Nat), Vals xs us → Vals (xs.drop n) (us.drop n)
  | _, _, 0, r => r
  | _, _, _ + 1, .nil => .nil
  | _, _, n + 1, .cons _ t => Vals.drop n t
def RelO : Option V → Option Value → Prop
  | some v, some u => RelV v u
  | none, none => True
  | _, _ => False
def KV {κ : Type} : List (κ × V) → List (κ × Value) → Prop := Paired fun (p : κ × V) (q : κ × Value) => p.1 = q.1 ∧ RelV p.2 q.2
def kV : Key → V
  | .inl i => .int i
  | .inr x => .str x
inductive HO where
  | lst (xs : List V)
  | tup (xs : List V)
  | dK (kvs : List (Key × V)) | dT (kvs : List (List Key × V))
  | set (S : Int → Bool) (n : Nat)
  | ins (C dx : Addr) (fs : List (Str × V))
  | own (x : Addr)
  | xd (fs : List (Str × V))
  | met (f x : Addr)
  | rng (lo hi : Int)
  | frz (o : Obj) (u : HO)
  | tbl (ps : Array Value)
  | ext (φ : Heap → Prop)
abbrev Hp := Addr → Option HO
def upd (H : Hp) (a : Addr) (o : HO) : Hp := fun b => if b = a then some o else H b
theorem upd_same {H : Hp} {a : Addr} {o : HO} : upd H a o a = some o := by unfold upd; rw [if_pos rfl]
theorem upd_ne {H : Hp} {a b : Addr} {o : HO} (h : b ≠ a) : upd H a o b = H b := by unfold upd; rw [if_neg h]
theorem ne_of_none {H : Hp} {a b : Addr} {o : HO} (h : H a = some o) (h' : H b = none) : a ≠ b := by
  intro e; subst e; rw [h] at h'; cases h'
section
variable (P : Program) (w : World)
def ObjOk (H : Hp) (h : Heap) (a : Addr) : HO → Prop
  | .lst xs => xs.length ≤ sizeLine ∧ ∃ (its : List Value) (n : Nat), Vals xs its ∧ h.get? a = some { cls := .type "list", data := .seq its.toArray n }
  | .tup xs => xs.length ≤ sizeLine ∧ ∃ its : List Value, Vals xs its ∧ IsTup h a its.toArray
  | .dK kvs => kvs.length ≤ sizeLine ∧ (a == sysModules) = false ∧ ∃ vs, KV kvs vs ∧ h.DictOf (mixKind P w) a vs
  | .dT kvs => kvs.length ≤ sizeLine ∧ (a == sysModules) = false ∧ ∃ xs : List (List Key × Addr × Value),
      Paired (fun (p : List Key × V) (q : List Key × Addr × Value) => p.1 = q.1 ∧ H q.2.1 = some (.tup (p.1.map kV)) ∧ RelV p.2 q.2.2) kvs xs ∧
      ∃ o es ep, h.get? a = some o ∧ o.ExactDict ∧ o.data = .dict es ep ∧ es.toList = xs.map (entryOfKey (tupleKind (mixKind P w))) ∧ (xs.map (·.1)).Nodup
  | .set S n => h.SetOf (intKind P w) a S n
  | .ins C dx fs => H dx = some (.own a) ∧ fs.length ≤ 1000 ∧ dx ≠ a ∧ h.get? a = some (PySem.W.instObj C dx) ∧
      ∃ mA, h.Ns1 dx mA ∧ (∀ f, RelO (fs.lookup f) (mA f)) ∧ PySem.Within mA (fs.map (·.1))
  | .own _ => ∃ o, h.get? a = some o
  | .xd fs => ∃ mA, h.Ns1 a mA ∧ ∀ f, RelO (fs.lookup f) (mA f)
  | .rng lo hi => ∃ t u v, h.get? a = some { cls := .type "range", data := .fields #[.int lo t, .int hi u, .int 1 v] }
  | .frz o u => h.get? a = some o ∧ ObjOk H h a u
  | .tbl ps => h.get? a = some { cls := .none, data := .fields ps }
  | .met f x => h.get? a = some (PySem.W.methodObj (.ref f) (.ref x))
  | .ext φ => φ h ∧ (∃ o, h.get? a = some o) ∧ ∀ h1 h2 : Heap, φ h1 → (∀ o, h1.get? a = some o → h2.get? a = some o) → φ h2
def HOk (H : Hp) (h : Heap) : Prop := ∀ a o, H a = some o → ObjOk P w H h a o
end
section
variable {P : Program} {w : World} {H H' : Hp} {h h' : Heap} {a : Addr} {o : HO}
theorem ObjOk.lt (x : ObjOk P w H h a o) : a < h.objs.size := by
  cases o with
  | lst xs => obtain ⟨_, _, _, _, e⟩ := x; exact Heap.lt_size e
  | tup xs => obtain ⟨_, _, _, p⟩ := x; exact p.lt
  | dK kvs => obtain ⟨_, _, _, _, o, _, _, e, _⟩ := x; exact Heap.lt_size e
  | dT kvs => obtain ⟨_, _, _, _, o, _, _, e, _⟩ := x; exact Heap.lt_size e
  | set S n => obtain ⟨o, _, _, _, e, _⟩ := x; exact Heap.lt_size e
  | ins C dx fs => obtain ⟨_, _, _, e, _⟩ := x; exact Heap.lt_size e
  | own y => obtain ⟨_, e⟩ := x; exact Heap.lt_size e
  | xd fs => obtain ⟨_, ⟨_, _, _, e, _⟩, _⟩ := x; exact Heap.lt_size e
  | rng lo hi => obtain ⟨_, _, _, e⟩ := x; exact Heap.lt_size e
  | frz ob u => obtain ⟨e, _⟩ := x; exact Heap.lt_size e
  | tbl ps => exact Heap.lt_size (show h.get? a = some _ from x)
  | met f y => exact Heap.lt_size (show h.get? a = some _ from x)
  | ext φ => obtain ⟨_, ⟨_, e⟩, _⟩ := x; exact Heap.lt_size e
theorem Paired.mapP {α β : Type} {F G : α → β → Prop} : ∀ {l₁ : List α} {l₂ : List β}, Paired F l₁ l₂ → (∀ a b, F a b → G a b) → Paired G l₁ l₂
  | _, _, .nil, _ => .nil
  | _, _, .cons r t, f => .cons (f _ _ r) (Paired.mapP t f)
theorem ObjOk.stay (x : ObjOk P w H h a o) (k : ∀ b u, (b = a ∨ H b = some (.own a)) → h.get? b = some u → h'.get? b = some u)
    (ho : ∀ b, H b = some (.own a) → H' b = some (.own a)) (ht : ∀ b xs, H b = some (.tup xs) → H' b = some (.tup xs)) : ObjOk P w H' h' a o := by
  induction o with
  | lst xs => obtain ⟨z, its, n, r, e⟩ := x; exact ⟨z, its, n, r, k _ _ (.inl rfl) e⟩
  | tup xs => obtain ⟨z, its, r, ob, e, c⟩ := x; exact ⟨z, its, r, ob, k _ _ (.inl rfl) e, c⟩
  | dK kvs => obtain ⟨z, y, vs, r, ob, es, ep, e, c⟩ := x; exact ⟨z, y, vs, r, ob, es, ep, k _ _ (.inl rfl) e, c⟩
  | dT kvs =>
    obtain ⟨z, y, xs, r, ob, es, ep, e, c⟩ := x
    exact ⟨z, y, xs, Paired.mapP r fun p q z => ⟨z.1, ht _ _ z.2.1, z.2.2⟩, ob, es, ep, k _ _ (.inl rfl) e, c⟩
  | set S n => obtain ⟨ob, es, ep, t, e, c⟩ := x; exact ⟨ob, es, ep, t, k _ _ (.inl rfl) e, c⟩
  | ins C dx fs =>
    obtain ⟨d, z, ne, e, mA, ⟨od, es, ep, e2, c⟩, r⟩ := x
    exact ⟨ho _ d, z, ne, k _ _ (.inl rfl) e, mA, ⟨od, es, ep, k _ _ (.inr d) e2, c⟩, r⟩
  | own y => obtain ⟨ob, e⟩ := x; exact ⟨ob, k _ _ (.inl rfl) e⟩
  | xd fs => obtain ⟨mA, ⟨od, es, ep, e, c⟩, r⟩ := x; exact ⟨mA, ⟨od, es, ep, k _ _ (.inl rfl) e, c⟩, r⟩
  | rng lo hi => obtain ⟨t, u, v, e⟩ := x; exact ⟨t, u, v, k _ _ (.inl rfl) e⟩
  | frz ob u ih => obtain ⟨e, q⟩ := x; exact ⟨k _ _ (.inl rfl) e, ih q⟩
  | tbl ps =>
    have e : h.get? a = some { cls := .none, data := .fields ps } := x
    show h'.get? a = some { cls := .none, data := .fields ps }
    exact k a _ (.inl rfl) e
  | met f y =>
    have e : h.get? a = some (PySem.W.methodObj (.ref f) (.ref y)) := x
    show h'.get? a = some (PySem.W.methodObj (.ref f) (.ref y))
    exact k a _ (.inl rfl) e
  | ext φ => obtain ⟨p, ⟨o, e⟩, st⟩ := x; exact ⟨st _ _ p fun o q => k _ _ (.inl rfl) q, ⟨o, k _ _ (.inl rfl) e⟩, st⟩
theorem HOk.lt (x : HOk P w H h) (e : H a = some o) : a < h.objs.size := (x a o e).lt
theorem HOk.fresh (x : HOk P w H h) (e : h.objs.size ≤ a) : H a = none := by
  cases q : H a with
  | none => rfl
  | some u => exact absurd (Nat.lt_of_lt_of_le (x.lt q) e) (Nat.lt_irrefl _)
theorem HOk.kept (x : HOk P w H h) (k : ∀ b u, h.get? b = some u → h'.get? b = some u) : HOk P w H h' := fun a o e =>
  (x a o e).stay (fun b u _ q => k b u q) (fun _ q => q) fun _ _ q => q
theorem HOk.laid (x : HOk P w H h) (k : ∀ b u, h.get? b = some u → h'.get? b = some u) (hp : h.objs.size ≤ a) (new : ObjOk P w (upd H a o) h' a o) : HOk P w (upd H a o) h' := fun b u e => by
  have hn := x.fresh hp
  by_cases hb : b = a
  · subst hb; rw [upd_same] at e; cases e; exact new
  · rw [upd_ne hb] at e
    exact (x b u e).stay (fun c v _ q => k c v q) (fun c q => by rw [upd_ne (ne_of_none q hn)]; exact q) fun c xs q => by rw [upd_ne (ne_of_none q hn)]; exact q
end
def Rd (H : Hp) (a : Addr) (u : HO) : Prop := H a = some u ∨ ∃ o, H a = some (.frz o u)
theorem Rd.ok {P : Program} {w : World} {H : Hp} {h : Heap} {a : Addr} {u : HO} (r : Rd H a u) (x : HOk P w H h) : ObjOk P w H h a u := by
  rcases r with r | ⟨o, r⟩
  · exact x a u r
  · obtain ⟨_, q⟩ := x a _ r
    exact q
def Mut : Option HO → Prop
  | some (.lst _) => True
  | some (.dK _) => True
  | some (.dT _) => True
  | some (.set _ _) => True
  | some (.ins _ _ _) => True
  | some (.ext _) => True
  | _ => False
section
variable {P : Program} {w : World} {H : Hp} {h h' : Heap} {x e : Addr} {o' : HO}
theorem HOk.write (ok : HOk P w H h) (mu : Mut (H x)) (he : e = x ∨ H e = some (.own x)) (k : ∀ b u, b ≠ e → h.get? b = some u → h'.get? b = some u) (heo : ∃ u, h'.get? e = some u)
    (new : ObjOk P w (upd H x o') h' x o') : HOk P w (upd H x o') h' := fun b u q => by
  have nown : ∀ c y, H c = some (.own y) → c ≠ x := fun c y r z => by subst z; rw [r] at mu; exact mu
  have ntup : ∀ c xs, H c = some (.tup xs) → c ≠ x := fun c xs r z => by subst z; rw [r] at mu; exact mu
  by_cases hb : b = x
  · subst hb; rw [upd_same] at q; cases q; exact new
  · rw [upd_ne hb] at q
    by_cases hbe : b = e
    · have q' : H b = some (.own x) := by
        rcases he with z | z
        · exact absurd (hbe.trans z) hb
        · rw [hbe]; exact z
      rw [q] at q'; cases q'
      obtain ⟨v, hv⟩ := heo
      exact ⟨v, by rw [hbe]; exact hv⟩
    · refine (ok b u q).stay (fun c v hc r => k c v ?_ r) (fun c r => by rw [upd_ne (nown c b r)]; exact r) fun c xs r => by rw [upd_ne (ntup c xs r)]; exact r
      rcases hc with rfl | hc
      · exact hbe
      · rintro rfl
        rcases he with z | z
        · exact nown c b hc z
        · rw [hc] at z; cases z; exact hb rfl
end
structure Un (fs ex : List Addr) (H H' : Hp) (h h' : Heap) : Prop where
  keep : ∀ b o, h.get? b = some o → H b = none → b ∉ fs → b ∉ ex → h'.get? b = some o
  slot : ∀ b o, h.get? b = some o → H b = none → b ∈ fs → b ∉ ex → ∃ sl, h'.get? b = some { o with slots := sl }
  free : ∀ b o, h.get? b = some o → H b = none → b ∉ ex → H' b = none
  there : ∀ b o, h.get? b = some o → b ∉ ex → ∃ o', h'.get? b = some o'
  tups : ∀ b xs, H b = some (.tup xs) → H' b = some (.tup xs)
  frzs : ∀ b o u, H b = some (.frz o u) → H' b = some (.frz o u)
  tbls : ∀ b ps, H b = some (.tbl ps) → ∃ more, H' b = some (.tbl (ps ++ more))
section
variable {fs fs' ex ex' : List Addr} {H H1 H2 : Hp} {h h1 h2 h' : Heap} {a x e : Addr} {o : HO}
theorem Un.any (u : Un fs ex H H1 h h1) {b : Addr} {ob : Obj} (q : h.get? b = some ob) (n : H b = none) (hx : b ∉ ex) : ∃ sl, h1.get? b = some { ob with slots := sl } := by
  by_cases hb : b ∈ fs
  · exact u.slot b ob q n hb hx
  · exact ⟨ob.slots, u.keep b ob q n hb hx⟩
theorem Un.kept (k : ∀ b u, h.get? b = some u → h'.get? b = some u) : Un fs ex H H h h' :=
  ⟨fun b ob q _ _ _ => k b ob q, fun b ob q _ _ _ => ⟨ob.slots, k b ob q⟩, fun _ _ _ n _ => n, fun b ob q _ => ⟨ob, k b ob q⟩, fun _ _ q => q, fun _ _ _ q => q, fun _ ps q => ⟨#[], by rw [q]; simp⟩⟩
theorem Un.refl : Un fs ex H H h h := Un.kept fun _ _ q => q
theorem Un.laid (k : ∀ b u, h.get? b = some u → h'.get? b = some u) (hp : h.objs.size ≤ a) (hn : H a = none) : Un fs ex H (upd H a o) h h' where
  keep := fun b u q _ _ _ => k b u q
  slot := fun b u q _ _ _ => ⟨u.slots, k b u q⟩
  free := fun b u q n _ => by rw [upd_ne (Nat.ne_of_lt (Nat.lt_of_lt_of_le (Heap.lt_size q) hp))]; exact n
  there := fun b u q _ => ⟨u, k b u q⟩
  tups := fun b xs q => by rw [upd_ne (ne_of_none q hn)]; exact q
  frzs := fun b u xs q => by rw [upd_ne (ne_of_none q hn)]; exact q
  tbls := fun b ps q => ⟨#[], by rw [upd_ne (ne_of_none q hn), q]; simp⟩
theorem Un.write (mu : Mut (H x)) (he : e = x ∨ H e = some (.own x)) (k : ∀ b u, b ≠ e → h.get? b = some u → h'.get? b = some u) (heo : ∃ u, h'.get? e = some u) : Un fs ex H (upd H x o) h h' := by
  have hx : ∀ b, H b = none → b ≠ x := fun b n z => by subst z; rw [n] at mu; exact mu
  have hb : ∀ b, H b = none → b ≠ e := fun b n z => by
    subst z
    rcases he with r | r
    · exact hx b n r
    · rw [n] at r; cases r
  have hm : ∀ b u, H b = some u → ¬ Mut (some u) → b ≠ x := fun b u q nm z => by subst z; rw [q] at mu; exact nm mu
  refine ⟨fun b u q n _ _ => k b u (hb b n) q, fun b u q n _ _ => ⟨u.slots, k b u (hb b n) q⟩, fun b u q n _ => by rw [upd_ne (hx b n)]; exact n, fun b u q _ => ?_,
    fun b xs q => by rw [upd_ne (hm b _ q fun z => z)]; exact q, fun b u xs q => by rw [upd_ne (hm b _ q fun z => z)]; exact q, fun b ps q => ⟨#[], by rw [upd_ne (hm b _ q fun z => z), q]; simp⟩⟩
  by_cases hbe : b = e
  · subst hbe; exact heo
  · exact ⟨u, k b u hbe q⟩
end
def trk (h : Heap) (H : Hp) : List Addr := (List.range h.objs.size).filter fun a => (H a).isSome
def hidT (h : Heap) (H : Hp) : Heap := PySem.W.hideAll h (trk h H)
theorem hidT_size (h : Heap) (H : Hp) : (hidT h H).objs.size = h.objs.size := PySem.W.hideAll_size _ _
theorem hidT_get {h : Heap} {H : Hp} {b : Addr} {o : Obj} (e : h.get? b = some o) (n : H b = none) : (hidT h H).get? b = some o :=
  PySem.W.hideAll_get _ e fun hm => by
    have q : (H b).isSome = true := (List.mem_filter.mp hm).2
    rw [n] at q; simp at q
theorem of_hidT {h : Heap} {H : Hp} {b : Addr} {o : Obj} (e : (hidT h H).get? b = some o) : h.get? b = some o ∧ H b = none := by
  have e' : h.get? b = some o := PySem.W.of_hideAll (trk h H) e
  refine ⟨e', ?_⟩
  cases q : H b with
  | none => rfl
  | some x =>
    have hm : b ∈ trk h H := List.mem_filter.mpr ⟨List.mem_range.mpr (Heap.lt_size e'), by simp [q]⟩
    have z : (hidT h H).get? b = none := PySem.W.hideAll_none (trk h H) hm
    rw [z] at e; cases e
def allNews (g h : Heap) (L : Addr) : List (Addr × Obj) := (List.range h.objs.size).filterMap fun a => if a = L ∨ (g.get? a).isSome = true then none else (h.get? a).map fun o => (a, o)
def rest (g h : Heap) (L d : Addr) : List (Addr × Obj) := (allNews g h L).filter fun p => decide (p.1 ≠ d)
end L2
namespace L2
open PySem PySem.Spec PyProof.Rows
structure Mod (K : PySem.W.Frag) (mg : Str → Option Value) (base : Heap) : Prop where
  kin : K.In base
  glob : base.Ns mainGlobals mg
  blt : ∃ mb, base.Ns builtinsNs mb ∧ ∀ x : Str, x ≠ "__name__" → mb x = bootBuiltins x
  nolimit : base.NoLimit
structure Cx where
  prog : Program
  w : World
  K : PySem.W.Frag
  mg : Str → Option Value
  base : Heap
  A : Around
  N : List Str
  s₀ : Shared
  H₀ : Hp
  env : Env
  outer : List Env
  stack : List Env
  ex : List Addr
  fn : Str → Bool
  calm : Bool
  pn : List (Addr × Obj)
  xe : Value → Shared → Prop
def frs (l : List Env) : List Addr := l.filterMap (·.frame)
abbrev Cx.fs (X : Cx) : List Addr := frs X.outer
def Vis (sc : Scope) (x : Str) : Prop := sc.names.lookup x = some .local ∨ sc.names.lookup x = some .cell ∨ sc.names.lookup x = some .free
def Loc (sc : Scope) (x : Str) : Prop := sc.names.lookup x = some .local ∨ sc.names.lookup x = some .cell
def Look (env : Env) (h : Heap) (m : Str → Option Value) (x : Str) (u : Value) : Prop :=
  (env.kindOf x = some .local ∧ m x = some u) ∨ ((env.kindOf x = some .cell ∨ env.kindOf x = some .free) ∧ ∃ c, env.cells.lookup x = some c ∧ h.IsCell c (some u))
structure Cx.Ok (X : Cx) : Prop where
  mod : Mod X.K X.mg X.base
  kind : X.env.scope.kind = .function
  glob : X.env.globals = mainGlobals
  blt : X.env.builtins = builtinsNs
  above : X.s₀.heap.objs.size ≤ X.env.locals
  inj : ∀ x y c, X.env.cells.lookup x = some c → X.env.cells.lookup y = some c → x = y
  has : ∀ x, (X.env.kindOf x = some .cell ∨ X.env.kindOf x = some .free) → ∃ c, X.env.cells.lookup x = some c
  cab : ∀ x c, X.fn x = true → X.env.cells.lookup x = some c → X.s₀.heap.objs.size ≤ c
  hd : X.calm = true → X.A.handled = none
  frames : X.A.frames = some X.stack
  stk : X.stack = X.outer ∨ (X.stack = X.env :: X.outer ∧ X.env.frame = some X.env.locals)
  exf : ∀ b ∈ X.ex, b ≠ X.env.locals ∧ ∀ x c, X.env.cells.lookup x = some c → c ≠ b
  bs : ∀ b o, X.base.get? b = some o → X.s₀.heap.get? b = some o ∧ X.H₀ b = none
  bsz : X.base.objs.size ≤ X.s₀.heap.objs.size
  noex : ∀ b o, X.base.get? b = some o → b ∉ X.ex
  exfs : ∀ b ∈ X.ex, b ∉ X.fs
  funs : X.s₀.heap.FunFrames X.base X.outer
  frf : ∀ b ∈ X.fs, X.H₀ b = none
structure Inv (X : Cx) (pins : List (Addr × Obj)) (σ : List (Option V)) (H : Hp) (s : Shared) : Prop where
  ok : X.Ok
  os : s.os = X.s₀.os
  bare : AllBare s.gens
  base : Un X.fs X.ex X.H₀ H X.s₀.heap s.heap
  loc : ∃ m, s.heap.Ns X.env.locals m ∧ ∀ (i : Nat) (x : Str) (v : V), X.N[i]? = some x → σ[i]? = some (some v) → Vis X.env.scope x → ∃ u, RelV v u ∧ Look X.env s.heap m x u
  cell : ∀ x c, X.env.cells.lookup x = some c → ∃ v, s.heap.IsCell c v
  free : H X.env.locals = none
  freeC : ∀ x c, X.env.cells.lookup x = some c → H c = none
  pin : ∀ p ∈ X.pn ++ pins, s.heap.get? p.1 = some p.2 ∧ H p.1 = none ∧ p.1 ≠ X.env.locals ∧ p.1 ∉ X.fs ∧ ∀ v, p.2.data ≠ .cell v
  hok : HOk X.prog X.w H s.heap
  len : σ.length = X.N.length
section
variable {X : Cx} {pins : List (Addr × Obj)} {σ : List (Option V)} {H H' : Hp} {s : Shared} {h' : Heap}
theorem Cx.Ok.nofr (ok : X.Ok) {b : Addr} {o : Obj} (e : X.base.get? b = some o) : b ∉ X.fs := fun hb => by
  have := (ok.funs.mem hb).1
  rw [e] at this; cases this
theorem Inv.bs (I : Inv X pins σ H s) : ∀ b o, X.base.get? b = some o → s.heap.get? b = some o ∧ H b = none := fun b o e =>
  ⟨I.base.keep b o (I.ok.bs b o e).1 (I.ok.bs b o e).2 (I.ok.nofr e) (I.ok.noex b o e), I.base.free b o (I.ok.bs b o e).1 (I.ok.bs b o e).2 (I.ok.noex b o e)⟩
theorem Inv.bk (I : Inv X pins σ H s) : ∀ b o, X.base.get? b = some o → s.heap.get? b = some o := fun b o e => (I.bs b o e).1
theorem Inv.mod (I : Inv X pins σ H s) : Mod X.K X.mg X.base := I.ok.mod
theorem Inv.kIn (I : Inv X pins σ H s) : X.K.In s.heap := I.ok.mod.kin.keeps I.bk
theorem Inv.fr (I : Inv X pins σ H s) : ∃ m, Fr X.base X.env.locals s.heap m :=
  let ⟨m, hn, _⟩ := I.loc
  ⟨m, hn, I.bk, Nat.le_trans I.ok.bsz I.ok.above⟩
theorem Inv.lt (I : Inv X pins σ H s) : X.env.locals < s.heap.objs.size := let ⟨_, hn, _⟩ := I.loc; hn.lt
theorem Inv.sz (I : Inv X pins σ H s) : X.s₀.heap.objs.size ≤ s.heap.objs.size := Nat.le_trans I.ok.above (Nat.le_of_lt I.lt)
theorem Inv.nofs (I : Inv X pins σ H s) {a : Addr} (h : s.heap.objs.size ≤ a) : a ∉ X.fs := fun hb => by
  obtain ⟨_, o, ho, _⟩ := I.ok.funs.mem hb
  exact absurd (Nat.lt_of_lt_of_le (Heap.lt_size ho) (Nat.le_trans I.sz h)) (Nat.lt_irrefl _)
theorem Inv.cne (I : Inv X pins σ H s) : ∀ x c, X.env.cells.lookup x = some c → c ≠ X.env.locals := fun x c e z => by
  obtain ⟨v, o, ho, hd⟩ := I.cell x c e
  obtain ⟨m, ⟨o', es, ep, ho', hd', _⟩, _⟩ := I.loc
  rw [z, ho'] at ho; cases ho; rw [hd'] at hd; cases hd
theorem Inv.funs (I : Inv X pins σ H s) : s.heap.FunFrames X.base X.outer := by
  have all : ∀ (l : List Env), (∀ b ∈ frs l, b ∈ X.fs) → X.s₀.heap.FunFrames X.base l → s.heap.FunFrames X.base l := by
    intro l
    induction l with
    | nil => intro _ _; trivial
    | cons env r ih =>
      intro hs hl
      obtain ⟨hk, ⟨L, o, hf, hn, ho, hd⟩, hr⟩ := hl
      have hL : L ∈ X.fs := hs L (by unfold frs; rw [List.filterMap_cons, hf]; exact List.mem_cons_self)
      obtain ⟨sl, e⟩ := I.base.slot L o ho (I.ok.frf L hL) hL fun z => I.ok.exfs L z hL
      exact ⟨hk, ⟨L, _, hf, hn, e, hd⟩, ih (fun b hb => hs b (by unfold frs; rw [List.filterMap_cons, hf]; exact List.mem_cons_of_mem _ hb)) hr⟩
  exact all X.outer (fun _ hb => hb) I.ok.funs
theorem Inv.stack (I : Inv X pins σ H s) : s.heap.FunFrames X.base X.stack := by
  rcases I.ok.stk with e | ⟨e, hf⟩
  · rw [e]; exact I.funs
  · rw [e]
    obtain ⟨m, hn, _⟩ := I.loc
    refine .cons (by rw [I.ok.kind]; decide) hf hn ?_ I.funs
    exact Heap.get?_none_of_le (Nat.le_trans I.ok.bsz I.ok.above)
theorem Inv.stkSub (I : Inv X pins σ H s) : ∀ b ∈ frs X.stack, b ∈ X.env.locals :: X.fs := fun b hb => by
  rcases I.ok.stk with e | ⟨e, hf⟩
  · rw [e] at hb; exact List.mem_cons_of_mem _ hb
  · rw [e] at hb
    unfold frs at hb
    rw [List.filterMap_cons, hf] at hb
    exact hb
theorem Inv.stkFree (I : Inv X pins σ H s) : ∀ b ∈ frs X.stack, H b = none := fun b hb => by
  rcases List.mem_cons.mp (I.stkSub b hb) with e | hb
  · rw [e]; exact I.free
  · obtain ⟨_, o, ho, _⟩ := I.ok.funs.mem hb
    exact I.base.free b o ho (I.ok.frf b hb) fun z => I.ok.exfs b z hb
theorem Inv.step {g' : Array GenState} {t' : Nat} {d' : Drawn} {ch : List Addr} (I : Inv X pins σ H s)
    (hch : ∀ b ∈ ch, (b ∈ X.ex ∨ X.s₀.heap.objs.size ≤ b) ∧ b ≠ X.env.locals ∧ (∀ x c, X.env.cells.lookup x = some c → c ≠ b) ∧ ∀ p ∈ X.pn ++ pins, p.1 ≠ b)
    (keep : ∀ b o, b ≠ X.env.locals → b ∉ X.fs → b ∉ ch → s.heap.get? b = some o → H b = none → h'.get? b = some o)
    (slot : ∀ b o, b ≠ X.env.locals → b ∈ X.fs → b ∉ ch → s.heap.get? b = some o → H b = none → ∃ sl, h'.get? b = some { o with slots := sl }) (free : ∀ b o, b ∉ ch → s.heap.get? b = some o → H b = none → H' b = none)
    (there : ∀ b o, b ∉ ch → s.heap.get? b = some o → ∃ o', h'.get? b = some o')
    (tups : ∀ b xs, H b = some (.tup xs) → H' b = some (.tup xs)) (frzs : ∀ b o u, H b = some (.frz o u) → H' b = some (.frz o u)) (tbls : ∀ b ps, H b = some (.tbl ps) → ∃ more, H' b = some (.tbl (ps ++ more)))
    (ns : ∀ m, s.heap.Ns X.env.locals m → h'.Ns X.env.locals m) (hok : HOk X.prog X.w H' h') (hg : AllBare g') :
    Inv X pins σ H' { s with heap := h', gens := g', drawn := d', toks := t' } := by
  have neL : ∀ b o, X.s₀.heap.get? b = some o → b ≠ X.env.locals := fun b o e => Nat.ne_of_lt (Nat.lt_of_lt_of_le (Heap.lt_size e) I.ok.above)
  have neC : ∀ b o, X.s₀.heap.get? b = some o → b ∉ X.ex → b ∉ ch := fun b o e hx hb => by
    rcases (hch b hb).1 with z | z
    · exact hx z
    · exact absurd (Nat.lt_of_lt_of_le (Heap.lt_size e) z) (Nat.lt_irrefl _)
  have cellK : ∀ x c, X.env.cells.lookup x = some c → ∀ v, s.heap.IsCell c v → h'.IsCell c v := fun x c e v ⟨o, ho, hd⟩ => by
    have nch : c ∉ ch := fun z => (hch c z).2.2.1 x c e rfl
    by_cases hc : c ∈ X.fs
    · obtain ⟨sl, q⟩ := slot c o (I.cne x c e) hc nch ho (I.freeC x c e)
      exact ⟨_, q, hd⟩
    · exact ⟨o, keep c o (I.cne x c e) hc nch ho (I.freeC x c e), hd⟩
  refine ⟨I.ok, I.os, hg, ⟨fun b o e n hb hx => ?_, fun b o e n hb hx => ?_, fun b o e n hx => ?_, fun b o e hx => ?_, fun b xs e => tups b xs (I.base.tups b xs e), fun b o xs e => frzs b o xs (I.base.frzs b o xs e), fun b ps e => ?_⟩, ?_, fun x c e => ?_, ?_, fun x c e => ?_, fun p hp => ?_, hok, I.len⟩
  · exact keep b o (neL b o e) hb (neC b o e hx) (I.base.keep b o e n hb hx) (I.base.free b o e n hx)
  · obtain ⟨sl, e1⟩ := I.base.slot b o e n hb hx
    obtain ⟨sl', e2⟩ := slot b _ (neL b o e) hb (neC b o e hx) e1 (I.base.free b o e n hx)
    exact ⟨sl', e2⟩
  · obtain ⟨o', e1⟩ := I.base.there b o e hx
    exact free b o' (neC b o e hx) e1 (I.base.free b o e n hx)
  · obtain ⟨o', e1⟩ := I.base.there b o e hx
    exact there b o' (neC b o e hx) e1
  · obtain ⟨m1, e1⟩ := I.base.tbls b ps e
    obtain ⟨m2, e2⟩ := tbls b _ e1
    exact ⟨m1 ++ m2, by rw [e2, Array.append_assoc]⟩
  · obtain ⟨m, hn, hl⟩ := I.loc
    refine ⟨m, ns m hn, fun i x v e1 e2 e3 => ?_⟩
    obtain ⟨u, r, l⟩ := hl i x v e1 e2 e3
    refine ⟨u, r, ?_⟩
    rcases l with l | ⟨k, c, e, z⟩
    · exact .inl l
    · exact .inr ⟨k, c, e, cellK x c e _ z⟩
  · obtain ⟨v, z⟩ := I.cell x c e
    exact ⟨v, cellK x c e v z⟩
  · obtain ⟨m, ⟨o, _, _, ho, _⟩, _⟩ := I.loc
    exact free _ o (fun z => (hch _ z).2.1 rfl) ho I.free
  · obtain ⟨v, o, ho, hd⟩ := I.cell x c e
    exact free c o (fun z => (hch c z).2.2.1 x c e rfl) ho (I.freeC x c e)
  · obtain ⟨e, n, ne, nf, d⟩ := I.pin p hp
    have nch : p.1 ∉ ch := fun z => (hch p.1 z).2.2.2 p hp rfl
    exact ⟨keep p.1 p.2 ne nf nch e n, free p.1 p.2 nch e n, ne, nf, d⟩
theorem Inv.un {t' : Nat} (I : Inv X pins σ H s) (u : Un X.fs [] H H' s.heap h') (hok : HOk X.prog X.w H' h') : Inv X pins σ H' { s with heap := h', toks := t' } := by
  obtain ⟨m, ⟨o, es, ep, ho, r⟩, _⟩ := id I.loc
  obtain ⟨sl, hL⟩ := u.any ho I.free (by simp)
  exact I.step (g' := s.gens) (d' := s.drawn) (ch := []) (fun _ z => nomatch z) (fun b o _ hb _ e n => u.keep b o e n hb (by simp)) (fun b o _ hb _ e n => u.slot b o e n hb (by simp)) (fun b o _ e n => u.free b o e n (by simp)) (fun b o _ e => u.there b o e (by simp)) u.tups u.frzs u.tbls (fun m' hm => by
    obtain ⟨o', es', ep', ho', r'⟩ := hm
    rw [ho] at ho'; cases ho'
    exact ⟨_, es', ep', hL, r'⟩) hok I.bare
theorem Inv.call {g' : Array GenState} {t' : Nat} {d' : Drawn} {ch : List Addr} (I : Inv X pins σ H s) (u : Un (frs X.stack) ch H H' s.heap h') (hok : HOk X.prog X.w H' h') (hg : AllBare g')
    (hch : ∀ b ∈ ch, (b ∈ X.ex ∨ X.s₀.heap.objs.size ≤ b) ∧ b ≠ X.env.locals ∧ (∀ x c, X.env.cells.lookup x = some c → c ≠ b) ∧ ∀ p ∈ X.pn ++ pins, p.1 ≠ b) :
    Inv X pins σ H' { s with heap := h', gens := g', drawn := d', toks := t' } := by
  obtain ⟨m, ⟨o, es, ep, ho, r⟩, _⟩ := id I.loc
  obtain ⟨sl, hL⟩ := u.any ho I.free fun z => (hch _ z).2.1 rfl
  exact I.step (ch := ch) hch (fun b o hL hb hc e n => u.keep b o e n (fun z => (List.mem_cons.mp (I.stkSub b z)).elim hL hb) hc) (fun b o _ _ hc e n => u.any e n hc) (fun b o hc e n => u.free b o e n hc) (fun b o hc e => u.there b o e hc) u.tups u.frzs u.tbls (fun m' hm => by
    obtain ⟨o', es', ep', ho', r'⟩ := hm
    rw [ho] at ho'; cases ho'
    exact ⟨_, es', ep', hL, r'⟩) hok hg
theorem Inv.turned {t' : Nat} {it : Addr} (I : Inv X pins σ H s) (k : ∀ b o, b ≠ it → s.heap.get? b = some o → h'.get? b = some o) (hn : H it = none) (hL : it ≠ X.env.locals)
    (h1 : it ∈ X.ex ∨ X.s₀.heap.objs.size ≤ it) (h2 : ∀ x c, X.env.cells.lookup x = some c → c ≠ it) (h3 : ∀ p ∈ X.pn ++ pins, p.1 ≠ it) : Inv X pins σ H { s with heap := h', toks := t' } := by
  have nit : ∀ b u, H b = some u → b ≠ it := fun b u e z => by rw [z, hn] at e; cases e
  refine I.step (g' := s.gens) (d' := s.drawn) (ch := [it]) (fun b hb => ?_) (fun b o _ _ hc e _ => k b o (fun z => hc (by simp [z])) e) (fun b o _ _ hc e _ => ⟨o.slots, k b o (fun z => hc (by simp [z])) e⟩) (fun _ _ _ _ n => n)
    (fun b o hc e => ⟨o, k b o (fun z => hc (by simp [z])) e⟩) (fun _ _ e => e) (fun _ _ _ e => e) (fun b ps e => ⟨#[], by rw [e]; simp⟩) (fun m hm => ?_) (fun b u e => ?_) I.bare
  · have e : b = it := by simpa using hb
    subst e
    exact ⟨h1, hL, h2, h3⟩
  · obtain ⟨o, es, ep, ho, r⟩ := hm
    exact ⟨o, es, ep, k _ o (Ne.symm hL) ho, r⟩
  · refine (I.hok b u e).stay (fun c v hc q => k c v ?_ q) (fun _ q => q) fun _ _ q => q
    rcases hc with z | z
    · rw [z]; exact nit b u e
    · exact nit c _ z
theorem Inv.tok (I : Inv X pins σ H s) (t : Nat) : Inv X pins σ H { s with toks := t } := I.un (h' := s.heap) (t' := t) Un.refl I.hok
theorem Inv.kept {t' : Nat} (I : Inv X pins σ H s) (k : ∀ b u, s.heap.get? b = some u → h'.get? b = some u) : Inv X pins σ H { s with heap := h', toks := t' } := I.un (Un.kept k) (I.hok.kept k)
theorem Inv.laid {a : Addr} {o : HO} {t' : Nat} (I : Inv X pins σ H s) (k : ∀ b u, s.heap.get? b = some u → h'.get? b = some u) (hp : s.heap.objs.size ≤ a) (new : ObjOk X.prog X.w (upd H a o) h' a o) :
    Inv X pins σ (upd H a o) { s with heap := h', toks := t' } := I.un (Un.laid k hp (I.hok.fresh hp)) (I.hok.laid k hp new)
theorem Inv.write {x e : Addr} {o : HO} {t' : Nat} (I : Inv X pins σ H s) (mu : Mut (H x)) (he : e = x ∨ H e = some (.own x)) (k : ∀ b u, b ≠ e → s.heap.get? b = some u → h'.get? b = some u) (heo : ∃ u, h'.get? e = some u)
    (new : ObjOk X.prog X.w (upd H x o) h' x o) : Inv X pins σ (upd H x o) { s with heap := h', toks := t' } := I.un (Un.write mu he k heo) (I.hok.write mu he k heo new)
theorem Inv.pins_of {pins' : List (Addr × Obj)} (I : Inv X pins σ H s) (h : ∀ p ∈ pins', s.heap.get? p.1 = some p.2 ∧ H p.1 = none ∧ p.1 ≠ X.env.locals ∧ p.1 ∉ X.fs ∧ ∀ v, p.2.data ≠ .cell v) : Inv X pins' σ H s :=
  ⟨I.ok, I.os, I.bare, I.base, I.loc, I.cell, I.free, I.freeC, fun p hp => (List.mem_append.mp hp).elim (fun z => I.pin p (List.mem_append_left _ z)) (h p), I.hok, I.len⟩
theorem nodup_ix {N : List Str} (hN : N.Nodup) {i j : Nat} {x : Str} (a : N[i]? = some x) (b : N[j]? = some x) : i = j := by
  obtain ⟨h1, e1⟩ := List.getElem?_eq_some_iff.mp a
  obtain ⟨h2, e2⟩ := List.getElem?_eq_some_iff.mp b
  exact (List.getElem_inj hN).mp (e1.trans e2.symm)
theorem store_ok2 {M : Model} {A : Around} {E : Value → Shared → Prop} {i : Nat} {x : Str} {v : V} {u : Value} {Q : Unit → Shared → Prop} (I : Inv X pins σ H s) (hN : X.N.Nodup) (hi : X.N[i]? = some x) (hx : Loc X.env.scope x) (r : RelV v u)
    (h : ∀ s', Inv X pins (σ.set i (some v)) H s' → (∃ a, Heap.SameBut a s.heap s'.heap ∧ (a = X.env.locals ∨ X.env.cells.lookup x = some a)) → Q () s') (hf : X.fn x = true ∨ X.env.scope.names.lookup x = some .local := by first | exact .inl rfl | exact .inr rfl | assumption) : wpAny M A (storeName X.env x u) Q E s := by
  obtain ⟨m, hn, hl⟩ := id I.loc
  have hcls : (X.env.scope.kind == .class || (X.env.scope.kind == .module && X.env.locals != X.env.globals)) = false := by rw [I.ok.kind]; rfl
  have hiσ : i < σ.length := by rw [I.len]; exact (List.getElem?_eq_some_iff.mp hi).1
  have cne := I.cne
  have tracked : ∀ {a : Addr} {h' : Heap}, (∃ o, s.heap.get? a = some o ∧ H a = none) → Heap.SameBut a s.heap h' → HOk X.prog X.w H h' := fun {a h'} ha hs b ob e => by
    obtain ⟨_, _, hfree⟩ := ha
    refine (I.hok b ob e).stay (fun c w' hc q => (hs.2 c ?_).trans q) (fun _ q => q) fun _ _ q => q
    rintro rfl
    rcases hc with rfl | hc
    · rw [hfree] at e; cases e
    · rw [hfree] at hc; cases hc
  rcases hx with hk | hk
  · refine wpAny_storeName_local hk hn (fun h' hn' hs => ?_) hcls
    obtain ⟨oL, _, _, hoL, _⟩ := id hn
    refine h _ ⟨I.ok, I.os, I.bare, ⟨fun b o e n hb hx => ?_, fun b o e n hb hx => ?_, I.base.free, fun b o e hx => ?_, I.base.tups, I.base.frzs, I.base.tbls⟩, ⟨_, hn', fun j y v' e1 e2 e3 => ?_⟩, fun y c e => ?_, I.free, I.freeC, fun p hp => ?_, tracked ⟨oL, hoL, I.free⟩ hs, by simpa using I.len⟩ ⟨_, hs, .inl rfl⟩
    · exact (hs.2 b (Nat.ne_of_lt (Nat.lt_of_lt_of_le (Heap.lt_size e) I.ok.above))).trans (I.base.keep b o e n hb hx)
    · obtain ⟨sl, e1⟩ := I.base.slot b o e n hb hx
      exact ⟨sl, (hs.2 b (Nat.ne_of_lt (Nat.lt_of_lt_of_le (Heap.lt_size e) I.ok.above))).trans e1⟩
    · obtain ⟨o', e1⟩ := I.base.there b o e hx
      exact ⟨o', (hs.2 b (Nat.ne_of_lt (Nat.lt_of_lt_of_le (Heap.lt_size e) I.ok.above))).trans e1⟩
    · by_cases hj : j = i
      · subst hj
        rw [hi] at e1; cases e1
        rw [List.getElem?_set_self hiσ] at e2
        cases e2
        exact ⟨u, r, .inl ⟨hk, by simp⟩⟩
      · rw [List.getElem?_set_ne (Ne.symm hj)] at e2
        obtain ⟨u', r', q⟩ := hl j y v' e1 e2 e3
        refine ⟨u', r', ?_⟩
        rcases q with ⟨k, e⟩ | ⟨k, c, e, z⟩
        · refine .inl ⟨k, ?_⟩
          have : y ≠ x := fun e => hj (nodup_ix hN e1 (e ▸ hi))
          simp [this, e]
        · exact .inr ⟨k, c, e, z.sameBut hs (cne y c e)⟩
    · obtain ⟨w', z⟩ := I.cell y c e
      exact ⟨w', z.sameBut hs (cne y c e)⟩
    · obtain ⟨e, n, ne, nf, d⟩ := I.pin p hp
      exact ⟨(hs.2 p.1 ne).trans e, n, ne, nf, d⟩
  · have hfn : X.fn x = true := by
      rcases hf with z | z
      · exact z
      · rw [z] at hk; cases hk
    obtain ⟨c, hc⟩ := I.ok.has x (.inl hk)
    obtain ⟨w', z⟩ := I.cell x c hc
    refine wpAny_storeName_cell I.ok.kind hk hc z (fun h' hc' hs => ?_)
    obtain ⟨oc, hoc, hocd⟩ := id z
    refine h { s with heap := h' } ⟨I.ok, I.os, I.bare, ⟨fun b o e n hb hx => ?_, fun b o e n hb hx => ?_, I.base.free, fun b o e hx => ?_, I.base.tups, I.base.frzs, I.base.tbls⟩, ⟨m, hn.sameBut hs (Ne.symm (cne x c hc)), fun j y v' e1 e2 e3 => ?_⟩, fun y c' e => ?_, I.free, I.freeC, fun p hp => ?_, tracked ⟨oc, hoc, I.freeC x c hc⟩ hs, by simpa using I.len⟩ ⟨c, hs, .inr hc⟩
    · exact (hs.2 b (Nat.ne_of_lt (Nat.lt_of_lt_of_le (Heap.lt_size e) (I.ok.cab x c hfn hc)))).trans (I.base.keep b o e n hb hx)
    · obtain ⟨sl, e1⟩ := I.base.slot b o e n hb hx
      exact ⟨sl, (hs.2 b (Nat.ne_of_lt (Nat.lt_of_lt_of_le (Heap.lt_size e) (I.ok.cab x c hfn hc)))).trans e1⟩
    · obtain ⟨o', e1⟩ := I.base.there b o e hx
      exact ⟨o', (hs.2 b (Nat.ne_of_lt (Nat.lt_of_lt_of_le (Heap.lt_size e) (I.ok.cab x c hfn hc)))).trans e1⟩
    · by_cases hj : j = i
      · subst hj
        rw [hi] at e1; cases e1
        rw [List.getElem?_set_self hiσ] at e2
        cases e2
        exact ⟨u, r, .inr ⟨.inl hk, c, hc, hc'⟩⟩
      · rw [List.getElem?_set_ne (Ne.symm hj)] at e2
        obtain ⟨u', r', q⟩ := hl j y v' e1 e2 e3
        refine ⟨u', r', ?_⟩
        rcases q with q | ⟨k, c', e, z'⟩
        · exact .inl q
        · refine .inr ⟨k, c', e, z'.sameBut hs ?_⟩
          rintro rfl
          exact hj (nodup_ix hN e1 (I.ok.inj _ _ _ e hc ▸ hi))
    · by_cases hcc : c' = c
      · subst hcc; exact ⟨_, hc'⟩
      · obtain ⟨w2, z2⟩ := I.cell y c' e
        exact ⟨w2, z2.sameBut hs hcc⟩
    · obtain ⟨e, n, ne, nf, d⟩ := I.pin p hp
      refine ⟨(hs.2 p.1 ?_).trans e, n, ne, nf, d⟩
      intro q
      rw [q, hoc] at e
      have q' : oc = p.2 := Option.some.inj e
      exact d w' (by rw [← q']; exact hocd)
theorem store_ok {M : Model} {A : Around} {E : Value → Shared → Prop} {i : Nat} {x : Str} {v : V} {u : Value} {Q : Unit → Shared → Prop} (I : Inv X pins σ H s) (hN : X.N.Nodup) (hi : X.N[i]? = some x) (hx : Loc X.env.scope x) (r : RelV v u)
    (h : ∀ s', Inv X pins (σ.set i (some v)) H s' → Q () s') (hf : X.fn x = true ∨ X.env.scope.names.lookup x = some .local := by first | exact .inl rfl | exact .inr rfl | assumption) : wpAny M A (storeName X.env x u) Q E s :=
  store_ok2 I hN hi hx r (fun s' I' _ => h s' I') hf
theorem Inv.call' {s' : Shared} {ch : List Addr} (I : Inv X pins σ H s) (ho : s'.os = s.os) (u : Un (frs X.stack) ch H H' s.heap s'.heap) (hok : HOk X.prog X.w H' s'.heap) (hg : AllBare s'.gens)
    (hch : ∀ b ∈ ch, (b ∈ X.ex ∨ X.s₀.heap.objs.size ≤ b) ∧ b ≠ X.env.locals ∧ (∀ x c, X.env.cells.lookup x = some c → c ≠ b) ∧ ∀ p ∈ X.pn ++ pins, p.1 ≠ b) : Inv X pins σ H' s' := by
  obtain ⟨h', g', d', t', o'⟩ := s'
  have e : o' = s.os := ho
  subst e
  exact I.call (g' := g') (t' := t') (d' := d') u hok hg hch
end
abbrev XK := Value → Option Addr → Hp → Prop
abbrev St := List (Option V)
abbrev VK := V → Hp → Prop
abbrev TE := St → Hp → VK → Prop
abbrev TT := St → Hp → (Bool → Hp → Prop) → Prop
abbrev TA := St → Hp → (List V → Hp → Prop) → Prop
structure Ends where
  nx : St → Hp → Prop
  rt : VK
  bk : St → Hp → Prop := fun _ _ => False
  ct : St → Hp → Prop := fun _ _ => False
abbrev TS := Ends → St → Hp → Prop
def EP (X : Cx) (pins : List (Addr × Obj)) (σ : St) (Q : VK) (u : Value) (s' : Shared) : Prop := ∃ v H', Inv X pins σ H' s' ∧ RelV v u ∧ Q v H'
def TP (X : Cx) (pins : List (Addr × Obj)) (σ : St) (Q : Bool → Hp → Prop) (b : Bool) (s' : Shared) : Prop := ∃ H', Inv X pins σ H' s' ∧ Q b H'
def AP (X : Cx) (pins : List (Addr × Obj)) (σ : St) (Q : List V → Hp → Prop) (us : List Value) (s' : Shared) : Prop := ∃ vs H', Inv X pins σ H' s' ∧ Vals vs us ∧ Q vs H'
def SP (X : Cx) (pins : List (Addr × Obj)) (D : Ends) (f : Flow) (s' : Shared) : Prop :=
  match f with
  | .next => ∃ σ' H', Inv X pins σ' H' s' ∧ D.nx σ' H'
  | .brk => ∃ σ' H', Inv X pins σ' H' s' ∧ D.bk σ' H'
  | .cont => ∃ σ' H', Inv X pins σ' H' s' ∧ D.ct σ' H'
  | .ret u => ∃ v σ' H', Inv X pins σ' H' s' ∧ RelV v u ∧ D.rt v H'
def PE (X : Cx) (e : Expr) (t : TE) : Prop :=
  ∀ (pins : List (Addr × Obj)) (s : Shared) (σ : St) (H : Hp) (Q : VK), Inv X pins σ H s → t σ H Q → wpAny (model X.prog X.w) X.A (eval e X.env) (EP X pins σ Q) X.xe s
def PT (X : Cx) (e : Expr) (t : TT) : Prop :=
  ∀ (pins : List (Addr × Obj)) (s : Shared) (σ : St) (H : Hp) (Q : Bool → Hp → Prop), Inv X pins σ H s → t σ H Q → wpAny (model X.prog X.w) X.A (isTrue e X.env (eval e X.env)) (TP X pins σ Q) X.xe s
def PW (X : Cx) (e : Expr) (t : TT) : Prop :=
  ∀ (whole : Sem Value) (pins : List (Addr × Obj)) (s : Shared) (σ : St) (H : Hp) (Q : Bool → Hp → Prop), Inv X pins σ H s → t σ H Q → wpAny (model X.prog X.w) X.A (isTrue e X.env whole) (TP X pins σ Q) X.xe s
theorem PW.pt {X : Cx} {e : Expr} {t : TT} (h : PW X e t) : PT X e t := h _
def PA (X : Cx) (es : List Expr) (t : TA) : Prop :=
  ∀ (pos : Pos) (pins : List (Addr × Obj)) (s : Shared) (σ : St) (H : Hp) (Q : List V → Hp → Prop), Inv X pins σ H s → t σ H Q → wpAny (model X.prog X.w) X.A (spliced (backTo pos (starEach es X.env))) (AP X pins σ Q) X.xe s
def PS (X : Cx) (st : Stmt) (t : TS) : Prop :=
  ∀ (pins : List (Addr × Obj)) (s : Shared) (σ : St) (H : Hp) (D : Ends), Inv X pins σ H s → t D σ H → wpAny (model X.prog X.w) X.A (exec st X.env) (SP X pins D) X.xe s
def PSs (X : Cx) (st : List Stmt) (t : TS) : Prop :=
  ∀ (pins : List (Addr × Obj)) (s : Shared) (σ : St) (H : Hp) (D : Ends), Inv X pins σ H s → t D σ H → wpAny (model X.prog X.w) X.A (execs st X.env) (SP X pins D) X.xe s
theorem thn {α : Type} {t : Sem α} {Q Q' : α → Shared → Prop} {M : Model} {A : Around} {E : Value → Shared → Prop} {s : Shared} (h : wpAny M A t Q E s) (hQ : ∀ a s, Q a s → Q' a s) : wpAny M A t Q' E s := wpAny_mono h hQ fun _ _ x => x
end L2
namespace L2
open PySem PySem.Spec PyProof.Rows
section
variable {X : Cx}
def tVar (i : Nat) : TE := fun σ H Q => ∃ v, σ[i]? = some (some v) ∧ Q v H
def tC (v : V) : TE := fun _ H Q => Q v H
theorem pe_var {i : Nat} {x : Str} {pos : Pos} (hN : X.N[i]? = some x) (hv : Vis X.env.scope x) (hd : (x == ("__debug__" : Str)) = false := by decide) (hcd : (x == ("__classdict__" : Str)) = false := by decide) : PE X (.Name x pos) (tVar i) := by
  intro pins s σ H Q I h
  obtain ⟨v, e, h⟩ := h
  obtain ⟨m, hn, hl⟩ := I.loc
  obtain ⟨u, r, l⟩ := hl i x v hN e hv
  have fin : EP X pins σ Q u s := ⟨v, H, I, r, h⟩
  rcases l with ⟨hk, hm⟩ | ⟨hk, c, hc, hcell⟩
  · exact wpAny_Name (wpAny_loadName_local I.ok.kind hk hn hm fin) hd
  · rcases hk with hk | hk
    · exact wpAny_Name (wpAny_loadName_cell I.ok.kind hk hc hcell fin) hd
    · exact wpAny_Name (wpAny_loadName_free I.ok.kind hk hc hcell fin hcd) hd
theorem pe_int {i j pos} : PE X (.Constant (.int i) j pos) (tC (.int i)) := fun _ _ _ H _ I h => wpAny_Constant_int ⟨.int i, H, I.tok _, ⟨_, rfl⟩, h⟩
theorem pe_bl {b j pos} : PE X (.Constant (.bool b) j pos) (tC (.bl b)) := fun _ _ _ H _ I h => Constant_bool ⟨.bl b, H, I, rfl, h⟩
theorem pe_non {j pos} : PE X (.Constant .none j pos) (tC .non) := fun _ _ _ H _ I h => Constant_none ⟨.non, H, I, rfl, h⟩
theorem pe_str {x j pos} : PE X (.Constant (.str x) j pos) (tC (.str x)) := fun _ _ _ H _ I h => Calls.Constant_str ⟨.str x, H, I.tok _, ⟨_, rfl⟩, h⟩
def Gl (X : Cx) (x : Str) : Prop := X.env.kindOf x = some .globalImplicit
theorem ld_glob {E : Value → Shared → Prop} {pins : List (Addr × Obj)} {s : Shared} {σ : St} {H : Hp} {x : Str} {u : Value} {pos : Pos} {Q : Value → Shared → Prop} (I : Inv X pins σ H s) (hg : Gl X x) (hm : X.mg x = some u) (h : Q u s)
    (hd : (x == ("__debug__" : Str)) = false := by decide) : wpAny (model X.prog X.w) X.A (eval (.Name x pos) X.env) Q E s :=
  Calls.Name_function_global I.ok.kind hg (Calls.loadGlobal_global (by rw [I.ok.glob]; exact I.mod.glob.keeps I.bk) hm h) hd
theorem ld_blt {E : Value → Shared → Prop} {pins : List (Addr × Obj)} {s : Shared} {σ : St} {H : Hp} {x : Str} {u : Value} {pos : Pos} {Q : Value → Shared → Prop} (I : Inv X pins σ H s) (hg : Gl X x) (hm : X.mg x = none) (hv : bootBuiltins x = some u) (h : Q u s)
    (hn : x ≠ "__name__" := by decide) (hd : (x == ("__debug__" : Str)) = false := by decide) : wpAny (model X.prog X.w) X.A (eval (.Name x pos) X.env) Q E s := by
  obtain ⟨mb, h1, h2⟩ := I.mod.blt
  exact Calls.Name_function_global I.ok.kind hg (Calls.loadGlobal_builtin (by rw [I.ok.glob]; exact I.mod.glob.keeps I.bk) hm (by rw [I.ok.blt]; exact h1.keeps I.bk) ((h2 x hn).trans hv) h) hd
theorem pe_glob {x : Str} {v : V} {u : Value} {pos : Pos} (hg : Gl X x) (hm : X.mg x = some u) (r : RelV v u) (hd : (x == ("__debug__" : Str)) = false := by decide) : PE X (.Name x pos) (tC v) :=
  fun _ _ _ H _ I h => ld_glob I hg hm ⟨v, H, I, r, h⟩ hd
theorem pe_bltn {x : Str} {v : V} {u : Value} {pos : Pos} (hg : Gl X x) (hm : X.mg x = none) (hv : bootBuiltins x = some u) (r : RelV v u) (hn : x ≠ "__name__" := by decide) (hd : (x == ("__debug__" : Str)) = false := by decide) : PE X (.Name x pos) (tC v) :=
  fun _ _ _ H _ I h => ld_blt I hg hm hv ⟨v, H, I, r, h⟩ hn hd
variable {a b : Expr} {ta tb : TE} {pos : Pos}
def tB (t : TE) : TT := fun σ H Q => t σ H fun x H1 => ∃ c, x = .bl c ∧ Q c H1
theorem pt_val {e : Expr} {t : TE} (h : PE X e t) (he : ∀ whole, isTrue e X.env whole = (do let v ← whole; standAt e.pos; holding [v] (truthy v)) := by intro _; rfl) : PT X e (tB t) := by
  intro pins s σ H Q I hw
  refine isTrue_plain (thn (h pins s σ H _ I hw) fun v s1 ⟨x, H1, I1, r1, q1⟩ => ?_) (he _)
  obtain ⟨d, rfl, q⟩ := q1
  cases r1
  exact wpAny_truthy_bool ⟨H1, I1, q⟩
variable {tA tB' : TT} {rest : List Expr}
def tAnd (t u : TT) : TT := fun σ H Q => t σ H fun c H1 => if c = true then u σ H1 Q else Q false H1
def tOr (t u : TT) : TT := fun σ H Q => t σ H fun c H1 => if c = true then Q true H1 else u σ H1 Q
def tNot (t : TT) : TT := fun σ H Q => t σ H fun c H1 => Q (!c) H1
theorem pw_and1 (ha : PT X a tA) : PW X (.BoolOp .And [a] pos) tA := by
  intro wh pins s σ H Q I h
  refine isTrue_and (thn (ha pins s σ H Q I h) fun c s1 e => ?_)
  cases c with
  | true => exact isTrue_and_nil e
  | false => exact e
theorem pw_or1 (ha : PT X a tA) : PW X (.BoolOp .Or [a] pos) tA := by
  intro wh pins s σ H Q I h
  refine isTrue_or (thn (ha pins s σ H Q I h) fun c s1 e => ?_)
  cases c with
  | false => exact isTrue_or_nil e
  | true => exact e
theorem pw_and (ha : PT X a tA) (hb : PW X (.BoolOp .And (b :: rest) pos) tB') : PW X (.BoolOp .And (a :: b :: rest) pos) (tAnd tA tB') := by
  intro wh pins s σ H Q I h
  refine isTrue_and (thn (ha pins s σ H _ I h) fun c s1 ⟨H1, I1, q1⟩ => ?_)
  cases c with
  | true => exact hb wh pins s1 σ H1 Q I1 q1
  | false => exact ⟨H1, I1, q1⟩
theorem pw_or (ha : PT X a tA) (hb : PW X (.BoolOp .Or (b :: rest) pos) tB') : PW X (.BoolOp .Or (a :: b :: rest) pos) (tOr tA tB') := by
  intro wh pins s σ H Q I h
  refine isTrue_or (thn (ha pins s σ H _ I h) fun c s1 ⟨H1, I1, q1⟩ => ?_)
  cases c with
  | true => exact ⟨H1, I1, q1⟩
  | false => exact hb wh pins s1 σ H1 Q I1 q1
theorem pt_not (ha : PT X a tA) : PT X (.UnaryOp .Not a pos) (tNot tA) := by
  intro pins s σ H Q I h
  exact isTrue_not (ha pins s σ H (fun c H1 => Q (!c) H1) I h)
def tAndV (ta tb : TE) : TE := fun σ H Q => ta σ H fun x H1 => ∃ c, x = .bl c ∧ if c = true then tb σ H1 Q else Q (.bl false) H1
def tOrV (ta tb : TE) : TE := fun σ H Q => ta σ H fun x H1 => ∃ c, x = .bl c ∧ if c = true then Q (.bl true) H1 else tb σ H1 Q
def tNotV (ta : TE) : TE := fun σ H Q => ta σ H fun x H1 => ∃ c, x = .bl c ∧ Q (.bl (!c)) H1
theorem pe_one {op} {t : TE} (h : PE X a t) : PE X (.BoolOp op [a] pos) t := fun pins s σ H Q I hw => BoolOp_one (h pins s σ H Q I hw)
theorem pe_and (ha : PE X a ta) (hb : PE X (.BoolOp .And (b :: rest) pos) tb) : PE X (.BoolOp .And (a :: b :: rest) pos) (tAndV ta tb) := by
  intro pins s σ H Q I h
  refine BoolOp_and (thn (ha pins s σ H _ I h) fun v s1 ⟨x, H1, I1, r1, q1⟩ => ?_)
  obtain ⟨c, rfl, q1⟩ := q1
  cases r1
  refine wpAny_truthy_bool ?_
  cases c with
  | true => exact hb pins s1 σ H1 Q I1 q1
  | false => exact ⟨.bl false, H1, I1, rfl, q1⟩
theorem pe_or (ha : PE X a ta) (hb : PE X (.BoolOp .Or (b :: rest) pos) tb) : PE X (.BoolOp .Or (a :: b :: rest) pos) (tOrV ta tb) := by
  intro pins s σ H Q I h
  refine BoolOp_or (thn (ha pins s σ H _ I h) fun v s1 ⟨x, H1, I1, r1, q1⟩ => ?_)
  obtain ⟨c, rfl, q1⟩ := q1
  cases r1
  refine wpAny_truthy_bool ?_
  cases c with
  | false => exact hb pins s1 σ H1 Q I1 q1
  | true => exact ⟨.bl true, H1, I1, rfl, q1⟩
theorem pe_not (ha : PE X a ta) : PE X (.UnaryOp .Not a pos) (tNotV ta) := by
  intro pins s σ H Q I h
  refine UnaryOp_ (thn (ha pins s σ H _ I h) fun v s1 ⟨x, H1, I1, r1, q1⟩ => ?_)
  obtain ⟨c, rfl, q1⟩ := q1
  cases r1
  exact not_of (wpAny_truthy_bool ⟨.bl (!c), H1, I1, rfl, q1⟩)
def tIf (t : TT) (ta tb : TE) : TE := fun σ H Q => t σ H fun c H1 => if c = true then ta σ H1 Q else tb σ H1 Q
theorem pe_ifExp {c : Expr} (hc : PT X c tA) (ha : PE X a ta) (hb : PE X b tb) : PE X (.IfExp c a b pos) (tIf tA ta tb) := by
  intro pins s σ H Q I h
  refine wpAny_IfExp (thn (hc pins s σ H _ I h) fun d s1 ⟨H1, I1, q1⟩ => ?_)
  cases d with
  | true => exact ha pins s1 σ H1 Q I1 q1
  | false => exact hb pins s1 σ H1 Q I1 q1
end
end L2
namespace L2
open PySem PySem.Spec PyProof.Rows
def SqL (K : PySem.W.Frag) (H : Hp) (a : Addr) (xs : List V) : Prop :=
  Rd H a (.lst xs) ∨
    ∃ (o : Obj) (its : Array Value) (n : Nat), K.lookup a = some o ∧ o.cls = .type "list" ∧ o.dict = none ∧ o.data = .seq its n ∧ its.size ≤ sizeLine ∧ Vals xs its.toList
def SqT (K : PySem.W.Frag) (H : Hp) (a : Addr) (xs : List V) : Prop :=
  Rd H a (.tup xs) ∨
    ∃ (o : Obj) (its : Array Value) (n : Nat), K.lookup a = some o ∧ o.cls = .type "tuple" ∧ o.data = .seq its n ∧ its.size ≤ sizeLine ∧ Vals xs its.toList
def absV : Value → Option V
  | .none => some .non
  | .bool b => some (.bl b)
  | .int i _ => some (.int i)
  | .str x _ => some (.str x)
  | .bytes b _ => some (.byt b)
  | .float b _ => some (.flt b)
  | .ref a => some (.ref a)
  | .type n => some (.ty n)
  | _ => none
theorem RelV.abs {x : V} {u : Value} (r : RelV x u) : absV u = some x := by
  cases x with
  | non => cases r; rfl
  | bl _ => cases r; rfl
  | int _ => obtain ⟨t, rfl⟩ := r; rfl
  | str _ => obtain ⟨t, rfl⟩ := r; rfl
  | byt _ => obtain ⟨t, rfl⟩ := r; rfl
  | flt _ => obtain ⟨t, rfl⟩ := r; rfl
  | ref _ => cases r; rfl
  | ty _ => cases r; rfl
theorem RelV.inj {x y : V} {u : Value} (r : RelV x u) (q : RelV y u) : x = y := Option.some.inj (r.abs.symm.trans q.abs)
theorem Vals.inj : ∀ {xs ys : List V} {us : List Value}, Vals xs us → Vals ys us → xs = ys
  | _, _, _, .nil, .nil => rfl
  | _, _, _, .cons r t, .cons r' t' => by rw [r.inj r', Vals.inj t t']
section
variable {X : Cx} {pins : List (Addr × Obj)} {σ : St} {H : Hp} {s : Shared} {a : Addr} {xs ys : List V}
theorem SqL.of {K : PySem.W.Frag} (h : H a = some (.lst xs)) : SqL K H a xs := .inl (.inl h)
theorem SqT.of {K : PySem.W.Frag} (h : H a = some (.tup xs)) : SqT K H a xs := .inl (.inl h)
theorem Inv.list (I : Inv X pins σ H s) (h : SqL X.K H a xs) : ∃ its : List Value, Vals xs its ∧ PlainL s.heap a its.toArray ∧ xs.length ≤ sizeLine := by
  rcases h with h | ⟨o, its, n, hk, hc, hd, hs, hz, r⟩
  · obtain ⟨z, its, n, r, e⟩ := h.ok I.hok
    exact ⟨its, r, ⟨_, n, e, rfl, rfl, rfl⟩, z⟩
  · refine ⟨its.toList, r, ⟨o, n, I.kIn a o hk, hc, hd, by simpa using hs⟩, ?_⟩
    have e := r.length
    simp only [Array.length_toList] at e
    omega
theorem Inv.tuple (I : Inv X pins σ H s) (h : SqT X.K H a xs) : ∃ its : List Value, Vals xs its ∧ IsTup s.heap a its.toArray ∧ xs.length ≤ sizeLine := by
  rcases h with h | ⟨o, its, n, hk, hc, hs, hz, r⟩
  · obtain ⟨z, its, r, p⟩ := h.ok I.hok
    exact ⟨its, r, p, z⟩
  · refine ⟨its.toList, r, ⟨o, I.kIn a o hk, hc, n, by simpa using hs⟩, ?_⟩
    have e := r.length
    simp only [Array.length_toList] at e
    omega
theorem Inv.list_inj (I : Inv X pins σ H s) (h : SqL X.K H a xs) (h' : SqL X.K H a ys) : xs = ys := by
  obtain ⟨its, r, ⟨o, n, e, _, _, d⟩, _⟩ := I.list h
  obtain ⟨its', r', ⟨o', n', e', _, _, d'⟩, _⟩ := I.list h'
  rw [e] at e'; cases e'
  rw [d] at d'
  injection d' with d1 _
  have : its = its' := by simpa using congrArg Array.toList d1
  subst this
  exact r.inj r'
theorem Inv.tuple_inj (I : Inv X pins σ H s) (h : SqT X.K H a xs) (h' : SqT X.K H a ys) : xs = ys := by
  obtain ⟨its, r, ⟨o, e, _, n, d⟩, _⟩ := I.tuple h
  obtain ⟨its', r', ⟨o', e', _, n', d'⟩, _⟩ := I.tuple h'
  rw [e] at e'; cases e'
  rw [d] at d'
  injection d' with d1 _
  have : its = its' := by simpa using congrArg Array.toList d1
  subst this
  exact r.inj r'
end
abbrev Cx.wish (X : Cx) (E : Value → Shared → Prop) : Cx := { X with xe := E }
abbrev Cx.nox (X : Cx) : Cx := X.wish fun _ _ => False
theorem Cx.Ok.wish {X : Cx} (ok : X.Ok) (E : Value → Shared → Prop) : (X.wish E).Ok :=
  ⟨ok.mod, ok.kind, ok.glob, ok.blt, ok.above, ok.inj, ok.has, ok.cab, ok.hd, ok.frames, ok.stk, ok.exf, ok.bs, ok.bsz, ok.noex, ok.exfs, ok.funs, ok.frf⟩
theorem Cx.Ok.unwish {X : Cx} {E : Value → Shared → Prop} (ok : (X.wish E).Ok) : X.Ok :=
  ⟨ok.mod, ok.kind, ok.glob, ok.blt, ok.above, ok.inj, ok.has, ok.cab, ok.hd, ok.frames, ok.stk, ok.exf, ok.bs, ok.bsz, ok.noex, ok.exfs, ok.funs, ok.frf⟩
section
variable {X : Cx} {pins : List (Addr × Obj)} {σ : St} {H : Hp} {s : Shared} {E : Value → Shared → Prop}
theorem Inv.wish (I : Inv X pins σ H s) (E : Value → Shared → Prop) : Inv (X.wish E) pins σ H s := ⟨I.ok.wish E, I.os, I.bare, I.base, I.loc, I.cell, I.free, I.freeC, I.pin, I.hok, I.len⟩
theorem Inv.unwish (I : Inv (X.wish E) pins σ H s) : Inv X pins σ H s := ⟨I.ok.unwish, I.os, I.bare, I.base, I.loc, I.cell, I.free, I.freeC, I.pin, I.hok, I.len⟩
theorem SP.unwish {D : Ends} {f : Flow} {s' : Shared} (h : SP (X.wish E) pins D f s') : SP X pins D f s' := by
  cases f with
  | next => obtain ⟨σ', H', I, q⟩ := h; exact ⟨σ', H', I.unwish, q⟩
  | brk => obtain ⟨σ', H', I, q⟩ := h; exact ⟨σ', H', I.unwish, q⟩
  | cont => obtain ⟨σ', H', I, q⟩ := h; exact ⟨σ', H', I.unwish, q⟩
  | ret u => obtain ⟨v, σ', H', I, r, q⟩ := h; exact ⟨v, σ', H', I.unwish, r, q⟩
theorem PSs.nox {st : List Stmt} {t : TS} (h : PSs X.nox st t) : PSs X st t := fun pins s σ H D I hw =>
  wpAny_mono (h pins s σ H D (I.wish _) hw) (fun _ _ q => q.unwish) fun _ _ z => False.elim z
end
section
variable {X : Cx} {st : Stmt} {rest : List Stmt} {t u : TS} {e : Expr} {te : TE} {pos : Pos}
def tNext : TS := fun D σ H => D.nx σ H
def tSeq (t u : TS) : TS := fun D σ H => t { D with nx := u D } σ H
theorem pss_nil : PSs X [] tNext := fun _ _ σ H _ I h => wpAny_execs_nil ⟨σ, H, I, h⟩
theorem pss_cons (h1 : PS X st t) (h2 : PSs X rest u) : PSs X (st :: rest) (tSeq t u) := by
  intro pins s σ H D I h
  refine wpAny_execs_cons (thn (h1 pins s σ H { D with nx := u D } I h) fun f s1 q => ?_)
  cases f with
  | next =>
    obtain ⟨σ', H', I', q⟩ := q
    exact h2 pins s1 σ' H' D I' q
  | ret v => exact q
  | brk => exact q
  | cont => exact q
theorem pss_one (h1 : PS X st t) : PSs X [st] t := by
  intro pins s σ H D I h
  refine wpAny_execs_cons (thn (h1 pins s σ H D I h) fun f s1 q => ?_)
  cases f with
  | next => exact wpAny_execs_nil q
  | ret v => exact q
  | brk => exact q
  | cont => exact q
theorem Inv.quiet {pins : List (Addr × Obj)} {σ : St} {H : Hp} {s : Shared} (I : Inv X pins σ H s) : interactive X.env = false := by simp [interactive, I.ok.kind]
def tDrop (te : TE) : TS := fun D σ H => te σ H fun _ H1 => D.nx σ H1
theorem ps_expr (he : PE X e te) (hs : swapsWith e none pos.line X.env = pure false := by rfl) : PS X (.Expr e pos) (tDrop te) := by
  intro pins s σ H D I h
  exact wpAny_Expr_any (thn (he pins s σ H _ I h) fun v s1 ⟨x, H1, I1, r1, q1⟩ => ⟨σ, H1, I1, q1⟩) I.quiet hs
def tRet (te : TE) : TS := fun D σ H => te σ H D.rt
theorem ps_ret (he : PE X e te) : PS X (.Return (some e) pos) (tRet te) := by
  intro pins s σ H D I h
  exact wpAny_Return_some (thn (he pins s σ H _ I h) fun v s1 ⟨x, H1, I1, r1, q1⟩ => ⟨x, σ, H1, I1, r1, q1⟩)
def tIfS (c : TT) (t u : TS) : TS := fun D σ H => c σ H fun b H1 => if b = true then t D σ H1 else u D σ H1
theorem ps_if {c : Expr} {a b : List Stmt} {tc : TT} (hc : PT X c tc) (ha : PSs X a t) (hb : PSs X b u) : PS X (.If c a b pos) (tIfS tc t u) := by
  intro pins s σ H D I h
  refine wpAny_If (thn (hc pins s σ H _ I h) fun d s1 ⟨H1, I1, q1⟩ => ?_)
  cases d with
  | true => exact ha pins s1 σ H1 D I1 q1
  | false => exact hb pins s1 σ H1 D I1 q1
end
abbrev TG := V → St → Hp → (St → Hp → Prop) → Prop
abbrev TGs := List V → St → Hp → (St → Hp → Prop) → Prop
def PG (X : Cx) (target : Expr) (t : TG) : Prop :=
  ∀ (pins : List (Addr × Obj)) (s : Shared) (σ : St) (H : Hp) (v : V) (u : Value) (Q : St → Hp → Prop), Inv X pins σ H s → RelV v u → t v σ H Q →
    wpAny (model X.prog X.w) X.A (assign target X.env u) (fun _ s' => ∃ σ' H', Inv X pins σ' H' s' ∧ Q σ' H') X.xe s
def PGs (X : Cx) (ts : List Expr) (t : TGs) : Prop :=
  ∀ (pins : List (Addr × Obj)) (s : Shared) (σ : St) (H : Hp) (vs : List V) (us : List Value) (Q : St → Hp → Prop), Inv X pins σ H s → Vals vs us → t vs σ H Q →
    wpAny (model X.prog X.w) X.A (assignInOrder ((assignEach ts X.env).map (·.2)) us) (fun _ s' => ∃ σ' H', Inv X pins σ' H' s' ∧ Q σ' H') X.xe s
section
variable {X : Cx} {pos : Pos}
def gName (i : Nat) : TG := fun v σ H Q => Q (σ.set i (some v)) H
theorem pg_name {i : Nat} {x : Str} (hN : X.N.Nodup) (hi : X.N[i]? = some x) (hx : Loc X.env.scope x) (hf : X.fn x = true ∨ X.env.scope.names.lookup x = some .local := by first | exact .inl rfl | exact .inr rfl | assumption) : PG X (.Name x pos) (gName i) := by
  intro pins s σ H v u Q I r h
  exact wpAny_assign_Name (store_ok I hN hi hx r (fun s' I' => ⟨_, H, I', h⟩) hf)
def gNil : TGs := fun vs σ H Q => vs = [] ∧ Q σ H
def gCons (t : TG) (u : TGs) : TGs := fun vs σ H Q => ∃ v r, vs = v :: r ∧ t v σ H fun σ' H' => u r σ' H' Q
theorem pgs_nil : PGs X [] gNil := by
  intro pins s σ H vs us Q I r h
  obtain ⟨e, h⟩ := h
  subst e
  cases r
  exact assignInOrder_nil ⟨σ, H, I, h⟩
theorem pgs_cons {e : Expr} {es : List Expr} {t : TG} {u : TGs} (h1 : PG X e t) (h2 : PGs X es u)
    (hs : (assignEach (e :: es) X.env).map (·.2) = assign e X.env :: (assignEach es X.env).map (·.2) := by rfl) : PGs X (e :: es) (gCons t u) := by
  intro pins s σ H vs us Q I r h
  obtain ⟨v, vr, e1, h⟩ := h
  subst e1
  cases r with
  | cons r rr =>
    rw [hs]
    refine assignInOrder_cons (thn (h1 pins s σ H _ _ _ I r h) fun _ s1 ⟨σ1, H1, I1, q1⟩ => ?_)
    exact h2 pins s1 σ1 H1 _ _ Q I1 rr q1
def gTup (K : PySem.W.Frag) (n : Nat) (t : TGs) : TG := fun v σ H Q => ∃ a xs, v = .ref a ∧ SqT K H a xs ∧ xs.length = n ∧ t xs σ H Q
theorem pg_tup {es : List Expr} {k : Nat} {t : TGs} {n : Nat} (hc : X.calm = true) (h : PGs X es t)
    (hn : (assignEach es X.env).length = n := by rfl) (hst : (assignEach es X.env).findIdx? (·.1) = none := by rfl) : PG X (.Tuple es k pos) (gTup X.K n t) := by
  intro pins s σ H v u Q I r hw
  obtain ⟨a, xs, e1, hq, hl, hw⟩ := hw
  subst e1
  cases r
  obtain ⟨its, rv, ht, hz⟩ := I.tuple hq
  refine assign_Tuple_tuple (I.ok.hd hc) ht (by simp [hn, ← hl, rv.length]) hst fun h' hx => ?_
  have I1 : Inv X pins σ H { s with heap := h' } := I.kept (t' := s.toks) fun b o e => hx b o (Nat.ne_of_lt (Heap.lt_size e)) e
  exact h pins _ σ H xs _ Q I1 (by simpa using rv) hw
def tAsg (te : TE) (g : TG) : TS := fun D σ H => te σ H fun x H1 => g x σ H1 D.nx
theorem ps_asg {tg e : Expr} {te : TE} {g : TG} (he : PE X e te) (hg : PG X tg g) (hs : swapsWithSole [tg] e pos.line X.env = pure false := by rfl) (hw : swappedStores [tg] e X.env = pure none := by rfl)
    (h1 : (assignEach [tg] X.env).map (·.2) = [assign tg X.env] := by rfl) : PS X (.Assign [tg] e pos) (tAsg te g) := by
  intro pins s σ H D I h
  refine wpAny_Assign_stores (thn (he pins s σ H _ I h) fun v s1 ⟨x, H1, I1, r1, q1⟩ => ?_) hs hw
  rw [h1]
  exact thn (hg pins s1 σ H1 x v _ I1 r1 q1) fun _ s2 q => q
theorem ps_set {i : Nat} {x : Str} {e : Expr} {te : TE} {pos' : Pos} (hN : X.N.Nodup) (hi : X.N[i]? = some x) (hx : Loc X.env.scope x) (he : PE X e te) (hs : swapsWith e (some (.Name x pos')) pos.line X.env = pure false := by rfl) (hf : X.fn x = true ∨ X.env.scope.names.lookup x = some .local := by first | exact .inl rfl | exact .inr rfl | assumption) :
    PS X (.Assign [.Name x pos'] e pos) (tAsg te (gName i)) := by
  intro pins s σ H D I h
  refine wpAny_Assign_Name (thn (he pins s σ H _ I h) fun v s1 ⟨y, H1, I1, r1, q1⟩ => ?_) hs
  exact store_ok I1 hN hi hx r1 (fun s2 I2 => ⟨_, H1, I2, q1⟩) hf
def tPar (i j : Nat) (ta : TA) : TS := fun D σ H => ta σ H fun vs H1 => ∃ v w, vs = [v, w] ∧ D.nx ((σ.set i (some v)).set j (some w)) H1
theorem ps_par {i j : Nat} {x y : Str} {a b : Expr} {ta : TA} {px py pt : Pos} {kt k2 pt2} (hc : X.calm = true) (hN : X.N.Nodup) (hi : X.N[i]? = some x) (hj : X.N[j]? = some y) (hij : i ≠ j)
    (hx : X.env.scope.names.lookup x = some .local) (hy : X.env.scope.names.lookup y = some .local) (ha : PA X [a, b] ta)
    (hw : swappedStores [.Tuple [.Name x px, .Name y py] kt pt] (.Tuple [a, b] k2 pt2) X.env = pure (some [x, y]))
    (hs : swapsWithSole [.Tuple [.Name x px, .Name y py] kt pt] (.Tuple [a, b] k2 pt2) pos.line X.env = pure false := by rfl) :
    PS X (.Assign [.Tuple [.Name x px, .Name y py] kt pt] (.Tuple [a, b] k2 pt2) pos) (tPar i j ta) := by
  intro pins s σ H D I h
  rw [exec_Assign_arm]
  refine wpAny_bind (wpAny_standAt ?_)
  rw [hs]
  refine wpAny_bind (wpAny_pure ?_)
  rw [if_neg (by decide)]
  refine wpAny_bind (Tuple_ (thn (ha _ pins s σ H _ I h) fun us s1 ⟨vs, H1, I1, r1, q1⟩ => ?_))
  obtain ⟨v, w, e1, q1⟩ := q1
  subst e1
  obtain ⟨u1, u2, rfl, rv, rw'⟩ : ∃ u1 u2, us = [u1, u2] ∧ RelV v u1 ∧ RelV w u2 := by
    cases r1 with
    | cons p q =>
      cases q with
      | cons p' q' =>
        cases q'
        exact ⟨_, _, rfl, p, p'⟩
  refine wpAny_newObj_type ?_ (by show 2 ≤ sizeLine; decide)
  have I2 : Inv X pins σ H1 { s1 with heap := s1.heap.push { cls := .type "tuple", data := .seq [u1, u2].toArray } } := I1.kept (t' := s1.toks) fun b o e => Heap.get?_push_of_some _ e
  rw [hw]
  refine wpAny_bind (wpAny_pure ?_)
  show wpAny (model X.prog X.w) X.A (do rule "assign.swapped-stores"; let items ← unpackItems (.ref s1.heap.objs.size) 2 none; assignInOrder [fun v => bindName X.env y v, fun v => bindName X.env x v] items.reverse; pure Flow.next) _ _ _
  refine wpAny_bind (wpAny_rule (wpAny_bind (unpackItems_tuple (items := #[u1, u2]) (I.ok.hd hc) (IsTup.new s1.heap _) fun h' hx' => ?_)))
  have I3 := I2.kept (h' := h') (t' := s1.toks) fun b o e => hx' b o (Nat.ne_of_lt (Heap.lt_size e)) e
  show wpAny _ _ (assignInOrder [fun v => bindName X.env y v, fun v => bindName X.env x v] [u2, u1] >>= fun _ => pure Flow.next) _ _ _
  refine wpAny_bind (assignInOrder_cons (wpAny_bindName (store_ok I3 hN hj (.inl hy) rw' (fun s2 I4 => ?_) (.inr hy))))
  refine assignInOrder_cons (wpAny_bindName (store_ok I4 hN hi (.inl hx) rv (fun s3 I5 => assignInOrder_nil (wpAny_pure ?_)) (.inr hx)))
  rw [List.set_comm _ _ (Ne.symm hij)] at I5
  exact ⟨_, H1, I5, q1⟩
end
section
variable {X : Cx} {pos : Pos}
def tWhile (c : TT) (tb : TS) : TS := fun D σ H => ∃ W : Nat → St → Hp → Prop, (∃ m, W m σ H) ∧ ∀ m σ H, W m σ H →
  c σ H fun b H1 => if b = true then ∃ N : St → Hp → Prop, (∀ σ' H', N σ' H' → ∃ m', m' < m ∧ W m' σ' H') ∧ tb { D with nx := N, ct := N, bk := D.nx } σ H1 else D.nx σ H1
theorem ps_while {c : Expr} {body : List Stmt} {tc : TT} {tb : TS} (hp : PassesOwn (model X.prog X.w) X.A X.env X.xe) (hc : PT X c tc) (hb : PSs X body tb) : PS X (.While c body [] pos) (tWhile tc tb) := by
  intro pins s σ H D I h
  obtain ⟨W, ⟨m0, w0⟩, turn⟩ := h
  refine wpAny_While (codeAny_whileLoop (fun n s' => ∃ σ' H', Inv X pins σ' H' s' ∧ W n σ' H') ?_ m0 ⟨σ, H, I, w0⟩)
  rintro n s1 ⟨σ1, H1, I1, w1⟩
  refine wpAny_passesOwn hp (thn (hc pins s1 σ1 H1 _ I1 (turn n σ1 H1 w1)) fun b s2 ⟨H2, I2, q2⟩ => ?_)
  cases b with
  | true =>
    obtain ⟨N, hN, q2⟩ := q2
    rw [if_pos rfl]
    refine wpAny_passesOwn hp (thn (hb pins s2 σ1 H2 _ I2 q2) fun f s3 q3 => ?_)
    cases f with
    | next =>
      obtain ⟨σ3, H3, I3, n3⟩ := q3
      obtain ⟨m', hm, w3⟩ := hN σ3 H3 n3
      exact ⟨m', hm, σ3, H3, I3, w3⟩
    | cont =>
      obtain ⟨σ3, H3, I3, n3⟩ := q3
      obtain ⟨m', hm, w3⟩ := hN σ3 H3 n3
      exact ⟨m', hm, σ3, H3, I3, w3⟩
    | brk => exact q3
    | ret v => exact q3
  | false =>
    rw [if_neg Bool.false_ne_true]
    exact wpAny_execs_nil ⟨σ1, H2, I2, q2⟩
end
structure It where
  go : Nat → Hp → Prop
  yld : Nat → Hp → V → Hp → Prop
  stop : Nat → Hp → Prop
def FpOk (X : Cx) (pins : List (Addr × Obj)) (H : Hp) (b : Addr) : Prop :=
  H b = none ∧ b ≠ X.env.locals ∧ b ∉ X.fs ∧ (b ∈ X.ex ∨ X.s₀.heap.objs.size ≤ b) ∧ (∀ x c, X.env.cells.lookup x = some c → c ≠ b) ∧ ∀ p ∈ X.pn ++ pins, p.1 ≠ b
theorem Inv.fpOk {X : Cx} {pins : List (Addr × Obj)} {σ : St} {H H' : Hp} {s : Shared} {b : Addr} (I : Inv X pins σ H s) (hb : s.heap.objs.size ≤ b) (hn : H' b = none) : FpOk X pins H' b := by
  refine ⟨hn, Nat.ne_of_gt (Nat.lt_of_lt_of_le I.lt hb), I.nofs hb, .inr (Nat.le_trans I.sz hb), fun x c e z => ?_, fun p hp z => ?_⟩
  · obtain ⟨v, q⟩ := I.cell x c e
    exact absurd (Nat.lt_of_lt_of_le q.lt (by rw [z]; exact hb)) (Nat.lt_irrefl _)
  · exact absurd (Nat.lt_of_lt_of_le (Heap.lt_size (I.pin p hp).1) (by rw [z]; exact hb)) (Nat.lt_irrefl _)
structure Turn (P : Program) (w : World) (K : PySem.W.Frag) (tg : Expr) (J : It) (fp : List Addr) (it : Addr) (tn : Nat → Heap → Prop) : Prop where
  mem : it ∈ fp
  obj : ∀ i h, tn i h → ∀ b ∈ fp, ∃ o, h.get? b = some o ∧ ∀ v, o.data ≠ .cell v
  keep : ∀ i h h', tn i h → (∀ b ∈ fp, ∀ o, h.get? b = some o → h'.get? b = some o) → tn i h'
  item : ∀ (X : Cx), X.prog = P → X.w = w → X.K = K → X.calm = true → ∀ (i : Nat) (pins : List (Addr × Obj)) (s : Shared) (σ : St) (H : Hp) (E : Value → Shared → Prop), Inv X pins σ H s → (∀ b ∈ fp, FpOk X pins H b) → tn i s.heap → J.go i H →
    wpAny (model P w) X.A (pyNext (.ref it)) (fun r s1 => ∃ u, r = some u ∧
      wpAny (model P w) X.A (letOwnedTupleGo tg (.ref it) u) (fun _ s2 => ∃ x H', Inv X pins σ H' s2 ∧ RelV x u ∧ J.yld i H x H' ∧ tn (i + 1) s2.heap ∧ ∀ b ∈ fp, H' b = none) E s1) E s
  done : ∀ (X : Cx), X.prog = P → X.w = w → X.K = K → X.calm = true → ∀ (i : Nat) (pins : List (Addr × Obj)) (s : Shared) (σ : St) (H : Hp) (E : Value → Shared → Prop), Inv X pins σ H s → (∀ b ∈ fp, FpOk X pins H b) → tn i s.heap → J.stop i H →
    wpAny (model P w) X.A (pyNext (.ref it)) (fun r s1 => r = none ∧ Inv X pins σ H s1) E s
  self : ∀ (A : Around) (i : Nat) (s : Shared) (Q : Value → Shared → Prop) (E : Value → Shared → Prop), tn i s.heap → Q (.ref it) s → wpAny (model P w) A (pyIter (.ref it)) Q E s
abbrev TI := St → Hp → (It → Hp → Prop) → Prop
def PIE (X : Cx) (pins : List (Addr × Obj)) (σ : St) (tg : Expr) (R : It → Hp → Prop) (itv : Value) (s2 : Shared) : Prop :=
  ∃ (it : Addr) (fp : List Addr) (tn : Nat → Heap → Prop) (J : It) (H' : Hp), itv = .ref it ∧ Inv X pins σ H' s2 ∧ Turn X.prog X.w X.K tg J fp it tn ∧ tn 0 s2.heap ∧ (∀ b ∈ fp, FpOk X pins H' b) ∧ R J H'
def PI (X : Cx) (tg iter : Expr) (wi : TI) : Prop :=
  ∀ (pins : List (Addr × Obj)) (s : Shared) (σ : St) (H : Hp) (R : It → Hp → Prop), Inv X pins σ H s → wi σ H R →
    wpAny (model X.prog X.w) X.A (eval iter X.env) (fun v s1 => wpAny (model X.prog X.w) X.A (pyIter v) (PIE X pins σ tg R) X.xe s1) X.xe s
theorem go_of {M : Model} {A : Around} {E : Value → Shared → Prop} {s : Shared} {tg : Expr} {it : Addr} {u : Value} {o : Obj} {n : String} {vs : Array Value} {Q : Unit → Shared → Prop} (ho : s.heap.get? it = some o) (hc : o.cls = .type n) (hd : o.data = .fields vs)
    (hn : ["enumerate", "zip", "dict_itemiterator", "dict_reverseitemiterator", "odict_iterator", "itertools.zip_longest", "itertools.pairwise"].contains n = false) (hQ : Q () s) : wpAny M A (letOwnedTupleGo tg (.ref it) u) Q E s := by
  unfold letOwnedTupleGo
  cases tg <;> first
    | exact wpAny_pure hQ
    | (cases u <;> first
        | exact wpAny_pure hQ
        | (refine wpAny_bind (wpAny_load ho ?_)
           rw [hc, hd]
           show wpAny M A (if (["enumerate", "zip", "dict_itemiterator", "dict_reverseitemiterator", "odict_iterator", "itertools.zip_longest", "itertools.pairwise"].contains n && vs[0]? == some (rawInt _)) = true then _ else _) Q E s
           rw [if_neg (by intro h; rw [hn, Bool.false_and] at h; cases h)]
           exact wpAny_pure hQ))
def Itl (K : PySem.W.Frag) (a : Addr) : It :=
  ⟨fun i H => ∃ xs x, SqL K H a xs ∧ xs[i]? = some x, fun i H x H' => H' = H ∧ ∀ xs, SqL K H a xs → xs[i]? = some x, fun i H => ∃ xs, SqL K H a xs ∧ xs.length ≤ i⟩
def Itt (K : PySem.W.Frag) (a : Addr) : It :=
  ⟨fun i H => ∃ xs x, SqT K H a xs ∧ xs[i]? = some x, fun i H x H' => H' = H ∧ ∀ xs, SqT K H a xs → xs[i]? = some x, fun i H => ∃ xs, SqT K H a xs ∧ xs.length ≤ i⟩
def Itr (lo : Int) (n : Nat) : It := ⟨fun i _ => i < n, fun i H x H' => H' = H ∧ x = .int (lo + i), fun i _ => n ≤ i⟩
theorem turn_list {P : Program} {w : World} {K : PySem.W.Frag} {tg : Expr} (a it : Addr) : Turn P w K tg (Itl K a) [it] it (fun i h => h.IsListIter it a i) where
  mem := by simp
  obj := fun i h st b hb => by
    have e : b = it := by simpa using hb
    subst e
    obtain ⟨o, e, c, d⟩ := st
    exact ⟨o, e, fun v z => by rw [d] at z; cases z⟩
  keep := fun i h h' st k => st.at fun o e => k it (by simp) o e
  item := by
    intro X hP hw hK hc i pins s σ H E I hf st hg
    subst hP hw hK
    obtain ⟨xs, x, hq, hx⟩ := hg
    obtain ⟨its, rv, p, hz⟩ := I.list hq
    obtain ⟨u, hu, ru⟩ := rv.get hx
    obtain ⟨f0, f1, f2, f3, f4, f5⟩ := hf it (by simp)
    refine wpAny_pyNext_list_item st p.isList (x := u) (by simpa using hu) fun h' st' sb => ?_
    have I1 : Inv X pins σ H { s with heap := h' } := I.turned (t' := s.toks) (fun b o hb e => (sb.2 b hb).trans e) f0 f1 f3 f4 f5
    obtain ⟨o, e, c, d⟩ := id st'
    exact ⟨u, rfl, go_of (s := { s with heap := h' }) e c d (by decide) ⟨x, H, I1, ru, ⟨rfl, fun ys hy => by rw [I.list_inj hy hq]; exact hx⟩, st', fun b hb => (hf b hb).1⟩⟩
  done := by
    intro X hP hw hK hc i pins s σ H E I hf st hg
    subst hP hw hK
    obtain ⟨xs, hq, hx⟩ := hg
    obtain ⟨its, rv, p, hz⟩ := I.list hq
    obtain ⟨f0, f1, f2, f3, f4, f5⟩ := hf it (by simp)
    have hl := rv.length
    exact wpAny_pyNext_list_end (I.ok.hd hc) st p.isList (by simp; omega) fun h' eb => ⟨rfl, I.turned (t' := s.toks) (fun b o hb e => eb b o hb e) f0 f1 f3 f4 f5⟩
  self := fun _ _ _ _ _ st h => wpAny_pyIter_listiter st h
theorem turn_tuple {P : Program} {w : World} {K : PySem.W.Frag} {tg : Expr} (a it : Addr) : Turn P w K tg (Itt K a) [it] it (fun i h => h.IsTupleIter it a i) where
  mem := by simp
  obj := fun i h st b hb => by
    have e : b = it := by simpa using hb
    subst e
    obtain ⟨o, e, c, d⟩ := st
    exact ⟨o, e, fun v z => by rw [d] at z; cases z⟩
  keep := fun i h h' st k => st.at fun o e => k it (by simp) o e
  item := by
    intro X hP hw hK hc i pins s σ H E I hf st hg
    subst hP hw hK
    obtain ⟨xs, x, hq, hx⟩ := hg
    obtain ⟨its, rv, p, hz⟩ := I.tuple hq
    obtain ⟨u, hu, ru⟩ := rv.get hx
    obtain ⟨f0, f1, f2, f3, f4, f5⟩ := hf it (by simp)
    refine wpAny_pyNext_tuple_item st (show s.heap.IsTuple a its.toArray from p) (x := u) (by simpa using hu) fun h' st' sb => ?_
    have I1 : Inv X pins σ H { s with heap := h' } := I.turned (t' := s.toks) (fun b o hb e => (sb.2 b hb).trans e) f0 f1 f3 f4 f5
    obtain ⟨o, e, c, d⟩ := id st'
    exact ⟨u, rfl, go_of (s := { s with heap := h' }) e c d (by decide) ⟨x, H, I1, ru, ⟨rfl, fun ys hy => by rw [I.tuple_inj hy hq]; exact hx⟩, st', fun b hb => (hf b hb).1⟩⟩
  done := by
    intro X hP hw hK hc i pins s σ H E I hf st hg
    subst hP hw hK
    obtain ⟨xs, hq, hx⟩ := hg
    obtain ⟨its, rv, p, hz⟩ := I.tuple hq
    obtain ⟨f0, f1, f2, f3, f4, f5⟩ := hf it (by simp)
    have hl := rv.length
    exact wpAny_pyNext_tuple_end (I.ok.hd hc) st (show s.heap.IsTuple a its.toArray from p) (by simp; omega) fun h' eb => ⟨rfl, I.turned (t' := s.toks) (fun b o hb e => eb b o hb e) f0 f1 f3 f4 f5⟩
  self := fun _ _ _ _ _ st h => wpAny_pyIter_tupleiter st h
theorem turn_range {P : Program} {w : World} {K : PySem.W.Frag} {tg : Expr} (it : Addr) (lo : Int) (n : Nat) : Turn P w K tg (Itr lo n) [it] it (fun i h => IsRangeIter h it (lo + (i : Nat) * 1) ((n : Int) - (i : Nat)) 1) where
  mem := by simp
  obj := fun i h st b hb => by
    have e : b = it := by simpa using hb
    subst e
    exact ⟨_, st, fun v z => by
      have z' : Data.fields _ = Data.cell v := z
      cases z'⟩
  keep := fun i h h' st k => k it (by simp) _ st
  item := by
    intro X hP hw hK hc i pins s σ H E I hf st hg
    subst hP hw hK
    obtain ⟨f0, f1, f2, f3, f4, f5⟩ := hf it (by simp)
    have W := Walks.range (prog := X.prog) (w := X.w) (I.ok.hd hc) it lo 1 n
    refine W.item i s _ _ hg st fun v h' tk hv st' kk => ?_
    obtain ⟨t, rfl⟩ := hv
    have I1 : Inv X pins σ H { s with heap := h', toks := tk } := I.turned (fun b o hb e => kk b o (by simpa using hb) e) f0 f1 f3 f4 f5
    refine ⟨_, rfl, go_of (s := { s with heap := h', toks := tk }) (n := "range_iterator") st' rfl rfl (by decide) ⟨.int (lo + i), H, I1, ⟨t, ?_⟩, ⟨rfl, rfl⟩, st', fun b hb => (hf b hb).1⟩⟩
    rw [Int.mul_one]
  done := by
    intro X hP hw hK hc i pins s σ H E I hf st hg
    subst hP hw hK
    obtain ⟨f0, f1, f2, f3, f4, f5⟩ := hf it (by simp)
    exact wpAny_pyNext_range_end (I.ok.hd hc) st (by have : n ≤ i := hg; omega) fun h' eb => ⟨rfl, I.turned (t' := s.toks) (fun b o hb e => eb b o hb e) f0 f1 f3 f4 f5⟩
  self := fun _ _ _ _ _ st h => wpAny_pyIter_rangeiter st h
end L2
namespace L2
open PySem PySem.Spec PyProof.Rows
section
variable {X : Cx} {tg : Expr}
def iList (K : PySem.W.Frag) (tl : TE) : TI := fun σ H R => tl σ H fun x H1 => ∃ a, x = .ref a ∧ (∃ xs, SqL K H1 a xs) ∧ R (Itl K a) H1
def iTup (K : PySem.W.Frag) (tl : TE) : TI := fun σ H R => tl σ H fun x H1 => ∃ a, x = .ref a ∧ (∃ xs, SqT K H1 a xs) ∧ R (Itt K a) H1
theorem pi_list {l : Expr} {tl : TE} (hl : PE X l tl) : PI X tg l (iList X.K tl) := by
  intro pins s σ H R I h
  refine thn (hl pins s σ H _ I h) fun v s1 ⟨x, H1, I1, r1, q1⟩ => ?_
  obtain ⟨a, e, ⟨xs, hq⟩, q⟩ := q1
  subst e
  cases r1
  obtain ⟨its, rv, p, hz⟩ := I1.list hq
  refine wpAny_pyIter_list p.isList ?_
  refine ⟨s1.heap.objs.size, [s1.heap.objs.size], _, _, H1, rfl, I1.kept (t' := s1.toks) fun b o e => Heap.get?_push_of_some _ e, turn_list a _, ⟨_, Heap.get?_push_size _ rfl, rfl, rfl⟩, fun b hb => ?_, q⟩
  have e : b = s1.heap.objs.size := by simpa using hb
  subst e
  exact I1.fpOk (Nat.le_refl _) (I1.hok.fresh (Nat.le_refl _))
theorem pi_tup {l : Expr} {tl : TE} (hl : PE X l tl) : PI X tg l (iTup X.K tl) := by
  intro pins s σ H R I h
  refine thn (hl pins s σ H _ I h) fun v s1 ⟨x, H1, I1, r1, q1⟩ => ?_
  obtain ⟨a, e, ⟨xs, hq⟩, q⟩ := q1
  subst e
  cases r1
  obtain ⟨its, rv, p, hz⟩ := I1.tuple hq
  refine wpAny_pyIter_tuple (show s1.heap.IsTuple a its.toArray from p) ?_
  refine ⟨s1.heap.objs.size, [s1.heap.objs.size], _, _, H1, rfl, I1.kept (t' := s1.toks) fun b o e => Heap.get?_push_of_some _ e, turn_tuple a _, ⟨_, Heap.get?_push_size _ rfl, rfl, rfl⟩, fun b hb => ?_, q⟩
  have e : b = s1.heap.objs.size := by simpa using hb
  subst e
  exact I1.fpOk (Nat.le_refl _) (I1.hok.fresh (Nat.le_refl _))
theorem range_it {pins : List (Addr × Obj)} {σ : St} {H : Hp} {s : Shared} {R : It → Hp → Prop} {E : Value → Shared → Prop} {lo hi : Int} {t u v : Tok} {tk : Nat} (I : Inv X pins σ H s) (h1 : -(2 ^ 62) ≤ lo) (h2 : lo < 2 ^ 62) (h3 : -(2 ^ 62) ≤ hi) (h4 : hi < 2 ^ 62)
    (q : R (Itr lo (hi - lo).toNat) H) : wpAny (model X.prog X.w) X.A (pyIter (.ref s.heap.objs.size)) (PIE X pins σ tg R) E { s with heap := s.heap.push { cls := .type "range", data := .fields #[.int lo t, .int hi u, .int 1 v] }, toks := tk } := by
  refine wpAny_pyIter_range (IsRange.new ..) (small_one h1 h2 h3 h4) ?_
  have I1 : Inv X pins σ H { s with heap := s.heap.push { cls := .type "range", data := .fields #[.int lo t, .int hi u, .int 1 v] }, toks := tk } := I.kept fun b o e => Heap.get?_push_of_some _ e
  refine ⟨(s.heap.push { cls := .type "range", data := .fields #[.int lo t, .int hi u, .int 1 v] }).objs.size, [(s.heap.push { cls := .type "range", data := .fields #[.int lo t, .int hi u, .int 1 v] }).objs.size], _, _, H, rfl,
    I1.kept (t' := tk) fun b o e => Heap.get?_push_of_some _ e, turn_range _ lo (hi - lo).toNat, ?_, fun b hb => ?_, q⟩
  · have e1 : lo + ((0 : Nat) : Int) * 1 = lo := by simp
    have e2 : (((hi - lo).toNat : Nat) : Int) - ((0 : Nat) : Int) = Builtin.Range.rangeSize lo hi 1 := by rw [rangeSize_one]; split <;> omega
    show IsRangeIter _ _ (lo + ((0 : Nat) : Int) * 1) ((((hi - lo).toNat : Nat) : Int) - ((0 : Nat) : Int)) 1
    rw [e1, e2]
    exact Heap.get?_push_size _ rfl
  · have e : b = (s.heap.push { cls := .type "range", data := .fields #[.int lo t, .int hi u, .int 1 v] }).objs.size := by simpa using hb
    subst e
    exact I1.fpOk (Nat.le_refl _) (I1.hok.fresh (Nat.le_refl _))
def iRng1 (ta : TA) : TI := fun σ H R => ta σ H fun vs H1 => ∃ j : Int, vs = [.int j] ∧ -(2 ^ 62) ≤ j ∧ j < 2 ^ 62 ∧ R (Itr 0 j.toNat) H1
def iRng2 (ta : TA) : TI := fun σ H R => ta σ H fun vs H1 => ∃ i j : Int, vs = [.int i, .int j] ∧ (-(2 ^ 62) ≤ i ∧ i < 2 ^ 62 ∧ -(2 ^ 62) ≤ j ∧ j < 2 ^ 62) ∧ R (Itr i (j - i).toNat) H1
theorem pi_range1 {a : Expr} {ta : TA} {p pos : Pos} (hg : Gl X "range") (hm : X.mg "range" = none) (ha : PA X [a] ta) (hs : starEach [a] X.env = [(false, eval a X.env)] := by rfl) : PI X tg (.Call (.Name "range" p) [a] [] pos) (iRng1 ta) := by
  intro pins s σ H R I h
  refine Call_ (ld_blt I hg hm boot_range (PyProof.Rows.callWith_type1 (thn (ha pos pins s σ H _ I h) fun us s1 ⟨vs, H1, I1, r1, q1⟩ => ?_) hs rfl))
  obtain ⟨j, e, q1, q2, q⟩ := q1
  subst e
  cases r1 with
  | cons r rr =>
    cases rr
    obtain ⟨t, rfl⟩ := r
    exact call_range_1 (range_it I1 (by omega) (by omega) q1 q2 (by simpa using q))
theorem pi_range2 {a b : Expr} {ta : TA} {p pos : Pos} (hg : Gl X "range") (hm : X.mg "range" = none) (ha : PA X [a, b] ta) (hs : starEach [a, b] X.env = [(false, eval a X.env), (false, eval b X.env)] := by rfl) (hs2 : starEach [b] X.env = [(false, eval b X.env)] := by rfl) :
    PI X tg (.Call (.Name "range" p) [a, b] [] pos) (iRng2 ta) := by
  intro pins s σ H R I h
  refine Call_ (ld_blt I hg hm boot_range (PyProof.Rows.callWith_type1 (thn (ha pos pins s σ H _ I h) fun us s1 ⟨vs, H1, I1, r1, q1⟩ => ?_) (by rw [hs, hs2]) (by rw [hs2]; rfl)))
  obtain ⟨i, j, e, ⟨q1, q2, q3, q4⟩, q⟩ := q1
  subst e
  cases r1 with
  | cons r rr =>
    cases rr with
    | cons r' rr =>
      cases rr
      obtain ⟨t, rfl⟩ := r
      obtain ⟨t', rfl⟩ := r'
      exact call_range_2 (range_it I1 q1 q2 q3 q4 q)
def tFor (wi : TI) (g : TG) (tb : TS) : TS := fun D σ H => wi σ H fun J H1 => ∃ W : Nat → Nat → St → Hp → Prop, (∃ m, W 0 m σ H1) ∧ ∀ i m σ H, W i m σ H →
  (J.stop i H ∧ D.nx σ H) ∨ (J.go i H ∧ ∃ N : St → Hp → Prop, (∀ σ' H', N σ' H' → ∃ m', m' < m ∧ W (i + 1) m' σ' H') ∧ ∀ x H', J.yld i H x H' → g x σ H' fun σ2 H2 => tb { D with nx := N, ct := N, bk := D.nx } σ2 H2)
def pinsAt (fp : List Addr) (h : Heap) : List (Addr × Obj) := fp.filterMap fun b => (h.get? b).map fun o => (b, o)
theorem mem_pinsAt {fp : List Addr} {h : Heap} {b : Addr} {o : Obj} (hb : b ∈ fp) (e : h.get? b = some o) : (b, o) ∈ pinsAt fp h := List.mem_filterMap.mpr ⟨b, hb, by rw [e]; rfl⟩
theorem of_pinsAt {fp : List Addr} {h : Heap} {p : Addr × Obj} (hp : p ∈ pinsAt fp h) : p.1 ∈ fp ∧ h.get? p.1 = some p.2 := by
  obtain ⟨b, hb, e⟩ := List.mem_filterMap.mp hp
  cases q : h.get? b with
  | none => rw [q] at e; cases e
  | some o =>
    rw [q] at e
    have e' : (b, o) = p := Option.some.inj e
    subst e'
    exact ⟨hb, q⟩
theorem Inv.pinned {pins : List (Addr × Obj)} {σ : St} {H : Hp} {s : Shared} {fp : List Addr} (I : Inv X pins σ H s) (hf : ∀ b ∈ fp, FpOk X pins H b) (ho : ∀ b ∈ fp, ∃ o, s.heap.get? b = some o ∧ ∀ v, o.data ≠ .cell v) : Inv X (pins ++ pinsAt fp s.heap) σ H s :=
  I.pins_of fun p hp => (List.mem_append.mp hp).elim (fun z => I.pin p (List.mem_append_right _ z)) fun z => by
    obtain ⟨hb, e⟩ := of_pinsAt z
    obtain ⟨f0, f1, f2, _⟩ := hf p.1 hb
    obtain ⟨o, e', d⟩ := ho p.1 hb
    rw [e] at e'; cases e'
    exact ⟨e, f0, f1, f2, d⟩
theorem Inv.unpinned {pins pl : List (Addr × Obj)} {σ : St} {H : Hp} {s : Shared} (I : Inv X (pins ++ pl) σ H s) : Inv X pins σ H s := I.pins_of fun p hp => I.pin p (List.mem_append_right _ (List.mem_append_left _ hp))
theorem ps_for {iter : Expr} {body : List Stmt} {wi : TI} {g : TG} {tb : TS} {pos : Pos} (hp : PassesOwn (model X.prog X.w) X.A X.env X.xe) (hc : X.calm = true) (hi : PI X tg iter wi) (hg : PG X tg g) (hb : PSs X body tb)
    (hs : ∀ x, foldedSetIterable iter X.env x = pure x := by intro _; rfl) : PS X (.For tg iter body [] pos) (tFor wi g tb) := by
  intro pins s σ H D I h
  refine wpAny_For (thn (hi pins s σ H _ I h) fun v s1 h1 => thn h1 fun itv s2 h2 => ?_) hs
  obtain ⟨it, fp, tn, J, H2, e, I2, T, st2, f2, W, ⟨m0, w0⟩, turn⟩ := h2
  subst e
  -- what stays true of the iterator's objects through the loop
  have stat : ∀ {H' : Hp}, (∀ b ∈ fp, H' b = none) → ∀ b ∈ fp, FpOk X pins H' b := fun hn b hb => ⟨hn b hb, (f2 b hb).2⟩
  refine codeAny_forLoop_any (fun n s' => ∃ i σ' H', Inv X pins σ' H' s' ∧ tn i s'.heap ∧ (∀ b ∈ fp, H' b = none) ∧ W i n σ' H') ?_ m0 ⟨0, σ, H2, I2, st2, fun b hb => (f2 b hb).1, w0⟩
  rintro n s3 ⟨i, σ3, H3, I3, st3, fr3, w3⟩
  rcases turn i n σ3 H3 w3 with ⟨stop, qn⟩ | ⟨go, N, hN, step⟩
  · refine wpAny_passesOwn hp (thn (T.done X rfl rfl rfl hc i pins s3 σ3 H3 X.xe I3 (stat fr3) st3 stop) fun r s4 ⟨hr, I4⟩ => ?_)
    subst hr
    exact wpAny_execs_nil ⟨σ3, H3, I4, qn⟩
  · refine wpAny_passesOwn hp (thn (T.item X rfl rfl rfl hc i pins s3 σ3 H3 X.xe I3 (stat fr3) st3 go) fun r s4 ⟨u, hr, h4⟩ => ?_)
    subst hr
    refine wpAny_passesOwn hp (thn h4 fun _ s5 ⟨x, H5, I5, r5, y5, st5, fr5⟩ => ?_)
    have I5' := I5.pinned (stat fr5) (T.obj _ _ st5)
    refine wpAny_passesOwn hp (thn (hg _ s5 σ3 H5 x u _ I5' r5 (step x H5 y5)) fun _ s6 ⟨σ6, H6, I6, q6⟩ => ?_)
    refine wpAny_passesOwn hp (thn (hb _ s6 σ6 H6 _ I6 q6) fun f s7 q7 => ?_)
    have again : ∀ {σ7 : St} {H7 : Hp}, Inv X (pins ++ pinsAt fp s5.heap) σ7 H7 s7 → N σ7 H7 → ∃ m, m < n ∧ ∃ i σ' H', Inv X pins σ' H' s7 ∧ tn i s7.heap ∧ (∀ b ∈ fp, H' b = none) ∧ W i m σ' H' := fun {σ7 H7} I7 n7 => by
      obtain ⟨m', hm, w7⟩ := hN σ7 H7 n7
      refine ⟨m', hm, i + 1, σ7, H7, I7.unpinned, T.keep _ _ _ st5 fun b hb o e => (I7.pin (b, o) (List.mem_append_right _ (List.mem_append_right _ (mem_pinsAt hb e)))).1, fun b hb => ?_, w7⟩
      obtain ⟨o, e, d⟩ := T.obj _ _ st5 b hb
      exact (I7.pin (b, o) (List.mem_append_right _ (List.mem_append_right _ (mem_pinsAt hb e)))).2.1
    cases f with
    | next => obtain ⟨σ7, H7, I7, n7⟩ := q7; exact again I7 n7
    | cont => obtain ⟨σ7, H7, I7, n7⟩ := q7; exact again I7 n7
    | brk => obtain ⟨σ7, H7, I7, q7⟩ := q7; exact ⟨σ7, H7, I7.unpinned, q7⟩
    | ret v => obtain ⟨x7, σ7, H7, I7, r7, q7⟩ := q7; exact ⟨x7, σ7, H7, I7.unpinned, r7, q7⟩
end
theorem for_list {K : PySem.W.Frag} {a : Addr} {xs : List V} {g : TG} {tb : TS} {D : Ends} {σ : St} {H : Hp} (Pv : Nat → St → Hp → Prop) (h0 : Pv 0 σ H) (hl : ∀ i σ H, i ≤ xs.length → Pv i σ H → SqL K H a xs)
    (hs : ∀ i x σ H, xs[i]? = some x → Pv i σ H → g x σ H fun σ2 H2 => tb { D with nx := Pv (i + 1), ct := Pv (i + 1), bk := D.nx } σ2 H2) (hd : ∀ σ H, Pv xs.length σ H → D.nx σ H) :
    ∃ W : Nat → Nat → St → Hp → Prop, (∃ m, W 0 m σ H) ∧ ∀ i m σ H, W i m σ H →
      ((Itl K a).stop i H ∧ D.nx σ H) ∨ ((Itl K a).go i H ∧ ∃ N : St → Hp → Prop, (∀ σ' H', N σ' H' → ∃ m', m' < m ∧ W (i + 1) m' σ' H') ∧ ∀ x H', (Itl K a).yld i H x H' → g x σ H' fun σ2 H2 => tb { D with nx := N, ct := N, bk := D.nx } σ2 H2) := by
  refine ⟨fun i m σ H => m = xs.length - i ∧ i ≤ xs.length ∧ Pv i σ H, ⟨xs.length, by simp, Nat.zero_le _, h0⟩, ?_⟩
  rintro i m σ H ⟨rfl, hi, p⟩
  have q := hl i σ H hi p
  by_cases hlt : i < xs.length
  · refine .inr ⟨⟨xs, xs[i], q, by simp [hlt]⟩, Pv (i + 1), fun σ' H' p' => ⟨xs.length - (i + 1), by omega, rfl, hlt, p'⟩, fun x H' y => ?_⟩
    obtain ⟨e, y⟩ := y
    subst e
    exact hs i x σ _ (y xs q) p
  · have e : i = xs.length := by omega
    subst e
    exact .inl ⟨⟨xs, q, Nat.le_refl _⟩, hd σ H p⟩
theorem for_range {lo : Int} {n : Nat} {g : TG} {tb : TS} {D : Ends} {σ : St} {H : Hp} (Pv : Nat → St → Hp → Prop) (h0 : Pv 0 σ H)
    (hs : ∀ i σ H, i < n → Pv i σ H → g (.int (lo + i)) σ H fun σ2 H2 => tb { D with nx := Pv (i + 1), ct := Pv (i + 1), bk := D.nx } σ2 H2) (hd : ∀ σ H, Pv n σ H → D.nx σ H) :
    ∃ W : Nat → Nat → St → Hp → Prop, (∃ m, W 0 m σ H) ∧ ∀ i m σ H, W i m σ H →
      ((Itr lo n).stop i H ∧ D.nx σ H) ∨ ((Itr lo n).go i H ∧ ∃ N : St → Hp → Prop, (∀ σ' H', N σ' H' → ∃ m', m' < m ∧ W (i + 1) m' σ' H') ∧ ∀ x H', (Itr lo n).yld i H x H' → g x σ H' fun σ2 H2 => tb { D with nx := N, ct := N, bk := D.nx } σ2 H2) := by
  refine ⟨fun i m σ H => m = n - i ∧ i ≤ n ∧ Pv i σ H, ⟨n, by simp, Nat.zero_le _, h0⟩, ?_⟩
  rintro i m σ H ⟨rfl, hi, p⟩
  by_cases hlt : i < n
  · refine .inr ⟨hlt, Pv (i + 1), fun σ' H' p' => ⟨n - (i + 1), by omega, rfl, hlt, p'⟩, fun x H' y => ?_⟩
    obtain ⟨e, y⟩ := y
    subst e y
    exact hs i σ _ hlt p
  · have e : i = n := by omega
    subst e
    exact .inl ⟨Nat.le_refl _, hd σ H p⟩
end L2
namespace L2
open PySem PySem.Spec PyProof.Rows
abbrev R2 := V → V → Hp → VK → Prop
def OpR (X : Cx) (f : Value → Value → Sem Value) (r : R2) : Prop :=
  ∀ (pins : List (Addr × Obj)) (s : Shared) (σ : St) (H : Hp) (x y : V) (v u : Value) (Q : VK), Inv X pins σ H s → RelV x v → RelV y u → r x y H Q →
    wpAny (model X.prog X.w) X.A (f v u) (EP X pins σ Q) X.xe s
def UnR (X : Cx) (f : Value → Sem Value) (r : V → Hp → VK → Prop) : Prop :=
  ∀ (pins : List (Addr × Obj)) (s : Shared) (σ : St) (H : Hp) (x : V) (v : Value) (Q : VK), Inv X pins σ H s → RelV x v → r x H Q →
    wpAny (model X.prog X.w) X.A (f v) (EP X pins σ Q) X.xe s
def CallR (X : Cx) (f : Value) (r : List V → Hp → VK → Prop) : Prop :=
  ∀ (pins : List (Addr × Obj)) (s : Shared) (σ : St) (H : Hp) (xs : List V) (us : List Value) (Q : VK), Inv X pins σ H s → Vals xs us → r xs H Q →
    wpAny (model X.prog X.w) X.A (call f us) (EP X pins σ Q) X.xe s
def tOp (r : R2) (ta tb : TE) : TE := fun σ H Q => ta σ H fun x H1 => tb σ H1 fun y H2 => r x y H2 Q
def tUn (r : V → Hp → VK → Prop) (ta : TE) : TE := fun σ H Q => ta σ H fun x H1 => r x H1 Q
def rI (C : Int → Int → Prop) (g : Int → Int → V) : R2 := fun x y H Q => ∃ i j, x = .int i ∧ y = .int j ∧ C i j ∧ Q (g i j) H
def rI0 (g : Int → Int → V) : R2 := fun x y H Q => ∃ i j, x = .int i ∧ y = .int j ∧ Q (g i j) H
def rU (g : Int → V) : V → Hp → VK → Prop := fun x H Q => ∃ i, x = .int i ∧ Q (g i) H
section
variable {X : Cx} {a b c : Expr} {ta tb tc : TE} {pos : Pos}
theorem binT (ha : PE X a ta) (hb : PE X b tb) {pins : List (Addr × Obj)} {s : Shared} {σ : St} {H : Hp} {R : V → V → Hp → Prop} (I : Inv X pins σ H s)
    (h : ta σ H fun x H1 => tb σ H1 fun y H2 => R x y H2) {Q : Value → Shared → Prop} {f : Value → Value → Sem Value}
    (hf : ∀ v u s2 x y H2, Inv X pins σ H2 s2 → RelV x v → RelV y u → R x y H2 → wpAny (model X.prog X.w) X.A (f v u) Q X.xe s2) :
    wpAny (model X.prog X.w) X.A (eval a X.env) (fun v s₁ => wpAny (model X.prog X.w) X.A (eval b X.env) (fun u s₂ => wpAny (model X.prog X.w) X.A (f v u) Q X.xe s₂) X.xe s₁) X.xe s := by
  refine thn (ha pins s σ H _ I h) fun v s1 ⟨x, H1, I1, r1, q1⟩ => ?_
  refine thn (hb pins s1 σ H1 _ I1 q1) fun u s2 ⟨y, H2, I2, r2, q2⟩ => ?_
  exact hf v u s2 x y H2 I2 r1 r2 q2
theorem pe_op {op : Operator} {r : R2} (ho : OpR X (binaryOp op) r) (ha : PE X a ta) (hb : PE X b tb) : PE X (.BinOp a op b pos) (tOp r ta tb) := by
  intro pins s σ H Q I h
  exact wpAny_BinOp (binT ha hb I h fun v u s2 x y H2 I2 rx ry q => ho pins s2 σ H2 x y v u Q I2 rx ry q)
theorem pe_un {op : UnaryOp} {r : V → Hp → VK → Prop} (ho : UnR X (unaryOp op) r) (ha : PE X a ta) : PE X (.UnaryOp op a pos) (tUn r ta) := by
  intro pins s σ H Q I h
  exact UnaryOp_ (thn (ha pins s σ H _ I h) fun v s1 ⟨x, H1, I1, r1, q1⟩ => ho pins s1 σ H1 x v Q I1 r1 q1)
theorem opI {f : Value → Value → Sem Value} {C : Int → Int → Prop} {g : Int → Int → Int}
    (rule : ∀ (i j : Int) (t u : Tok) (s : Shared) (Q : Value → Shared → Prop) (E : Value → Shared → Prop), C i j → Q (.int (g i j) s.toks) { s with toks := s.toks + 1 } → wpAny (model X.prog X.w) X.A (f (.int i t) (.int j u)) Q E s) :
    OpR X f (rI C fun i j => .int (g i j)) := by
  intro pins s σ H x y v u Q I rx ry h
  obtain ⟨i, j, rfl, rfl, hc, q⟩ := h
  obtain ⟨t, rfl⟩ := rx
  obtain ⟨t', rfl⟩ := ry
  exact rule i j t t' s _ _ hc ⟨.int (g i j), H, I.tok _, ⟨_, rfl⟩, q⟩
theorem opI0 {f : Value → Value → Sem Value} {g : Int → Int → Int}
    (rule : ∀ (i j : Int) (t u : Tok) (s : Shared) (Q : Value → Shared → Prop) (E : Value → Shared → Prop), Q (.int (g i j) s.toks) { s with toks := s.toks + 1 } → wpAny (model X.prog X.w) X.A (f (.int i t) (.int j u)) Q E s) :
    OpR X f (rI0 fun i j => .int (g i j)) := by
  intro pins s σ H x y v u Q I rx ry h
  obtain ⟨i, j, rfl, rfl, q⟩ := h
  obtain ⟨t, rfl⟩ := rx
  obtain ⟨t', rfl⟩ := ry
  exact rule i j t t' s _ _ ⟨.int (g i j), H, I.tok _, ⟨_, rfl⟩, q⟩
theorem opB0 {f : Value → Value → Sem Value} {g : Int → Int → Bool}
    (rule : ∀ (i j : Int) (t u : Tok) (s : Shared) (Q : Value → Shared → Prop) (E : Value → Shared → Prop), Q (.bool (g i j)) s → wpAny (model X.prog X.w) X.A (f (.int i t) (.int j u)) Q E s) :
    OpR X f (rI0 fun i j => .bl (g i j)) := by
  intro pins s σ H x y v u Q I rx ry h
  obtain ⟨i, j, rfl, rfl, q⟩ := h
  obtain ⟨t, rfl⟩ := rx
  obtain ⟨t', rfl⟩ := ry
  exact rule i j t t' s _ _ ⟨.bl (g i j), H, I, rfl, q⟩
def CPow (i j : Int) : Prop := 0 ≤ j ∧ j ≤ 1000000 ∧ i.natAbs < 2 ^ 64
theorem op_add : OpR X (binaryOp .Add) (rI0 fun i j => .int (i + j)) := opI0 fun _ _ _ _ _ _ _ q => add_int q
theorem op_sub : OpR X (binaryOp .Sub) (rI0 fun i j => .int (i - j)) := opI0 fun _ _ _ _ _ _ _ q => sub_int q
theorem op_modN : OpR X (binaryOp .Mod) (rI (fun _ j => j ≠ 0) fun i j => .int (i.fmod j)) := opI fun _ _ _ _ _ _ _ hc q => mod_int' hc q
theorem op_pow : OpR X (binaryOp .Pow) (rI CPow fun i j => .int (i ^ j.toNat)) := opI fun _ _ _ _ _ _ _ hc q => pow_int_small hc.1 hc.2.1 hc.2.2 q
theorem unI {f : Value → Sem Value} {g : Int → Int}
    (rule : ∀ (i : Int) (t : Tok) (s : Shared) (Q : Value → Shared → Prop) (E : Value → Shared → Prop), Q (.int (g i) s.toks) { s with toks := s.toks + 1 } → wpAny (model X.prog X.w) X.A (f (.int i t)) Q E s) :
    UnR X f (rU fun i => .int (g i)) := by
  intro pins s σ H x v Q I rx h
  obtain ⟨i, rfl, q⟩ := h
  obtain ⟨t, rfl⟩ := rx
  exact rule i t s _ _ ⟨.int (g i), H, I.tok _, ⟨_, rfl⟩, q⟩
theorem un_neg : UnR X (unaryOp .USub) (rU fun i => .int (-i)) := unI fun _ _ _ _ _ q => neg_int q
end
def scal : V → V → Bool
  | .non, .non => true | .non, .int _ => true | .int _, .non => true | .non, .bl _ => true | .bl _, .non => true | .non, .str _ => true | .str _, .non => true
  | .int _, .int _ => true | .bl _, .bl _ => true | .str _, .str _ => true | .byt _, .byt _ => true
  | .int _, .str _ => true | .str _, .int _ => true | .bl _, .str _ => true | .str _, .bl _ => true
  | _, _ => false
def rEq : R2 := fun x y H Q => scal x y = true ∧ Q (.bl (decide (x = y))) H
def rNe : R2 := fun x y H Q => scal x y = true ∧ Q (.bl (!decide (x = y))) H
theorem dec_int {i j : Int} : decide (V.int i = V.int j) = (i == j) := by
  rw [Bool.eq_iff_iff]
  simp
theorem dec_bl {i j : Bool} : decide (V.bl i = V.bl j) = (i == j) := by
  rw [Bool.eq_iff_iff]
  simp
theorem dec_str {i j : Str} : decide (V.str i = V.str j) = (i == j) := by
  rw [Bool.eq_iff_iff]
  simp
theorem dec_byt {i j : Array UInt8} : decide (V.byt i = V.byt j) = (i.toList == j.toList) := by
  rw [Bool.eq_iff_iff]
  cases i
  cases j
  simp
section
variable {X : Cx} {a b c : Expr} {ta tb tc : TE} {pos : Pos}
theorem fin_bl {pins : List (Addr × Obj)} {σ : St} {H : Hp} {s : Shared} {Q : VK} {k k' : Bool} (I : Inv X pins σ H s) (q : Q (.bl k) H) (e : k = k') : EP X pins σ Q (.bool k') s := by
  subst e
  exact ⟨.bl k, H, I, rfl, q⟩
theorem op_eq : OpR X (compareOp .Eq) rEq := by
  intro pins s σ H x y v u Q I rx ry h
  obtain ⟨hs, q⟩ := h
  cases x with
  | non =>
    cases rx
    cases y with
    | non => cases ry; exact PySem.EqNone.eq_none_none (fin_bl I q (by simp))
    | bl j => cases ry; exact PySem.EqNone.eq_none_bool (fin_bl I q (by simp))
    | int j => obtain ⟨t', rfl⟩ := ry; exact PySem.EqNone.eq_none_int (fin_bl I q (by simp))
    | str j => obtain ⟨t', rfl⟩ := ry; exact PySem.EqNone.eq_none_str (fin_bl I q (by simp))
    | _ => exact absurd (show false = true from hs) Bool.false_ne_true
  | bl i =>
    cases rx
    cases y with
    | non => cases ry; exact PySem.EqNone.eq_bool_none (fin_bl I q (by simp))
    | bl j => cases ry; exact eq_bool (fin_bl I q dec_bl)
    | str j => obtain ⟨t', rfl⟩ := ry; exact PySem.EqMixed.eq_bool_str (fin_bl I q (by simp))
    | _ => exact absurd (show false = true from hs) Bool.false_ne_true
  | int i =>
    obtain ⟨t, rfl⟩ := rx
    cases y with
    | non => cases ry; exact PySem.EqNone.eq_int_none (fin_bl I q (by simp))
    | int j => obtain ⟨t', rfl⟩ := ry; exact eq_int (fin_bl I q dec_int)
    | str j => obtain ⟨t', rfl⟩ := ry; exact PySem.EqMixed.eq_int_str (fin_bl I q (by simp))
    | _ => exact absurd (show false = true from hs) Bool.false_ne_true
  | str i =>
    obtain ⟨t, rfl⟩ := rx
    cases y with
    | non => cases ry; exact PySem.EqNone.eq_str_none (fin_bl I q (by simp))
    | bl j => cases ry; exact PySem.EqMixed.eq_str_bool (fin_bl I q (by simp))
    | int j => obtain ⟨t', rfl⟩ := ry; exact PySem.EqMixed.eq_str_int (fin_bl I q (by simp))
    | str j => obtain ⟨t', rfl⟩ := ry; exact eq_str (fin_bl I q dec_str)
    | _ => exact absurd (show false = true from hs) Bool.false_ne_true
  | byt i =>
    obtain ⟨t, rfl⟩ := rx
    cases y with
    | byt j => obtain ⟨t', rfl⟩ := ry; exact PySem.W.eq_bytes (fin_bl I q dec_byt)
    | _ => exact absurd (show false = true from hs) Bool.false_ne_true
  | _ => cases y <;> exact absurd (show false = true from hs) Bool.false_ne_true
theorem op_ne : OpR X (compareOp .NotEq) rNe := by
  intro pins s σ H x y v u Q I rx ry h
  obtain ⟨hs, q⟩ := h
  cases x with
  | non =>
    cases rx
    cases y with
    | non => cases ry; exact PySem.EqNone.ne_none_none (fin_bl I q (by simp))
    | bl j => cases ry; exact PySem.EqNone.ne_none_bool (fin_bl I q (by simp))
    | int j => obtain ⟨t', rfl⟩ := ry; exact PySem.EqNone.ne_none_int (fin_bl I q (by simp))
    | str j => obtain ⟨t', rfl⟩ := ry; exact PySem.EqNone.ne_none_str (fin_bl I q (by simp))
    | _ => exact absurd (show false = true from hs) Bool.false_ne_true
  | bl i =>
    cases rx
    cases y with
    | non => cases ry; exact PySem.EqNone.ne_bool_none (fin_bl I q (by simp))
    | bl j => cases ry; exact ne_bool (fin_bl I q (congrArg not dec_bl))
    | str j => obtain ⟨t', rfl⟩ := ry; exact PySem.EqMixed.ne_bool_str (fin_bl I q (by simp))
    | _ => exact absurd (show false = true from hs) Bool.false_ne_true
  | int i =>
    obtain ⟨t, rfl⟩ := rx
    cases y with
    | non => cases ry; exact PySem.EqNone.ne_int_none (fin_bl I q (by simp))
    | int j => obtain ⟨t', rfl⟩ := ry; exact ne_int (fin_bl I q (congrArg not dec_int))
    | str j => obtain ⟨t', rfl⟩ := ry; exact PySem.EqMixed.ne_int_str (fin_bl I q (by simp))
    | _ => exact absurd (show false = true from hs) Bool.false_ne_true
  | str i =>
    obtain ⟨t, rfl⟩ := rx
    cases y with
    | non => cases ry; exact PySem.EqNone.ne_str_none (fin_bl I q (by simp))
    | bl j => cases ry; exact PySem.EqMixed.ne_str_bool (fin_bl I q (by simp))
    | int j => obtain ⟨t', rfl⟩ := ry; exact PySem.EqMixed.ne_str_int (fin_bl I q (by simp))
    | str j => obtain ⟨t', rfl⟩ := ry; exact ne_str (fin_bl I q (congrArg not dec_str))
    | _ => exact absurd (show false = true from hs) Bool.false_ne_true
  | byt i =>
    obtain ⟨t, rfl⟩ := rx
    cases y with
    | byt j => obtain ⟨t', rfl⟩ := ry; exact PySem.W.ne_bytes (fin_bl I q (congrArg not dec_byt))
    | _ => exact absurd (show false = true from hs) Bool.false_ne_true
  | _ => cases y <;> exact absurd (show false = true from hs) Bool.false_ne_true
theorem op_lt : OpR X (compareOp .Lt) (rI0 fun i j => .bl (decide (i < j))) := opB0 fun _ _ _ _ _ _ _ q => lt_int q
theorem op_gt : OpR X (compareOp .Gt) (rI0 fun i j => .bl (decide (j < i))) := opB0 fun _ _ _ _ _ _ _ q => gt_int q
theorem op_ge : OpR X (compareOp .GtE) (rI0 fun i j => .bl (decide (j ≤ i))) := opB0 fun _ _ _ _ _ _ _ q => ge_int q
theorem op_in_str : OpR X (compareOp .In) (fun x y H Q => ∃ i j, x = .str i ∧ y = .str j ∧ Q (.bl (!(Builtin.Str.occurrences j i 0 j.length 1).isEmpty)) H) := by
  intro pins s σ H x y v u Q I rx ry h
  obtain ⟨i, j, rfl, rfl, q⟩ := h
  obtain ⟨t, rfl⟩ := rx
  obtain ⟨t', rfl⟩ := ry
  exact in_str (fin_bl I q rfl)
theorem op_isN : OpR X (compareOp .Is) (fun x y H Q => y = .non ∧ Q (.bl (decide (x = .non))) H) := by
  intro pins s σ H x y v u Q I rx ry h
  obtain ⟨rfl, q⟩ := h
  cases ry
  refine is_none_gen (fin_bl I q ?_)
  cases x <;> first
    | (cases rx; rfl)
    | (obtain ⟨t, rfl⟩ := rx; rfl)
theorem OpR.or {f : Value → Value → Sem Value} {r r' : R2} (h : OpR X f r) (h' : OpR X f r') : OpR X f (fun x y H Q => r x y H Q ∨ r' x y H Q) := by
  intro pins s σ H x y v u Q I rx ry q
  rcases q with q | q
  · exact h pins s σ H x y v u Q I rx ry q
  · exact h' pins s σ H x y v u Q I rx ry q
theorem nomark (b : Expr) {op : CmpOp} (h : op ≠ .In := by decide) (h2 : op ≠ .NotIn := by decide) : behindInMarks op b = false := by
  have e1 : (op == CmpOp.In) = false := by cases op <;> first | rfl | exact absurd rfl h
  have e2 : (op == CmpOp.NotIn) = false := by cases op <;> first | rfl | exact absurd rfl h2
  cases b <;> simp [behindInMarks, e1, e2]
theorem pe_cmpR {op : CmpOp} {r : R2} (ho : OpR X (compareOp op) r) (ha : PE X a ta) (hb : PE X b tb) (hm : behindInMarks op b = false) : PE X (.Compare a [op] [b] pos) (tOp r ta tb) := by
  intro pins s σ H Q I h
  exact wpAny_Compare1 (binT ha hb I h fun v u s2 x y H2 I2 rx ry q => ho pins s2 σ H2 x y v u Q I2 rx ry q) hm
def tTest (t : TE) : TT := fun σ H Q => t σ H fun x H' => ∃ k, x = .bl k ∧ Q k H'
theorem pt_cmpR {op : CmpOp} {r : R2} (ho : OpR X (compareOp op) r) (ha : PE X a ta) (hb : PE X b tb) (hm : behindInMarks op b = false) : PT X (.Compare a [op] [b] pos) (tTest (tOp r ta tb)) := by
  intro pins s σ H Q I h
  refine wpAny_isTrue_Compare1 (thn (ha pins s σ H _ I h) fun v s1 ⟨x, H1, I1, r1, q1⟩ => thn (hb pins s1 σ H1 _ I1 q1) fun u s2 ⟨y, H2, I2, r2, q2⟩ =>
    thn (ho pins s2 σ H2 x y v u _ I2 r1 r2 q2) fun c s3 ⟨z, H3, I3, r3, k, e, q3⟩ => ?_) hm
  subst e
  cases r3
  exact wpAny_truthy_bool ⟨H3, I3, q3⟩
theorem line63 : (sizeLine : Nat) < 2 ^ 63 := by rw [sizeLine_eq]; decide
theorem op_add_str : OpR X (binaryOp .Add) (fun x y H Q => ∃ i j, x = .str i ∧ y = .str j ∧ i.length + j.length ≤ sizeLine ∧ Q (.str (i ++ j)) H) := by
  intro pins s σ H x y v u Q I rx ry h
  obtain ⟨i, j, rfl, rfl, hz, q⟩ := h
  obtain ⟨t, rfl⟩ := rx
  obtain ⟨t', rfl⟩ := ry
  exact add_str (fun t' tk => ⟨.str (i ++ j), H, I.tok _, ⟨_, rfl⟩, q⟩) hz
theorem vals1 {x : V} {us : List Value} (r : Vals [x] us) : ∃ u, us = [u] ∧ RelV x u := by
  cases r with
  | cons r1 r2 => cases r2; exact ⟨_, rfl, r1⟩
theorem vals2 {x y : V} {us : List Value} (r : Vals [x, y] us) : ∃ u w', us = [u, w'] ∧ RelV x u ∧ RelV y w' := by
  cases r with
  | cons r1 r2 =>
    cases r2 with
    | cons r3 r4 => cases r4; exact ⟨_, _, rfl, r1, r3⟩
theorem call_abs : CallR X (.builtin "abs") (fun xs H Q => ∃ i, xs = [.int i] ∧ Q (.int (if i < 0 then -i else i)) H) := by
  intro pins s σ H xs us Q I r h
  obtain ⟨i, rfl, q⟩ := h
  obtain ⟨u, rfl, t, rfl⟩ := vals1 r
  exact call_abs_int fun u tk => ⟨.int (if i < 0 then -i else i), H, I.tok _, ⟨_, rfl⟩, q⟩
theorem call_max2 (hc : X.calm = true) : CallR X (.builtin "max") (fun xs H Q => ∃ i j, xs = [.int i, .int j] ∧ Q (.int (if j > i then j else i)) H) := by
  intro pins s σ H xs us Q I r h
  obtain ⟨i, j, rfl, q⟩ := h
  obtain ⟨u, w', rfl, ⟨t, rfl⟩, ⟨t', rfl⟩⟩ := vals2 r
  refine max_two_ints (I.ok.hd hc) fun h' tk k => ⟨_, H, I.kept k, ?_, q⟩
  by_cases hj : j > i
  · rw [if_pos hj, if_pos hj]; exact ⟨_, rfl⟩
  · rw [if_neg hj, if_neg hj]; exact ⟨_, rfl⟩
theorem call_str_int : CallR X (.type "str") (fun xs H Q => ∃ i, xs = [.int i] ∧ i.natAbs.log2 < 1920 ∧ Q (.str (toString i)) H) := by
  intro pins s σ H xs us Q I r h
  obtain ⟨i, rfl, hz, q⟩ := h
  obtain ⟨u, rfl, t, rfl⟩ := vals1 r
  exact PySem.P.str_of_int hz ⟨.str _, H, I.tok _, ⟨_, rfl⟩, q⟩
end
end L2
namespace L2
open PySem PySem.Spec PyProof.Rows
structure ObjM (h : Heap) (x dx C : Addr) (mA : Str → Option Value) : Prop where
  obj : h.get? x = some (PySem.W.instObj C dx)
  ns : h.Ns1 dx mA
  ne : dx ≠ x
theorem lookIn_ns {h : Heap} {dx : Addr} {mA : Str → Option Value} (n : h.Ns1 dx mA) : ∃ od, h.get? dx = some od ∧ ∀ name, PySem.W.lookIn name od = some (mA name) := by
  obtain ⟨o, es, ep, ho, hd, hk, _, hm⟩ := n
  refine ⟨o, ho, fun name => ?_⟩
  have e := hm name
  unfold nsFind findBy at e
  rw [← Array.find?_toList] at e
  unfold PySem.W.lookIn
  rw [hd]
  dsimp only
  split
  · rename_i y q
    rw [q] at e
    exact congrArg some e
  · rename_i q
    rw [q] at e
    have a : es.toList.any (·.refKey) = false := by
      rw [List.any_eq_false]
      intro y hy
      obtain ⟨z, t, hkey⟩ := hk y (Array.mem_toList_iff.mp hy)
      simp [DictEntry.refKey, hkey]
    have a' : ¬ es.toList.any (·.refKey) = true := by rw [a]; exact Bool.false_ne_true
    rw [if_neg a']
    exact congrArg some e
theorem ObjM.look {h : Heap} {x dx C : Addr} {mA : Str → Option Value} (I : ObjM h x dx C mA) : ∃ od, PySem.W.InstAt h x (PySem.W.instObj C dx) C (some od) ∧ ∀ name, PySem.W.lookIn name od = some (mA name) :=
  let ⟨od, ho, hl⟩ := lookIn_ns I.ns
  ⟨od, ⟨I.obj, rfl, rfl, ho⟩, hl⟩
section
variable {prog : Program} {w : World} {A : Around} {E : Value → Shared → Prop} {s : Shared} {K : PySem.W.Frag} {x dx C f : Addr} {mA : Str → Option Value} {name : Str} {v : Value}
end
section
variable {P : Program} {w : World} {H H' : Hp} {h h' : Heap} {a C dx : Addr} {fs fs' : List (Str × V)}
theorem ins_get (hok : HOk P w H h) (e : H a = some (.ins C dx fs)) : ∃ mA, ObjM h a dx C mA ∧ (∀ f, RelO (fs.lookup f) (mA f)) ∧ PySem.Within mA (fs.map (·.1)) ∧ fs.length ≤ 1000 ∧ H dx = some (.own a) := by
  obtain ⟨d, z, ne, ob, mA, n, r, q⟩ := (show ObjOk P w H h a (.ins C dx fs) from hok a _ e)
  exact ⟨mA, ⟨ob, n, ne⟩, r, q, z, d⟩
end
structure Cls (K : PySem.W.Frag) (C : Addr) : Prop where
  pg : PySem.W.plainGet K C Str.empty = true
  hd : PySem.W.hasDictIn K C = true
  po : PySem.W.plainOver K C = true
  sa : PySem.W.findIn K (.ref C) "__setattr__" = some (some (.builtin "object.__setattr__"))
theorem Cls.get {K : PySem.W.Frag} {C : Addr} (c : Cls K C) (f : Str) : PySem.W.plainGet K C f = true := c.pg
section
variable {X : Cx} {pins : List (Addr × Obj)} {σ : St} {H : Hp} {s : Shared} {a C dx : Addr} {fs : List (Str × V)} {f : Str} {v : V} {A : Around} {E : Value → Shared → Prop}
end
section
variable {X : Cx} {o e value : Expr} {f : Str} {pos pos' tpos : Pos} {ta tv : TE}
end
section
variable {X : Cx} {pins : List (Addr × Obj)} {σ : St} {H : Hp} {s : Shared} {A : Around} {E : Value → Shared → Prop} {Q : Value → Shared → Prop} {c : Value} {b : Bool}
inductive TyOf (K : PySem.W.Frag) (H : Hp) : V → Value → Prop where
  | non : TyOf K H .non (.type "NoneType")
  | bl (x : Bool) : TyOf K H (.bl x) (.type "bool")
  | int (i : Int) : TyOf K H (.int i) (.type "int")
  | str (x : Str) : TyOf K H (.str x) (.type "str")
  | flt (x : UInt64) : TyOf K H (.flt x) (.type "float")
  | lst {a : Addr} {xs : List V} (e : H a = some (.lst xs)) : TyOf K H (.ref a) (.type "list")
  | frz {a : Addr} {o : Obj} {xs : List V} (e : H a = some (.frz o (.lst xs))) : TyOf K H (.ref a) (.type "list")
  | tup {a : Addr} {xs : List V} (e : H a = some (.tup xs)) : TyOf K H (.ref a) (.type "tuple")
  | dK {a : Addr} {kvs : List (Key × V)} (e : H a = some (.dK kvs)) : TyOf K H (.ref a) (.type "dict")
  | dT {a : Addr} {kvs : List (List Key × V)} (e : H a = some (.dT kvs)) : TyOf K H (.ref a) (.type "dict")
  | ins {a C dx : Addr} {fs : List (Str × V)} (e : H a = some (.ins C dx fs)) (cl : Cls K C) (ha : PySem.W.findIn K (.ref C) "__class__" = some (some (.builtin "object.__class__")))
      (hn : PySem.W.specialIn K (.builtin "object.__class__") "__get__" = some (some (.builtin "getset_descriptor.__get__"))) (htk : PySem.W.takesIn K (.builtin "object.__class__") = some true)
      (hm : PySem.W.mroIn K C (.type "object") = some true) : TyOf K H (.ref a) (.ref C)
theorem isinst_ok {x : V} {u t : Value} (I : Inv X pins σ H s) (rx : RelV x u) (ty : TyOf X.K H x t) (e : PySem.W.kitOne X.K t c = some b) (h : ∀ tk, Q (.bool b) { s with toks := tk }) :
    wpAny (model X.prog X.w) A (call (.builtin "isinstance") [u, c]) Q E s := by
  cases ty with
  | non => cases (show u = Value.none from rx); exact PySem.W.kia_one PySem.W.kitx_none I.kIn True.intro e (fun z => nomatch z) h
  | bl y => cases (show u = Value.bool y from rx); exact PySem.W.kia_one PySem.W.kitx_bool I.kIn True.intro e (fun z => nomatch z) h
  | int i => obtain ⟨t, q⟩ := (show ∃ t, u = Value.int i t from rx); cases q; exact PySem.W.kia_one PySem.W.kitx_int I.kIn True.intro e (fun z => nomatch z) h
  | str y => obtain ⟨t, q⟩ := (show ∃ t, u = Value.str y t from rx); cases q; exact PySem.W.kia_one PySem.W.kitx_str I.kIn True.intro e (fun z => nomatch z) h
  | flt y => obtain ⟨t, q⟩ := (show ∃ t, u = Value.float y t from rx); cases q; exact PySem.W.kia_one PySem.W.kitx_float I.kIn True.intro e (fun z => nomatch z) h
  | @lst a xs ea =>
    cases (show u = Value.ref a from rx)
    obtain ⟨_, _, n, _, h1⟩ := (show ObjOk X.prog X.w H s.heap a (.lst xs) from I.hok a _ ea)
    exact PySem.W.kia_one PySem.W.kitx_list I.kIn ⟨_, h1, rfl⟩ e (fun z => nomatch z) h
  | @frz a ob xs ea =>
    cases (show u = Value.ref a from rx)
    obtain ⟨_, _, _, n, _, h1⟩ := (show ObjOk X.prog X.w H s.heap a (.frz ob (.lst xs)) from I.hok a _ ea)
    exact PySem.W.kia_one PySem.W.kitx_list I.kIn ⟨_, h1, rfl⟩ e (fun z => nomatch z) h
  | @tup a xs ea =>
    cases (show u = Value.ref a from rx)
    obtain ⟨_, _, _, p⟩ := (show ObjOk X.prog X.w H s.heap a (.tup xs) from I.hok a _ ea)
    obtain ⟨o, h1, h2, _⟩ := p
    exact PySem.W.kia_one PySem.W.kitx_tuple I.kIn ⟨o, h1, h2⟩ e (fun z => nomatch z) h
  | @dK a kvs ea =>
    cases (show u = Value.ref a from rx)
    obtain ⟨_, _, vs, _, p⟩ := (show ObjOk X.prog X.w H s.heap a (.dK kvs) from I.hok a _ ea)
    obtain ⟨o, es, ep, h1, h2, _⟩ := p
    exact PySem.W.kia_one PySem.W.kitx_dict I.kIn ⟨o, h1, h2.1⟩ e (fun z => nomatch z) h
  | @dT a kvs ea =>
    cases (show u = Value.ref a from rx)
    obtain ⟨_, _, xs, _, o, es, ep, h1, h2, _⟩ := (show ObjOk X.prog X.w H s.heap a (.dT kvs) from I.hok a _ ea)
    exact PySem.W.kia_one PySem.W.kitx_dict I.kIn ⟨o, h1, h2.1⟩ e (fun z => nomatch z) h
  | @ins a C dx fs ea cl ha hn htk hm =>
    cases (show u = Value.ref a from rx)
    obtain ⟨mA, O, _⟩ := ins_get I.hok ea
    obtain ⟨od, J, _⟩ := O.look
    exact PySem.W.kia_one (PySem.W.kitx_own (cl.get _) cl.hd ha hn htk hm) I.kIn J e (fun z => nomatch z) h
end
end L2
namespace L2
open PySem PySem.Spec PyProof.Rows
structure Room (k : Nat) (A : Around) : Prop where
  hd : A.handled = none
  dp : A.depth + 3 * k + 5 < recursionLimit
  un : A.units + 16 * k + 200 < cLine
theorem Room.mono {j k : Nat} {A : Around} (r : Room k A) (h : j ≤ k) : Room j A := ⟨r.hd, by have := r.dp; omega, by have := r.un; omega⟩
theorem Room.deeper {k : Nat} {A : Around} (r : Room (k + 1) A) (env : Env) : Room k (A.deeper env) :=
  ⟨r.hd, by have := r.dp; show A.depth + 1 + 3 * k + 5 < _; omega, by have := r.un; show A.units + 3 + 16 * k + 200 < _; omega⟩
theorem Room.depth {k : Nat} {A : Around} (r : Room k A) : A.depth < recursionLimit := by have := r.dp; omega
theorem Room.units {k : Nat} {A : Around} (r : Room k A) : A.units + 64 < cLine := by have := r.un; omega
theorem Room.units0 {k : Nat} {A : Around} (r : Room k A) : A.units < cLine := by have := r.un; omega
def tNil : TA := fun _ H Q => Q [] H
def tCons (ta : TE) (tr : TA) : TA := fun σ H Q => ta σ H fun x H1 => tr σ H1 fun xs H2 => Q (x :: xs) H2
section
variable {X : Cx} {e : Expr} {es : List Expr} {te : TE} {t : TA} {pos : Pos}
theorem pa_nil : PA X [] tNil := fun _ _ _ _ H Q I h => Calls.spliced_nil ⟨[], H, I, .nil, h⟩
theorem pa_cons (ha : PE X e te) (hr : PA X es t) (hs : starEach (e :: es) X.env = (false, eval e X.env) :: starEach es X.env := by rfl) : PA X (e :: es) (tCons te t) := by
  intro pos pins s σ H Q I h
  rw [hs]
  show wpAny _ _ (spliced ((false, eval e X.env) :: backTo pos (starEach es X.env))) _ _ s
  refine Calls.spliced_cons (thn (ha pins s σ H _ I h) fun u s1 ⟨x, H1, I1, r1, q1⟩ => ?_)
  exact thn (hr pos pins s1 σ H1 _ I1 q1) fun us s2 ⟨xs, H2, I2, r2, q2⟩ => ⟨x :: xs, H2, I2, .cons r1 r2, q2⟩
def tTup (t : TA) : TE := fun σ H Q => t σ H fun xs H1 => xs.length ≤ sizeLine ∧ ∀ p, H1 p = none → Q (.ref p) (upd H1 p (.tup xs))
def tLst (t : TA) : TE := fun σ H Q => t σ H fun xs H1 => xs.length ≤ sizeLine ∧ ∀ p, H1 p = none → Q (.ref p) (upd H1 p (.lst xs))
theorem pe_tup {x1} (h : PA X es t) : PE X (.Tuple es x1 pos) (tTup t) := by
  intro pins s σ H Q I hq
  refine wpAny_Tuple_spliced (thn (h pos pins s σ H _ I hq) fun us s1 ⟨xs, H1, I1, r, z, q⟩ => ⟨by rw [← r.length]; exact z, ?_⟩)
  have hf : H1 s1.heap.objs.size = none := I1.hok.fresh (Nat.le_refl _)
  refine ⟨.ref s1.heap.objs.size, upd H1 s1.heap.objs.size (.tup xs), I1.laid (t' := s1.toks) (fun b u e => Heap.get?_push_of_some _ e) (Nat.le_refl _) ?_, rfl, q _ hf⟩
  exact ⟨z, us, r, ⟨_, Heap.get?_push_size _ rfl, rfl, _, rfl⟩⟩
theorem pe_lst (h : PA X es t) : PE X (.List es pos) (tLst t) := by
  intro pins s σ H Q I hq
  refine wpAny_List_spliced (thn (h pos pins s σ H _ I hq) fun us s1 ⟨xs, H1, I1, r, z, q⟩ => ⟨by rw [← r.length]; exact z, ?_⟩)
  have hf : H1 s1.heap.objs.size = none := I1.hok.fresh (Nat.le_refl _)
  refine ⟨.ref s1.heap.objs.size, upd H1 s1.heap.objs.size (.lst xs), I1.laid (t' := s1.toks) (fun b u e => Heap.get?_push_of_some _ e) (Nat.le_refl _) ?_, rfl, q _ hf⟩
  exact ⟨z, us, 0, r, Heap.get?_push_size _ rfl⟩
end
abbrev Sp := List V → Hp → VK → XK → Prop
abbrev CXT := List Env → Hp → Shared → XK → Value → Shared → Prop
structure Env0 (P : Program) (w : World) (K : PySem.W.Frag) (mg : Str → Option Value) (base : Heap) (A : Around) (outer : List Env) (s : Shared) (H : Hp) : Prop where
  frames : A.frames = some outer
  mod : Mod K mg base
  bs : ∀ b o, base.get? b = some o → s.heap.get? b = some o ∧ H b = none
  bsz : base.objs.size ≤ s.heap.objs.size
  funs : s.heap.FunFrames base outer
  frf : ∀ b ∈ frs outer, H b = none
  hok : HOk P w H s.heap
  bare : AllBare s.gens
def CE (outer : List Env) (P : Program) (w : World) (H : Hp) (s : Shared) (Q : VK) (u : Value) (s' : Shared) : Prop :=
  ∃ v H', s'.os = s.os ∧ AllBare s'.gens ∧ Un (frs outer) [] H H' s.heap s'.heap ∧ HOk P w H' s'.heap ∧ RelV v u ∧ Q v H'
def CR (CX : CXT) (outer : List Env) (P : Program) (w : World) (H : Hp) (s : Shared) (Q : VK) (E : XK) (r : Result) (s' : Shared) : Prop :=
  match r with
  | .ok (.ret u) => CE outer P w H s Q u s'
  | .ok _ => False
  | .error e => CX outer H s E e s'
structure FnOk (P : Program) (w : World) (K : PySem.W.Frag) (mg : Str → Option Value) (base : Heap) (CX : CXT) (k : Nat) (f : Addr) (fd : FuncData) (ps : List Str) (sp : Sp) : Prop where
  len : ∀ vs H Q E, sp vs H Q E → vs.length = ps.length
  run : ∀ (A : Around) (outer : List Env) (s : Shared) (H : Hp) (args : Args) (us : List Value) (vs : List V) (Q : VK) (E : XK), Room k A → Env0 P w K mg base A outer s H → BindsTo s fd args (ps.zip us) → Vals vs us → sp vs H Q E →
    codeAny (model P w) A (.call (.ref f) args) (CR CX outer P w H s Q E) s
section
variable {X : Cx} {pins : List (Addr × Obj)} {σ : St} {H : Hp} {s s' : Shared}
theorem Inv.env0 (I : Inv X pins σ H s) : Env0 X.prog X.w X.K X.mg X.base X.A X.stack s H :=
  ⟨I.ok.frames, I.ok.mod, I.bs, Nat.le_trans I.ok.bsz I.sz, I.stack, I.stkFree, I.hok, I.bare⟩
theorem Inv.after {Q : VK} {u : Value} (I : Inv X pins σ H s) (h : CE X.stack X.prog X.w H s Q u s') : EP X pins σ Q u s' := by
  obtain ⟨v, H', os, bare, un, hok, r, q⟩ := h
  obtain ⟨hh, g, d, t, os'⟩ := s'
  obtain rfl : os' = s.os := os
  exact ⟨v, H', I.call (h' := hh) (g' := g) (d' := d) (t' := t) (ch := []) un hok bare (fun b z => absurd z (by simp)), r, q⟩
end
def Binds (K : PySem.W.Frag) (fd : FuncData) (ps : List Str) (ds : List Value) : Prop :=
  ∀ (s : Shared) (us : List Value), K.In s.heap → (us ++ ds).length = ps.length → BindsTo s fd ⟨us, []⟩ (ps.zip (us ++ ds))
theorem Binds.all {K : PySem.W.Frag} {fd : FuncData} {ps : List Str} (h : ∀ us : List Value, us.length = ps.length → bindArgs fd ⟨us, []⟩ = pure (ps.zip us)) : Binds K fd ps [] := fun s us _ hl => by
  rw [List.append_nil] at hl ⊢
  exact .of_eq (h us hl)
section
variable {X : Cx} {CX : CXT} {k : Nat} {f C : Addr} {fd : FuncData} {ps : List Str} {sp : Sp} {dvs : List V} {ds : List Value} {E : XK} {x m : Str} {p pos apos : Pos} {e o : Expr} {es : List Expr} {ta : TE} {t : TA}
end
section
variable {X : Cx} {CX : CXT} {k : Nat} {f C : Addr} {fd : FuncData} {ps ks : List Str} {sp : Sp} {E : XK} {x m : Str} {p pos apos kpos : Pos} {e o : Expr} {es : List Expr} {kws : List Keyword} {te ta : TE} {t tk : TA} {nm : Option Str}
variable {g : List Value → List Value → List Value} {gV : List V → List V → List V}
end
structure FnScope (N P : List Str) (sc : Scope) : Prop where
  kind : sc.kind = .function
  co : sc.isCoroutine = false
  gen : sc.isGenerator = false
  nd : N.Nodup
  pre : N.take P.length = P
  par : ∀ x ∈ P, sc.names.lookup x = some .local ∨ sc.names.lookup x = some .cell
  nofree : ∀ y ∈ sc.names, y.2 ≠ .free
theorem bindL_out {kindOf : Str → Option NameKind} {x : Str} : ∀ {binds : List (Str × Value)} {m : Str → Option Value}, (∀ v, (x, v) ∉ binds) → bindL kindOf binds m x = m x
  | [], _, _ => rfl
  | (n, v) :: r, m, h => by
    unfold bindL
    rw [bindL_out fun w hw => h w (List.mem_cons_of_mem _ hw)]
    split
    · have : x ≠ n := by rintro rfl; exact h v List.mem_cons_self
      simp [this]
    · rfl
theorem bindC_out {kindOf : Str → Option NameKind} {x : Str} : ∀ {binds : List (Str × Value)} {m : Str → Option Value}, (∀ v, (x, v) ∉ binds) → bindC kindOf binds m x = m x
  | [], _, _ => rfl
  | (n, v) :: r, m, h => by
    unfold bindC
    rw [bindC_out fun w hw => h w (List.mem_cons_of_mem _ hw)]
    split
    · rfl
    · have : x ≠ n := by rintro rfl; exact h v List.mem_cons_self
      simp [this]
theorem bindL_get {kindOf : Str → Option NameKind} {x : Str} {v : Value} : ∀ {P : List Str} {vs : List Value} {i : Nat} {m : Str → Option Value}, P.Nodup → P[i]? = some x → vs[i]? = some v → kindOf x = some .local →
    bindL kindOf (P.zip vs) m x = some v
  | [], _, _, _, _, h, _, _ => by simp at h
  | _ :: _, [], _, _, _, _, h, _ => by simp at h
  | p :: P, w :: vs, 0, m, nd, h1, h2, hk => by
    simp at h1 h2; subst h1; subst h2
    show bindL kindOf ((p, w) :: P.zip vs) m p = _
    unfold bindL
    rw [bindL_out fun v hv => (List.nodup_cons.mp nd).1 (List.of_mem_zip hv).1, if_pos hk]
    simp
  | p :: P, w :: vs, i + 1, m, nd, h1, h2, hk => by
    show bindL kindOf ((p, w) :: P.zip vs) m x = _
    unfold bindL
    exact bindL_get (i := i) (List.nodup_cons.mp nd).2 (by simpa using h1) (by simpa using h2) hk
theorem bindC_get {kindOf : Str → Option NameKind} {x : Str} {v : Value} : ∀ {P : List Str} {vs : List Value} {i : Nat} {m : Str → Option Value}, P.Nodup → P[i]? = some x → vs[i]? = some v → kindOf x ≠ some .local →
    bindC kindOf (P.zip vs) m x = some v
  | [], _, _, _, _, h, _, _ => by simp at h
  | _ :: _, [], _, _, _, _, h, _ => by simp at h
  | p :: P, w :: vs, 0, m, nd, h1, h2, hk => by
    simp at h1 h2; subst h1; subst h2
    show bindC kindOf ((p, w) :: P.zip vs) m p = _
    unfold bindC
    rw [bindC_out fun v hv => (List.nodup_cons.mp nd).1 (List.of_mem_zip hv).1, if_neg hk]
    simp
  | p :: P, w :: vs, i + 1, m, nd, h1, h2, hk => by
    show bindC kindOf ((p, w) :: P.zip vs) m x = _
    unfold bindC
    exact bindC_get (i := i) (List.nodup_cons.mp nd).2 (by simpa using h1) (by simpa using h2) hk
def start (N : List Str) (vs : List V) : St := vs.map some ++ List.replicate (N.length - vs.length) none
def cxOf (CX : CXT) (P : Program) (w : World) (K : PySem.W.Frag) (mg : Str → Option Value) (base : Heap) (N : List Str) (qual : Str) (scope : Scope) (f : Addr) (cd : Value) (A : Around) (outer : List Env) (s : Shared) (H : Hp) (E : XK) : Cx where
  prog := P
  w := w
  K := K
  mg := mg
  base := base
  A := A.deeper (envOfC qual scope s.heap.objs.size f cd)
  N := N
  s₀ := s
  H₀ := H
  env := envOfC qual scope s.heap.objs.size f cd
  outer := outer
  stack := envOfC qual scope s.heap.objs.size f cd :: outer
  ex := []
  calm := true
  fn := fun _ => true
  pn := []
  xe := fun e s' => wpAny (model P w) (A.deeper (envOfC qual scope s.heap.objs.size f cd)) (leaving (envOfC qual scope s.heap.objs.size f cd) e) (fun _ s'' => CX outer H s E e s'') (fun e' s'' => CX outer H s E e' s'') s'
theorem cell_has {sc : Scope} {n : Nat} {x : Str} (h : sc.names.lookup x = some .cell) : ∃ c, (cellsFrom n sc.names []).lookup x = some c := by
  have q := PySem.W.cellsFrom_some sc.names n [] (.inl h)
  exact Option.isSome_iff_exists.mp q
theorem inv_start {CX : CXT} {P : Program} {w : World} {K : PySem.W.Frag} {mg : Str → Option Value} {base : Heap} {N ps : List Str} {qual : Str} {scope : Scope} {f : Addr} {cd : Value} {A : Around} {outer : List Env} {s s1 : Shared} {H : Hp} {E : XK} {us : List Value} {vs : List V}
    (S : FnScope N ps scope) (hd : A.handled = none) (e0 : Env0 P w K mg base A outer s H) (hl : vs.length = ps.length) (r : Vals vs us)
    (x : InCallC s s.heap.objs.size (bindL (envOfC qual scope s.heap.objs.size f cd).kindOf (ps.zip us) fun _ => none) (cellsFrom (s.heap.objs.size + 1) scope.names []) (bindC (envOfC qual scope s.heap.objs.size f cd).kindOf (ps.zip us) fun _ => none) s1) :
    Inv (cxOf CX P w K mg base N qual scope f cd A outer s H E) [] (start N vs) H s1 := by
  have hpl : ps.length ≤ N.length := by have := congrArg List.length S.pre; rw [List.length_take] at this; omega
  obtain ⟨h1, tk, rfl, hk⟩ := x.done
  have noA : ∀ b : Addr, b ∉ (cxOf CX P w K mg base N qual scope f cd A outer s H E).ex := fun b z => absurd (show b ∈ ([] : List Addr) from z) (by simp)
  refine ⟨⟨e0.mod, S.kind, rfl, rfl, Nat.le_refl _, fun y z c h1 h2 => ?_, fun y hy => ?_, fun y c _ h => ?_, fun _ => hd, Around.frames_deeper e0.frames, .inr ⟨rfl, rfl⟩, fun b z => absurd z (noA b), e0.bs, e0.bsz, fun b _ _ => noA b, fun b z => absurd z (noA b), e0.funs, e0.frf⟩,
    rfl, e0.bare, Un.kept hk, ⟨_, x.toInCall.ns, fun i y v h1 h2 h3 => ?_⟩, fun y c h => ⟨_, x.cell y c h⟩, e0.hok.fresh (Nat.le_refl _), fun y c h => ?_, fun p hp => absurd (show p ∈ ([] : List (Addr × Obj)) from hp) (by simp), e0.hok.kept hk, ?_⟩
  · exact name_of_addr x.apart (PySem.mem_of_lookup h1) (PySem.mem_of_lookup h2)
  · have hy : scope.names.lookup y = some .cell ∨ scope.names.lookup y = some .free := hy
    rcases hy with hy | hy
    · exact cell_has hy
    · exact absurd rfl (S.nofree _ (PySem.mem_of_lookup hy))
  · exact Nat.le_of_lt (x.above y c (PySem.mem_of_lookup h))
  · have hi : i < vs.length := by
      unfold start at h2
      by_cases hi : i < vs.length
      · exact hi
      · rw [List.getElem?_append_right (by simpa using hi)] at h2
        rw [List.getElem?_replicate] at h2
        split at h2 <;> cases h2
    have ha : vs[i]? = some v := by
      unfold start at h2
      rw [List.getElem?_append_left (by simpa using hi), List.getElem?_map] at h2
      cases e : vs[i]? with
      | none => rw [e] at h2; cases h2
      | some a => rw [e] at h2; cases h2; rfl
    obtain ⟨u, hu, rv⟩ := r.get ha
    have hp : ps[i]? = some y := by
      rw [← S.pre, List.getElem?_take_of_lt (by omega)]; exact h1
    have ndP : ps.Nodup := by rw [← S.pre]; exact S.nd.sublist (List.take_sublist _ _)
    refine ⟨u, rv, ?_⟩
    rcases S.par y (List.mem_of_getElem? hp) with k | k
    · exact .inl ⟨k, bindL_get ndP hp hu k⟩
    · obtain ⟨c, e⟩ := cell_has (n := s.heap.objs.size + 1) k
      refine .inr ⟨.inl k, c, e, ?_⟩
      have q := x.cell y c e
      rw [bindC_get ndP hp hu (by show scope.names.lookup y ≠ _; rw [k]; decide)] at q
      exact q
  · exact e0.hok.fresh (Nat.le_of_lt (x.above y c (PySem.mem_of_lookup h)))
  · unfold start
    show _ = N.length
    rw [List.length_append, List.length_map, List.length_replicate]
    omega
theorem fn_of {CX : CXT} {P : Program} {w : World} {K : PySem.W.Frag} {mg : Str → Option Value} {base : Heap} {k : Nat} {f : Addr} {name qual : Str} {params : Arguments} {body : List Stmt} {scope : Scope} {dV kV doc pm cdv ct oc : Value} {an od : Option Addr}
    {osl : Array (Option Value)} {N ps : List Str} {sp : Sp} (lk : K.lookup f = some ⟨oc, od, .func (PySem.W.fnOf name qual params body scope dV kV doc pm an cdv ct), osl⟩) (hcd : PySem.W.codeIn K cdv qual = true) (S : FnScope N ps scope)
    (len : ∀ vs H Q E, sp vs H Q E → vs.length = ps.length)
    (hbody : ∀ (A : Around) (outer : List Env) (s : Shared) (H : Hp) (vs : List V) (Q : VK) (E : XK), Room k (A.deeper (envOfC qual scope s.heap.objs.size f cdv)) → sp vs H Q E →
      ∃ t, PSs (cxOf CX P w K mg base N qual scope f cdv A outer s H E) body t ∧ t { nx := fun _ H' => Q .non H', rt := Q } (start N vs) H) :
    FnOk P w K mg base CX (k + 1) f (PySem.W.fnOf name qual params body scope dV kV doc pm an cdv ct) ps sp := by
  refine ⟨len, fun A outer s H args us vs Q E hr e0 hb r hsp => ?_⟩
  have hl := len _ _ _ _ hsp
  have KX : K.In s.heap := e0.mod.kin.keeps fun b o e => (e0.bs b o e).1
  have lim : s.heap.NoLimit := e0.mod.nolimit.keeps fun b o e => (e0.bs b o e).1
  have hkind : ∀ y ∈ ps.zip us, scope.names.lookup y.1 = some .local ∨ (scope.names.lookup y.1 = some .cell ∧ ((cellsFrom (s.heap.objs.size + 1) scope.names []).lookup y.1).isSome = true) := fun ⟨n, v⟩ hy => by
    rcases S.par n (List.of_mem_zip hy).1 with q | q
    · exact .inl q
    · exact .inr ⟨q, PySem.W.cellsFrom_some _ _ _ (.inl q)⟩
  refine codeAny_call_function hr.depth (KX _ _ lk) rfl S.co S.gen rfl (PySem.W.codeRec_of KX hcd) (hb _ _ _ _ ?_)
  refine wpAny_newFunctionEnv_cells S.kind hkind fun env he s1 x => ?_
  subst he
  refine ⟨lim.keeps x.toInCall.keep, codeAny_func ?_⟩
  obtain ⟨t, ht, hq⟩ := hbody A outer s H vs Q E (hr.deeper _) hsp
  have I : Inv (cxOf CX P w K mg base N qual scope f cdv A outer s H E) [] (start N vs) H s1 := inv_start S hr.hd e0 hl r x
  refine wpAny_mono (ht [] s1 (start N vs) H _ I hq) (fun fl s' hs => ?_) fun e s' hs => hs
  have fin : ∀ {σ' : St} {H' : Hp} {v : V} {u : Value}, Inv (cxOf CX P w K mg base N qual scope f cdv A outer s H E) [] σ' H' s' → RelV v u → Q v H' → CE outer P w H s Q u s' :=
    fun {σ' H' v u} J rv q => ⟨v, H', J.os, J.bare, J.base, J.hok, rv, q⟩
  cases fl with
  | ret u =>
    obtain ⟨v, σ', H', J, rv, q⟩ := hs
    exact fin J rv q
  | next =>
    obtain ⟨σ', H', J, q⟩ := hs
    exact fin (v := V.non) (u := Value.none) J rfl q
  | brk =>
    obtain ⟨_, _, _, q⟩ := hs
    exact False.elim q
  | cont =>
    obtain ⟨_, _, _, q⟩ := hs
    exact False.elim q
end L2
namespace L2
open PySem PySem.Spec PyProof.Rows
section
variable {X : Cx} {x : Str} {p pos : Pos} {e : Expr} {es : List Expr} {t : TA} {id T : String} {r : List V → Hp → VK → Prop}
def tCB (r : List V → Hp → VK → Prop) (t : TA) : TE := fun σ H Q => t σ H fun vs H1 => r vs H1 Q
theorem pe_callB (hc : CallR X (.builtin id) r) (hg : Gl X x) (hm : X.mg x = none) (hv : bootBuiltins x = some (.builtin id)) (ha : PA X (e :: es) t) (hn : x ≠ "__name__" := by decide) (hdb : (x == ("__debug__" : Str)) = false := by decide)
    (he : starEach (e :: es) X.env = (false, eval e X.env) :: starEach es X.env := by rfl) (hpl : (backTo pos (starEach es X.env)).any (·.1) = false := by rfl) : PE X (.Call (.Name x p) (e :: es) [] pos) (tCB r t) := by
  intro pins s σ H Q I h
  refine wpAny_Call_Name_kw (ld_blt I hg hm hv ?_ hn hdb)
  exact PyProof.Rows.callWith_builtin1 (thn (ha pos pins s σ H _ I h) fun us s1 ⟨vs, H1, I1, r1, q1⟩ => hc pins s1 σ H1 vs us Q I1 r1 q1) he hpl
theorem pe_callTy (hc : CallR X (.type T) r) (hg : Gl X x) (hm : X.mg x = none) (hv : bootBuiltins x = some (.type T)) (ha : PA X (e :: es) t) (hn : x ≠ "__name__" := by decide) (hdb : (x == ("__debug__" : Str)) = false := by decide)
    (he : starEach (e :: es) X.env = (false, eval e X.env) :: starEach es X.env := by rfl) (hpl : (backTo pos (starEach es X.env)).any (·.1) = false := by rfl) : PE X (.Call (.Name x p) (e :: es) [] pos) (tCB r t) := by
  intro pins s σ H Q I h
  refine wpAny_Call_Name_kw (ld_blt I hg hm hv ?_ hn hdb)
  exact PyProof.Rows.callWith_type1 (thn (ha pos pins s σ H _ I h) fun us s1 ⟨vs, H1, I1, r1, q1⟩ => hc pins s1 σ H1 vs us Q I1 r1 q1) he hpl
end
end L2
namespace HT
open PySem PyProof.Rows
section
open PySem.SeqAt
open PySem.AutoSeq1 (wpAny_loadPart')
open PySem.MeetsSeq PySem.MeetsSeq2 PySem.MeetsSeq3
end
section
variable {prog : Program} {w : World} {A : Around} {E : Value → Shared → Prop} {s : Shared}
theorem cat_tup {t b : Addr} {vs ws : List Value} {Q : Value → Shared → Prop} (ht : IsTup s.heap t vs.toArray) (hb : IsTup s.heap b ws.toArray) (hv : vs ≠ [])
    (h1 : ws = [] → Q (.ref t) s) (h2 : ws ≠ [] → Q (.ref s.heap.objs.size) { s with heap := s.heap.push { cls := .type "tuple", data := .seq (vs ++ ws).toArray } })
    (hsz : vs.length + ws.length ≤ sizeLine) : wpAny (model prog w) A (binaryOp .Add (.ref t) (.ref b)) Q E s := by
  obtain ⟨⟨cls, dd, data, sl⟩, ho, hc, n, hd⟩ := id ht
  obtain ⟨⟨cls2, dd2, data2, sl2⟩, ho2, hc2, n2, hd2⟩ := id hb
  simp only at hc hd hc2 hd2
  subst hc hd hc2 hd2
  have e : vs.toArray ++ ws.toArray = (vs ++ ws).toArray := by simp
  by_cases hw : ws = []
  · exact concat_meets ⟨_, ho, rfl⟩ ⟨_, ho2, rfl⟩ noFill_tuple_add seq_tuple_add PySem.F.slot_tuple_add PySem.F.entry_tuple_add (PySem.F.args_tuple_add_2 _ _)
      (tuple_addW1 t b vs.toArray ws.toArray n n2 dd dd2 sl sl2 (by simpa using hv) (by simp [hw])) ⟨ho, ho2, h1 hw⟩
  · refine concat_meets ⟨_, ho, rfl⟩ ⟨_, ho2, rfl⟩ noFill_tuple_add seq_tuple_add PySem.F.slot_tuple_add PySem.F.entry_tuple_add (PySem.F.args_tuple_add_2 _ _)
      (tuple_addW2 t b vs.toArray ws.toArray n n2 dd dd2 sl sl2 (by simpa using hv) (by simpa using hw) (by rw [List.size_toArray, List.size_toArray]; exact hsz)) ⟨ho, ho2, ?_⟩
    rw [e]
    exact h2 hw
def sIx (n d : Nat) : Option Int → Nat
  | none => d
  | some v => if v < 0 then (v + (n : Int)).toNat else min v.toNat n
theorem sIx_le (n d : Nat) (hd : d ≤ n) (o : Option Int) : sIx n d o ≤ n := by
  cases o with
  | none => exact hd
  | some v =>
    show (if v < 0 then (v + (n : Int)).toNat else min v.toNat n) ≤ n
    by_cases hv : v < 0
    · rw [if_pos hv]; omega
    · rw [if_neg hv]; exact Nat.min_le_right _ _
theorem clip_eq (v : Int) (n d : Nat) : (if v < 0 then max (v + (n : Int)) 0 else min v (n : Int)) = ((sIx n d (some v) : Nat) : Int) := by
  show (if v < 0 then max (v + (n : Int)) 0 else min v (n : Int)) = (((if v < 0 then (v + (n : Int)).toNat else min v.toNat n) : Nat) : Int)
  by_cases hv : v < 0
  · simp only [if_pos hv]; omega
  · simp only [if_neg hv]; omega
theorem adjust_gen (lo hi : Option Int) (n : Nat) : Builtin.Slice.sliceAdjust lo hi 1 (n : Int) = (((sIx n 0 lo : Nat) : Int), ((sIx n n hi : Nat) : Int)) := by
  have h1 : ¬ ((1 : Int) < 0) := by omega
  unfold Builtin.Slice.sliceAdjust
  simp only [h1, if_false]
  refine Prod.ext ?_ ?_
  · cases lo with
    | none => rfl
    | some v => exact clip_eq v n 0
  · cases hi with
    | none => rfl
    | some v => exact clip_eq v n n
theorem places_gen (i j : Nat) : Builtin.Slice.slicePlaces (i : Int) (j : Int) 1 = j - i := by
  unfold Builtin.Slice.slicePlaces
  have h1 : (1 : Int) > 0 := by omega
  simp only [h1, if_true, Int.ediv_one]
  split <;> omega
theorem slicePart_ {v : Value} {o : Option Int} {Q : Option Int → Shared → Prop} (p : IsPart v o) (h : Q o s) : wpAny (model prog w) A (Builtin.Slice.slicePartIndex v) Q E s := by
  cases p with
  | none => exact slicePart_none h
  | int i t => exact slicePart_int h
theorem sliceApplied_gen {sl : Addr} {vl vu : Value} {lo hi : Option Int} {n : Nat} {Q : Int × Int × Nat → Shared → Prop} (hs : s.heap.IsSliceOf sl vl vu .none) (pl : IsPart vl lo) (pu : IsPart vu hi)
    (h : Q (((sIx n 0 lo : Nat) : Int), 1, sIx n n hi - sIx n 0 lo) s) : wpAny (model prog w) A (Builtin.Slice.sliceApplied (.ref sl) (pure (n : Int))) Q E s := by
  obtain ⟨os, hos, hcs, hds⟩ := id hs
  unfold Builtin.Slice.sliceApplied Builtin.Slice.sliceFields
  refine wpAny_bind (wpAny_bind (wpAny_field hos hds (x := vl) rfl (wpAny_bind (wpAny_field hos hds (x := vu) rfl (wpAny_bind (wpAny_field hos hds (x := .none) rfl (wpAny_pure ?_)))))))
  refine wpAny_bind (slicePart_none ?_)
  show wpAny _ _ (if ((1 : Int) == 0) = true then _ else _) _ _ s
  rw [if_neg (by decide)]
  refine wpAny_bind (slicePart_ pl (wpAny_bind (slicePart_ pu (wpAny_bind (wpAny_pure ?_)))))
  show wpAny _ _ (match Builtin.Slice.sliceAdjust lo hi 1 (n : Int) with | (lo, hi) => pure (lo, (1 : Int), Builtin.Slice.slicePlaces lo hi 1)) _ _ s
  rw [adjust_gen lo hi n]
  show wpAny _ _ (pure (((sIx n 0 lo : Nat) : Int), (1 : Int), Builtin.Slice.slicePlaces ((sIx n 0 lo : Nat) : Int) ((sIx n n hi : Nat) : Int) 1)) _ _ s
  rw [places_gen]
  exact wpAny_pure h
theorem pick_gen (xs : Array Value) (i k : Nat) : ((List.range k).filterMap fun (m : Nat) => xs[((i : Int) + (m : Int) * 1).toNat]?).toArray = ((xs.toList.drop i).take k).toArray := by
  have e : (fun (m : Nat) => xs[((i : Int) + (m : Int) * 1).toNat]?) = fun m => xs[i + m]? := by
    funext m
    have : ((i : Int) + (m : Int) * 1).toNat = i + m := by omega
    rw [this]
  rw [e]
  have := pick_run xs i k
  rw [List.filterMap_map] at this
  have e2 : ((fun x => xs[x]?) ∘ fun x => i + x) = fun m => xs[i + m]? := rfl
  rw [e2] at this
  rw [this]
theorem getItem_tuple_cut {t sl : Addr} {items : Array Value} {vl vu : Value} {lo hi : Option Int} {Q : Value → Shared → Prop} (ht : IsTup s.heap t items) (hs : s.heap.IsSliceOf sl vl vu .none) (pl : IsPart vl lo) (pu : IsPart vu hi)
    (hw : ¬ (sIx items.size 0 lo = 0 ∧ sIx items.size items.size hi = items.size))
    (h : Q (.ref s.heap.objs.size) { s with heap := s.heap.push { cls := .type "tuple", data := .seq ((items.toList.drop (sIx items.size 0 lo)).take (sIx items.size items.size hi - sIx items.size 0 lo)).toArray } })
    (hsz : items.size ≤ sizeLine) : wpAny (model prog w) A (getItem (.ref t) (.ref sl)) Q E s := by
  have htake : sizeOk (.seq ((items.toList.drop (sIx items.size 0 lo)).take (sIx items.size items.size hi - sIx items.size 0 lo)).toArray) := by
    show ((items.toList.drop (sIx items.size 0 lo)).take (sIx items.size items.size hi - sIx items.size 0 lo)).toArray.size ≤ sizeLine
    rw [List.size_toArray, List.length_take, List.length_drop, Array.length_toList]
    omega
  have hj : sIx items.size items.size hi ≤ items.size := sIx_le _ _ (Nat.le_refl _) hi
  obtain ⟨os, hos, hcs, hds⟩ := id hs
  have hTs : s.TypeIs (.ref sl) "slice" := ⟨os, hos, hcs⟩
  unfold getItem
  try with_reducible refine wpAny_holding ?_
  first | refine wpAny_bind (wpAny_pure ?_) | skip
  refine wpAny_bind (wpAny_sequenceKey ht.typeIs (by decide) ?_)
  refine wpAny_bind (wpAny_callSpecial?_slot (name := Str.ofString "__getitem__") ht.typeIs PyProof.Rows.slot_tuple_getitem
    (wpAny_call_entry PyProof.Rows.slot_tuple_getitem ht.typeIs entry_tuple_getitem ?_ (args_tuple_getitem _ _)))
  show wpAny _ _ (Builtin.Tuple.tupleItemsOf (.ref t) >>= _) _ _ s
  refine wpAny_bind (tupleItemsOf_ ht ?_)
  refine wpAny_bind (wpAny_typeOf hTs ?_)
  rw [if_pos (by decide)]
  refine wpAny_bind (sliceApplied_gen hs pl pu ?_)
  have hno : ¬ ((((sIx items.size 0 lo : Nat) : Int) == 0 && (1 : Int) == 1 && (sIx items.size items.size hi - sIx items.size 0 lo) == items.size) = true) := by
    intro q
    rw [Bool.and_eq_true, Bool.and_eq_true] at q
    have q1 : ((sIx items.size 0 lo : Nat) : Int) = 0 := eq_of_beq q.1.1
    have q2 : sIx items.size items.size hi - sIx items.size 0 lo = items.size := eq_of_beq q.2
    exact hw ⟨by omega, by omega⟩
  show wpAny _ _ (if (((sIx items.size 0 lo : Nat) : Int) == 0 && (1 : Int) == 1 && (sIx items.size items.size hi - sIx items.size 0 lo) == items.size) = true then _ else _) _ _ s
  rw [if_neg hno, pick_gen]
  first
    | exact wpAny_bind (m := Builtin.Tuple.tupleExact _) (wpAny_newObj_type (wpAny_pure ⟨_, rfl, wpAny_pure h⟩) htake)
    | exact wpAny_bind (m := Builtin.Tuple.tupleExact _) (wpAny_newObj_type (wpAny_bind (wpAny_pure (wpAny_pure ⟨_, rfl, wpAny_pure h⟩))) htake)
    | exact wpAny_bind (wpAny_bind (m := Builtin.Tuple.tupleExact _) (wpAny_newObj_type (wpAny_pure (wpAny_pure ⟨_, rfl, wpAny_pure h⟩)) htake))
    | exact wpAny_bind (wpAny_bind (m := Builtin.Tuple.tupleExact _) (wpAny_newObj_type (wpAny_pure ⟨_, rfl, wpAny_pure h⟩) htake))
end
end HT
namespace L2
open PySem PySem.Spec PyProof.Rows
abbrev TO := St → Hp → (Option Int → Hp → Prop) → Prop
def PO (X : Cx) (e : Option Expr) (t : TO) : Prop :=
  ∀ (pins : List (Addr × Obj)) (s : Shared) (σ : St) (H : Hp) (Q : Option Int → Hp → Prop), Inv X pins σ H s → t σ H Q →
    wpAny (model X.prog X.w) X.A (evalPart e X.env) (fun u s' => ∃ o H', Inv X pins σ H' s' ∧ IsPart u o ∧ Q o H') X.xe s
def tNoPart : TO := fun _ H Q => Q none H
def tPart (t : TE) : TO := fun σ H Q => t σ H fun x H1 => ∃ i, x = .int i ∧ Q (some i) H1
section
variable {X : Cx} {e : Expr} {te : TE} {lo hi : Option Expr} {tl th : TO} {pos p2 : Pos}
theorem po_none : PO X none tNoPart := by
  intro pins s σ H Q I h
  rw [evalPart_none]
  exact wpAny_pure ⟨none, H, I, .none, h⟩
theorem po_some (h : PE X e te) : PO X (some e) (tPart te) := by
  intro pins s σ H Q I hw
  rw [evalPart_some]
  refine thn (h pins s σ H _ I hw) fun u s1 ⟨x, H1, I1, r1, q1⟩ => ?_
  obtain ⟨i, rfl, q⟩ := q1
  obtain ⟨t, rfl⟩ := r1
  exact ⟨some i, H1, I1, .int i t, q⟩
def SlR (X : Cx) (r : V → Option Int → Option Int → Hp → VK → Prop) : Prop :=
  ∀ (pins : List (Addr × Obj)) (s : Shared) (σ : St) (H : Hp) (x : V) (v vl vu : Value) (lo hi : Option Int) (sl : Addr) (Q : VK), Inv X pins σ H s → RelV x v → s.heap.IsSliceOf sl vl vu .none → IsPart vl lo → IsPart vu hi → r x lo hi H Q →
    ∃ T id, typeLookup (.type T) "__getitem__" = pure (some (.builtin id)) ∧ s.TypeIs v T ∧ wpAny (model X.prog X.w) X.A (getItem v (.ref sl)) (EP X pins σ Q) X.xe s
theorem SlR.or {r r' : V → Option Int → Option Int → Hp → VK → Prop} (h : SlR X r) (h' : SlR X r') : SlR X (fun x lo hi H Q => r x lo hi H Q ∨ r' x lo hi H Q) := by
  intro pins s σ H x v vl vu lo hi sl Q I rx hs pl pu q
  rcases q with q | q
  · exact h pins s σ H x v vl vu lo hi sl Q I rx hs pl pu q
  · exact h' pins s σ H x v vl vu lo hi sl Q I rx hs pl pu q
def tSl (r : V → Option Int → Option Int → Hp → VK → Prop) (te : TE) (tl th : TO) : TE := fun σ H Q => te σ H fun x H1 => tl σ H1 fun l H2 => th σ H2 fun u H3 => r x l u H3 Q
theorem pe_slice {r : V → Option Int → Option Int → Hp → VK → Prop} (hr : SlR X r) (he : PE X e te) (hl : PO X lo tl) (hu : PO X hi th) : PE X (.Subscript e (.Slice lo hi none p2) pos) (tSl r te tl th) := by
  intro pins s σ H Q I h
  refine Subscript_ (thn (he pins s σ H _ I h) fun v s1 ⟨x, H1, I1, r1, q1⟩ => ?_)
  refine wpAny_Slice (thn (hl pins s1 σ H1 _ I1 q1) fun vl s2 ⟨l, H2, I2, pl, q2⟩ => thn (hu pins s2 σ H2 _ I2 q2) fun vu s3 ⟨u, H3, I3, pu, q3⟩ => ?_)
  rw [evalPart_none]
  refine wpAny_pure ?_
  have I4 : Inv X pins σ H3 { s3 with heap := s3.heap.push { cls := .type "slice", data := .fields #[vl, vu, .none] } } := I3.kept (t' := s3.toks) fun b ob q => Heap.get?_push_of_some _ q
  obtain ⟨T, id, hT, ht, hg⟩ := hr pins { s3 with heap := s3.heap.push { cls := .type "slice", data := .fields #[vl, vu, .none] } } σ H3 x v vl vu l u s3.heap.objs.size Q I4 r1 (Heap.IsSliceOf.new ..) pl pu q3
  show wpAny (model X.prog X.w) X.A (subscriptTail e (.Slice lo hi none p2) v (.ref s3.heap.objs.size)) (EP X pins σ Q) X.xe { s3 with heap := s3.heap.push { cls := .type "slice", data := .fields #[vl, vu, .none] } }
  exact tail_any (ops := [.ref s3.heap.objs.size, v]) ht hT hg (by with_unfolding_all rfl)
def cutV (xs : List V) (lo hi : Option Int) : List V := (xs.drop (HT.sIx xs.length 0 lo)).take (HT.sIx xs.length xs.length hi - HT.sIx xs.length 0 lo)
theorem cutV_length (xs : List V) (lo hi : Option Int) : (cutV xs lo hi).length ≤ xs.length := by
  unfold cutV
  rw [List.length_take, List.length_drop]
  omega
def rSlT (K : PySem.W.Frag) : V → Option Int → Option Int → Hp → VK → Prop := fun x lo hi H Q => ∃ a xs, x = .ref a ∧ SqT K H a xs ∧
  ¬ (HT.sIx xs.length 0 lo = 0 ∧ HT.sIx xs.length xs.length hi = xs.length) ∧ ∀ p, H p = none → Q (.ref p) (upd H p (.tup (cutV xs lo hi)))
theorem sl_tup : SlR X (rSlT X.K) := by
  intro pins s σ H x v vl vu lo hi sl Q I rx hs pl pu h
  obtain ⟨a, xs, rfl, hx, hw, q⟩ := h
  cases rx
  obtain ⟨its, r, ht, hz⟩ := I.tuple hx
  have hlen : its.toArray.size = xs.length := by rw [List.size_toArray]; exact r.length.symm
  refine ⟨"tuple", _, PyProof.Rows.slot_tuple_getitem.lookup, ht.typeIs, ?_⟩
  refine HT.getItem_tuple_cut ht hs pl pu (by rw [hlen]; exact hw) ?_ (by rw [hlen]; exact hz)
  rw [hlen]
  refine ⟨.ref s.heap.objs.size, _, I.laid (t' := s.toks) (o := .tup (cutV xs lo hi)) (fun b ob q => Heap.get?_push_of_some _ q) (Nat.le_refl _) ?_, rfl, q _ (I.hok.fresh (Nat.le_refl _))⟩
  exact ⟨Nat.le_trans (cutV_length xs lo hi) hz, _, (r.drop (HT.sIx xs.length 0 lo)).take (HT.sIx xs.length xs.length hi - HT.sIx xs.length 0 lo), IsTup.new _ _⟩
theorem Vals.nil_iff {xs : List V} {us : List Value} (r : Vals xs us) : us = [] ↔ xs = [] := by
  cases r with
  | nil => simp
  | cons _ _ => simp
end
end L2
namespace L2
open PySem PySem.Spec PyProof.Rows
def ixN (n : Nat) (i : Int) : Option Nat := if 0 ≤ i then (if i < n then some i.toNat else none) else if -(n : Int) ≤ i then some (i + n).toNat else none
def atI {α : Type} (xs : List α) (i : Int) : Option α := (ixN xs.length i).bind fun j => xs[j]?
theorem ixN_seq {n : Nat} {i : Int} {j : Nat} (h : ixN n i = some j) : seqIndex? i n = some j ∧ j < n ∧ -(n : Int) ≤ i ∧ i < n := by
  unfold ixN at h
  by_cases h0 : 0 ≤ i
  · rw [if_pos h0] at h
    by_cases h1 : i < n
    · rw [if_pos h1] at h
      have e : i.toNat = j := Option.some.inj h
      exact ⟨by rw [seqIndex_of h0 h1, e], by omega, by omega, h1⟩
    · rw [if_neg h1] at h; cases h
  · rw [if_neg h0] at h
    by_cases h1 : -(n : Int) ≤ i
    · rw [if_pos h1] at h
      have e : (i + n).toNat = j := Option.some.inj h
      exact ⟨by rw [seqIndex_neg (by omega) h1, e], by omega, h1, by omega⟩
    · rw [if_neg h1] at h; cases h
theorem atI_get {α : Type} {xs : List α} {i : Int} {v : α} (h : atI xs i = some v) : ∃ j, seqIndex? i xs.length = some j ∧ xs[j]? = some v ∧ j < xs.length ∧ -(xs.length : Int) ≤ i ∧ i < xs.length := by
  unfold atI at h
  cases e : ixN xs.length i with
  | none => rw [e] at h; cases h
  | some j =>
    rw [e] at h
    obtain ⟨h1, h2, h3, h4⟩ := ixN_seq e
    exact ⟨j, h1, h, h2, h3, h4⟩
theorem atI_nat {α : Type} {xs : List α} {j : Nat} {v : α} (h : xs[j]? = some v) : atI xs (j : Int) = some v := by
  have hj : j < xs.length := (List.getElem?_eq_some_iff.mp h).1
  have e : ixN xs.length (j : Int) = some j := by
    unfold ixN
    rw [if_pos (by omega), if_pos (by omega)]; simp
  unfold atI; rw [e]; exact h
def PlainIx (b : Expr) : Prop := ∀ o i, subscripted b false o i = operate [o, i] (getItem o i)
def IxR (X : Cx) (r : R2) : Prop :=
  ∀ (value slice : Expr) (pins : List (Addr × Obj)) (s : Shared) (σ : St) (H : Hp) (x y : V) (v u : Value) (Q : VK), Inv X pins σ H s → RelV x v → RelV y u → r x y H Q →
    subscripted slice false v u = operate [v, u] (getItem v u) → wpAny (model X.prog X.w) X.A (subscriptTail value slice v u) (EP X pins σ Q) X.xe s
def MtR (X : Cx) (id : String) (r : V → List V → Hp → VK → Prop) : Prop :=
  ∀ (pins : List (Addr × Obj)) (s : Shared) (σ : St) (H : Hp) (x : V) (xs : List V) (v : Value) (us : List Value) (Q : VK), Inv X pins σ H s → RelV x v → Vals xs us → r x xs H Q →
    wpAny (model X.prog X.w) X.A (call (.builtin id) (v :: us)) (EP X pins σ Q) X.xe s
section
variable {X : Cx} {a b : Expr} {ta tb : TE} {pos : Pos}
theorem IxR.or {r r' : R2} (h : IxR X r) (h' : IxR X r') : IxR X (fun x y H Q => r x y H Q ∨ r' x y H Q) := by
  intro value slice pins s σ H x y v u Q I rx ry q hs
  rcases q with q | q
  · exact h value slice pins s σ H x y v u Q I rx ry q hs
  · exact h' value slice pins s σ H x y v u Q I rx ry q hs
theorem pe_ix {r : R2} (hr : IxR X r) (ha : PE X a ta) (hb : PE X b tb) (hs : PlainIx b) : PE X (.Subscript a b pos) (tOp r ta tb) := by
  intro pins s σ H Q I h
  exact Subscript_ (binT ha hb I h fun v u s2 x y H2 I2 rx ry q => hr a b pins s2 σ H2 x y v u Q I2 rx ry q (hs _ _))
def rIxL (K : PySem.W.Frag) : R2 := fun x y H Q => ∃ p xs i v, x = .ref p ∧ y = .int i ∧ SqL K H p xs ∧ atI xs i = some v ∧ Q v H
def rIxT (K : PySem.W.Frag) : R2 := fun x y H Q => ∃ p xs i v, x = .ref p ∧ y = .int i ∧ SqT K H p xs ∧ atI xs i = some v ∧ Q v H
def rIxS : R2 := fun x y H Q => ∃ z i c, x = .str z ∧ y = .int i ∧ z.length ≤ sizeLine ∧ atI z.cps.toList i = some c ∧ Q (.str ⟨#[c]⟩) H
theorem ix_list : IxR X (rIxL X.K) := by
  intro value slice pins s σ H x y v u Q I rx ry h hs
  obtain ⟨p, xs, i, z, rfl, rfl, hq, he, q⟩ := h
  cases rx
  obtain ⟨t, rfl⟩ := ry
  obtain ⟨its, r, pl, hz⟩ := I.list hq
  obtain ⟨j, h1, h2, h3, h4, h5⟩ := atI_get he
  obtain ⟨w, ew, rw'⟩ := r.get h2
  have hl := r.length
  have hn := line63
  have fin : EP X pins σ Q w s := ⟨z, H, I, rw', q⟩
  by_cases h0 : 0 ≤ i
  · have hj : i.toNat = j := by
      rw [seqIndex_of h0 h5] at h1
      exact Option.some.inj h1
    exact item_listR pl.isList h0 (by omega) (by rw [hj]; simpa using ew) fin hs
  · have hj : (i + (its.toArray.size : Int)).toNat = j := by
      rw [seqIndex_neg (by omega) h4] at h1
      rw [List.size_toArray, ← hl]
      exact Option.some.inj h1
    exact subscriptTail_builtinR (x := w) pl.isList.typeIs slot_list_getitem.lookup
      (wpAny_getItem_list_neg (Q := fun r s' => r = w ∧ EP X pins σ Q r s') pl.isList (by omega) (by rw [List.size_toArray] <;> omega) (by omega) (by rw [hj]; simpa using ew) ⟨rfl, fin⟩) hs
theorem ix_tup : IxR X (rIxT X.K) := by
  intro value slice pins s σ H x y v u Q I rx ry h hs
  obtain ⟨p, xs, i, z, rfl, rfl, hq, he, q⟩ := h
  cases rx
  obtain ⟨t, rfl⟩ := ry
  obtain ⟨its, r, pl, hz⟩ := I.tuple hq
  obtain ⟨j, h1, h2, h3, h4, h5⟩ := atI_get he
  obtain ⟨w, ew, rw'⟩ := r.get h2
  have hl := r.length
  have hn := line63
  have fin : EP X pins σ Q w s := ⟨z, H, I, rw', q⟩
  exact subscriptTail_builtinR (x := w) pl.typeIs slot_tuple_getitem.lookup
    (getItem_tuple (j := j) (Q := fun r s' => r = w ∧ EP X pins σ Q r s') pl (by omega) (by omega) (by rw [List.size_toArray, ← hl]; exact h1) (by simpa using ew) ⟨rfl, fin⟩) hs
theorem ix_str : IxR X rIxS := by
  intro value slice pins s σ H x y v u Q I rx ry h hs
  obtain ⟨z, i, c, rfl, rfl, hz, he, q⟩ := h
  obtain ⟨t, rfl⟩ := rx
  obtain ⟨t', rfl⟩ := ry
  obtain ⟨j, h1, h2, h3, h4, h5⟩ := atI_get he
  have hl : z.cps.toList.length = z.length := by simp [Str.length]
  rw [hl] at h1 h4 h5
  have hn := line63
  exact tail_any (typeIs_str s z t) slot_str_getitem.lookup (getItem_str (c := c) (by
    have e1 : decide (i < -(2 ^ 63 : Int)) = false := decide_eq_false (by omega)
    have e2 : decide (i ≥ 2 ^ 63) = false := decide_eq_false (by omega)
    rw [e1, e2, Bool.or_false]) (by rw [h1]; simpa using h2) ⟨.str ⟨#[c]⟩, H, I.tok _, ⟨_, rfl⟩, q⟩) hs
theorem Inv.lst {pins : List (Addr × Obj)} {σ : St} {H : Hp} {s : Shared} {p : Addr} {xs : List V} (I : Inv X pins σ H s) (h : H p = some (.lst xs)) :
    ∃ (its : List Value) (n : Nat), Vals xs its ∧ s.heap.get? p = some { cls := .type "list", data := .seq its.toArray n } ∧ xs.length ≤ sizeLine := by
  obtain ⟨z, its, n, r, e⟩ := I.hok p _ h
  exact ⟨its, n, r, e, z⟩
theorem slice_bounds (lo hi : Option Int) (n : Nat) : (sliceBounds lo hi none n).1 = ((HT.sIx n 0 lo : Nat) : Int) ∧ (sliceBounds lo hi none n).2.1 = ((HT.sIx n n hi : Nat) : Int) ∧ (sliceBounds lo hi none n).2.2 = 1 := by
  refine ⟨?_, ?_, rfl⟩
  · cases lo with
    | none => simp [sliceBounds, HT.sIx]
    | some i =>
      simp only [sliceBounds, HT.sIx, Option.getD_none, show (1 : Int) > 0 by decide, if_true]
      by_cases h : i < 0
      · simp only [h, if_true] <;> omega
      · simp only [h, if_false] <;> omega
  · cases hi with
    | none => simp [sliceBounds, HT.sIx]
    | some i =>
      simp only [sliceBounds, HT.sIx, Option.getD_none, show (1 : Int) > 0 by decide, if_true]
      by_cases h : i < 0
      · simp only [h, if_true] <;> omega
      · simp only [h, if_false] <;> omega
theorem slicePick_cut (its : List Value) (lo hi : Option Int) : slicePick its.toArray lo hi none = ((its.drop (HT.sIx its.length 0 lo)).take (HT.sIx its.length its.length hi - HT.sIx its.length 0 lo)).toArray := by
  obtain ⟨h1, h2, h3⟩ := slice_bounds lo hi its.toArray.size
  unfold slicePick
  rw [h1, h2, h3]
  simp only [sliceRange_one, pick_run, List.size_toArray] <;> rfl
def rSlL (K : PySem.W.Frag) : V → Option Int → Option Int → Hp → VK → Prop := fun x lo hi H Q => ∃ a xs, x = .ref a ∧ SqL K H a xs ∧ ∀ p, H p = none → Q (.ref p) (upd H p (.lst (cutV xs lo hi)))
theorem sl_list : SlR X (rSlL X.K) := by
  intro pins s σ H x v vl vu lo hi sl Q I rx hs pl pu h
  obtain ⟨a, xs, rfl, hx, q⟩ := h
  cases rx
  obtain ⟨its, r, ht, hz⟩ := I.list hx
  have hlen := r.length
  refine ⟨"list", _, slot_list_getitem.lookup, ht.isList.typeIs, ?_⟩
  refine wpAny_getItem_list_slice ht.isList hs pl pu .none (by simp) ?_ (by rw [List.size_toArray] <;> omega)
  rw [slicePick_cut, ← hlen]
  refine ⟨.ref s.heap.objs.size, _, I.laid (t' := s.toks) (o := .lst (cutV xs lo hi)) (fun b ob q => Heap.get?_push_of_some _ q) (Nat.le_refl _) ?_, rfl, q _ (I.hok.fresh (Nat.le_refl _))⟩
  exact ⟨Nat.le_trans (cutV_length xs lo hi) hz, _, 0, (r.drop (HT.sIx xs.length 0 lo)).take (HT.sIx xs.length xs.length hi - HT.sIx xs.length 0 lo), Heap.get?_push_size _ rfl⟩
def flatV : V → Bool
  | .non => true
  | .bl _ => true
  | .int _ => true
  | .str _ => true
  | _ => false
def eqV : V → V → Bool
  | .non, .non => true
  | .bl a, .bl b => a == b
  | .bl a, .int b => (if a then 1 else 0) == b
  | .int a, .bl b => a == (if b then 1 else 0)
  | .int a, .int b => a == b
  | .str a, .str b => a == b
  | _, _ => false
theorem eqAt_V {A : Around} {s : Shared} {y x : V} {u v : Value} (ry : RelV y u) (rx : RelV x v) (fy : flatV y = true) (fx : flatV x = true) : SeqAt.EqAt A s u v (eqV y x) := by
  cases y with
  | non =>
    cases ry
    cases x with
    | non => cases rx; exact SeqAt.EqAt.same _
    | bl b => cases rx; exact SeqAt.EqAt.none_bool b
    | int b => obtain ⟨t, rfl⟩ := rx; exact SeqAt.EqAt.none_int b t
    | str b => obtain ⟨t, rfl⟩ := rx; exact SeqAt.EqAt.none_str b t
    | _ => exact absurd (show false = true from fx) Bool.false_ne_true
  | bl a =>
    cases ry
    cases x with
    | non => cases rx; exact SeqAt.EqAt.bool_none a
    | bl b => cases rx; exact SeqAt.EqAt.bool_bool a b
    | int b => obtain ⟨t, rfl⟩ := rx; exact SeqAt.EqAt.bool_int a b t
    | str b => obtain ⟨t, rfl⟩ := rx; exact SeqAt.EqAt.bool_str a b t
    | _ => exact absurd (show false = true from fx) Bool.false_ne_true
  | int a =>
    obtain ⟨t', rfl⟩ := ry
    cases x with
    | non => cases rx; exact SeqAt.EqAt.int_none a t'
    | bl b => cases rx; exact SeqAt.EqAt.int_bool a t' b
    | int b => obtain ⟨t, rfl⟩ := rx; exact SeqAt.EqAt.int_int a t' b t
    | str b => obtain ⟨t, rfl⟩ := rx; exact SeqAt.EqAt.int_str a t' b t
    | _ => exact absurd (show false = true from fx) Bool.false_ne_true
  | str a =>
    obtain ⟨t', rfl⟩ := ry
    cases x with
    | non => cases rx; exact SeqAt.EqAt.str_none a t'
    | bl b => cases rx; exact SeqAt.EqAt.str_bool a t' b
    | int b => obtain ⟨t, rfl⟩ := rx; exact SeqAt.EqAt.str_int a t' b t
    | str b => obtain ⟨t, rfl⟩ := rx; exact SeqAt.EqAt.str_str a t' b t
    | _ => exact absurd (show false = true from fx) Bool.false_ne_true
  | _ => exact absurd (show false = true from fy) Bool.false_ne_true
def eqU (x : V) (u : Value) : Bool := match u with
  | .none => eqV .non x
  | .bool b => eqV (.bl b) x
  | .int i _ => eqV (.int i) x
  | .str z _ => eqV (.str z) x
  | _ => false
theorem eqU_of {x y : V} {u : Value} (r : RelV y u) (f : flatV y = true) : eqU x u = eqV y x := by
  cases y with
  | non => cases r; rfl
  | bl b => cases r; rfl
  | int i => obtain ⟨t, rfl⟩ := r; rfl
  | str z => obtain ⟨t, rfl⟩ := r; rfl
  | _ => exact absurd (show false = true from f) Bool.false_ne_true
theorem any_eqU {x : V} : ∀ {xs : List V} {us : List Value}, Vals xs us → xs.all flatV = true → us.any (eqU x) = xs.any fun y => eqV y x
  | _, _, .nil, _ => rfl
  | y :: xs, u :: us, .cons r t, f => by
    rw [List.all_cons, Bool.and_eq_true] at f
    rw [List.any_cons, List.any_cons, eqU_of r f.1, any_eqU t f.2]
theorem mem_eqAt {A : Around} {s : Shared} {x : V} {v : Value} (rx : RelV x v) (fx : flatV x = true) : ∀ {xs : List V} {us : List Value}, Vals xs us → xs.all flatV = true → ∀ u ∈ us, SeqAt.EqAt A s u v (eqU x u)
  | _, _, .nil, _ => fun u hu => by cases hu
  | y :: xs, u :: us, .cons r t, f => fun u' hu => by
    rw [List.all_cons, Bool.and_eq_true] at f
    rcases List.mem_cons.mp hu with rfl | hu
    · rw [eqU_of r f.1]; exact eqAt_V r rx f.1 fx
    · exact mem_eqAt rx fx t f.2 u' hu
def inV (x : V) (xs : List V) : Bool := xs.any fun y => eqV y x
def rIn (K : PySem.W.Frag) (neg : Bool) : R2 := fun x y H Q => ∃ p xs, y = .ref p ∧ (SqL K H p xs ∨ SqT K H p xs) ∧ flatV x = true ∧ xs.all flatV = true ∧ Q (.bl (if neg then !inV x xs else inV x xs)) H
theorem op_in_seq : OpR X (compareOp .In) (rIn X.K false) := by
  intro pins s σ H x y v u Q I rx ry h
  obtain ⟨p, xs, rfl, hq, fx, fs, q⟩ := h
  cases ry
  rcases hq with hq | hq
  · obtain ⟨its, r, pl, hz⟩ := I.list hq
    refine SeqAt.in_listAt (eqU x) pl.isList (fun w hw => mem_eqAt rx fx r fs w (by simpa using hw)) ⟨.bl _, H, I, rfl, ?_⟩
    rw [show its.toArray.any (eqU x) = its.any (eqU x) by simp, any_eqU r fs]
    exact q
  · obtain ⟨its, r, pl, hz⟩ := I.tuple hq
    refine SeqAt.in_tupleAt (eqU x) pl (fun w hw => mem_eqAt rx fx r fs w (by simpa using hw)) ⟨.bl _, H, I, rfl, ?_⟩
    rw [show its.toArray.any (eqU x) = its.any (eqU x) by simp, any_eqU r fs]
    exact q
theorem op_notIn_seq : OpR X (compareOp .NotIn) (rIn X.K true) := by
  intro pins s σ H x y v u Q I rx ry h
  obtain ⟨p, xs, rfl, hq, fx, fs, q⟩ := h
  cases ry
  rcases hq with hq | hq
  · obtain ⟨its, r, pl, hz⟩ := I.list hq
    refine SeqAt.notIn_listAt (eqU x) pl.isList (fun w hw => mem_eqAt rx fx r fs w (by simpa using hw)) ⟨.bl _, H, I, rfl, ?_⟩
    rw [show its.toArray.any (eqU x) = its.any (eqU x) by simp, any_eqU r fs]
    exact q
  · obtain ⟨its, r, pl, hz⟩ := I.tuple hq
    refine SeqAt.notIn_tupleAt (eqU x) pl (fun w hw => mem_eqAt rx fx r fs w (by simpa using hw)) ⟨.bl _, H, I, rfl, ?_⟩
    rw [show its.toArray.any (eqU x) = its.any (eqU x) by simp, any_eqU r fs]
    exact q
theorem call_len_seq : CallR X (.builtin "len") (fun xs H Q => ∃ p ys, xs = [.ref p] ∧ (SqL X.K H p ys ∨ SqT X.K H p ys) ∧ Q (.int ys.length) H) := by
  intro pins s σ H xs us Q I r h
  obtain ⟨p, ys, rfl, hq, q⟩ := h
  obtain ⟨u, rfl, rx⟩ := vals1 r
  cases rx
  have hn := line63
  rcases hq with hq | hq
  · obtain ⟨its, r', pl, hz⟩ := I.list hq
    have hlen := r'.length
    exact Calls.call_len_list pl.isList (by simp only [List.size_toArray] <;> omega) ⟨.int ys.length, H, I.tok _, ⟨s.toks + 1, by rw [List.size_toArray, hlen]⟩, q⟩
  · obtain ⟨its, r', pl, hz⟩ := I.tuple hq
    have hlen := r'.length
    exact len_tuple pl (by simp only [List.size_toArray] <;> omega) ⟨.int ys.length, H, I.tok _, ⟨s.toks + 1, by rw [List.size_toArray, hlen]⟩, q⟩
theorem call_len_str : CallR X (.builtin "len") (fun xs H Q => ∃ z, xs = [.str z] ∧ z.length ≤ sizeLine ∧ Q (.int z.length) H) := by
  intro pins s σ H xs us Q I r h
  obtain ⟨z, rfl, hz, q⟩ := h
  obtain ⟨u, rfl, t, rfl⟩ := vals1 r
  have hn := line63
  exact len_str (by omega) ⟨.int z.length, H, I.tok _, ⟨_, rfl⟩, q⟩
def tyV (K : PySem.W.Frag) (T : String) (x : V) (H : Hp) : Prop := match x with
  | .str _ => T = "str"
  | .int _ => T = "int"
  | .ref p => (T = "list" ∧ ∃ xs, SqL K H p xs) ∨ (T = "tuple" ∧ ∃ o, K.lookup p = some o ∧ o.cls = .type "tuple" ∧ o.dict = none) ∨
      (T = "dict" ∧ ((∃ kvs, H p = some (.dK kvs)) ∨ ∃ kvs, H p = some (.dT kvs))) ∨ (T = "set" ∧ ∃ S n, H p = some (.set S n))
  | _ => False
theorem tyV_is {pins : List (Addr × Obj)} {σ : St} {H : Hp} {s : Shared} {T : String} {x : V} {v : Value} (I : Inv X pins σ H s) (r : RelV x v) (ty : tyV X.K T x H) :
    s.TypeIs v T ∧ ∀ a, v = .ref a → ∃ ob, s.heap.get? a = some ob ∧ ob.dict = none := by
  cases x with
  | str z =>
    obtain ⟨t, rfl⟩ := r
    cases (show T = "str" from ty)
    exact ⟨typeIs_str s z t, fun _ e => nomatch e⟩
  | int i =>
    obtain ⟨t, rfl⟩ := r
    cases (show T = "int" from ty)
    exact ⟨typeIs_int s i t, fun _ e => nomatch e⟩
  | ref p =>
    cases r
    rcases ty with ⟨rfl, xs, hq⟩ | ⟨rfl, o, hk, hc, hd⟩ | ⟨rfl, hk⟩ | ⟨rfl, S, n, hk⟩
    · obtain ⟨its, _, pl, _⟩ := I.list hq
      refine ⟨pl.isList.typeIs, fun a e => ?_⟩
      cases e
      obtain ⟨o, n, e, c, hd, _⟩ := pl
      exact ⟨o, e, hd⟩
    · refine ⟨⟨o, I.kIn p o hk, hc⟩, fun a e => ?_⟩
      cases e
      exact ⟨o, I.kIn _ o hk, hd⟩
    · have z : ∃ o, s.heap.get? p = some o ∧ o.ExactDict := by
        rcases hk with ⟨kvs, hk⟩ | ⟨kvs, hk⟩
        · obtain ⟨_, _, _, _, o, _, _, e, ex, _⟩ := I.hok p _ hk
          exact ⟨o, e, ex⟩
        · obtain ⟨_, _, _, _, o, _, _, e, ex, _⟩ := I.hok p _ hk
          exact ⟨o, e, ex⟩
      obtain ⟨o, e, ex⟩ := z
      refine ⟨⟨o, e, ex.1⟩, fun a e2 => ?_⟩
      cases e2
      exact ⟨o, e, ex.2.1⟩
    · obtain ⟨o, _, _, _, e, ex, _⟩ := I.hok p _ hk
      refine ⟨⟨o, e, ex.1⟩, fun a e2 => ?_⟩
      cases e2
      exact ⟨o, e, ex.2.1⟩
  | _ => exact False.elim ty
def tBM (K : PySem.W.Frag) (T : String) (r : V → List V → Hp → VK → Prop) (to : TE) (t : TA) : TE := fun σ H Q => to σ H fun x H1 => tyV K T x H1 ∧ t σ H1 fun xs H2 => r x xs H2 Q
variable {o e : Expr} {es : List Expr} {to : TE} {t : TA} {name : Str} {apos cpos : Pos} {T id : String} {r : V → List V → Hp → VK → Prop}
theorem pe_bm (pa : PlainAttrs T) (slot : Slot T name id) (hty : typeOf (.builtin id) = pure (.type "method_descriptor")) (hm : MtR X id r) (ho : PE X o to) (ha : PA X (e :: es) t)
    (hbase : attributeBase o name X.env (eval o X.env) = eval o X.env := by rfl)
    (hfew : ((backTo cpos (starEach (e :: es) X.env)).all (fun x => !x.1) && (backToKw cpos (keywordEach [] X.env)).all (fun x => x.1.isSome)
      && decide ((e :: es).length + ([] : List Keyword).length + (if ([] : List Keyword).isEmpty then 0 else 1) < 30)) = true := by rfl)
    (hline : (apos.endLine == cpos.line) = true := by rfl) (hs : starEach (e :: es) X.env = (false, eval e X.env) :: starEach es X.env := by rfl) (hplain : (backTo cpos (starEach es X.env)).any (·.1) = false := by rfl) :
    PE X (.Call (.Attribute o name apos) (e :: es) [] cpos) (tBM X.K T r to t) := by
  intro pins s σ H Q I h
  refine wpAny_Call_method_late hbase hfew hline rfl (thn (ho pins s σ H _ I h) fun v s1 ⟨x, H1, I1, r1, ty, q1⟩ => ?_)
  obtain ⟨h1, h2⟩ := tyV_is I1 r1 ty
  refine ⟨T, id, pa, slot, hty, h1, h2, ?_⟩
  have hA := ha cpos pins s1 σ H1 _ I1 q1
  rw [hs] at hA ⊢
  refine Calls.callWith_builtin (by show (false || (backTo cpos (starEach es X.env)).any (·.1)) = false; rw [hplain] <;> rfl) (Calls.evalArgs_plain ?_)
  exact thn hA fun us s2 ⟨vs, H2, I2, r2, q2⟩ => hm pins s2 σ H2 x vs v us Q I2 r1 r2 q2
/- xs.append(e), list.index on a module's tuple .. are MtR facts of 06m -/
end
end L2
namespace L2
open PySem PySem.Spec PyProof.Rows
def MtM (X : Cx) (id : String) (r : V → List V → Hp → VK → Prop) : Prop :=
  ∀ (pins : List (Addr × Obj)) (s : Shared) (σ : St) (H : Hp) (x : V) (xs : List V) (v : Value) (us : List Value) (Q : VK), Inv X pins σ H s → RelV x v → Vals xs us → r x xs H Q →
    wpAny (model X.prog X.w) X.A (call (.builtin id) (v :: us)) (EP X pins σ Q) X.xe s
theorem Vals.one : ∀ {x : V} {us : List Value}, Vals [x] us → ∃ u, us = [u] ∧ RelV x u
  | _, _, .cons r .nil => ⟨_, rfl, r⟩
theorem Vals.reverse {xs : List V} {us : List Value} (h : Vals xs us) : Vals xs.reverse us.reverse := by
  induction h with
  | nil => exact .nil
  | cons r t ih => rw [List.reverse_cons, List.reverse_cons]; exact Vals.append ih (.cons r .nil)
theorem Vals.rep {xs : List V} {us : List Value} (h : Vals xs us) : ∀ k : Nat, Vals (List.replicate k xs).flatten (List.replicate k us).flatten
  | 0 => .nil
  | k + 1 => by
    rw [List.replicate_succ, List.replicate_succ, List.flatten_cons, List.flatten_cons]
    exact Vals.append h (Vals.rep h k)
theorem foldl_rep (its : List Value) : ∀ (k : Nat) (acc : List Value),
    List.foldl (fun x1 x2 => x1 ++ x2) acc.toArray (List.replicate k its.toArray) = (acc ++ (List.replicate k its).flatten).toArray
  | 0, acc => by simp
  | k + 1, acc => by
    have e : acc.toArray ++ its.toArray = (acc ++ its).toArray := by simp
    have e2 : (acc ++ its) ++ (List.replicate k its).flatten = acc ++ (List.replicate (k + 1) its).flatten := by
      rw [List.replicate_succ, List.flatten_cons, List.append_assoc]
    rw [← e2, ← foldl_rep its k (acc ++ its), ← e, List.replicate_succ, List.foldl_cons]
section
variable {X : Cx} {pins : List (Addr × Obj)} {σ : St} {H : Hp} {s : Shared} {l b : Addr} {xs ys zs : List V}
theorem Inv.lset {its its' : List Value} {n : Nat} {f : Array Value → Array Value} {t' : Nat} (I : Inv X pins σ H s) (hH : H l = some (.lst xs))
    (e : s.heap.get? l = some { cls := .type "list", data := .seq its.toArray n }) (hf : f its.toArray = its'.toArray) (hv : Vals ys its') (hz : ys.length ≤ sizeLine) :
    Inv X pins σ (upd H l (.lst ys)) { s with heap := s.heap.update l (Obj.mapSeq f), toks := t' } := by
  have q := PySem.IsL.update e f
  rw [hf] at q
  refine I.write (x := l) (e := l) (by rw [hH]; exact trivial) (.inl rfl) (fun b' u hb hu => (Heap.get?_update_other s.heap (Obj.mapSeq f) (Ne.symm hb)).trans hu) ⟨_, q⟩ ?_
  exact ⟨hz, its', _, hv, q⟩
theorem Inv.lnew {its : List Value} {t' : Nat} (I : Inv X pins σ H s) (hv : Vals ys its) (hz : ys.length ≤ sizeLine) :
    Inv X pins σ (upd H s.heap.objs.size (.lst ys)) { s with heap := s.heap.push { cls := .type "list", data := .seq its.toArray }, toks := t' } :=
  I.laid (fun _ _ q => Heap.get?_push_of_some _ q) (Nat.le_refl _) ⟨hz, its, 0, hv, Heap.get?_push_size _ rfl⟩
theorem Inv.fresh (I : Inv X pins σ H s) : H s.heap.objs.size = none := I.hok.fresh (Nat.le_refl _)
theorem Inv.lstM (I : Inv X pins σ H s) (hH : H l = some (.lst xs)) : xs.length ≤ sizeLine ∧ ∃ (its : List Value) (n : Nat), Vals xs its ∧ xs.length = its.length ∧ s.heap.get? l = some { cls := .type "list", data := .seq its.toArray n } := by
  obtain ⟨z, its, n, r, e⟩ := I.hok l _ hH
  exact ⟨z, its, n, r, r.length, e⟩
theorem notLongL {n : Nat} (h : n ≤ sizeLine) : Builtin.List.listTooLong n = false := by
  unfold Builtin.List.listTooLong
  exact decide_eq_false (by omega)
end
section
variable {X : Cx}
def rAppend : V → List V → Hp → VK → Prop := fun x vs H Q => ∃ l xs y, x = .ref l ∧ vs = [y] ∧ H l = some (.lst xs) ∧ xs.length < sizeLine ∧ Q .non (upd H l (.lst (xs ++ [y])))
theorem mt_append : MtM X "list.append" rAppend := by
  intro pins s σ H x vs v us Q I rx rv h
  obtain ⟨l, xs, y, rfl, rfl, hH, hz, q⟩ := h
  cases rx
  obtain ⟨u, rfl, ru⟩ := rv.one
  obtain ⟨z, its, n, r, hl, e⟩ := I.lstM hH
  refine call_meets F.slot_list_append ⟨_, e, rfl⟩ F.entry_list_append (F.args_list_append_2 _ _) (PySem.list_append l its.toArray n u (by rw [List.size_toArray]; omega)) ⟨e, ?_⟩
  refine ⟨.non, _, I.lset (its' := its ++ [u]) hH e (by simp) (r.append (.cons ru .nil)) ?_, rfl, q⟩
  rw [List.length_append, List.length_singleton]
  omega
def rCat : R2 := fun x y H Q => ∃ l b xs zs, x = .ref l ∧ y = .ref b ∧ H l = some (.lst xs) ∧ H b = some (.lst zs) ∧ xs.length + zs.length ≤ sizeLine ∧ ∀ p, H p = none → Q (.ref p) (upd H p (.lst (xs ++ zs)))
theorem op_cat : OpR X (binaryOp .Add) rCat := by
  intro pins s σ H x y v u Q I rx ry h
  obtain ⟨l, b, xs, zs, rfl, rfl, hH, hB, hz, q⟩ := h
  cases rx
  cases ry
  obtain ⟨z, its, n, r, hl, e⟩ := I.lstM hH
  obtain ⟨z2, its2, n2, r2, hl2, e2⟩ := I.lstM hB
  refine PySem.P.add_list e e2 ?_ (by rw [List.size_toArray, List.size_toArray]; omega)
  have ea : its.toArray ++ its2.toArray = (its ++ its2).toArray := by simp
  rw [ea]
  exact ⟨.ref _, _, I.lnew (t' := s.toks) (r.append r2) (by rw [List.length_append]; omega), rfl, q _ I.fresh⟩
def rRep : R2 := fun x y H Q => ∃ l k xs, x = .ref l ∧ y = .int k ∧ H l = some (.lst xs) ∧ -(2 ^ 63) ≤ k ∧ k < 2 ^ 63 ∧ xs.length * k.toNat ≤ sizeLine ∧
  ∀ p, H p = none → Q (.ref p) (upd H p (.lst (List.replicate k.toNat xs).flatten))
theorem len_rep {α : Type} (xs : List α) (k : Nat) : (List.replicate k xs).flatten.length = k * xs.length := by
  induction k with
  | zero => simp
  | succ k ih => rw [List.replicate_succ, List.flatten_cons, List.length_append, ih, Nat.succ_mul, Nat.add_comm]
theorem op_rep : OpR X (binaryOp .Mult) rRep := by
  intro pins s σ H x y v u Q I rx ry h
  obtain ⟨l, k, xs, rfl, rfl, hH, h1, h2, hz, q⟩ := h
  cases rx
  obtain ⟨t, rfl⟩ := ry
  obtain ⟨z, its, n, r, hl, e⟩ := I.lstM hH
  have hlen : its.toArray.size * k.toNat ≤ sizeLine := by rw [List.size_toArray, ← hl]; exact hz
  have hcap : ¬ its.toArray.size * k.toNat > (2 ^ 63 - 1) / 8 := by
    have : (sizeLine : Nat) ≤ (2 ^ 63 - 1) / 8 := by decide
    omega
  have hfit : ¬ (!Builtin.List.listFitsIndex k) = true := by
    rw [fitsIndex_both h1 h2]
    exact Bool.false_ne_true
  have hlong : ¬ Builtin.List.listTooLong (its.toArray.size * k.toNat) = true := by
    rw [notLongL hlen]
    exact Bool.false_ne_true
  have hnew : List.foldl (fun x1 x2 => x1 ++ x2) #[] (List.replicate (if its.toArray.isEmpty = true then 0 else k.toNat) its.toArray) = (List.replicate k.toNat its).flatten.toArray := by
    have f0 : ∀ m : Nat, List.foldl (fun x1 x2 => x1 ++ x2) #[] (List.replicate m its.toArray) = (List.replicate m its).flatten.toArray := fun m => by
      have := foldl_rep its m []
      rw [List.nil_append] at this
      exact this
    rw [f0]
    cases its with
    | nil => simp
    | cons a r' => rw [if_neg (by simp)]
  refine wpAny_binaryOp_repeat_ref (T := "list") (U := "int") (by decide) ⟨_, e, rfl⟩ (fun s' => typeIs_int s' k t) noFill_list_mul F.fills_int_mul F.slot_int_rmul repeat_list F.slot_int_index.lookup
    (call_meets F.slot_int_rmul (typeIs_int s k t) F.entry_int_rmul (F.args_int_rmul_2 _ _) (int___rmul___int_list k t l its.toArray n)
      ⟨e, rfl, ⟨_, e, rfl⟩, call_meets F.slot_list_mul ⟨_, e, rfl⟩ F.entry_list_mul (F.args_list_mul_2 _ _) (AutoListH.list___mul___list_int_3 l its.toArray n k t hfit hcap hlong) ⟨e, ?_⟩⟩)
  rw [hnew]
  exact ⟨.ref _, _, I.lnew (t' := s.toks) (r.rep k.toNat) (by rw [len_rep, Nat.mul_comm]; exact hz), rfl, q _ I.fresh⟩
end
section
variable {prog : Program} {w : World} {A : Around} {E : Value → Shared → Prop} {s : Shared}
end
section
variable {X : Cx}
end
end L2
namespace Att
open PySem PySem.W PySem.Calls PyProof.Rows
theorem ints_of_wellAll {P : Params} {h : Heap} : ∀ (ns : List Int) (vs : List Value), WellAll P h vs (ns.map WData.int) → IntsAre vs ns := by
  intro ns
  induction ns with
  | nil =>
    intro vs w
    rw [List.map_nil] at w
    cases w
    exact .nil
  | cons n ns ih =>
    intro vs w
    rw [List.map_cons] at w
    cases w with
    | cons a b =>
      cases a
      exact .cons _ _ (ih _ b)
theorem script_of {l : OpenLaw} {n : Nat} (hn : l.most = some n) {P : Params} {h : Heap} {args : List WData} {vals : List Value}
    (hpre : l.row.toRowW.claim.pre args = true) (hwl : WellAll P h vals args) :
    ∃ a vs ns, vals = [Value.ref a] ∧ args = [WData.list (ns.map WData.int)] ∧ h.get? a = some { cls := .type "list", data := .seq vs.toArray } ∧ IntsAre vs ns ∧ ns.length ≤ n := by
  have hsh : WShape.hasAll [] args [.list .int] = true := (pre_splitW hpre).1
  have hc : l.pre.holds [] { args := args } = true := (pre_splitW hpre).2
  obtain ⟨d, r, rfl, h1, h2⟩ := hasAllW_cons hsh
  obtain rfl := hasAllW_nil h2
  obtain ⟨xs, rfl, h3⟩ := hasW_list h1
  obtain ⟨ns, rfl⟩ := items_int h3
  have hlen : ns.length ≤ n := by
    unfold OpenLaw.pre at hc
    have h4 : (WTm.not (.lt (.lit (.int (n : Int))) (.len (.arg 0)))).holds [] { args := [.list (ns.map .int)] } = true := by
      have h4 := (holds_andW hc).1
      rw [hn] at h4
      exact h4
    have h5 := condW_of h4 (w_not (w_lt w_lit (w_len_list (w_arg rfl))))
    rw [List.length_map] at h5
    refine Nat.le_of_not_lt fun q => ?_
    have q' : (n : Int) < ((ns.length : Nat) : Int) := by omega
    first
      | (rw [decide_eq_true q'] at h5; exact absurd h5 (by decide))
      | (simp at h5; omega)
  cases hwl with
  | cons w1 w2 =>
    cases w2
    cases w1 with
    | list ho hall => exact ⟨_, _, ns, rfl, rfl, ho, ints_of_wellAll ns _ hall, hlen⟩
theorem post_true (l : OpenLaw) (args : List WData) : l.row.toRowW.claim.post args (.bool true) args = true :=
  postW_of (r := l.row.toRowW) (X := (true == true))
    (show WShape.has [] (.bool true) .bool = true by first | rfl | decide | simp [WShape.has, WShape.arms, WShape.armsAll])
    (show (WTm.eq .res (.lit (.bool true))).value [] { args := args, res := some (.bool true), after := args } = some (.bool (true == true)) from w_eq_bool (w_res rfl) w_lit) rfl
theorem attach {l : OpenLaw} {n : Nat} {q : Program} {loose : List Str} {XP : (Str → Option Value) → Heap → Prop} {YP : World → Heap → Prop} {d : DefRec} {x : Str}
    (hn : l.most = some n) (hdf : d.params.defaults = [])
    (hbind : ∀ pm cd doc v : Value, bindArgs (docDef d.name d.params d.body d.scope pm cd doc) ⟨[v], []⟩ = pure [(x, v)])
    (hx : d.scope.names.lookup x = some .local ∨ d.scope.names.lookup x = some .cell)
    (hk : d.scope.kind = .function) (hco : d.scope.isCoroutine = false) (hgen : d.scope.isGenerator = false)
    (body : ∀ (w : World) (s₀ s₁ s : Shared) (mg mb : Str → Option Value) (fa : Addr) (o : Obj) (pm cd doc : Value) (a : Addr) (vs : List Value) (ns : List Int),
      Ground q loose [] XP w s₀ mg mb s₁.heap → YP w s₁.heap →
      s₁.heap.get? fa = some o → o.data = .func (docDef d.name d.params d.body d.scope pm cd doc) → s₁.heap.CodeRec cd d.name → mg d.name = some (.ref fa) →
      s₁.heap.get? a = some { cls := .type "list", data := .seq vs.toArray } → IntsAre vs ns → ns.length ≤ n →
      s.gens = #[] → s.os = s₁.os →
      Fr s₁.heap s₁.heap.objs.size s.heap (bindL (envOfC d.name d.scope s₁.heap.objs.size fa cd).kindOf [(x, .ref a)] fun _ => none) →
      Cl s₁.heap.objs.size (cellsFrom (s₁.heap.objs.size + 1) d.scope.names []) s.heap (bindC (envOfC d.name d.scope s₁.heap.objs.size fa cd).kindOf [(x, .ref a)] fun _ => none) →
      wpAny (model l.prog w) (callerA.deeper (envOfC d.name d.scope s₁.heap.objs.size fa cd)) (execs d.body (envOfC d.name d.scope s₁.heap.objs.size fa cd))
        (fun f s' => f = .ret (.bool true) ∧ OldK s₁.heap s'.heap ∧ s'.os = s₁.os ∧ AllBare s'.gens) (fun _ _ => False) s) :
    WalkO q loose XP YP l.row.toRowW d [] (fun f vs => PySem.call f vs) := by
  intro w s₀ s₁ mg mb G Y fa o pm cd doc dV kV ho hd hcd hD hmg hg args vals as hpre hlay hrd hwl hlo
  obtain rfl : dV = .none := Dflts.none hD hdf
  obtain rfl : kV = .none := Dflts.noKw hD
  obtain ⟨a, vs, ns, rfl, rfl, hobj, hints, hlen⟩ := script_of hn hpre hwl
  refine enter_call ?_
  refine call_cells_ret (o := o) (by rw [depth_caller]; decide) ho (fd_plain hd) G.T.nolimit hcd (hbind pm cd doc (.ref a)) (fun y hy => ?_) (fun h₁ tk F X => ?_) hco hgen hk
  · obtain rfl : y = (x, Value.ref a) := List.mem_singleton.mp hy
    rcases hx with e | e
    · exact .inl e
    · exact .inr ⟨e, cellsFrom_some _ _ _ (.inl e)⟩
  · refine wpAny_mono (body w s₀ s₁ { s₁ with heap := h₁, toks := tk } mg mb fa o pm cd doc a vs ns G Y ho (fd_plain hd) hcd hmg hobj hints hlen hg rfl F X) (fun f s' hq => ?_) (fun _ _ hq => hq)
    obtain ⟨rfl, h2, h3, h4⟩ := hq
    exact ⟨.inl ⟨.bool true, .bool true, [], rfl, fun _ => rfl, .bool true, post_true l _, fun _ => ⟨List.Pairwise.nil, fun _ hm => (nomatch hm)⟩⟩, h2, h3, h4⟩
theorem attach_call {l : OpenLaw} {n : Nat} {q : Program} {loose : List Str} {XP : (Str → Option Value) → Heap → Prop} {YP : World → Heap → Prop} {d : DefRec}
    (hn : l.most = some n) (hdf : d.params.defaults = [])
    (call : ∀ (w : World) (s₀ s₁ : Shared) (mg mb : Str → Option Value) (fa : Addr) (o : Obj) (pm cd doc : Value) (a : Addr) (vs : List Value) (ns : List Int),
      Ground q loose [] XP w s₀ mg mb s₁.heap → YP w s₁.heap →
      s₁.heap.get? fa = some o → o.data = .func (docDef d.name d.params d.body d.scope pm cd doc) → s₁.heap.CodeRec cd d.name → mg d.name = some (.ref fa) →
      s₁.heap.get? a = some { cls := .type "list", data := .seq vs.toArray } → IntsAre vs ns → ns.length ≤ n → s₁.gens = #[] →
      codeAny (model l.prog w) callerA (.call (.ref fa) ⟨[.ref a], []⟩) (fun r s' => r = .ok (.ret (.bool true)) ∧ OldK s₁.heap s'.heap ∧ s'.os = s₁.os ∧ AllBare s'.gens) s₁) :
    WalkO q loose XP YP l.row.toRowW d [] (fun f vs => PySem.call f vs) := by
  intro w s₀ s₁ mg mb G Y fa o pm cd doc dV kV ho hd hcd hD hmg hg args vals as hpre hlay hrd hwl hlo
  obtain rfl : dV = .none := Dflts.none hD hdf
  obtain rfl : kV = .none := Dflts.noKw hD
  obtain ⟨a, vs, ns, rfl, rfl, hobj, hints, hlen⟩ := script_of hn hpre hwl
  refine enter_call (codeAny_mono (call w s₀ s₁ mg mb fa o pm cd doc a vs ns G Y ho (fd_plain hd) hcd hmg hobj hints hlen hg) fun r s' hq => ?_)
  obtain ⟨rfl, h2, h3, h4⟩ := hq
  exact ⟨.inl ⟨.bool true, .bool true, [], rfl, fun _ => rfl, .bool true, post_true l _, fun _ => ⟨List.Pairwise.nil, fun _ hm => (nomatch hm)⟩⟩, h2, h3, h4⟩
section
variable {prog : Program} {w : World} {A : Around} {E : Value → Shared → Prop} {s : Shared} {K : Frag}
end
end Att
namespace L2
open PySem PySem.Spec PyProof.Rows
theorem vals_ints : ∀ {vs : List Value} {ns : List Int}, IntsAre vs ns → Vals (ns.map V.int) vs
  | _, _, .nil => .nil
  | _, _, .cons n t h => .cons ⟨t, rfl⟩ (vals_ints h)
def Only (H : Hp) : Prop := ∀ b, H b = none ∨ ∃ o xs, H b = some (.frz o (.lst xs))
theorem law_call {P : Program} {w : World} {K : PySem.W.Frag} {mg mb : Str → Option Value} {CX : CXT} {k : Nat} {fa a : Addr} {fd : FuncData} {x : Str} {sp : Sp} {s₁ : Shared} {vs : List Value} {ns : List Int}
    (KX : K.In s₁.heap) (hns : s₁.heap.Ns mainGlobals mg) (hb : s₁.heap.Ns builtinsNs mb) (hbb : ∀ x : Str, x ≠ "__name__" → mb x = bootBuiltins x) (hlim : s₁.heap.NoLimit) (hg : s₁.gens = #[])
    (ha : s₁.heap.get? a = some { cls := .type "list", data := .seq vs.toArray }) (hi : IntsAre vs ns) (hl : ns.length ≤ sizeLine) (hr : Room k callerA)
    (F : ∀ base : Heap, K.In base → base.Ns mainGlobals mg → FnOk P w K mg base CX k fa fd [x] sp) (hbind : ∀ (s : Shared) (u : Value), BindsTo s fd ⟨[u], []⟩ [(x, u)])
    (hsp : ∀ H : Hp, Only H → SqL K H a (ns.map V.int) → sp [.ref a] H (fun v _ => v = .bl true) fun _ _ _ => False)
    (hCX : ∀ H e s', CX [] H s₁ (fun _ _ _ => False) e s' → False) :
    codeAny (model P w) callerA (.call (.ref fa) ⟨[.ref a], []⟩) (fun r s' => r = .ok (.ret (.bool true)) ∧ OldK s₁.heap s'.heap ∧ s'.os = s₁.os ∧ AllBare s'.gens) s₁ := by
  have rv := vals_ints hi
  have lenV := hi.length
  -- from an abstract heap in which nothing but the script may be tracked
  have core : ∀ H : Hp, Only H → SqL K H a (ns.map V.int) → HOk P w H s₁.heap → (∀ b, H b ≠ none → b = a) → (H a ≠ none → K.lookup a = none) →
      codeAny (model P w) callerA (.call (.ref fa) ⟨[.ref a], []⟩) (fun r s' => r = .ok (.ret (.bool true)) ∧ OldK s₁.heap s'.heap ∧ s'.os = s₁.os ∧ AllBare s'.gens) s₁ := by
    intro H hO hS hok hA hK
    have base_of : ∀ {b : Addr} {o : Obj}, s₁.heap.get? b = some o → H b = none → (hidT s₁.heap H).get? b = some o := fun e n => hidT_get e n
    have noA : ∀ {b : Addr} {o : Obj} {es : Array DictEntry} {ep : Nat}, s₁.heap.get? b = some o → o.data = .dict es ep → H b = none := fun {b o es ep} e d => by
      cases q : H b with
      | none => rfl
      | some u =>
        have e' : b = a := hA b (by rw [q]; simp)
        subst e'
        rw [ha] at e; cases e
        have d' : Data.seq vs.toArray _ = Data.dict es ep := d
        cases d'
    have nsK : ∀ {b : Addr} {m : Str → Option Value}, s₁.heap.Ns b m → (hidT s₁.heap H).Ns b m := fun {b m} ⟨o, es, ep, e, d, r⟩ => ⟨o, es, ep, base_of e (noA e d), d, r⟩
    have hKb : K.In (hidT s₁.heap H) := fun b o e => base_of (KX b o e) (by
      cases q : H b with
      | none => rfl
      | some u =>
        have e' : b = a := hA b (by rw [q]; simp)
        subst e'
        rw [hK (by rw [q]; simp)] at e; cases e)
    have hM : Mod K mg (hidT s₁.heap H) := ⟨hKb, nsK hns, ⟨mb, nsK hb, hbb⟩, let ⟨mc, h1, h2⟩ := hlim; ⟨mc, nsK h1, h2⟩⟩
    have e0 : Env0 P w K mg (hidT s₁.heap H) callerA [] s₁ H := ⟨rfl, hM, fun b o e => of_hidT e, Nat.le_of_eq (hidT_size _ _), trivial, fun b hb => absurd (show b ∈ ([] : List Addr) from hb) (by simp), hok, .of_eq hg⟩
    refine codeAny_mono ((F _ hKb (nsK hns)).run callerA [] s₁ H ⟨[.ref a], []⟩ [.ref a] [.ref a] _ _ hr e0 (hbind s₁ (.ref a)) (.cons rfl .nil) (hsp H hO hS)) fun r s' h => ?_
    cases r with
    | error e => exact (hCX H e s' h).elim
    | ok fl =>
      cases fl with
      | next => exact False.elim h
      | brk => exact False.elim h
      | cont => exact False.elim h
      | ret u =>
        obtain ⟨v, H', os, bare, un, hok', r', q⟩ := h
        have q' : v = .bl true := q
        subst q'
        obtain rfl : u = Value.bool true := r'
        refine ⟨rfl, OldK.of_keep fun b o e => ?_, os, bare⟩
        cases q : H b with
        | none => exact un.keep b o e q (by intro z; exact absurd (show b ∈ ([] : List Addr) from z) (by simp)) (by simp)
        | some u =>
          rcases hO b with z | ⟨ob, xs, z⟩
          · rw [q] at z; cases z
          · have z2 := un.frzs b ob _ z
            obtain ⟨e1, _⟩ := hok b _ z
            obtain ⟨e2, _⟩ := hok' b _ z2
            rw [e] at e1; cases e1
            exact e2
  cases hk : K.lookup a with
  | some o =>
    -- the script is one of the module's own objects
    have e := KX a o hk
    rw [ha] at e
    cases e
    refine core (fun _ => none) (fun _ => .inl rfl) (.inr ⟨_, vs.toArray, _, hk, rfl, rfl, rfl, by rw [List.size_toArray, lenV]; exact hl, by simpa using rv⟩) (fun b u z => by have z' : (none : Option HO) = some u := z; cases z') (fun b z => absurd rfl z) fun z => absurd rfl z
  | none =>
    refine core (fun b => if b = a then some (.frz { cls := .type "list", data := .seq vs.toArray } (.lst (ns.map V.int))) else none) (fun b => ?_) (.inl (.inr ⟨{ cls := .type "list", data := .seq vs.toArray }, if_pos rfl⟩)) (fun b u z => ?_) (fun b z => ?_) fun _ => hk
    · by_cases hb : b = a
      · exact .inr ⟨_, _, if_pos hb⟩
      · exact .inl (if_neg hb)
    · by_cases hb : b = a
      · have z' := (if_pos hb).symm.trans z
        cases z'
        subst hb
        exact ⟨ha, by rw [List.length_map]; exact hl, vs, _, rv, ha⟩
      · have z' := (if_neg hb).symm.trans z
        cases z'
    · by_cases hb : b = a
      · exact hb
      · exact absurd (if_neg hb) z
end L2
namespace L2
open PySem PySem.Spec PyProof.Rows
theorem walk_of {l : PySem.W.OpenLaw} {n k : Nat} {q : Program} {loose : List Str} {XP : (Str → Option Value) → Heap → Prop} {YP : World → Heap → Prop} {d : DefRec} {K : Params → PySem.W.Frag} {CX : World → CXT} {sp : World → Sp} {x : Str}
    (hn : l.most = some n) (hn2 : n ≤ sizeLine) (hdf : d.params.defaults = []) (hr : Room k callerA)
    (hY : ∀ (w : World) (h : Heap), YP w h → (K w.params).In h)
    (F : ∀ (w : World) (mg : Str → Option Value) (fa : Addr) (h : Heap), (K w.params).In h → h.Ns mainGlobals mg → mg d.name = some (.ref fa) →
      ∃ fd : FuncData, (∀ (s : Shared) (u : Value), BindsTo s fd ⟨[u], []⟩ [(x, u)]) ∧
        ∀ base : Heap, (K w.params).In base → base.Ns mainGlobals mg → FnOk l.prog w (K w.params) mg base (CX w) k fa fd [x] (sp w))
    (hsp : ∀ (w : World) (H : Hp) (a : Addr) (ns : List Int), ns.length ≤ n → Only H → SqL (K w.params) H a (ns.map V.int) → sp w [.ref a] H (fun v _ => v = .bl true) fun _ _ _ => False)
    (hCX : ∀ (w : World) (H : Hp) (s : Shared) (e : Value) (s' : Shared), CX w [] H s (fun _ _ _ => False) e s' → False) :
    PySem.W.WalkO q loose XP YP l.row.toRowW d [] (fun f vs => PySem.call f vs) := by
  refine Att.attach_call hn hdf fun w s₀ s₁ mg mb fa o pm cd doc a vs ns G Y ho hd hcd hmg hobj hints hlen hg => ?_
  have KX := hY w _ Y
  obtain ⟨fd, hb, hF⟩ := F w mg fa _ KX G.T.g hmg
  exact law_call KX G.T.g G.T.b G.T.builtins G.T.nolimit hg hobj hints (Nat.le_trans hlen hn2) hr hF hb (fun H hO hS => hsp w H a ns hlen hO hS) fun H e s' => hCX w H s₁ e s'
end L2
/- THE LAST THEOREM (shape; LID, My.* are yours):
   My.Adr: a structure of the addresses that your layer names (classes, functions); My.Txt K t: a structure (Prop) of the equations over K;
   My.txt_mk : {K} {implicit addresses ..} (e1 : nsIn K mainGlobals "law" = some (some (.ref f))) (e2 : K.lookup f = some ⟨oc, od, .func (fnOf "law" "law" params body scope dV kV doc pm an cdv ct), sl⟩) (e3 : codeIn K cdv "law" = true) .. : ∃ t, My.Txt K t
set_option maxRecDepth 100000 in
set_option maxHeartbeats 0 in
theorem PySem.Challenge.cw_LID_holds : PySem.Challenge.rw_LID.Holds := by
  w_on; o_law; k_head; (case hw => w_witness2)
  k_fill
  refine L2.walk_of (l := PySem.Challenge.rw_LID) (n := 63) (k := 40) (x := "script") (CX := fun w => ..) (sp := fun _ => My.sp_law) rfl (by decide) rfl ⟨rfl, by decide, by decide⟩ (fun w h Y => PySem.W.kIn_of Y) ?F ?S ?C
  case F =>
    intro w mg fa h KX G hmg
    have T : ∃ t, My.Txt (L2.KOf KX) t := by
      dsimp only [L2.KOf]                          -- K must stand as «<heap const> w.params» for k_is
      refine' My.txt_mk ?e1 ?e2 ?e3 ..
      (case e1 => PySem.W.k_is)                    -- in the order: a name -> its address -> its object -> its parts
      (case e2 => PySem.W.k_is)
      ..
    obtain ⟨t, T⟩ := T
    have e0 := hmg.symm.trans (PySem.W.mg_of KX G T.law)
    cases e0                                       -- fa is the law's own address
    exact ⟨_, fun s u => .of_eq rfl, fun base kb nb => My.law_fn T kb nb⟩     -- if «.of_eq rfl» comes too early: refine' ⟨_, ?b, fun base kb nb => My.law_fn T kb nb⟩; exact fun s u => .of_eq rfl
  case S => exact fun w H a ns hl hO hS => ..
  case C => exact ..
(the tactic k_is has no namespace: write k_is) -/
namespace L2
open PySem PySem.Spec PyProof.Rows
def defArgs (s : Stmt) : Arguments := match s with
  | .FunctionDef _ a _ _ _ _ _ _ _ _ => a
  | _ => { posonlyargs := [], args := [], vararg := none, kwonlyargs := [], kw_defaults := [], kwarg := none, defaults := [] }
def defBody (s : Stmt) : List Stmt := match s with
  | .FunctionDef _ _ b _ _ _ _ _ _ _ => b
  | _ => []
def defScope (s : Stmt) : Scope := match s with
  | .FunctionDef _ _ _ _ _ _ sc _ _ _ => sc
  | _ => { kind := .function, names := [], isGenerator := false, isCoroutine := false }
abbrev E0 : XK := fun _ _ _ => False
structure Fun (K : PySem.W.Frag) (x qual : Str) (st : Stmt) (f : Addr) (fd : FuncData) : Prop where
  ex : ∃ (oc : Value) (od : Option Addr) (kV doc pm : Value) (an : Option Addr) (cdv ct : Value) (osl : Array (Option Value)),
    fd = PySem.W.fnOf x qual (defArgs st) (defBody st) (defScope st) .none kV doc pm an cdv ct ∧ K.lookup f = some ⟨oc, od, .func fd, osl⟩ ∧ PySem.W.codeIn K cdv qual = true
  kp : PySem.W.keepIn K (.ref f) = true
section
variable {P : Program} {w : World} {K : PySem.W.Frag} {mg : Str → Option Value} {base : Heap}
theorem Fun.binds {x qual : Str} {st : Stmt} {f : Addr} {fd : FuncData} {ps : List Str} (F : Fun K x qual st f fd)
    (h : ∀ (kV doc pm : Value) (an : Option Addr) (cdv ct : Value) (us : List Value), us.length = ps.length → bindArgs (PySem.W.fnOf x qual (defArgs st) (defBody st) (defScope st) .none kV doc pm an cdv ct) ⟨us, []⟩ = pure (ps.zip us)) : Binds K fd ps [] := by
  obtain ⟨oc, od, kV, doc, pm, an, cdv, ct, osl, rfl, lk, hcd⟩ := F.ex
  exact .all (h kV doc pm an cdv ct)
theorem fun_mk {x qual : Str} {st : Stmt} {f : Addr} {oc : Value} {od an : Option Addr} {osl : Array (Option Value)} {kV doc pm cdv ct : Value} (l : K.lookup f = some ⟨oc, od, .func (PySem.W.fnOf x qual (defArgs st) (defBody st) (defScope st) .none kV doc pm an cdv ct), osl⟩)
    (c : PySem.W.codeIn K cdv qual = true) (k : PySem.W.keepIn K (.ref f) = true) : Fun K x qual st f (PySem.W.fnOf x qual (defArgs st) (defBody st) (defScope st) .none kV doc pm an cdv ct) := ⟨⟨oc, od, kV, doc, pm, an, cdv, ct, osl, rfl, l, c⟩, k⟩
end
theorem small1000 {n : Nat} (h : n ≤ 1000) : n < sizeLine := Nat.lt_of_le_of_lt h (by decide)
section
variable {X : Cx}
theorem pv (i : Nat) {x : Str} {pos : Pos} (hN : X.N[i]? = some x := by rfl) (hv : Vis X.env.scope x := by first | exact Or.inl rfl | exact Or.inr (Or.inl rfl) | exact Or.inr (Or.inr rfl)) (hd : (x == ("__debug__" : Str)) = false := by decide)
    (hcd : (x == ("__classdict__" : Str)) = false := by decide) : PE X (.Name x pos) (tVar i) := pe_var hN hv hd hcd
end
def Same (H H' : Hp) : Prop := ∀ b o, H b = some o → H' b = some o
theorem Same.refl (H : Hp) : Same H H := fun _ _ h => h
theorem Same.trans {H H1 H2 : Hp} (a : Same H H1) (b : Same H1 H2) : Same H H2 := fun c o h => b c o (a c o h)
theorem Same.seq {K : PySem.W.Frag} {H H' : Hp} {a : Addr} {xs : List V} (e : Same H H') (h : SqL K H a xs) : SqL K H' a xs := by
  rcases h with (h | ⟨o, h⟩) | h
  · exact .inl (.inl (e _ _ h))
  · exact .inl (.inr ⟨o, e _ _ h⟩)
  · exact .inr h
end L2
set_option maxRecDepth 100000
set_option exponentiation.threshold 4000
namespace L2
open PySem PySem.Spec PyProof.Rows
def Bd (n : Nat) (i : Int) : Prop := i.natAbs < 2 ^ n
theorem Bd.log2 {n : Nat} {i : Int} (h : Bd n i) (hn : 0 < n) : i.natAbs.log2 < n := by
  by_cases h0 : i.natAbs = 0
  · rw [h0]; exact hn
  · exact (Nat.log2_lt h0).mpr h
theorem Bd.bits {n : Nat} {i : Int} (h : Bd n i) : Builtin.Int.intBits i ≤ n := by
  unfold Builtin.Int.intBits
  split
  · exact Nat.zero_le _
  · rename_i h0
    have h1 : i.natAbs ≠ 0 := by
      intro z
      apply h0
      simpa using z
    have := (Nat.log2_lt h1).mpr h
    omega
theorem Bd.mulOk {m n : Nat} {i j : Int} (h1 : Bd m i) (h2 : Bd n j) (hm : m ≤ 2 ^ 20) (hn : n ≤ 2 ^ 20) : IntMulOk i j := IntMulOk.of_bits (Nat.le_trans h1.bits hm) (Nat.le_trans h2.bits hn)
theorem Bd.mul {m n : Nat} {i j : Int} (h1 : Bd m i) (h2 : Bd n j) : Bd (m + n) (i * j) := by
  unfold Bd at *
  rw [Int.natAbs_mul, Nat.pow_add]
  exact Nat.mul_lt_mul'' h1 h2
def CDivB (_ j : Int) : Prop := j ≠ 0 ∧ j.natAbs.log2 < 9000
section
variable {X : Cx}
theorem op_mulB : OpR X (binaryOp .Mult) (rI IntMulOk fun i j => .int (i * j)) := opI fun _ _ _ _ _ _ _ hc q => mul_int q hc
theorem op_fdivB : OpR X (binaryOp .FloorDiv) (rI CDivB fun i j => .int (i.fdiv j)) := opI fun _ _ _ _ _ _ _ hc q => floordiv_int hc.1 q (.inl (PyProof.noPylong_of_log2 hc.2))
def rAddA : R2 := fun x y H Q => rI0 (fun i j => .int (i + j)) x y H Q ∨ rCat x y H Q
theorem op_addA : OpR X (binaryOp .Add) rAddA := op_add.or op_cat
def rMulA : R2 := fun x y H Q => rI IntMulOk (fun i j => .int (i * j)) x y H Q ∨ rRep x y H Q
theorem op_mulA : OpR X (binaryOp .Mult) rMulA := op_mulB.or op_rep
def rModA : R2 := rI (fun _ j => j ≠ 0) fun i j => .int (i.fmod j)
theorem op_modA : OpR X (binaryOp .Mod) rModA := op_modN
def rDivA : R2 := rI CDivB fun i j => .int (i.fdiv j)
theorem op_divA : OpR X (binaryOp .FloorDiv) rDivA := op_fdivB
def rSubI : R2 := rI0 fun i j => .int (i - j)
theorem op_subI : OpR X (binaryOp .Sub) rSubI := op_sub
def rPowI : R2 := rI CPow fun i j => .int (i ^ j.toNat)
theorem op_powI : OpR X (binaryOp .Pow) rPowI := op_pow
def rLtI : R2 := rI0 fun i j => .bl (decide (i < j))
def rGtI : R2 := rI0 fun i j => .bl (decide (j < i))
def rGeI : R2 := rI0 fun i j => .bl (decide (j ≤ i))
theorem op_ltI : OpR X (compareOp .Lt) rLtI := op_lt
theorem op_gtI : OpR X (compareOp .Gt) rGtI := op_gt
theorem op_geI : OpR X (compareOp .GtE) rGeI := op_ge
theorem pe_powc {a : Int} {n : Nat} {j1 j2 : Nat} {p1 p2 pos : Pos} (hn : n ≤ 1000000) (ha : a.natAbs < 2 ^ 64) : PE X (.BinOp (.Constant (.int a) j1 p1) .Pow (.Constant (.int (n : Int)) j2 p2) pos) (tC (.int (a ^ n))) := by
  intro pins s σ H Q I h
  exact pe_op op_powI pe_int pe_int pins s σ H Q I ⟨a, n, rfl, rfl, ⟨Int.natCast_nonneg n, Int.ofNat_le.mpr hn, ha⟩, h⟩
def rIxA (K : PySem.W.Frag) : R2 := fun x y H Q => rIxL K x y H Q ∨ rIxT K x y H Q
theorem ix_A : IxR X (rIxA X.K) := ix_list.or ix_tup
def rSlA (K : PySem.W.Frag) : V → Option Int → Option Int → Hp → VK → Prop := fun x lo hi H Q => rSlL K x lo hi H Q ∨ rSlT K x lo hi H Q
theorem sl_A : SlR X (rSlA X.K) := sl_list.or sl_tup
def rIsi (K : PySem.W.Frag) : List V → Hp → VK → Prop := fun xs H Q => ∃ x n t b, xs = [x, .ty n] ∧ TyOf K H x t ∧ PySem.W.kitOne K t (.type n) = some b ∧ Q (.bl b) H
theorem call_isi : CallR X (.builtin "isinstance") (rIsi X.K) := by
  intro pins s σ H xs us Q I r h
  obtain ⟨x, n, t, b, e, ty, k, q⟩ := h
  subst e
  obtain ⟨u, w', rfl, rx, rn⟩ := vals2 r
  obtain rfl : w' = Value.type n := rn
  exact isinst_ok I rx ty k fun tk => ⟨.bl b, H, I.tok tk, rfl, q⟩
def rLenA (K : PySem.W.Frag) : List V → Hp → VK → Prop := fun xs H Q => ∃ p ys, xs = [.ref p] ∧ (SqL K H p ys ∨ SqT K H p ys) ∧ Q (.int ys.length) H
theorem call_lenA : CallR X (.builtin "len") (rLenA X.K) := call_len_seq
def rAbs : List V → Hp → VK → Prop := fun xs H Q => ∃ i, xs = [.int i] ∧ Q (.int (if i < 0 then -i else i)) H
theorem call_absI : CallR X (.builtin "abs") rAbs := call_abs
def rMax : List V → Hp → VK → Prop := fun xs H Q => ∃ i j, xs = [.int i, .int j] ∧ Q (.int (if j > i then j else i)) H
theorem call_maxI (hc : X.calm = true) : CallR X (.builtin "max") rMax := call_max2 hc
end
structure Src (K : PySem.W.Frag) (mg : Str → Option Value) (x : Str) (st : Stmt) (ps : List Str) : Prop where
  ex : ∃ f fd, Fun K x x st f fd ∧ mg x = some (.ref f) ∧ Binds K fd ps []
structure Def (P : Program) (w : World) (K : PySem.W.Frag) (mg : Str → Option Value) (base : Heap) (CX : CXT) (k : Nat) (x : Str) (ps : List Str) (sp : Sp) : Prop where
  ex : ∃ f fd, FnOk P w K mg base CX k f fd ps sp ∧ mg x = some (.ref f) ∧ PySem.W.keepIn K (.ref f) = true ∧ Binds K fd ps [] ∧ ∃ oc od osl, K.lookup f = some ⟨oc, od, .func fd, osl⟩
section
variable {P : Program} {w : World} {K : PySem.W.Frag} {mg : Str → Option Value} {base : Heap} {CX : CXT}
theorem Src.ok {x : Str} {st : Stmt} {N ps : List Str} {k : Nat} {sp : Sp} (F : Src K mg x st ps) (S : FnScope N ps (defScope st)) (len : ∀ vs H Q E, sp vs H Q E → vs.length = ps.length)
    (hbody : ∀ (f : Addr) (cdv : Value) (A : Around) (outer : List Env) (s : Shared) (H : Hp) (vs : List V) (Q : VK) (E : XK), Room k (A.deeper (envOfC x (defScope st) s.heap.objs.size f cdv)) → sp vs H Q E →
      ∃ t, PSs (cxOf CX P w K mg base N x (defScope st) f cdv A outer s H E).nox (defBody st) t ∧ t { nx := fun _ H' => Q .non H', rt := Q } (start N vs) H) : Def P w K mg base CX (k + 1) x ps sp := by
  obtain ⟨f, fd, Fn, m, b⟩ := F.ex
  have kp := Fn.kp
  obtain ⟨oc, od, kV, doc, pm, an, cdv, ct, osl, rfl, lk, hcd⟩ := Fn.ex
  refine ⟨f, _, fn_of lk hcd S len fun A outer s H vs Q E hr hsp => ?_, m, kp, b, oc, od, osl, lk⟩
  obtain ⟨t, h, q⟩ := hbody f cdv A outer s H vs Q E hr hsp
  exact ⟨t, h.nox, q⟩
theorem Src.okX {x : Str} {st : Stmt} {N ps : List Str} {k : Nat} {sp : Sp} (F : Src K mg x st ps) (S : FnScope N ps (defScope st)) (len : ∀ vs H Q E, sp vs H Q E → vs.length = ps.length)
    (hbody : ∀ (f : Addr) (cdv : Value) (A : Around) (outer : List Env) (s : Shared) (H : Hp) (vs : List V) (Q : VK) (E : XK), Room k (A.deeper (envOfC x (defScope st) s.heap.objs.size f cdv)) → sp vs H Q E →
      ∃ t, PSs (cxOf CX P w K mg base N x (defScope st) f cdv A outer s H E) (defBody st) t ∧ t { nx := fun _ H' => Q .non H', rt := Q } (start N vs) H) : Def P w K mg base CX (k + 1) x ps sp := by
  obtain ⟨f, fd, Fn, m, b⟩ := F.ex
  have kp := Fn.kp
  obtain ⟨oc, od, kV, doc, pm, an, cdv, ct, osl, rfl, lk, hcd⟩ := Fn.ex
  exact ⟨f, _, fn_of lk hcd S len fun A outer s H vs Q E hr hsp => hbody f cdv A outer s H vs Q E hr hsp, m, kp, b, oc, od, osl, lk⟩
theorem src_mk {x : Str} {st : Stmt} {f : Addr} {oc : Value} {od an : Option Addr} {osl : Array (Option Value)} {kV doc pm cdv ct : Value} {ps : List Str} {h : Heap} (X : K.In h) (G : h.Ns mainGlobals mg)
    (a : PySem.W.nsIn K mainGlobals x = some (some (.ref f))) (l : K.lookup f = some ⟨oc, od, .func (PySem.W.fnOf x x (defArgs st) (defBody st) (defScope st) .none kV doc pm an cdv ct), osl⟩)
    (c : PySem.W.codeIn K cdv x = true) (k : PySem.W.keepIn K (.ref f) = true)
    (hb : ∀ (kV doc pm : Value) (an : Option Addr) (cdv ct : Value) (us : List Value), us.length = ps.length → bindArgs (PySem.W.fnOf x x (defArgs st) (defBody st) (defScope st) .none kV doc pm an cdv ct) ⟨us, []⟩ = pure (ps.zip us)) : Src K mg x st ps :=
  ⟨f, _, fun_mk l c k, PySem.W.mg_of X G a, (fun_mk (st := st) l c k).binds hb⟩
end
theorem Def.fn {P : Program} {w : World} {K : PySem.W.Frag} {mg : Str → Option Value} {base : Heap} {CX : CXT} {k : Nat} {x : Str} {f : Addr} {fd : FuncData} {ps : List Str} {sp : Sp} {oc : Value} {od : Option Addr} {osl : Array (Option Value)}
    (D : Def P w K mg base CX k x ps sp) (hm : mg x = some (.ref f)) (hl : K.lookup f = some ⟨oc, od, .func fd, osl⟩) : FnOk P w K mg base CX k f fd ps sp := by
  obtain ⟨f1, fd1, F, m, _, _, oc1, od1, sl1, l1⟩ := D.ex
  rw [hm] at m
  cases m
  rw [hl] at l1
  cases l1
  exact F
section
variable {X : Cx} {CX : CXT} {k : Nat} {ps : List Str} {sp : Sp} {E : XK} {x : Str} {p pos : Pos} {e : Expr} {es : List Expr} {t : TA}
end
def tSeqE (t u : TS) : TS := fun D σ H => ∃ J : St → Hp → Prop, t { D with nx := J } σ H ∧ ∀ σ' H', J σ' H' → u D σ' H'
theorem pss_consE {X : Cx} {st : Stmt} {rest : List Stmt} {t u : TS} (h1 : PS X st t) (h2 : PSs X rest u) : PSs X (st :: rest) (tSeqE t u) := by
  intro pins s σ H D I h
  obtain ⟨J, h, hJ⟩ := h
  refine wpAny_execs_cons (thn (h1 pins s σ H { D with nx := J } I h) fun f s1 q => ?_)
  cases f with
  | next =>
    obtain ⟨σ', H', I', q⟩ := q
    exact h2 pins s1 σ' H' D I' (hJ σ' H' q)
  | ret v => exact q
  | brk => exact q
  | cont => exact q
theorem rd_join {t u : TS} {D : Ends} {σ : St} {H : Hp} (J : St → Hp → Prop) (h : t { D with nx := J } σ H) (hJ : ∀ σ' H', J σ' H' → u D σ' H') : tSeqE t u D σ H := ⟨J, h, hJ⟩
def kB (x : V) (H : Hp) (Q : Bool → Hp → Prop) : Prop := ∃ k, x = .bl k ∧ Q k H
def kRng1 (vs : List V) (H : Hp) (R : It → Hp → Prop) : Prop := ∃ j : Int, vs = [.int j] ∧ -(2 ^ 62) ≤ j ∧ j < 2 ^ 62 ∧ R (Itr 0 j.toNat) H
def kRng2 (vs : List V) (H : Hp) (R : It → Hp → Prop) : Prop := ∃ i j : Int, vs = [.int i, .int j] ∧ (-(2 ^ 62) ≤ i ∧ i < 2 ^ 62 ∧ -(2 ^ 62) ≤ j ∧ j < 2 ^ 62) ∧ R (Itr i (j - i).toNat) H
def kItl (K : PySem.W.Frag) (x : V) (H : Hp) (R : It → Hp → Prop) : Prop := ∃ a, x = .ref a ∧ (∃ xs, SqL K H a xs) ∧ R (Itl K a) H
def kLst (xs : List V) (H : Hp) (Q : VK) : Prop := xs.length ≤ sizeLine ∧ ∀ p, H p = none → Q (.ref p) (upd H p (.lst xs))
def kTup (xs : List V) (H : Hp) (Q : VK) : Prop := xs.length ≤ sizeLine ∧ ∀ p, H p = none → Q (.ref p) (upd H p (.tup xs))
def kPar (i j : Nat) (vs : List V) (σ : St) (H : Hp) (nx : St → Hp → Prop) : Prop := ∃ v w, vs = [v, w] ∧ nx ((σ.set i (some v)).set j (some w)) H
def kPart (x : V) (H : Hp) (Q : Option Int → Hp → Prop) : Prop := ∃ i, x = .int i ∧ Q (some i) H
theorem Same.obj {H H' : Hp} {a : Addr} {o : HO} (s : Same H H') (h : H a = some o) : H' a = some o := s a o h
theorem Same.new {H : Hp} {p : Addr} (h : H p = none) (o : HO) : Same H (upd H p o) := fun b u q => by rw [upd_ne (ne_of_none q h)]; exact q
theorem Same.upd {H0 H : Hp} {l : Addr} {o : HO} (s : Same H0 H) (h : H0 l = none) : Same H0 (upd H l o) := fun b u q => by
  rw [upd_ne (ne_of_none q h)]
  exact s b u q
theorem Same.tup {K : PySem.W.Frag} {H H' : Hp} {a : Addr} {xs : List V} (e : Same H H') (h : SqT K H a xs) : SqT K H' a xs := by
  rcases h with (h | ⟨o, h⟩) | h
  · exact .inl (.inl (e _ _ h))
  · exact .inl (.inr ⟨o, e _ _ h⟩)
  · exact .inr h
section
variable {σ : St} {H : Hp} {Q : VK} {D : Ends} {K : PySem.W.Frag}
theorem rd_start {t : TS} {N : List Str} {vs : List V} (σ : St) (e : start N vs = σ) (h : t D σ H) : t D (start N vs) H := by rw [e]; exact h
theorem rd_c {v : V} (h : Q v H) : tC v σ H Q := h
theorem rd_op {r : R2} {ta tb : TE} (h : ta σ H fun x H1 => tb σ H1 fun y H2 => r x y H2 Q) : tOp r ta tb σ H Q := h
theorem rd_un {r : V → Hp → VK → Prop} {ta : TE} (h : ta σ H fun x H1 => r x H1 Q) : tUn r ta σ H Q := h
theorem rd_u {g : Int → V} {i : Int} (h : Q (g i) H) : rU g (.int i) H Q := ⟨i, rfl, h⟩
theorem rd_add {i j : Int} (h : Q (.int (i + j)) H) : rAddA (.int i) (.int j) H Q := .inl ⟨i, j, rfl, rfl, h⟩
theorem rd_cat {a b : Addr} {xs ys : List V} (h1 : H a = some (.lst xs)) (h2 : H b = some (.lst ys)) (hz : xs.length + ys.length ≤ sizeLine) (h : ∀ p H', Same H H' → H p = none → H' p = some (.lst (xs ++ ys)) → Q (.ref p) H') : rAddA (.ref a) (.ref b) H Q :=
  .inr ⟨a, b, xs, ys, rfl, rfl, h1, h2, hz, fun p hp => h p _ (Same.new hp _) hp upd_same⟩
theorem rd_sub {i j : Int} (h : Q (.int (i - j)) H) : rSubI (.int i) (.int j) H Q := ⟨i, j, rfl, rfl, h⟩
theorem rd_mul {i j : Int} (c : IntMulOk i j) (h : Q (.int (i * j)) H) : rMulA (.int i) (.int j) H Q := .inl ⟨i, j, rfl, rfl, c, h⟩
theorem rd_rep {a : Addr} {k : Int} {xs : List V} (h1 : H a = some (.lst xs)) (h0 : 0 ≤ k) (hk : k < 2 ^ 63) (hz : xs.length * k.toNat ≤ sizeLine) (h : ∀ p H', Same H H' → H p = none → H' p = some (.lst (List.replicate k.toNat xs).flatten) → Q (.ref p) H') : rMulA (.ref a) (.int k) H Q :=
  .inr ⟨a, k, xs, rfl, rfl, h1, by omega, hk, hz, fun p hp => h p _ (Same.new hp _) hp upd_same⟩
theorem rd_modP {i j : Int} (c : 0 < j) (h : Q (.int (i % j)) H) : rModA (.int i) (.int j) H Q := ⟨i, j, rfl, rfl, by omega, by show Q (.int (i.fmod j)) H; rw [Int.fmod_eq_emod_of_nonneg _ (Int.le_of_lt c)]; exact h⟩
theorem rd_modN {i j : Int} (c : j ≠ 0) (h : Q (.int (i.fmod j)) H) : rModA (.int i) (.int j) H Q := ⟨i, j, rfl, rfl, c, h⟩
theorem rd_divP {i j : Int} (c : 0 < j) (c2 : Bd 2000 j) (h : Q (.int (i / j)) H) : rDivA (.int i) (.int j) H Q := ⟨i, j, rfl, rfl, ⟨by omega, Nat.lt_trans (c2.log2 (by decide)) (by decide)⟩, by show Q (.int (i.fdiv j)) H; rw [Int.fdiv_eq_ediv_of_nonneg _ (Int.le_of_lt c)]; exact h⟩
theorem rd_divN {i j : Int} (c : j ≠ 0) (c2 : Bd 2000 j) (h : Q (.int (i.fdiv j)) H) : rDivA (.int i) (.int j) H Q := ⟨i, j, rfl, rfl, ⟨c, Nat.lt_trans (c2.log2 (by decide)) (by decide)⟩, h⟩
theorem rd_lt {i j : Int} (h : Q (.bl (decide (i < j))) H) : rLtI (.int i) (.int j) H Q := ⟨i, j, rfl, rfl, h⟩
theorem rd_gt {i j : Int} (h : Q (.bl (decide (j < i))) H) : rGtI (.int i) (.int j) H Q := ⟨i, j, rfl, rfl, h⟩
theorem rd_ge {i j : Int} (h : Q (.bl (decide (j ≤ i))) H) : rGeI (.int i) (.int j) H Q := ⟨i, j, rfl, rfl, h⟩
theorem dec_I {i j : Int} : decide (V.int i = V.int j) = decide (i = j) := by
  by_cases e : i = j
  · subst e; simp
  · rw [decide_eq_false e, decide_eq_false (fun z => e (V.int.inj z))]
theorem dec_S {i j : Str} : decide (V.str i = V.str j) = decide (i = j) := by
  by_cases e : i = j
  · subst e; simp
  · rw [decide_eq_false e, decide_eq_false (fun z => e (V.str.inj z))]
theorem rd_eqI {i j : Int} (h : Q (.bl (decide (i = j))) H) : rEq (.int i) (.int j) H Q := ⟨rfl, by rw [dec_I]; exact h⟩
theorem rd_neI {i j : Int} (h : Q (.bl (!decide (i = j))) H) : rNe (.int i) (.int j) H Q := ⟨rfl, by rw [dec_I]; exact h⟩
theorem rd_eqS {i j : Str} (h : Q (.bl (decide (i = j))) H) : rEq (.str i) (.str j) H Q := ⟨rfl, by rw [dec_S]; exact h⟩
theorem rd_neS {i j : Str} (h : Q (.bl (!decide (i = j))) H) : rNe (.str i) (.str j) H Q := ⟨rfl, by rw [dec_S]; exact h⟩
theorem rd_test {t : TE} {R : Bool → Hp → Prop} (h : t σ H fun x H1 => kB x H1 R) : tTest t σ H R := h
theorem rd_tB {t : TE} {R : Bool → Hp → Prop} (h : t σ H fun x H1 => kB x H1 R) : tB t σ H R := h
theorem rd_kB {b : Bool} {R : Bool → Hp → Prop} (h : R b H) : kB (.bl b) H R := ⟨b, rfl, h⟩
theorem rd_and {t u : TT} {R : Bool → Hp → Prop} (h : t σ H fun c H1 => if c = true then u σ H1 R else R false H1) : tAnd t u σ H R := h
theorem rd_or {t u : TT} {R : Bool → Hp → Prop} (h : t σ H fun c H1 => if c = true then R true H1 else u σ H1 R) : tOr t u σ H R := h
theorem rd_not {t : TT} {R : Bool → Hp → Prop} (h : t σ H fun c H1 => R (!c) H1) : tNot t σ H R := h
theorem rd_andV {ta tb : TE} (h : ta σ H fun x H1 => kB x H1 fun c H2 => if c = true then tb σ H2 Q else Q (.bl false) H2) : tAndV ta tb σ H Q := h
theorem rd_orV {ta tb : TE} (h : ta σ H fun x H1 => kB x H1 fun c H2 => if c = true then Q (.bl true) H2 else tb σ H2 Q) : tOrV ta tb σ H Q := h
theorem rd_notV {ta : TE} (h : ta σ H fun x H1 => kB x H1 fun c H2 => Q (.bl (!c)) H2) : tNotV ta σ H Q := h
theorem rd_ifE {c : TT} {ta tb : TE} (h : c σ H fun b H1 => if b = true then ta σ H1 Q else tb σ H1 Q) : tIf c ta tb σ H Q := h
theorem rd_nx {f : St → Hp → Prop} {rt : VK} {bk ct : St → Hp → Prop} (h : f σ H) : Ends.nx { nx := f, rt := rt, bk := bk, ct := ct } σ H := h
theorem rd_ite {p : Prop} [Decidable p] {A B : Prop} (h1 : p → A) (h2 : ¬ p → B) : if decide p = true then A else B := by
  by_cases h : p
  · rw [decide_eq_true h]; exact h1 h
  · rw [decide_eq_false h]; exact h2 h
theorem rd_iteN {p : Prop} [Decidable p] {A B : Prop} (h1 : ¬ p → A) (h2 : p → B) : if (!decide p) = true then A else B := by
  by_cases h : p
  · rw [decide_eq_true h]; exact h2 h
  · rw [decide_eq_false h]; exact h1 h
theorem rd_iteNN {p : Prop} [Decidable p] {A B : Prop} (h1 : p → A) (h2 : ¬ p → B) : if (!(!decide p)) = true then A else B := by
  by_cases h : p
  · rw [decide_eq_true h]; exact h1 h
  · rw [decide_eq_false h]; exact h2 h
theorem rd_iteT {A B : Prop} (h : A) : if true = true then A else B := h
theorem rd_iteF {A B : Prop} (h : B) : if false = true then A else B := h
theorem rd_iteNT {A B : Prop} (h : B) : if (!true) = true then A else B := h
theorem rd_iteNF {A B : Prop} (h : A) : if (!false) = true then A else B := h
theorem rd_iteb {b : Bool} {A B : Prop} (h1 : b = true → A) (h2 : b = false → B) : if b = true then A else B := by
  cases b with
  | true => exact h1 rfl
  | false => exact h2 rfl
theorem rd_nil {R : List V → Hp → Prop} (h : R [] H) : tNil σ H R := h
theorem rd_cons {ta : TE} {tr : TA} {R : List V → Hp → Prop} (h : ta σ H fun x H1 => tr σ H1 fun xs H2 => R (x :: xs) H2) : tCons ta tr σ H R := h
theorem rd_lst {t : TA} (h : t σ H fun xs H1 => kLst xs H1 Q) : tLst t σ H Q := h
theorem rd_tup {t : TA} (h : t σ H fun xs H1 => kTup xs H1 Q) : tTup t σ H Q := h
theorem rd_kLst {xs : List V} (hz : xs.length ≤ sizeLine) (h : ∀ p H', Same H H' → H p = none → H' p = some (.lst xs) → Q (.ref p) H') : kLst xs H Q := ⟨hz, fun p hp => h p _ (Same.new hp _) hp upd_same⟩
theorem rd_kTup {xs : List V} (hz : xs.length ≤ sizeLine) (h : ∀ p H', Same H H' → H p = none → H' p = some (.tup xs) → Q (.ref p) H') : kTup xs H Q := ⟨hz, fun p hp => h p _ (Same.new hp _) hp upd_same⟩
theorem rd_cB {r : List V → Hp → VK → Prop} {t : TA} (h : t σ H fun vs H1 => r vs H1 Q) : tCB r t σ H Q := h
theorem rd_isi {x : V} {n : String} {t : Value} {b : Bool} (ty : TyOf K H x t) (k : PySem.W.kitOne K t (.type n) = some b) (h : Q (.bl b) H) : rIsi K [x, .ty n] H Q := ⟨x, n, t, b, rfl, ty, k, h⟩
theorem rd_lenL {a : Addr} {xs : List V} (h1 : SqL K H a xs) (h : Q (.int xs.length) H) : rLenA K [.ref a] H Q := ⟨a, xs, rfl, .inl h1, h⟩
theorem rd_lenT {a : Addr} {xs : List V} (h1 : SqT K H a xs) (h : Q (.int xs.length) H) : rLenA K [.ref a] H Q := ⟨a, xs, rfl, .inr h1, h⟩
theorem rd_abs {i : Int} (h : ∀ j : Int, j = (i.natAbs : Int) → Q (.int j) H) : rAbs [.int i] H Q := ⟨i, rfl, h _ (by split <;> omega)⟩
theorem rd_max {i j : Int} (h : ∀ z : Int, z = max i j → Q (.int z) H) : rMax [.int i, .int j] H Q := ⟨i, j, rfl, h _ (by split <;> omega)⟩
theorem rd_ixL {a : Addr} {xs : List V} {i : Int} {v : V} (h1 : SqL K H a xs) (e : atI xs i = some v) (h : Q v H) : rIxA K (.ref a) (.int i) H Q := .inl ⟨a, xs, i, v, rfl, rfl, h1, e, h⟩
theorem rd_ixT {a : Addr} {xs : List V} {i : Int} {v : V} (h1 : SqT K H a xs) (e : atI xs i = some v) (h : Q v H) : rIxA K (.ref a) (.int i) H Q := .inr ⟨a, xs, i, v, rfl, rfl, h1, e, h⟩
theorem rd_sl {r : V → Option Int → Option Int → Hp → VK → Prop} {te : TE} {tl th : TO} (h : te σ H fun x H1 => tl σ H1 fun l H2 => th σ H2 fun u H3 => r x l u H3 Q) : tSl r te tl th σ H Q := h
theorem rd_noPart {R : Option Int → Hp → Prop} (h : R none H) : tNoPart σ H R := h
theorem rd_part {t : TE} {R : Option Int → Hp → Prop} (h : t σ H fun x H1 => kPart x H1 R) : tPart t σ H R := h
theorem rd_kPart {i : Int} {R : Option Int → Hp → Prop} (h : R (some i) H) : kPart (.int i) H R := ⟨i, rfl, h⟩
theorem rd_slL {a : Addr} {xs : List V} {lo hi : Option Int} (h1 : SqL K H a xs) (h : ∀ p H', Same H H' → H p = none → H' p = some (.lst (cutV xs lo hi)) → Q (.ref p) H') : rSlA K (.ref a) lo hi H Q := .inl ⟨a, xs, rfl, h1, fun p hp => h p _ (Same.new hp _) hp upd_same⟩
theorem rd_next (h : D.nx σ H) : tNext D σ H := h
theorem rd_ret {te : TE} (h : te σ H D.rt) : tRet te D σ H := h
theorem rd_drop {te : TE} (h : te σ H fun _ H1 => D.nx σ H1) : tDrop te D σ H := h
theorem rd_seq {t u : TS} (h : t { D with nx := u D } σ H) : tSeq t u D σ H := h
theorem rd_ifS {c : TT} {t u : TS} (h : c σ H fun b H1 => if b = true then t D σ H1 else u D σ H1) : tIfS c t u D σ H := h
theorem rd_asg {te : TE} {g : TG} (h : te σ H fun x H1 => g x σ H1 D.nx) : tAsg te g D σ H := h
theorem rd_par {i j : Nat} {ta : TA} (h : ta σ H fun vs H1 => kPar i j vs σ H1 D.nx) : tPar i j ta D σ H := h
theorem rd_gTup {a : Addr} {xs : List V} {n : Nat} {t : TGs} {R : St → Hp → Prop} (h1 : SqT K H a xs) (hn : xs.length = n) (h : t xs σ H R) : gTup K n t (.ref a) σ H R := ⟨a, xs, rfl, h1, hn, h⟩
theorem rd_gNil {R : St → Hp → Prop} (h : R σ H) : gNil [] σ H R := ⟨rfl, h⟩
theorem rd_gCons {t : TG} {u : TGs} {v : V} {r : List V} {R : St → Hp → Prop} (h : t v σ H fun σ' H' => u r σ' H' R) : gCons t u (v :: r) σ H R := ⟨v, r, rfl, h⟩
theorem rd_while {c : TT} {tb : TS} (W : Nat → St → Hp → Prop) (m : Nat) (h0 : W m σ H) (hs : ∀ m σ H, W m σ H → c σ H fun b H1 => if b = true then ∃ N : St → Hp → Prop, (∀ σ' H', N σ' H' → ∃ m', m' < m ∧ W m' σ' H') ∧ tb { D with nx := N, ct := N, bk := D.nx } σ H1 else D.nx σ H1) : tWhile c tb D σ H := ⟨W, ⟨m, h0⟩, hs⟩
theorem rd_turn {tb : TS} {m : Nat} {W : Nat → St → Hp → Prop} (h : tb { D with nx := fun σ' H' => ∃ m', m' < m ∧ W m' σ' H', ct := fun σ' H' => ∃ m', m' < m ∧ W m' σ' H', bk := D.nx } σ H) : ∃ N : St → Hp → Prop, (∀ σ' H', N σ' H' → ∃ m', m' < m ∧ W m' σ' H') ∧ tb { D with nx := N, ct := N, bk := D.nx } σ H := ⟨_, fun _ _ h => h, h⟩
theorem rd_forR {ta : TA} {g : TG} {tb : TS} (h : ta σ H fun vs H1 => kRng1 vs H1 fun J H2 => ∃ W : Nat → Nat → St → Hp → Prop, (∃ m, W 0 m σ H2) ∧ ∀ i m σ H, W i m σ H →
  (J.stop i H ∧ D.nx σ H) ∨ (J.go i H ∧ ∃ N : St → Hp → Prop, (∀ σ' H', N σ' H' → ∃ m', m' < m ∧ W (i + 1) m' σ' H') ∧ ∀ x H', J.yld i H x H' → g x σ H' fun σ2 H2 => tb { D with nx := N, ct := N, bk := D.nx } σ2 H2)) : tFor (iRng1 ta) g tb D σ H := h
theorem rd_kRng1 {j : Int} {R : It → Hp → Prop} (h1 : -(2 ^ 62) ≤ j) (h2 : j < 2 ^ 62) (h : R (Itr 0 j.toNat) H) : kRng1 [.int j] H R := ⟨j, rfl, h1, h2, h⟩
theorem rd_kRng2 {i j : Int} {R : It → Hp → Prop} (h1 : -(2 ^ 62) ≤ i) (h2 : i < 2 ^ 62) (h3 : -(2 ^ 62) ≤ j) (h4 : j < 2 ^ 62) (h : R (Itr i (j - i).toNat) H) : kRng2 [.int i, .int j] H R := ⟨i, j, rfl, ⟨h1, h2, h3, h4⟩, h⟩
theorem rd_forL {tl : TE} {g : TG} {tb : TS} (h : tl σ H fun x H1 => kItl K x H1 fun J H2 => ∃ W : Nat → Nat → St → Hp → Prop, (∃ m, W 0 m σ H2) ∧ ∀ i m σ H, W i m σ H →
  (J.stop i H ∧ D.nx σ H) ∨ (J.go i H ∧ ∃ N : St → Hp → Prop, (∀ σ' H', N σ' H' → ∃ m', m' < m ∧ W (i + 1) m' σ' H') ∧ ∀ x H', J.yld i H x H' → g x σ H' fun σ2 H2 => tb { D with nx := N, ct := N, bk := D.nx } σ2 H2)) : tFor (iList K tl) g tb D σ H := h
theorem rd_kItl {a : Addr} {xs : List V} {R : It → Hp → Prop} (h1 : SqL K H a xs) (h : R (Itl K a) H) : kItl K (.ref a) H R := ⟨a, rfl, ⟨xs, h1⟩, h⟩
theorem rd_bm {T : String} {r : V → List V → Hp → VK → Prop} {to : TE} {t : TA} (h : to σ H fun x H1 => tyV K T x H1 ∧ t σ H1 fun xs H2 => r x xs H2 Q) : tBM K T r to t σ H Q := h
theorem rd_tyL {a : Addr} {xs : List V} {B : Prop} (h1 : SqL K H a xs) (h : B) : tyV K "list" (.ref a) H ∧ B := ⟨.inl ⟨rfl, xs, h1⟩, h⟩
theorem rd_append {a : Addr} {xs : List V} {y : V} (h1 : H a = some (.lst xs)) (hz : xs.length < sizeLine) (h : Q .non (upd H a (.lst (xs ++ [y])))) : rAppend (.ref a) [y] H Q := ⟨a, xs, y, rfl, rfl, h1, hz, h⟩
theorem rd_var0 {v : V} {r : St} (h : Q v H) : tVar 0 (some v :: r) H Q := ⟨v, rfl, h⟩
theorem rd_var1 {v : V} {a0 : Option V} {r : St} (h : Q v H) : tVar 1 (a0 :: some v :: r) H Q := ⟨v, rfl, h⟩
theorem rd_var2 {v : V} {a0 a1 : Option V} {r : St} (h : Q v H) : tVar 2 (a0 :: a1 :: some v :: r) H Q := ⟨v, rfl, h⟩
theorem rd_var3 {v : V} {a0 a1 a2 : Option V} {r : St} (h : Q v H) : tVar 3 (a0 :: a1 :: a2 :: some v :: r) H Q := ⟨v, rfl, h⟩
theorem rd_var4 {v : V} {a0 a1 a2 a3 : Option V} {r : St} (h : Q v H) : tVar 4 (a0 :: a1 :: a2 :: a3 :: some v :: r) H Q := ⟨v, rfl, h⟩
theorem rd_var5 {v : V} {a0 a1 a2 a3 a4 : Option V} {r : St} (h : Q v H) : tVar 5 (a0 :: a1 :: a2 :: a3 :: a4 :: some v :: r) H Q := ⟨v, rfl, h⟩
theorem rd_var6 {v : V} {a0 a1 a2 a3 a4 a5 : Option V} {r : St} (h : Q v H) : tVar 6 (a0 :: a1 :: a2 :: a3 :: a4 :: a5 :: some v :: r) H Q := ⟨v, rfl, h⟩
theorem rd_var7 {v : V} {a0 a1 a2 a3 a4 a5 a6 : Option V} {r : St} (h : Q v H) : tVar 7 (a0 :: a1 :: a2 :: a3 :: a4 :: a5 :: a6 :: some v :: r) H Q := ⟨v, rfl, h⟩
theorem rd_var8 {v : V} {a0 a1 a2 a3 a4 a5 a6 a7 : Option V} {r : St} (h : Q v H) : tVar 8 (a0 :: a1 :: a2 :: a3 :: a4 :: a5 :: a6 :: a7 :: some v :: r) H Q := ⟨v, rfl, h⟩
theorem rd_set0 {v : V} {a0 : Option V} {r : St} {R : St → Hp → Prop} (h : R (some v :: r) H) : gName 0 v (a0 :: r) H R := h
theorem rd_set1 {v : V} {a0 a1 : Option V} {r : St} {R : St → Hp → Prop} (h : R (a0 :: some v :: r) H) : gName 1 v (a0 :: a1 :: r) H R := h
theorem rd_set2 {v : V} {a0 a1 a2 : Option V} {r : St} {R : St → Hp → Prop} (h : R (a0 :: a1 :: some v :: r) H) : gName 2 v (a0 :: a1 :: a2 :: r) H R := h
theorem rd_set3 {v : V} {a0 a1 a2 a3 : Option V} {r : St} {R : St → Hp → Prop} (h : R (a0 :: a1 :: a2 :: some v :: r) H) : gName 3 v (a0 :: a1 :: a2 :: a3 :: r) H R := h
theorem rd_set4 {v : V} {a0 a1 a2 a3 a4 : Option V} {r : St} {R : St → Hp → Prop} (h : R (a0 :: a1 :: a2 :: a3 :: some v :: r) H) : gName 4 v (a0 :: a1 :: a2 :: a3 :: a4 :: r) H R := h
theorem rd_set5 {v : V} {a0 a1 a2 a3 a4 a5 : Option V} {r : St} {R : St → Hp → Prop} (h : R (a0 :: a1 :: a2 :: a3 :: a4 :: some v :: r) H) : gName 5 v (a0 :: a1 :: a2 :: a3 :: a4 :: a5 :: r) H R := h
theorem rd_set6 {v : V} {a0 a1 a2 a3 a4 a5 a6 : Option V} {r : St} {R : St → Hp → Prop} (h : R (a0 :: a1 :: a2 :: a3 :: a4 :: a5 :: some v :: r) H) : gName 6 v (a0 :: a1 :: a2 :: a3 :: a4 :: a5 :: a6 :: r) H R := h
theorem rd_set7 {v : V} {a0 a1 a2 a3 a4 a5 a6 a7 : Option V} {r : St} {R : St → Hp → Prop} (h : R (a0 :: a1 :: a2 :: a3 :: a4 :: a5 :: a6 :: some v :: r) H) : gName 7 v (a0 :: a1 :: a2 :: a3 :: a4 :: a5 :: a6 :: a7 :: r) H R := h
theorem rd_set8 {v : V} {a0 a1 a2 a3 a4 a5 a6 a7 a8 : Option V} {r : St} {R : St → Hp → Prop} (h : R (a0 :: a1 :: a2 :: a3 :: a4 :: a5 :: a6 :: a7 :: some v :: r) H) : gName 8 v (a0 :: a1 :: a2 :: a3 :: a4 :: a5 :: a6 :: a7 :: a8 :: r) H R := h
theorem rd_ixM {a : Addr} {ns : List Int} {i : Int} (h1 : SqL K H a (ns.map V.int)) (h0 : 0 ≤ i) (hl : i < ns.length) (h : ∀ v : Int, v ∈ ns → ns[i.toNat]? = some v → Q (.int v) H) : rIxA K (.ref a) (.int i) H Q := by
  have hi : i.toNat < ns.length := by omega
  refine rd_ixL (v := .int ns[i.toNat]) h1 ?_ (h _ (List.getElem_mem hi) (List.getElem?_eq_getElem hi))
  have e := atI_nat (xs := ns.map V.int) (j := i.toNat) (v := .int ns[i.toNat]) (by rw [List.getElem?_map, List.getElem?_eq_getElem hi]; rfl)
  have ei : ((i.toNat : Nat) : Int) = i := by omega
  rw [ei] at e
  exact e
theorem cut_map (fs : List Int) (lo hi : Option Int) : ∃ ms : List Int, cutV (fs.map V.int) lo hi = ms.map V.int ∧ ∀ m ∈ ms, m ∈ fs := by
  refine ⟨(fs.drop (HT.sIx fs.length 0 lo)).take (HT.sIx fs.length fs.length hi - HT.sIx fs.length 0 lo), ?_, fun m hm => List.mem_of_mem_drop (List.mem_of_mem_take hm)⟩
  unfold cutV
  rw [List.length_map, List.map_take, List.map_drop]
theorem for_ints {a : Addr} {ns : List Int} {g : TG} {tb : TS} {D : Ends} {σ : St} {H : Hp} (Pv : Nat → St → Hp → Prop) (h0 : Pv 0 σ H) (hl : ∀ i σ H, i ≤ ns.length → Pv i σ H → SqL K H a (ns.map V.int))
    (hs : ∀ i (n : Int) σ H, ns[i]? = some n → Pv i σ H → g (.int n) σ H fun σ2 H2 => tb { D with nx := Pv (i + 1), ct := Pv (i + 1), bk := D.nx } σ2 H2) (hd : ∀ σ H, Pv ns.length σ H → D.nx σ H) :
    ∃ W : Nat → Nat → St → Hp → Prop, (∃ m, W 0 m σ H) ∧ ∀ i m σ H, W i m σ H →
      ((Itl K a).stop i H ∧ D.nx σ H) ∨ ((Itl K a).go i H ∧ ∃ N : St → Hp → Prop, (∀ σ' H', N σ' H' → ∃ m', m' < m ∧ W (i + 1) m' σ' H') ∧ ∀ x H', (Itl K a).yld i H x H' → g x σ H' fun σ2 H2 => tb { D with nx := N, ct := N, bk := D.nx } σ2 H2) := by
  refine for_list (xs := ns.map V.int) Pv h0 (fun i σ H hi p => hl i σ H (by rw [List.length_map] at hi; exact hi) p) (fun i x σ H e p => ?_) (fun σ H p => hd σ H (by rw [List.length_map] at p; exact p))
  rw [List.getElem?_map] at e
  cases q : ns[i]? with
  | none => rw [q] at e; cases e
  | some n =>
    rw [q] at e
    cases e
    exact hs i n σ H q p
end
end L2
set_option maxRecDepth 100000
set_option exponentiation.threshold 4000
namespace L2
open PySem PySem.Spec PyProof.Rows
def XTr (h B : Heap) (e : Addr) (c a0 : Value) (dx : Option Addr) (T : Addr) (fl : Value) : Prop :=
  ∃ (oe : Obj) (vs : Array Value) (oT : Obj) (ts : Array Value), (h.get? e = some oe ∧ oe.data = .fields vs ∧ oe.cls = c ∧ oe.dict = dx ∧ vs[0]? = some a0 ∧ vs[1]? = some (.ref T) ∧ vs[2]? = some .none) ∧ T ≠ e ∧ B.get? T = none ∧ h.get? T = some oT ∧ oT.data = .fields ts ∧ ts[3]? = some fl
def FlyX (B : Heap) (l : List Env) (e : Addr) (c a0 : Value) (dx : Option Addr) (fl : Value) (h : Heap) : Prop := (B.StaysIn h ∧ B.get? e = none) ∧ h.FunFrames B l ∧ ∃ T, XTr h B e c a0 dx T fl
section
variable {M : Model} {A : Around} {E : Value → Shared → Prop} {s : Shared} {B h h1 : Heap} {l outer : List Env} {env : Env} {e L T : Addr} {c a0 fl : Value} {dx : Option Addr} {oe ob : Obj} {vs ts : Array Value} {Q : Unit → Shared → Prop} {P : Prop}
theorem FlyX.stays (x : FlyX B l e c a0 dx fl h) : ∀ b o, B.get? b = some o → h.get? b = some o := x.1.1
theorem FlyX.obj (x : FlyX B l e c a0 dx fl h) : ∃ oe vs, h.get? e = some oe ∧ oe.data = .fields vs ∧ oe.cls = c ∧ oe.dict = dx ∧ vs[2]? = some .none := by
  obtain ⟨_, _, T, oe, vs, _, _, ⟨y1, y2, y3, y4, _, _, y5⟩, _⟩ := x
  exact ⟨oe, vs, y1, y2, y3, y4, y5⟩
theorem FlyX.tail (x : FlyX B (env :: l) e c a0 dx fl h) : FlyX B l e c a0 dx fl h := ⟨x.1, x.2.1.2.2, x.2.2⟩
theorem FlyX.mark (x : FlyX B l e c a0 dx fl h) (v : Value) (k : ∀ (T : Addr) (oe : Obj) (vs : Array Value) (oT : Obj) (ts : Array Value), h.get? e = some oe → oe.data = .fields vs → vs[1]? = some (.ref T) → h.get? T = some oT → oT.data = .fields ts → ts[3]? = some fl →
    (FlyX B l e c a0 dx v (h.update T (Obj.mapFields (·.setIfInBounds 3 v))) ∧ h.UpToSlots (h.update T (Obj.mapFields (·.setIfInBounds 3 v)))) → P) : P := by
  obtain ⟨⟨x1, x2⟩, x3, T, oe, vs, oT, ts, ⟨y1, y2, y3, y4, y5, y6, y7⟩, t1, t2, t3, t4, t5⟩ := x
  have oth : ∀ b o, b ≠ T → h.get? b = some o → (h.update T (Obj.mapFields (·.setIfInBounds 3 v))).get? b = some o := fun b o n q => (Heap.get?_update_other _ _ (fun z => n z.symm)).trans q
  have nT : ∀ b o, h.get? b = some o → (∀ ws, o.data ≠ .fields ws) → b ≠ T := fun b o q n z => by
    rw [z, t3] at q
    cases q
    exact n ts t4
  have z3 : 3 < ts.size := (Array.getElem?_eq_some_iff.mp t5).1
  refine k T oe vs oT ts y1 y2 y6 t3 t4 t5 ⟨⟨⟨fun b o q => oth b o (fun z => by rw [z, t2] at q; cases q) (x1 b o q), x2⟩, x3.of_keeps fun b o q n => ⟨o, oth b o (nT b o q n) q, rfl⟩, T, oe, vs, oT.mapFields (·.setIfInBounds 3 v), ts.setIfInBounds 3 v,
    ⟨oth e oe (fun z => t1 z.symm) y1, y2, y3, y4, y5, y6, y7⟩, t1, t2, Heap.get?_update_self _ t3 (Obj.isFreed_of_fields (Obj.data_mapFields t4 _)), Obj.data_mapFields t4 _, ?_⟩, fun b o q n => ⟨o.slots, oth b o (nT b o q n) q⟩⟩
  rw [Array.getElem?_setIfInBounds_self_of_lt z3]
theorem dict_mapFields (f : Array Value → Array Value) (o : Obj) : (o.mapFields f).dict = o.dict := by
  obtain ⟨c, d, dt, sl⟩ := o
  cases dt <;> rfl
theorem entered (hl : h.FunFrames B l) (he : h.get? e = some oe) (hd : oe.data = .fields vs) (hz : 1 < vs.size) (kb : B.StaysIn h) (en : B.get? e = none) (sl : Heap.SlotsOnly (l.filterMap (·.frame)) h h1) (od : ob.data = .fields ts) (t3 : ts[3]? = some fl) (v0 : vs[0]? = some a0) (v2 : vs[2]? = some .none) :
    FlyX B l e oe.cls a0 oe.dict fl ((h1.push ob).update e (Obj.mapFields (·.setIfInBounds 1 (.ref h1.objs.size)))) ∧ h.UpToSlots ((h1.push ob).update e (Obj.mapFields (·.setIfInBounds 1 (.ref h1.objs.size)))) := by
  have offF : e ∉ l.filterMap (·.frame) := fun z => by
    obtain ⟨_, o, q, n⟩ := hl.mem z
    rw [he] at q
    cases q
    exact n vs hd
  have e1 : h1.get? e = some oe := (sl.2.1 e offF).trans he
  have e2 := Heap.get?_push_of_some (h := h1) ob e1
  have d3 := Obj.data_mapFields hd (·.setIfInBounds 1 (.ref h1.objs.size))
  have e3 := Heap.get?_update_self (Obj.mapFields (·.setIfInBounds 1 (.ref h1.objs.size))) e2 (Obj.isFreed_of_fields d3)
  have nTe : h1.objs.size ≠ e := Nat.ne_of_gt (Heap.lt_size e1)
  have of : ob.isFreed = false := Obj.isFreed_of_fields od
  have oth : ∀ b o, b ≠ e → h1.get? b = some o → ((h1.push ob).update e (Obj.mapFields (·.setIfInBounds 1 (.ref h1.objs.size)))).get? b = some o := fun b o n q => (Heap.get?_update_other _ _ (fun z => n z.symm)).trans (Heap.get?_push_of_some _ q)
  have kb1 : B.StaysIn h1 := fun b o q => (sl.2.1 b fun z => by rw [(hl.mem z).1] at q; cases q).trans (kb b o q)
  have ne : ∀ b o, h.get? b = some o → (∀ ws, o.data ≠ .fields ws) → b ≠ e := fun b o q n z => by
    rw [z, he] at q
    cases q
    exact n vs hd
  have up : h.UpToSlots ((h1.push ob).update e (Obj.mapFields (·.setIfInBounds 1 (.ref h1.objs.size)))) := fun b o q n => by
    obtain ⟨sl', q'⟩ := sl.2.2 b o q
    exact ⟨sl', oth b _ (ne b o q n) q'⟩
  refine ⟨⟨⟨fun b o q => oth b o (fun z => by rw [z, en] at q; cases q) (kb1 b o q), en⟩, hl.of_keeps fun b o q n => ?_, h1.objs.size, _, _, ob, ts, ⟨e3, d3, Obj.cls_mapFields _ _, ?_, ?_, ?_, ?_⟩, nTe, kb1.fresh, (Heap.get?_update_other _ _ (fun z => nTe z.symm)).trans (Heap.get?_push_size h1 of), od, t3⟩, up⟩
  · obtain ⟨sl', q'⟩ := up b o q n
    exact ⟨_, q', rfl⟩
  · exact dict_mapFields _ _
  · rw [Array.getElem?_setIfInBounds_ne (by decide)]
    exact v0
  · rw [Array.getElem?_setIfInBounds_self_of_lt hz]
  · rw [Array.getElem?_setIfInBounds_ne (by decide)]
    exact v2
theorem entry_step {head : Value} {hn : Bool} (fr : A.frames = some (env :: outer)) (hl : s.heap.FunFrames B (env :: outer)) (hf : env.frame = some L) (he : s.heap.get? e = some oe) (hd : oe.data = .fields vs) (hz : 1 < vs.size) (kb : B.StaysIn s.heap) (en : B.get? e = none) (v0 : vs[0]? = some a0) (v2 : vs[2]? = some .none)
    (k : ∀ h', FlyX B (env :: outer) e oe.cls a0 oe.dict (rawInt L) h' → s.heap.UpToSlots h' → Q () { s with heap := h' }) : wpAny M A (do let f ← frameOf env; let p ← entryPlaceOf L hn; let t ← EntryCells.newEntry head f .none (rawInt L) .none p; setField (.ref e) 1 t) Q E s := by
  refine wpAny_bind (wpAny_frameOf_fun fr hl hf fun h1 sl => wpAny_bind (wpAny_entryPlaceOf fun pl hp => ?_))
  unfold EntryCells.newEntry newFields
  refine wpAny_bind (wpAny_newObj_type ?_ (hp.sizeOk5 _ _ _ _ _))
  have offF : e ∉ (env :: outer).filterMap (·.frame) := fun z => by
    obtain ⟨_, o, q, n⟩ := hl.mem z
    rw [he] at q
    cases q
    exact n vs hd
  have e1 : h1.get? e = some oe := (sl.2.1 e offF).trans he
  refine wpAny_setField (Heap.get?_push_of_some _ e1) hd hz ?_
  obtain ⟨x1, x2⟩ := entered (fl := rawInt L) (ob := { cls := .type "traceback", dict := none, data := .fields ([head, .ref L, .none, rawInt L, .none] ++ (if pl.isEmpty then List.replicate 6 Value.none else pl)).toArray }) hl he hd hz kb en sl rfl (by
    first | (simp; done) | (rcases hp with rfl | ⟨_, _, _, _, _, _, _, rfl⟩ <;> simp)) v0 v2
  exact k _ x1 x2
theorem FlyX.lands (x : FlyX B l e c a0 dx fl s.heap) (k : ∀ h', FlyX B l e c a0 dx .none h' → s.heap.UpToSlots h' → Q () { s with heap := h' }) : wpAny M A (setFlight (.ref e) none) Q E s := by
  refine x.mark .none fun T oe vs oT ts y1 y2 y3 t1 t2 t3 ⟨x1, x2⟩ => ?_
  unfold setFlight
  refine wpAny_bind (wpAny_field y1 y2 y3 ?_)
  rw [if_pos (by simp)]
  exact wpAny_setField t1 t2 (Array.getElem?_eq_some_iff.mp t3).1 (k _ x1 x2)
theorem FlyX.looks (fr : A.frames = some (env :: outer)) (hf : env.frame = some L) (x : FlyX B (env :: outer) e c a0 dx .none s.heap) (k : ∀ h', FlyX B (env :: outer) e c a0 dx (rawInt L) h' → s.heap.UpToSlots h' → Q () { s with heap := h' }) : wpAny M A (noteFrame (.ref e) env) Q E s := by
  refine x.mark .none fun T oe vs oT ts y1 y2 y3 t1 t2 t3 ⟨x1, x2⟩ => ?_
  unfold noteFrame
  simp only [hf]
  refine wpAny_bind (wpAny_field y1 y2 y3 ?_)
  rw [if_pos (by simp)]
  refine wpAny_bind (wpAny_field t1 t2 t3 ?_)
  rw [if_neg (by simp [rawInt])]
  refine wpAny_bind (wpAny_setField t1 t2 (Array.getElem?_eq_some_iff.mp t3).1 ?_)
  obtain ⟨⟨z1, z2⟩, z3, T', o', v', _, _, ⟨q1, q2, q3, q4, q5, q6, q7⟩, _⟩ := x1
  subst q3 q4
  exact entry_step fr z3 hf q1 q2 (Array.getElem?_eq_some_iff.mp q6).1 z1 z2 q5 q7 fun h' w1 w2 => k h' w1 (x2.trans w2)
theorem FlyX.leaves (fr : A.frames = some (env :: outer)) (hf : env.frame = some L) (x : FlyX B (env :: outer) e c a0 dx .none s.heap) (k : ∀ h', FlyX B outer e c a0 dx .none h' → s.heap.UpToSlots h' → Q () { s with heap := h' }) : wpAny M A (leaving env (.ref e)) Q E s := by
  unfold leaving
  exact wpAny_bind (x.looks fr hf fun h1 x1 u1 => x1.lands fun h2 x2 u2 => k h2 x2.tail (u1.trans u2))
theorem leaves_new (fr : A.frames = some (env :: outer)) (hf : env.frame = some L) (hl : s.heap.FunFrames B (env :: outer)) (he : s.heap.get? e = some oe) (hd : oe.data = .fields vs) (kb : B.StaysIn s.heap) (en : B.get? e = none) (v0 : vs[0]? = some a0) (v1 : vs[1]? = some .none) (v2 : vs[2]? = some .none)
    (k : ∀ h', FlyX B outer e oe.cls a0 oe.dict .none h' → s.heap.UpToSlots h' → Q () { s with heap := h' }) : wpAny M A (leaving env (.ref e)) Q E s := by
  unfold leaving noteFrame
  simp only [hf]
  refine wpAny_bind (wpAny_bind (wpAny_field he hd v1 ?_))
  rw [if_neg (by decide)]
  exact entry_step fr hl hf he hd (Array.getElem?_eq_some_iff.mp v1).1 kb en v0 v2 fun h1 x1 u1 => x1.lands fun h2 x2 u2 => k h2 x2.tail (u1.trans u2)
end
end L2
namespace L2
open PySem PySem.Spec PyProof.Rows
section
variable {P : Program} {w : World} {H H' : Hp} {h h' h2 : Heap} {a : Addr} {o : HO}
theorem ObjOk.at (x : ObjOk P w H h a o) : ∃ ob, h.get? a = some ob := by
  cases o with
  | lst xs => obtain ⟨_, _, _, _, e⟩ := x; exact ⟨_, e⟩
  | tup xs => obtain ⟨_, _, _, ob, e, _⟩ := x; exact ⟨ob, e⟩
  | dK kvs => obtain ⟨_, _, _, _, ob, _, _, e, _⟩ := x; exact ⟨ob, e⟩
  | dT kvs => obtain ⟨_, _, _, _, ob, _, _, e, _⟩ := x; exact ⟨ob, e⟩
  | set S n => obtain ⟨ob, _, _, _, e, _⟩ := x; exact ⟨ob, e⟩
  | ins C dx fs => obtain ⟨_, _, _, e, _⟩ := x; exact ⟨_, e⟩
  | own y => exact x
  | xd fs => obtain ⟨_, ⟨ob, _, _, e, _⟩, _⟩ := x; exact ⟨ob, e⟩
  | rng lo hi => obtain ⟨_, _, _, e⟩ := x; exact ⟨_, e⟩
  | frz ob u => exact ⟨ob, x.1⟩
  | tbl ps => exact ⟨_, x⟩
  | met f y => exact ⟨_, x⟩
  | ext φ => exact x.2.1
structure Kept (B : Heap) (fs : List Addr) (H : Hp) (h : Heap) (H' : Hp) (h' : Heap) : Prop where
  old : ∀ b o, h.get? b = some o → H b = none → b ∉ fs → B.get? b = some o
  any : ∀ b o, h.get? b = some o → b ∉ fs → ∃ o', B.get? b = some o'
  trk : ∀ b o, H' b ≠ none → h'.get? b = some o → B.get? b = some o
theorem Kept.fly {B : Heap} {fs : List Addr} (k : Kept B fs H h H' h') (ok : HOk P w H' h') (st : ∀ b o, B.get? b = some o → h2.get? b = some o) : Kept B fs H h H' h2 :=
  ⟨k.old, k.any, fun b o n e => by
    cases q : H' b with
    | none => exact absurd q n
    | some u =>
      obtain ⟨ob, e1⟩ := (ok b u q).at
      have e2 := k.trk b ob n e1
      have e3 := st b ob e2
      rw [e] at e3
      rw [Option.some.inj e3]
      exact e2⟩
end
def CXE (P : Program) (w : World) : CXT := fun outer H s E e s' => ∃ (a t : Addr) (cls : Value) (dx : Option Addr) (H' : Hp) (B : Heap), e = .ref a ∧ E cls dx H' ∧ s'.os = s.os ∧ AllBare s'.gens ∧ Un (frs outer) [] H H' s.heap s'.heap ∧ HOk P w H' s'.heap ∧
  FlyX B outer a cls (.ref t) dx .none s'.heap ∧ Kept B (frs outer) H s.heap H' s'.heap ∧ H' a = none
section
variable {X : Cx} {pins : List (Addr × Obj)} {σ : St} {H H' : Hp} {s s' : Shared} {B h' h2 : Heap}
theorem Inv.offStack (I : Inv X pins σ H s) {b : Addr} {o : Obj} (e : X.s₀.heap.get? b = some o) (n : b ∉ X.fs) : b ∉ frs X.stack := fun z => by
  rcases List.mem_cons.mp (I.stkSub b z) with q | q
  · have h1 := Heap.lt_size e
    have h2 := I.ok.above
    rw [q] at h1
    exact absurd (Nat.lt_of_lt_of_le h1 h2) (Nat.lt_irrefl _)
  · exact n q
theorem Inv.trkOff (I : Inv X pins σ H s) {b : Addr} (n : H b ≠ none) : b ∉ frs X.stack := fun z => n (I.stkFree b z)
theorem Inv.keptHide (I : Inv X pins σ H s) (hx : X.ex = []) (k : ∀ b o, s.heap.get? b = some o → h'.get? b = some o) : Kept (PySem.W.hideAll s.heap (frs X.stack)) X.fs X.H₀ X.s₀.heap H h' := by
  have nx : ∀ b : Addr, b ∉ X.ex := fun b z => by rw [hx] at z; cases z
  refine ⟨fun b o e n f => PySem.W.hideAll_get _ (I.base.keep b o e n f (nx b)) (I.offStack e f), fun b o e f => ?_, fun b o n e => ?_⟩
  · obtain ⟨o', e'⟩ := I.base.there b o e (nx b)
    exact ⟨o', PySem.W.hideAll_get _ e' (I.offStack e f)⟩
  · cases q : H b with
    | none => exact absurd q n
    | some u =>
      obtain ⟨ob, e1⟩ := (I.hok b u q).at
      have e2 := k b ob e1
      rw [e] at e2
      rw [Option.some.inj e2]
      exact PySem.W.hideAll_get _ e1 (I.trkOff n)
theorem Inv.flown (I : Inv X pins σ H s) (hx : X.ex = []) (k : Kept B X.fs X.H₀ X.s₀.heap H s.heap) (st : ∀ b o, B.get? b = some o → h2.get? b = some o) (up : s.heap.UpToSlots h2) :
    Un X.fs [] X.H₀ H X.s₀.heap h2 ∧ HOk X.prog X.w H h2 := by
  have nx : ∀ b : Addr, b ∉ X.ex := fun b z => by rw [hx] at z; cases z
  have slot : ∀ b o, X.s₀.heap.get? b = some o → X.H₀ b = none → b ∈ X.fs → ∃ sl, h2.get? b = some { o with slots := sl } := fun b o e n f => by
    obtain ⟨sl, e1⟩ := I.base.slot b o e n f (nx b)
    obtain ⟨_, o1, e2, nf⟩ := I.ok.funs.mem f
    rw [e] at e2
    cases Option.some.inj e2
    obtain ⟨sl', e3⟩ := up b _ e1 nf
    exact ⟨sl', e3⟩
  refine ⟨⟨fun b o e n f _ => st b o (k.old b o e n f), fun b o e n f _ => slot b o e n f, fun b o e n _ => I.base.free b o e n (nx b), fun b o e _ => ?_, I.base.tups, I.base.frzs, I.base.tbls⟩, fun a o e => ?_⟩
  · by_cases f : b ∈ X.fs
    · obtain ⟨sl, q⟩ := slot b o e (I.ok.frf b f) f
      exact ⟨_, q⟩
    · obtain ⟨o', e'⟩ := k.any b o e f
      exact ⟨o', st b o' e'⟩
  · refine (I.hok a o e).stay (fun b u hb q => st b u (k.trk b u ?_ q)) (fun _ q => q) fun _ _ q => q
    rcases hb with z | z
    · rw [z, e]
      intro y
      cases y
    · rw [z]
      intro y
      cases y
end
structure XPass (X : Cx) (W : Value → Option Addr → St → Hp → Prop) : Prop where
  call : ∀ (pins : List (Addr × Obj)) (σ : St) (H : Hp) (s : Shared) (e : Value) (s' : Shared), Inv X pins σ H s → CXE X.prog X.w X.stack H s (fun cls dx H2 => W cls dx σ H2) e s' → X.xe e s'
structure XMade (X : Cx) (W : Value → Option Addr → St → Hp → Prop) : Prop where
  ex : X.ex = []
  made : ∀ (pins : List (Addr × Obj)) (σ : St) (H : Hp) (s : Shared) (e t : Addr) (oe : Obj) (vs : Array Value), Inv X pins σ H s → X.s₀.heap.get? e = none → H e = none → s.heap.get? e = some oe → oe.data = .fields vs → vs[0]? = some (.ref t) → vs[1]? = some .none → vs[2]? = some .none → W oe.cls oe.dict σ H → X.xe (.ref e) s
theorem Inv.keptHideE (I : Inv X pins σ H s) (hx : X.ex = []) {e : Addr} (n0 : X.s₀.heap.get? e = none) (nH : H e = none) : Kept (PySem.W.hideAll s.heap (e :: frs X.stack)) X.fs X.H₀ X.s₀.heap H s.heap := by
  have nx : ∀ b : Addr, b ∉ X.ex := fun b z => by rw [hx] at z; cases z
  have ne : ∀ b o, X.s₀.heap.get? b = some o → b ≠ e := fun b o q z => by
    rw [z, n0] at q
    cases q
  have off : ∀ b o, X.s₀.heap.get? b = some o → b ∉ X.fs → b ∉ e :: frs X.stack := fun b o q f z => by
    rcases List.mem_cons.mp z with y | y
    · exact ne b o q y
    · exact I.offStack q f y
  refine ⟨fun b o q n f => PySem.W.hideAll_get _ (I.base.keep b o q n f (nx b)) (off b o q f), fun b o q f => ?_, fun b o n q => ?_⟩
  · obtain ⟨o', e'⟩ := I.base.there b o q (nx b)
    exact ⟨o', PySem.W.hideAll_get _ e' (off b o q f)⟩
  · refine PySem.W.hideAll_get _ q fun z => ?_
    rcases List.mem_cons.mp z with y | y
    · rw [y] at n
      exact n nH
    · exact I.trkOff n y
theorem XMade.of {X : Cx} {W : Value → Option Addr → St → Hp → Prop} (x : XMade X W) {pins : List (Addr × Obj)} {σ : St} {H : Hp} {s : Shared} {h' : Heap} {e : Addr} {cls : Value} {args : List Value} (I : Inv X pins σ H s) (hm : Heap.MadeExcOf s.heap h' e cls args) (w : W cls none σ H) : X.xe (.ref e) { s with heap := h' } := by
  obtain ⟨t, q, _, _⟩ := hm.there
  refine x.made pins σ H _ e t _ _ (I.kept (h' := h') (t' := s.toks) hm.keeps) ?_ ?_ q rfl rfl rfl rfl w
  · cases z : X.s₀.heap.get? e with
    | none => rfl
    | some o =>
      obtain ⟨o', z'⟩ := I.base.there e o z (fun y => by rw [x.ex] at y; cases y)
      rw [hm.new] at z'
      cases z'
  · cases z : H e with
    | none => rfl
    | some u =>
      obtain ⟨ob, e1⟩ := (I.hok e u z).at
      rw [hm.new] at e1
      cases e1
def WN : Value → Option Addr → St → Hp → Prop := fun _ _ _ _ => False
theorem xpass_nox {X : Cx} : XPass X.nox WN :=
  ⟨fun _ _ _ _ _ _ _ h => by
    obtain ⟨_, _, _, _, _, _, _, z, _⟩ := h
    exact z.elim⟩
theorem xpass_cx {P : Program} {w : World} {K : PySem.W.Frag} {mg : Str → Option Value} {base : Heap} {N : List Str} {qual : Str} {scope : Scope} {f : Addr} {cd : Value} {A : Around} {outer : List Env} {s₀ : Shared} {H₀ : Hp} {E : XK} :
    XPass (cxOf (CXE P w) P w K mg base N qual scope f cd A outer s₀ H₀ E) (fun cls dx _ H => E cls dx H) := by
  refine ⟨fun pins σ H s e s' I c => ?_⟩
  · obtain ⟨a, t, cls, dx, H', B, rfl, hE, os, bare, un, hok, fl, kp, ha⟩ := c
    have I' := I.call' (s' := s') (ch := []) os un hok bare (fun b z => nomatch z)
    refine FlyX.leaves I.ok.frames rfl fl fun h2 fl2 up => ?_
    have kp' : Kept B (frs outer) H₀ s₀.heap H' s'.heap := ⟨fun b o e n f => kp.old b o (I.base.keep b o e n f (fun z => nomatch z)) (I.base.free b o e n (fun z => nomatch z)) (I.offStack e f), fun b o e f => by
      obtain ⟨o', e'⟩ := I.base.there b o e (fun z => nomatch z)
      exact kp.any b o' e' (I.offStack e f), kp.trk⟩
    obtain ⟨u2, ok2⟩ := I'.flown rfl kp' fl2.stays up
    exact ⟨a, t, cls, dx, H', B, rfl, hE, I'.os, I'.bare, u2, ok2, fl2, kp'.fly hok fl2.stays, ha⟩
theorem xmade_cx {P : Program} {w : World} {K : PySem.W.Frag} {mg : Str → Option Value} {base : Heap} {N : List Str} {qual : Str} {scope : Scope} {f : Addr} {cd : Value} {A : Around} {outer : List Env} {s₀ : Shared} {H₀ : Hp} {E : XK} :
    XMade (cxOf (CXE P w) P w K mg base N qual scope f cd A outer s₀ H₀ E) (fun cls dx _ H => E cls dx H) := by
  refine ⟨rfl, fun pins σ H s e t oe vs I n0 nH he hd v0 v1 v2 hE => ?_⟩
  have kp := I.keptHideE rfl n0 nH
  refine leaves_new (B := PySem.W.hideAll s.heap (e :: frs (envOfC qual scope s₀.heap.objs.size f cd :: outer))) I.ok.frames rfl (PySem.W.funFrames_hide I.stack fun env he b hb => List.mem_cons_of_mem _ (List.mem_filterMap.mpr ⟨env, he, hb⟩)) he hd (fun b o q => PySem.W.of_hideAll _ q) (PySem.W.hideAll_none _ (List.mem_cons_self ..)) v0 v1 v2 fun h2 fl up => ?_
  obtain ⟨u2, ok2⟩ := I.flown rfl kp fl.stays up
  exact ⟨e, t, _, _, H, _, rfl, hE, I.os, I.bare, u2, ok2, fl, kp.fly I.hok fl.stays, nH⟩
def tCallS (sp : Sp) (W : Value → Option Addr → St → Hp → Prop) (t : TA) : TE := fun σ H Q => t σ H fun vs H1 => sp vs H1 Q (fun cls dx H2 => W cls dx σ H2)
section
variable {X : Cx} {k : Nat} {ps : List Str} {sp : Sp} {W : Value → Option Addr → St → Hp → Prop} {x : Str} {p pos : Pos} {e : Expr} {es : List Expr} {t : TA}
theorem pe_defS (D : Def X.prog X.w X.K X.mg X.base (CXE X.prog X.w) k x ps sp) (hr : Room k X.A) (hg : Gl X x) (hx : XPass X W)
    (ha : PA X (e :: es) t) (hdb : (x == ("__debug__" : Str)) = false := by decide) (he : starEach (e :: es) X.env = (false, eval e X.env) :: starEach es X.env := by rfl) (hpl : (backTo pos (starEach es X.env)).any (·.1) = false := by rfl) :
    PE X (.Call (.Name x p) (e :: es) [] pos) (tCallS sp W t) := by
  obtain ⟨f, fd, F, m, kp, b, _⟩ := D.ex
  intro pins s σ H Q I h
  refine wpAny_Call_Name_kw (ld_glob I hg m ?_ hdb)
  refine PySem.W.callWith_K (h₀ := X.base) I.ok.mod.kin kp (thn (ha pos pins s σ H _ I h) fun us s1 ⟨vs, H1, I1, r, q⟩ => ⟨I1.kIn, ?_⟩) he hpl
  have hl : (us ++ []).length = ps.length := by rw [List.append_nil, ← r.length]; exact F.len _ _ _ _ q
  have bnd := b s1 us I1.kIn hl
  rw [List.append_nil] at bnd
  refine wpAny_call (codeAny_mono (F.run X.A X.stack s1 H1 ⟨us, []⟩ us vs Q _ hr I1.env0 bnd r q) fun res s2 hq => ?_)
  cases res with
  | error ex => exact hx.call pins σ H1 s1 ex s2 I1 hq
  | ok fl =>
    cases fl with
    | ret u => exact I1.after hq
    | next => exact False.elim hq
    | brk => exact False.elim hq
    | cont => exact False.elim hq
def tRaise (C : Addr) (W : Value → Option Addr → St → Hp → Prop) (t : TA) : TS := fun _ σ H => t σ H fun vs H1 => vs.length ≤ sizeLine ∧ W (.ref C) none σ H1
theorem ps_raise {C : Addr} {bmB : List Value} {B newId initId : String} {np cpos : Pos} (O : OwnCls x C bmB newId X.mg X.base) (FB : ExcBaseFacts B newId initId bmB) (hc : X.calm = true) (hg : Gl X x) (hx : XMade X W) (ha : PA X (e :: es) t)
    (hdb : (x == ("__debug__" : Str)) = false := by decide) (he : starEach (e :: es) X.env = (false, eval e X.env) :: starEach es X.env := by rfl) (hpl : (backTo cpos (starEach es X.env)).any (·.1) = false := by rfl) :
    PS X (.Raise (some (.Call (.Name x np) (e :: es) [] cpos)) none pos) (tRaise C W t) := by
  intro pins s σ H D I h
  obtain ⟨tl, nsA, nmA, qA, bsA, hdA, snA, subA, abA, colA, ddA, k0, k1, k2, k3, k5, mN, hC, hN, hni, T⟩ := O.obj
  refine wpAny_Raise_call_subT (nm := nmA) (q := qA) (C := C) (N := nsA) (bs := bsA) (bm := tl) (hdct := hdA) (sn := snA) (sub := subA) (ab := abA) (col := colA) (dd := ddA) (k0 := k0) (k1 := k1) (k2 := k2) (k3 := k3) (k5 := k5) FB (mN := mN)
    (T.hasType FB.hasBase) (I.ok.hd hc) (by rw [he]; show (false || (backTo cpos (starEach es X.env)).any (·.1)) = false; rw [hpl]; rfl) hni (ld_glob I hg O.bound ⟨rfl, ?_⟩ hdb)
  have h1 := ha cpos pins s σ H _ I h
  rw [he] at h1 ⊢
  exact Calls.evalArgs_plain (wpAny_mono h1 (fun us s2 ⟨vs, H2, I2, r, hz, hW⟩ => ⟨rfl, by rw [← r.length]; exact hz, I2.bk _ _ hC, hN.keeps I2.bk, T.keeps I2.bk, fun h' a hm => hx.of I2 hm hW⟩) fun _ _ y => y)
end
theorem own_mk {K : PySem.W.Frag} {h : Heap} {mg : Str → Option Value} {x : Str} {C : Addr} {bmB : List Value} {newId : String} (X : K.In h) (hm : mg x = some (.ref C)) (q : PySem.W.excIn K C bmB newId = true) : OwnCls x C bmB newId mg h := by
  refine ⟨hm, ?_⟩
  unfold PySem.W.excIn at q
  split at q
  · rename_i dA cdA slA look
    split at q
    · rename_i C1 bm1 e0 e1 e2 e3 nA e5 hmro hsl
      simp only [Bool.and_eq_true, beq_iff_eq, Bool.not_eq_true'] at q
      obtain ⟨⟨⟨⟨⟨z1, z2⟩, hdel⟩, ht⟩, hok⟩, hni⟩ := q
      subst z1 z2
      obtain ⟨f1, f2, f3, f4, f5, f6, f7, f8, f9, f10, f11⟩ := cdA
      dsimp only at hmro hdel hok hni
      subst hmro hdel
      have es : slA = #[e0, e1, e2, e3, some (.builtin nA), e5] := by
        obtain ⟨l⟩ := slA
        simp only at hsl
        rw [hsl]
      subst es
      exact ⟨bm1, f4, f1, f5, f2, f6, f7, f8, f9, f10, dA, e0, e1, e2, e3, e5, _, X _ _ look, .of_isNs (PySem.W.isNs_of_in X hok), PySem.W.nsMap_none_of_in X hok hni, PySem.W.tail_of_in X ht⟩
    · cases q
  · cases q
theorem rd_callS {sp : Sp} {W : Value → Option Addr → St → Hp → Prop} {t : TA} {σ : St} {H : Hp} {Q : VK} (h : t σ H fun vs H1 => sp vs H1 Q (fun cls dx H2 => W cls dx σ H2)) : tCallS sp W t σ H Q := h
def kRaise (C : Addr) (W : Value → Option Addr → St → Hp → Prop) (σ : St) (vs : List V) (H : Hp) : Prop := vs.length ≤ sizeLine ∧ W (.ref C) none σ H
theorem rd_raise {C : Addr} {W : Value → Option Addr → St → Hp → Prop} {t : TA} {D : Ends} {σ : St} {H : Hp} (h : t σ H fun vs H1 => kRaise C W σ vs H1) : tRaise C W t D σ H := h
theorem rd_kRaise {C : Addr} {W : Value → Option Addr → St → Hp → Prop} {σ : St} {v : V} {H : Hp} (h : W (.ref C) none σ H) : kRaise C W σ [v] H := ⟨(by show 1 ≤ sizeLine; decide), h⟩
section
variable {X : Cx} {pos : Pos}
end
end L2
set_option maxRecDepth 100000
set_option maxHeartbeats 4000000
namespace L2
open PySem PySem.Spec PyProof.Rows PySem.W
section
variable {prog : Program} {w : World} {A : Around} {E : Value → Shared → Prop} {s : Shared} {K : PySem.W.Frag} {x C : Addr}
structure ExcK (K : PySem.W.Frag) (C : Addr) : Prop where
  cl : (clsIn K C).isSome = true
  ga : findIn K (.ref C) "__getattribute__" = some (some (.builtin "BaseException.__getattribute__"))
  hk : findIn K (.ref C) "__getattr__" = some none
  fc : findIn K (.ref C) "__class__" = some (some (.builtin "object.__class__"))
  ob : mroIn K C (.type "object") = some true
  be : mroIn K C (.type "BaseException") = some true
def ExcAt (x C : Addr) (h : Heap) : Prop := ∃ ox, h.get? x = some ox ∧ ox.cls = .ref C
theorem ExcAt.ty {h : Heap} (M : Model) (p : ExcAt x C h) : Looks M h (typeOf (.ref x)) (.ref C) := by
  obtain ⟨ox, h1, h2⟩ := p
  exact h2 ▸ (Looks.ld h1).andThen .now
theorem exc_get {tp : Value} {R : Result → Shared → Prop} (Z : ExcK K C) (X : K.In s.heap) (I : ExcAt x C s.heap) (h : R (.ok (.ret (.ref C))) s) :
    codeAny (model prog w) A (.call (.builtin "getset_descriptor.__get__") ⟨[.builtin "object.__class__", .ref x, tp], []⟩) R s := by
  obtain ⟨hh, g, d, t, os⟩ := s
  have L0 := I.ty (model prog w)
  have L1 := looks_mroIn (M := model prog w) X Z.ob
  have T5 : (⟨hh, g, d, t, os⟩ : Shared).TypeIs (.builtin "object.__class__") "getset_descriptor" := PySem.F.typeOf_object_class
  have ow := PySem.F.owner_object_class
  refine codeAny_call_builtin PySem.F.slot_gs_get.plain PySem.F.entry_gs_get (PySem.F.slot_gs_get.check _ _ _ _ _ _ _ _ T5 (PySem.F.args_gs_get _ _ _) ?_)
  repeat (any_goals (first | assumption | (with_reducible refine L0.at ?_) | (rw [ow]; with_reducible refine L1.at ?_) | wp_step))
  refine ⟨Code.quiet_builtin _ (by decide +kernel), codeAny_builtin PySem.F.entry_object_class ?_⟩
  repeat (any_goals (first | assumption | (with_reducible refine L0.at ?_) | wp_step))
theorem exc_entry {tk : Tok} {Q : PySem.Fin → Shared → Prop} (Z : ExcK K C) (X : K.In s.heap) (I : ExcAt x C s.heap) (h : Q (.done (.ret (.ref C))) s) :
    wpAny (model prog w) A (Builtin.«object.__getattribute__» ⟨[.ref x, .str "__class__" tk], []⟩) Q E s := by
  obtain ⟨hh, g, d, t, os⟩ := s
  have L0 := I.ty (model prog w)
  have L3 := looks_findIn (M := model prog w) X Z.fc
  have T5 : (⟨hh, g, d, t, os⟩ : Shared).TypeIs (.builtin "object.__class__") "getset_descriptor" := PySem.F.typeOf_object_class
  have f5 := PySem.F.typeOf_object_class
  have f6 := PySem.F.slot_gs_get.lookup
  have f7 := PySem.F.slot_gs_set.lookup
  unfold Builtin.«object.__getattribute__»
  repeat (any_goals (first | assumption | (with_reducible refine L0.at ?_) | (with_reducible refine L3.at ?_) | wp_step))
  refine exc_get (s := ⟨hh, g, d, t, os⟩) Z X I ?_
  repeat (any_goals (first | assumption | wp_step))
theorem exc_check {nameV : Value} {Q : Unit → Shared → Prop} {M : Model} (Z : ExcK K C) (X : K.In s.heap) (I : ExcAt x C s.heap) (h : Q () s) : wpAny M A (checkBuiltinCall "BaseException.__getattribute__" ⟨[.ref x, nameV], []⟩) Q E s := by
  obtain ⟨hh, g, d, t, os⟩ := s
  have L0 := I.ty M
  have L4 := looks_mroIn (M := M) X Z.be
  have z1 : builtinKind "BaseException.__getattribute__" = some .slot := by decide +kernel
  have z2 : splitId "BaseException.__getattribute__" = some ("BaseException", "__getattribute__") := by decide +kernel
  have z3 := PySem.F.args_bexc_ga (.ref x) nameV
  simp only [checkBuiltinCall, z1, z2]
  refine wpAny_bind ?_
  unfold isInstance
  repeat (first | (with_reducible refine L0.at ?_) | (with_reducible refine L4.at ?_) | wp_step)
  exact h
theorem exc_class {Q : Option Value → Shared → Prop} (Z : ExcK K C) (X : K.In s.heap) (I : ExcAt x C s.heap) (h : Q (some (.ref C)) { s with toks := s.toks + 1 }) : wpAny (model prog w) A (getAttr? (.ref x) "__class__") Q E s := by
  obtain ⟨hh, g, d, t, os⟩ := s
  have L0 := I.ty (model prog w)
  have L1 := looks_findIn (M := model prog w) X Z.ga
  have L2 := looks_findIn (M := model prog w) X Z.hk
  have b3 := PySem.F.excAttr_ValueError.ga.bind (.ref x)
  have z2 : (Value.builtin "BaseException.__getattribute__" == Value.builtin "object.__getattribute__") = false := by decide +kernel
  have z1 : (onTheHeap (Value.ref C) && Value.builtin "BaseException.__getattribute__" == Value.builtin "object.__getattribute__") = false := by rw [z2]; rfl
  unfold getAttr? getAttrBy? getAttrBy
  repeat (any_goals (first | assumption | (with_reducible refine L0.at ?_) | (with_reducible refine L1.at ?_) | (with_reducible refine L2.at ?_) | wp_step))
  refine codeAny_call_builtin PySem.F.excAttr_ValueError.ga.plain PySem.F.entry_bexc_ga (exc_check (s := ⟨hh, g, d, t + 1, os⟩) Z X I (exc_entry (s := ⟨hh, g, d, t + 1, os⟩) Z X I ?_))
  repeat (any_goals (first | assumption | wp_step))
theorem kitx_exc (Z : ExcK K C) : KitX K (.ref x) (.ref C) (ExcAt x C) where
  ty := fun M _ _ I => I.ty M
  it := fun _ _ X _ => by
    have z := Z.cl
    unfold clsIn at z
    split at z
    · rename_i look
      intro A' Q' E' s' k q
      unfold isType loadHead
      exact wpAny_bind (wpAny_loadPart (k _ _ (X _ _ look)) (wpAny_pure q))
    · cases z
  ne := fun h tp dd its n sl X htp => by
    refine Bool.eq_false_iff.mpr (fun y => ?_)
    have e : C = tp := Value.ref.inj (beq_iff_eq.mp y)
    subst e
    have z := Z.cl
    unfold clsIn at z
    split at z
    · rename_i look
      have y := (X _ _ look).symm.trans htp
      cases y
    · cases z
  ca := fun X I k => exc_class Z X I k
end
section
variable {P : Program} {w : World} {fs : List Addr} {H H' : Hp} {h h' h2 B : Heap}
theorem Un.flown (u : Un fs [] H H' h h') (fr : ∀ b ∈ fs, H b = none ∧ ∃ o, h.get? b = some o ∧ ∀ vs, o.data ≠ .fields vs) (k : Kept B fs H h H' h') (st : ∀ b o, B.get? b = some o → h2.get? b = some o) (up : h'.UpToSlots h2) : Un fs [] H H' h h2 := by
  have slot : ∀ b o, h.get? b = some o → b ∈ fs → ∃ sl, h2.get? b = some { o with slots := sl } := fun b o e f => by
    obtain ⟨n, o1, e2, nf⟩ := fr b f
    obtain ⟨sl, e1⟩ := u.slot b o e n f (fun z => nomatch z)
    rw [e] at e2
    cases Option.some.inj e2
    obtain ⟨sl', e3⟩ := up b _ e1 nf
    exact ⟨sl', e3⟩
  refine ⟨fun b o e n f _ => st b o (k.old b o e n f), fun b o e n f _ => slot b o e f, fun b o e n _ => u.free b o e n (fun z => nomatch z), fun b o e _ => ?_, u.tups, u.frzs, u.tbls⟩
  by_cases f : b ∈ fs
  · obtain ⟨sl, q⟩ := slot b o e f
    exact ⟨_, q⟩
  · obtain ⟨o', e'⟩ := k.any b o e f
    exact ⟨o', st b o' e'⟩
theorem HOk.flown (ok : HOk P w H' h') (k : Kept B fs H h H' h') (st : ∀ b o, B.get? b = some o → h2.get? b = some o) : HOk P w H' h2 := fun a o e => by
  refine (ok a o e).stay (fun b u hb q => st b u (k.trk b u ?_ q)) (fun _ q => q) fun _ _ q => q
  rcases hb with z | z
  · rw [z, e]
    intro y
    cases y
  · rw [z]
    intro y
    cases y
end
section
variable {X : Cx} {pins : List (Addr × Obj)} {σ : St} {H H' : Hp} {s s' : Shared} {a : Addr} {cls : Value} {dx : Option Addr}
def Air (X : Cx) (pins : List (Addr × Obj)) (σ : St) (H' : Hp) (a : Addr) (cls : Value) (dx : Option Addr) (s : Shared) : Prop := ∃ (H : Hp) (s0 : Shared) (B : Heap) (t : Addr), Inv X pins σ H s0 ∧ s.os = s0.os ∧ AllBare s.gens ∧ Un (frs X.stack) [] H H' s0.heap s.heap ∧ HOk X.prog X.w H' s.heap ∧
  FlyX B X.stack a cls (.ref t) dx .none s.heap ∧ Kept B (frs X.stack) H s0.heap H' s.heap ∧ H' a = none
theorem Air.inv (x : Air X pins σ H a cls dx s) : Inv X pins σ H s := by
  obtain ⟨H0, s0, B, t, I, os, bare, un, hok, _⟩ := x
  exact I.call' (ch := []) os un hok bare (fun b z => nomatch z)
theorem Inv.frm (I : Inv X pins σ H s) : ∀ b ∈ frs X.stack, H b = none ∧ ∃ o, s.heap.get? b = some o ∧ ∀ vs, o.data ≠ .fields vs := fun b hb => ⟨I.stkFree b hb, (I.stack.mem hb).2⟩
theorem Air.moved {B : Heap} {t : Addr} {H0 : Hp} {s0 : Shared} {h2 : Heap} (I : Inv X pins σ H0 s0) (os : s.os = s0.os) (bare : AllBare s.gens) (un : Un (frs X.stack) [] H0 H s0.heap s.heap) (hok : HOk X.prog X.w H s.heap)
    (kp : Kept B (frs X.stack) H0 s0.heap H s.heap) (ha : H a = none) (fl : FlyX B X.stack a cls (.ref t) dx .none h2) (up : s.heap.UpToSlots h2) : Air X pins σ H a cls dx { s with heap := h2 } :=
  ⟨H0, s0, B, t, I, os, bare, un.flown I.frm kp fl.stays up, hok.flown kp fl.stays, fl, kp.fly hok fl.stays, ha⟩
def Cx.tried (X : Cx) (pins : List (Addr × Obj)) (W : Value → Option Addr → St → Hp → Prop) : Cx := { X with pn := X.pn ++ pins, xe := fun e s' => ∃ (σ : St) (H : Hp) (s0 : Shared), Inv X pins σ H s0 ∧ CXE X.prog X.w X.stack H s0 (fun cls dx H2 => W cls dx σ H2) e s' }
theorem Inv.tried (I : Inv X pins σ H s) (W : Value → Option Addr → St → Hp → Prop) : Inv (X.tried pins W) [] σ H s :=
  ⟨⟨I.ok.mod, I.ok.kind, I.ok.glob, I.ok.blt, I.ok.above, I.ok.inj, I.ok.has, I.ok.cab, I.ok.hd, I.ok.frames, I.ok.stk, I.ok.exf, I.ok.bs, I.ok.bsz, I.ok.noex, I.ok.exfs, I.ok.funs, I.ok.frf⟩,
    I.os, I.bare, I.base, I.loc, I.cell, I.free, I.freeC, fun p hp => I.pin p (by rw [List.append_nil] at hp; exact hp), I.hok, I.len⟩
theorem Inv.untried {W : Value → Option Addr → St → Hp → Prop} {pins' : List (Addr × Obj)} (I : Inv (X.tried pins W) pins' σ H s) : Inv X pins σ H s :=
  ⟨⟨I.ok.mod, I.ok.kind, I.ok.glob, I.ok.blt, I.ok.above, I.ok.inj, I.ok.has, I.ok.cab, I.ok.hd, I.ok.frames, I.ok.stk, I.ok.exf, I.ok.bs, I.ok.bsz, I.ok.noex, I.ok.exfs, I.ok.funs, I.ok.frf⟩,
    I.os, I.bare, I.base, I.loc, I.cell, I.free, I.freeC, fun p hp => I.pin p (List.mem_append_left _ hp), I.hok, I.len⟩
theorem SP.untried {W : Value → Option Addr → St → Hp → Prop} {D : Ends} {f : Flow} (h : SP (X.tried pins W) [] D f s') : SP X pins D f s' := by
  cases f with
  | next => obtain ⟨σ', H', I, q⟩ := h; exact ⟨σ', H', I.untried, q⟩
  | brk => obtain ⟨σ', H', I, q⟩ := h; exact ⟨σ', H', I.untried, q⟩
  | cont => obtain ⟨σ', H', I, q⟩ := h; exact ⟨σ', H', I.untried, q⟩
  | ret u => obtain ⟨v, σ', H', I, r, q⟩ := h; exact ⟨v, σ', H', I.untried, r, q⟩
theorem xpass_try {W : Value → Option Addr → St → Hp → Prop} : XPass (X.tried pins W) W := ⟨fun _ σ H s _ _ I c => ⟨σ, H, s, I.untried, c⟩⟩
def Cx.inH (X : Cx) (pins : List (Addr × Obj)) (a : Addr) (oe : Obj) : Cx := { X with A := X.A.mark (some (.ref a)), calm := false, xe := fun _ _ => False, pn := X.pn ++ pins ++ [(a, oe)] }
theorem Inv.inH {oe : Obj} (I : Inv X pins σ H s) (e : s.heap.get? a = some oe) (n : H a = none) (nl : a ≠ X.env.locals) (nf : a ∉ X.fs) (nc : ∀ v, oe.data ≠ .cell v) (fr : (X.A.mark (some (.ref a))).frames = some X.stack) : Inv (X.inH pins a oe) [] σ H s :=
  ⟨⟨I.ok.mod, I.ok.kind, I.ok.glob, I.ok.blt, I.ok.above, I.ok.inj, I.ok.has, I.ok.cab, (fun z => nomatch z), fr, I.ok.stk, I.ok.exf, I.ok.bs, I.ok.bsz, I.ok.noex, I.ok.exfs, I.ok.funs, I.ok.frf⟩,
    I.os, I.bare, I.base, I.loc, I.cell, I.free, I.freeC, fun p hp => by
      rw [List.append_nil] at hp
      rcases List.mem_append.mp hp with z | z
      · exact I.pin p z
      · rw [List.mem_singleton] at z
        subst z
        exact ⟨e, n, nl, nf, nc⟩, I.hok, I.len⟩
theorem Inv.unH {oe : Obj} {pins' : List (Addr × Obj)} (ok : X.Ok) (I : Inv (X.inH pins a oe) pins' σ H s) : Inv X pins σ H s :=
  ⟨ok, I.os, I.bare, I.base, I.loc, I.cell, I.free, I.freeC, fun p hp => I.pin p (List.mem_append_left _ (List.mem_append_left _ hp)), I.hok, I.len⟩
theorem gone_ok {M : Model} {A : Around} {E : Value → Shared → Prop} {i : Nat} {n : Str} {pos : Pos} {Q : Unit → Shared → Prop} (I : Inv X pins σ H s) (hN : X.N.Nodup) (hi : X.N[i]? = some n) (hk : X.env.scope.names.lookup n = some .local)
    (h : ∀ s', Inv X pins (σ.set i none) H s' → Q () s') : wpAny M A (do bindName X.env n .none; unbindBehindTheSuite X.env n pos) Q E s := by
  obtain ⟨m, hn, hl⟩ := id I.loc
  have iσ : i < σ.length := by rw [I.len]; exact (List.getElem?_eq_some_iff.mp hi).1
  refine wpAny_nameGoes_keeps hk hn (by rw [I.ok.kind]; rfl) fun h' v hn' hs => ?_
  have nl : ∀ b o, X.s₀.heap.get? b = some o → b ≠ X.env.locals := fun b o e => Nat.ne_of_lt (Nat.lt_of_lt_of_le (Heap.lt_size e) I.ok.above)
  refine h _ ⟨I.ok, I.os, I.bare, ⟨fun b o e n' hb hx => (hs.2 b (nl b o e)).trans (I.base.keep b o e n' hb hx), fun b o e n' hb hx => ?_, I.base.free, fun b o e hx => ?_, I.base.tups, I.base.frzs, I.base.tbls⟩,
    ⟨_, hn', fun j y v' e1 e2 e3 => ?_⟩, fun y c e => ?_, I.free, I.freeC, fun p hp => ?_, fun b ob e => ?_, by simpa using I.len⟩
  · obtain ⟨sl, q⟩ := I.base.slot b o e n' hb hx
    exact ⟨sl, (hs.2 b (nl b o e)).trans q⟩
  · obtain ⟨o', q⟩ := I.base.there b o e hx
    exact ⟨o', (hs.2 b (nl b o e)).trans q⟩
  · by_cases hj : j = i
    · subst hj
      rw [List.getElem?_set_self iσ] at e2
      cases e2
    · rw [List.getElem?_set_ne (Ne.symm hj)] at e2
      obtain ⟨u', r', q⟩ := hl j y v' e1 e2 e3
      refine ⟨u', r', ?_⟩
      rcases q with ⟨k, e⟩ | ⟨k, c, e, z⟩
      · refine .inl ⟨k, ?_⟩
        have ny : y ≠ n := fun e => hj (nodup_ix hN e1 (e ▸ hi))
        show (if y = n then v else m y) = some u'
        rw [if_neg ny]
        exact e
      · exact .inr ⟨k, c, e, z.sameBut hs (I.cne y c e)⟩
  · obtain ⟨w', z⟩ := I.cell y c e
    exact ⟨w', z.sameBut hs (I.cne y c e)⟩
  · obtain ⟨e, n', ne, nf, d⟩ := I.pin p hp
    exact ⟨(hs.2 p.1 ne).trans e, n', ne, nf, d⟩
  · refine (I.hok b ob e).stay (fun c w' hc q => (hs.2 c ?_).trans q) (fun _ q => q) fun _ _ q => q
    intro z
    subst z
    rcases hc with z | z
    · rw [← z, I.free] at e
      cases e
    · rw [I.free] at z
      cases z
theorem exc_matches {M : Model} {A : Around} {E : Value → Shared → Prop} {K : PySem.W.Frag} {C : Addr} {oe : Obj} {b : Bool} {Q : Bool → Shared → Prop} (Z : K.In s.heap) (he : s.heap.get? a = some oe) (hk : kitCls K oe.cls (.ref C) = some b) (hb : subIn K (.ref C) (.type "BaseException") = some true) (h : Q b s) :
    wpAny M A (excMatches (.ref a) (.ref C)) Q E s := by
  obtain ⟨hh, g, d, t, os⟩ := s
  have L0 : Looks M hh (typeOf (.ref a)) oe.cls := (Looks.ld he).andThen .now
  obtain ⟨L1, L3, L5⟩ := kit_cls (M := M) Z hk
  have L2 : Looks M hh (isSubtype (.type "type") (.type "tuple")) false := looks_subIn (K := K) Z (show (fastBuiltinMro "type").map (·.contains (.type "tuple")) = some false by decide +kernel)
  have L4 := looks_subIn (M := M) Z hb
  unfold excMatches isExcClass isInstance
  repeat (first | (with_reducible refine L0.at ?_) | (with_reducible refine L1.at ?_) | (with_reducible refine L2.at ?_) | (with_reducible refine L3.at ?_) | (with_reducible refine L4.at ?_) | (with_reducible refine L5.at ?_) | wp_step)
  cases b <;> (repeat wp_step) <;> exact h
abbrev TH := Value → Option Addr → Addr → TS
def XOb (oe : Obj) (dx : Option Addr) : Prop := oe.dict = dx ∧ ∃ vs, oe.data = .fields vs ∧ vs[2]? = some .none
def PH (X : Cx) (hs : List ExceptHandler) (th : TH) : Prop := ∀ (pins : List (Addr × Obj)) (σ : St) (H : Hp) (s : Shared) (a : Addr) (cls : Value) (dx : Option Addr) (D : Ends), Air X pins σ H a cls dx s → th cls dx a D σ H →
  wpAny (model X.prog X.w) X.A (handleBy (.ref a) X.env hs) (SP X pins D) X.xe s
def thNil : TH := fun _ _ _ _ _ _ => False
theorem ph_nil : PH X [] thNil := fun _ _ _ _ _ _ _ _ _ h => h.elim
structure CatK (K : PySem.W.Frag) (C : Addr) : Prop where
  be : subIn K (.ref C) (.type "BaseException") = some true
  me : kitCls K (.ref C) (.ref C) = some true
theorem CatK.of {K : PySem.W.Frag} {C : Addr} {t : Value} {b : Bool} (Z : CatK K C) (h : kitOne K t (.ref C) = some b) : kitCls K t (.ref C) = some b := by
  unfold kitOne at h
  by_cases q : (t == .ref C) = true
  · rw [if_pos q] at h
    cases h
    rw [beq_iff_eq.mp q]
    exact Z.me
  · rw [if_neg q] at h
    exact h
def gDel (i : Nat) (R : St → Hp → Prop) (σ : St) (H : Hp) : Prop := R (σ.set i none) H
def thCons (K : PySem.W.Frag) (C : Addr) (i : Nat) (ts : Addr → Value → Option Addr → TS) (tr : TH) : TH := fun cls dx a D σ H => ∃ b, kitOne K cls (.ref C) = some b ∧
  if b = true then gName i (.ref a) σ H (ts a cls dx { nx := gDel i D.nx, rt := D.rt, bk := gDel i D.bk, ct := gDel i D.ct }) else tr cls dx a D σ H
theorem ph_cons {x n : Str} {np pos : Pos} {C : Addr} {i : Nat} {b0 : Stmt} {suite : List Stmt} {rest : List ExceptHandler} {ts : Addr → Value → Option Addr → TS} {tr : TH} (hg : Gl X x) (hm : X.mg x = some (.ref C)) (hb : CatK X.K C) (hN : X.N.Nodup) (hi : X.N[i]? = some n)
    (hk : X.env.scope.names.lookup n = some .local) (hs : ∀ (pins : List (Addr × Obj)) (a : Addr) (oe : Obj) (cls : Value) (dx : Option Addr), oe.cls = cls → XOb oe dx → PSs (X.inH pins a oe) (b0 :: suite) (ts a cls dx)) (hr : PH X rest tr) (hd : (x == ("__debug__" : Str)) = false := by decide) :
    PH X (.ExceptHandler (some (.Name x np)) (some n) (b0 :: suite) pos :: rest) (thCons X.K C i ts tr) := by
  intro pins σ H s a cls dx D air h
  obtain ⟨b, hb1, h⟩ := h
  have I := air.inv
  obtain ⟨H0, s0, B, t, I0, os, bare, un, hok, fl, kp, ha⟩ := id air
  obtain ⟨oe, _, he, _, hc, _⟩ := fl.obj
  refine wpAny_handleBy_cons (codeAny_handlers_test (Calls.Name_function_global I.ok.kind hg (Calls.loadGlobal_global (by rw [I.ok.glob]; exact I.mod.glob.keeps I.bk) hm ?_) hd)) (by intro q; cases q)
  refine exc_matches I.kIn he (by rw [hc]; exact hb.of hb1) hb.be ?_
  cases b with
  | false => exact hr pins σ H s a cls dx D air h
  | true =>
    refine codeAny_handlers_suite_as ?_
    refine fl.lands fun h6 fl6 up6 => ?_
    have air6 := Air.moved I0 os bare un hok kp ha fl6 up6
    have I6 := air6.inv
    obtain ⟨o6, v6, e6, d6, c6, x6, y6⟩ := fl6.obj
    have offS : a ∉ frs X.stack := fun z => by
      obtain ⟨_, o7, e7, nf⟩ := I6.frm a z
      rw [e6] at e7
      cases e7
      exact nf v6 d6
    have nf : a ∉ X.fs := fun z => by
      rcases I6.ok.stk with y | ⟨y, _⟩
      · exact offS (by rw [y]; exact z)
      · obtain ⟨en, m1, m2⟩ := List.mem_filterMap.mp z
        exact offS (by rw [y]; exact List.mem_filterMap.mpr ⟨en, List.mem_cons_of_mem _ m1, m2⟩)
    have nl : a ≠ X.env.locals := fun z => by
      obtain ⟨m, ⟨o7, es7, ep7, e7, dd7, _⟩, _⟩ := I6.loc
      rw [← z, e6] at e7
      cases e7
      rw [d6] at dd7
      cases dd7
    have I6H := I6.inH (oe := o6) e6 ha nl nf (fun v z => by rw [d6] at z; cases z) I6.ok.frames
    refine store_ok (X := X.inH pins a o6) (v := .ref a) I6H hN hi (.inl hk) rfl (fun s7 I7 => ?_) (.inr hk)
    have q : ts a cls dx { nx := gDel i D.nx, rt := D.rt, bk := gDel i D.bk, ct := gDel i D.ct } (σ.set i (some (.ref a))) H := h
    refine wpAny_mono (hs pins a o6 cls dx c6 ⟨x6, v6, d6, y6⟩ [] s7 _ H _ I7 q) (fun f s8 sp => ?_) (fun _ _ z => z.elim)
    cases f with
    | next => obtain ⟨σ8, H8, I8, q8⟩ := sp; exact gone_ok (I8.unH I6.ok) hN hi hk fun s9 I9 => ⟨_, H8, I9, q8⟩
    | brk => obtain ⟨σ8, H8, I8, q8⟩ := sp; exact gone_ok (I8.unH I6.ok) hN hi hk fun s9 I9 => ⟨_, H8, I9, q8⟩
    | cont => obtain ⟨σ8, H8, I8, q8⟩ := sp; exact gone_ok (I8.unH I6.ok) hN hi hk fun s9 I9 => ⟨_, H8, I9, q8⟩
    | ret u => obtain ⟨v8, σ8, H8, I8, r8, q8⟩ := sp; exact gone_ok (I8.unH I6.ok) hN hi hk fun s9 I9 => ⟨v8, _, H8, I9, r8, q8⟩
def tTry (tb : (Value → Option Addr → St → Hp → Prop) → TS) (th : TH) : TS := fun D σ H => ∃ W : Value → Option Addr → St → Hp → Prop, tb W D σ H ∧ ∀ cls dx a σ' H', W cls dx σ' H' → th cls dx a D σ' H'
theorem ps_try {body : List Stmt} {h0 : ExceptHandler} {hs : List ExceptHandler} {pos : Pos} {tb : (Value → Option Addr → St → Hp → Prop) → TS} {th : TH} (hst : X.stack = X.env :: X.outer) (hf : X.env.frame = some X.env.locals)
    (hb : ∀ (pins : List (Addr × Obj)) (W : Value → Option Addr → St → Hp → Prop), PSs (X.tried pins W) body (tb W)) (hh : PH X (h0 :: hs) th) : PS X (.Try body (h0 :: hs) [] [] pos) (tTry tb th) := by
  intro pins s σ H D I h
  obtain ⟨W, hq, hW⟩ := h
  refine wpAny_Try_except (wpAny_mono (hb pins W [] s σ H D (I.tried W) hq) (fun f s1 q => ?_) fun e s1 c => ?_)
  · have q' := SP.untried q
    cases f with
    | next => exact wpAny_execs_nil q'
    | brk => exact q'
    | cont => exact q'
    | ret u => exact q'
  · obtain ⟨σ1, H1, s0, I1, a, t, cls, dx, H2, B, rfl, w1, os, bare, un, hok, fl, kp, ha⟩ := c
    refine FlyX.looks (outer := X.outer) (L := X.env.locals) (by rw [I1.ok.frames, hst]) hf (by rw [← hst]; exact fl) fun h4 held up4 => ?_
    refine held.lands fun h5 fl5 up5 => ?_
    rw [← hst] at fl5
    exact hh pins σ1 H2 _ a cls dx D (Air.moved (s := s1) I1 os bare un hok kp ha fl5 (up4.trans up5)) (hW cls dx a σ1 H2 w1)
def kTy (c : V) : Option Value := match c with
  | .ref C => some (.ref C)
  | .ty n => some (.type n)
  | _ => none
def rIsiX (K : PySem.W.Frag) (a : Addr) (cls : Value) : List V → Hp → VK → Prop := fun xs H Q => ∃ C, cls = .ref C ∧ ExcK K C ∧
  ((∃ c c' b, xs = [.ref a, c] ∧ kTy c = some c' ∧ kitOne K cls c' = some b ∧ Q (.bl b) H) ∨ (∃ tp cs us b, xs = [.ref a, .ref tp] ∧ H tp = some (.tup cs) ∧ cs.map kTy = us.map some ∧ kitAny K cls us = some b ∧ Q (.bl b) H))
theorem rel_kTy {c : V} {c' u : Value} (r : RelV c u) (h : kTy c = some c') : u = c' := by
  cases c with
  | ref C => cases h; exact r
  | ty n => cases h; exact r
  | _ => cases h
theorem vals_kTy : ∀ {cs : List V} {us vs : List Value}, Vals cs vs → cs.map kTy = us.map some → vs = us
  | [], [], _, .nil, _ => rfl
  | [], _ :: _, _, _, h => by simp at h
  | _ :: _, [], _, _, h => by simp at h
  | c :: cs, u :: us, _, .cons r t, h => by
    simp only [List.map_cons, List.cons.injEq] at h
    rw [rel_kTy r h.1, vals_kTy t h.2]
theorem call_isiX {oe : Obj} {cls : Value} (hcls : oe.cls = cls) : CallR (X.inH pins a oe) (.builtin "isinstance") (rIsiX X.K a cls) := by
  subst hcls
  intro pins' s σ H xs us Q I r h
  obtain ⟨C, hC, Z, h⟩ := h
  obtain ⟨e1, _⟩ := I.pin (a, oe) (List.mem_append_left _ (List.mem_append_right _ (List.mem_singleton.mpr rfl)))
  have at1 : ExcAt a C s.heap := ⟨oe, e1, hC⟩
  rw [hC] at h
  rcases h with ⟨c, c', b, ex, hk, hb, q⟩ | ⟨tp, cs, vs, b, ex, ht, hv, hb, q⟩
  · subst ex
    obtain ⟨u, u', rfl, r1, r2⟩ := vals2 r
    obtain rfl : u = Value.ref a := r1
    rw [rel_kTy r2 hk]
    exact kia_one (kitx_exc Z) I.kIn at1 hb (fun z => nomatch z) fun tk => ⟨.bl b, H, I.tok tk, rfl, q⟩
  · subst ex
    obtain ⟨u, u', rfl, r1, r2⟩ := vals2 r
    obtain rfl : u = Value.ref a := r1
    obtain rfl : u' = Value.ref tp := r2
    obtain ⟨_, its, rv, ob, e2, c2, n2, d2⟩ := (show ObjOk X.prog X.w H s.heap tp (.tup cs) from I.hok tp _ ht)
    obtain ⟨oc, od, odt, osl⟩ := ob
    dsimp only at c2 d2
    subst c2 d2
    rw [vals_kTy rv hv] at e2
    exact kia_tup (kitx_exc Z) I.kIn at1 e2 hb (fun z => nomatch z) fun tk => ⟨.bl b, H, I.tok tk, rfl, q⟩
theorem rd_try {tb : (Value → Option Addr → St → Hp → Prop) → TS} {th : TH} {D : Ends} {σ : St} {H : Hp} (W : Value → Option Addr → St → Hp → Prop) (h1 : tb W D σ H) (h2 : ∀ cls dx a σ' H', W cls dx σ' H' → th cls dx a D σ' H') : tTry tb th D σ H := ⟨W, h1, h2⟩
theorem rd_thT {K : PySem.W.Frag} {C : Addr} {i : Nat} {ts : Addr → Value → Option Addr → TS} {tr : TH} {cls : Value} {dx : Option Addr} {a : Addr} {D : Ends} {σ : St} {H : Hp} (hb : kitOne K cls (.ref C) = some true)
    (h : gName i (.ref a) σ H (ts a cls dx { nx := gDel i D.nx, rt := D.rt, bk := gDel i D.bk, ct := gDel i D.ct })) : thCons K C i ts tr cls dx a D σ H := ⟨true, hb, h⟩
theorem rd_isX {K : PySem.W.Frag} {a c c' : Addr} {b : Bool} {H : Hp} {Q : VK} (Z : ExcK K c) (hb : kitOne K (.ref c) (.ref c') = some b) (h : Q (.bl b) H) : rIsiX K a (.ref c) [.ref a, .ref c'] H Q := ⟨c, rfl, Z, .inl ⟨.ref c', .ref c', b, rfl, rfl, hb, h⟩⟩
theorem rd_isXT {K : PySem.W.Frag} {a c : Addr} {n : String} {b : Bool} {H : Hp} {Q : VK} (Z : ExcK K c) (hb : kitOne K (.ref c) (.type n) = some b) (h : Q (.bl b) H) : rIsiX K a (.ref c) [.ref a, .ty n] H Q := ⟨c, rfl, Z, .inl ⟨.ty n, .type n, b, rfl, rfl, hb, h⟩⟩
structure CK (K : PySem.W.Frag) (mg : Str → Option Value) (base : Heap) (x : Str) : Type where
  addr : Addr
  gl : mg x = some (.ref addr)
  own : OwnCls x addr [.type "ValueError", .type "Exception", .type "BaseException", .type "object"] "ValueError.__new__" mg base
  exc : ExcK K addr
  cat : CatK K addr
theorem cls_some {K : PySem.W.Frag} {C : Addr} {bm : List Value} {n : String} (q : excIn K C bm n = true) : (clsIn K C).isSome = true := by
  unfold excIn at q
  split at q
  · rename_i look
    unfold clsIn
    rw [look]
    rfl
  · cases q
def ck_mk {K : PySem.W.Frag} {mg : Str → Option Value} {base : Heap} {x : Str} {C : Addr} (X : K.In base) (hm : mg x = some (.ref C)) (e : excIn K C [.type "ValueError", .type "Exception", .type "BaseException", .type "object"] "ValueError.__new__" = true)
    (ga : findIn K (.ref C) "__getattribute__" = some (some (.builtin "BaseException.__getattribute__"))) (hk : findIn K (.ref C) "__getattr__" = some none) (fc : findIn K (.ref C) "__class__" = some (some (.builtin "object.__class__")))
    (ob : mroIn K C (.type "object") = some true) (be : mroIn K C (.type "BaseException") = some true) (me : mroIn K C (.ref C) = some true) (ty : typeIn K (.ref C) = some (.type "type")) : CK K mg base x :=
  ⟨C, hm, own_mk X hm e, ⟨cls_some e, ga, hk, fc, ob, be⟩, ⟨be, by
    show (if ((clsIn K C).isSome && typeIn K (.ref C) == some (.type "type")) = true then subIn K (.ref C) (.ref C) else none) = some true
    rw [cls_some e, ty]
    exact me⟩⟩
theorem rd_del3 {a0 a1 a2 a3 : Option V} {r : St} {R : St → Hp → Prop} {H : Hp} (h : R (a0 :: a1 :: a2 :: none :: r) H) : gDel 3 R (a0 :: a1 :: a2 :: a3 :: r) H := h
end
end L2
set_option maxRecDepth 100000
set_option maxHeartbeats 4000000
namespace L2
open PySem PySem.Spec PyProof.Rows
section
variable {X : Cx} {tg : Expr}
end
section
variable {σ : St} {H : Hp} {D : Ends} {K : PySem.W.Frag}
end
end L2
set_option maxRecDepth 100000
set_option maxHeartbeats 4000000
namespace L2
open PySem PySem.Spec PyProof.Rows
def rAll (K : PySem.W.Frag) : List V → Hp → VK → Prop := fun xs H Q => ∃ (p : Addr) (bs : List Bool), xs = [.ref p] ∧ SqL K H p (bs.map V.bl) ∧ Q (.bl (bs.all id)) H
theorem all_range : ∀ (bs : List Bool), (List.range bs.length).all (fun i => (bs[i]?).getD false) = bs.all id
  | [] => rfl
  | b :: r => by
    rw [List.length_cons, List.range_succ_eq_map, List.all_cons, List.all_map, List.all_cons]
    have := all_range r
    rw [← this]
    rfl
section
variable {X : Cx}
theorem call_allB (hc : X.calm = true) : CallR X (.builtin "all") (rAll X.K) := by
  intro pins s σ H xs us Q I r h
  obtain ⟨p, bs, e, hq, q⟩ := h
  subst e
  obtain ⟨u, rfl, ru⟩ := vals1 r
  obtain rfl : u = Value.ref p := ru
  obtain ⟨its, rv, pl, hz⟩ := I.list hq
  refine call_all_walk (wpAny_pyIter_list pl.isList ?_)
  have hl : its.length = bs.length := by have := rv.length; rw [List.length_map] at this; omega
  have ne : p ≠ s.heap.objs.size := by
    obtain ⟨o, _, e, _⟩ := pl
    exact Nat.ne_of_lt (Heap.lt_size e)
  refine ⟨s.heap.objs.size, _, _, _, _, _, fun i => (bs[i]?).getD false, rfl, Walks.list (A := X.A.in1) (show X.A.in1.handled = none from I.ok.hd hc) _ p ne its.toArray, ⟨⟨_, Heap.get?_push_size _ rfl, rfl, rfl⟩, ?_⟩, ?_, fun h' tk hk => ?_⟩
  · obtain ⟨o, n, e, c, d, dd⟩ := pl
    exact ⟨o, Heap.get?_push_of_some _ e, c, n, dd⟩
  · intro i v s1 Q1 E1 hP hQ
    rw [List.getElem?_toArray] at hP
    have hi : i < bs.length := by have := (List.getElem?_eq_some_iff.mp hP).1; omega
    obtain ⟨b, hb⟩ : ∃ b, bs[i]? = some b := ⟨_, List.getElem?_eq_getElem hi⟩
    obtain ⟨u, hu, ru⟩ := rv.get (i := i) (x := .bl b) (by rw [List.getElem?_map, hb]; rfl)
    rw [hP] at hu
    cases hu
    obtain rfl : v = Value.bool b := ru
    refine wpAny_truthy_bool ?_
    have hQ' : Q1 ((bs[i]?).getD false) s1 := hQ
    rw [hb] at hQ'
    exact hQ'
  · have ea : (List.range its.toArray.size).all (fun i => (bs[i]?).getD false) = bs.all id := by
      rw [List.size_toArray, hl]
      exact all_range bs
    rw [ea]
    refine ⟨.bl (bs.all id), H, I.kept (h' := h') (t' := tk) fun b o e => hk b o ?_ (Heap.get?_push_of_some _ e), rfl, q⟩
    intro z
    have z' : b = s.heap.objs.size := by simpa using z
    exact absurd (z' ▸ Heap.lt_size e) (Nat.lt_irrefl _)
def benv (env : Env) (scope : Scope) (C : Addr) : Env := { newEnv scope C env.globals [] env.qual none .none (some env) builtinsNs with scope := scope }
def Cx.block (X : Cx) (pins : List (Addr × Obj)) (scope : Scope) (x : Str) (ex : List Addr) (s : Shared) (H : Hp) : Cx :=
  { X with N := [x], s₀ := s, H₀ := H, env := benv X.env scope s.heap.objs.size, outer := X.stack, stack := X.stack, ex := ex, fn := fun _ => false, pn := X.pn ++ pins, xe := fun _ _ => False }
def tComp (wi : TI) (te : TE) : TE := fun σ H Q => wi σ H fun J H1 => ∀ D, H1 D = none → ∃ W : Nat → Nat → List V → Hp → Prop, (∃ m, W 0 m [] (upd H1 D (.lst []))) ∧ ∀ i m ys H, W i m ys H → H D = some (.lst ys) ∧
  ((J.stop i H ∧ Q (.ref D) H) ∨ (J.go i H ∧ ys.length < sizeLine ∧ ∀ x H', J.yld i H x H' → te [some x] H' fun y H2 => H2 D = some (.lst ys) ∧ ∃ m', m' < m ∧ W (i + 1) m' (ys ++ [y]) (upd H2 D (.lst (ys ++ [y])))))
theorem pe_comp {elt iter : Expr} {x : Str} {px pos : Pos} {scope : Scope} {wi : TI} {te : TE} (hc : X.calm = true) (hi : PI X (.Name x px) iter wi)
    (he : ∀ (pins : List (Addr × Obj)) (ex : List Addr) (s : Shared) (H : Hp), PE (X.block pins scope x ex s H) elt te)
    (hfree : ∀ y ∈ scope.names, y.2 ≠ .free) (hcell : ∀ y ∈ scope.names, y.2 ≠ .cell) (hkind : scope.kind = .function) (hnames : ∀ y ∈ scope.names, y.2 = .local → scope.names.lookup y.1 = some .local) (hx : scope.names.lookup x = some .local)
    (hs : ∀ v, foldedSetIterable iter X.env v = pure v := by intro _; rfl) : PE X (.ListComp elt [⟨.Name x px, iter, [], 0⟩] scope pos) (tComp wi te) := by
  intro pins s σ H Q I h
  refine wpAny_ListComp hfree hkind hnames (thn (hi pins s σ H _ I h) fun v s1 h1 => thn h1 fun itv s2 h2 => ?_) hs
  obtain ⟨it, fp, tn, J, H2, e, I2, T, st2, f2, hW⟩ := h2
  subst e
  refine wpAny_newObj_type ?_ (by show 0 ≤ sizeLine; exact Nat.zero_le _)
  have nD : H2 s2.heap.objs.size = none := I2.hok.fresh (Nat.le_refl _)
  obtain ⟨W, ⟨m0, w0⟩, turn⟩ := hW _ nD
  have I3 : Inv X pins σ (upd H2 s2.heap.objs.size (.lst [])) { s2 with heap := s2.heap.push { cls := .type "list", data := .seq ([] : List Value).toArray } } :=
    I2.laid (t' := s2.toks) (fun b u e => Heap.get?_push_of_some _ e) (Nat.le_refl _) ⟨Nat.zero_le _, [], 0, .nil, Heap.get?_push_size _ rfl⟩
  have st3 : tn 0 (s2.heap.push { cls := .type "list", data := .seq ([] : List Value).toArray }) := T.keep 0 _ _ st2 fun b _ o e => Heap.get?_push_of_some _ e
  have lfp : ∀ b ∈ fp, b < s2.heap.objs.size := fun b hb => by
    obtain ⟨o, e, _⟩ := T.obj 0 _ st2 b hb
    exact Heap.lt_size e
  have f3 : ∀ b ∈ fp, FpOk X pins (upd H2 s2.heap.objs.size (.lst [])) b := fun b hb => by
    obtain ⟨n0, r⟩ := f2 b hb
    exact ⟨by rw [upd_ne (Nat.ne_of_lt (lfp b hb))]; exact n0, r⟩
  have z3 : s2.heap.objs.size < (s2.heap.push { cls := .type "list", data := .seq ([] : List Value).toArray }).objs.size := by rw [Heap.size_push]; exact Nat.lt_succ_self _
  generalize hs3 : ({ s2 with heap := s2.heap.push { cls := .type "list", data := .seq ([] : List Value).toArray } } : Shared) = s3 at I3 ⊢
  have h3 : s3.heap = s2.heap.push { cls := .type "list", data := .seq ([] : List Value).toArray } := by rw [← hs3]
  rw [← h3] at st3 z3
  generalize hD : s2.heap.objs.size = D at *
  generalize hH3 : upd H2 D (.lst []) = H3 at *
  have exlt : ∀ b ∈ fp, b < s3.heap.objs.size := fun b hb => Nat.lt_trans (lfp b hb) z3
  have exStk : ∀ b ∈ fp, b ∉ frs X.stack := fun b hb z => by
    obtain ⟨_, n1, n2, _⟩ := f3 b hb
    rcases List.mem_cons.mp (I3.stkSub b z) with q | q
    · exact n1 q
    · exact n2 q
  refine wpAny_newFunctionEnv hcell (by intro y hy; simp at hy) (fun h4 ns4 sb4 => ?_) hkind
  have okB : (X.block pins scope x fp s3 H3).Ok := by
    refine ⟨I3.ok.mod, hkind, I3.ok.glob, I3.ok.blt, Nat.le_refl _, (fun y z c e => by cases e), (fun y hy => ?_), (fun y c z => by cases z), (fun _ => I3.ok.hd hc), I3.ok.frames, .inl rfl, (fun b hb => ⟨Nat.ne_of_lt (exlt b hb), fun y c e => by cases e⟩), I3.bs, Nat.le_trans I3.ok.bsz I3.sz, (fun b o e hb => ?_), (fun b hb => exStk b hb), I3.stack, I3.stkFree⟩
    · exfalso
      have hy' : scope.names.lookup y = some .cell ∨ scope.names.lookup y = some .free := hy
      rcases hy' with z | z
      · exact hcell _ (PySem.mem_of_lookup z) rfl
      · exact hfree _ (PySem.mem_of_lookup z) rfl
    · obtain ⟨_, _, _, n3, _⟩ := f3 b hb
      rcases n3 with z | z
      · exact I3.ok.noex b o e z
      · exact absurd (Nat.lt_of_lt_of_le (Heap.lt_size (I3.ok.bs b o e).1) z) (Nat.lt_irrefl _)
  have kept4 : ∀ b o, s3.heap.get? b = some o → h4.get? b = some o := fun b o e => (sb4.2 b (Nat.ne_of_lt (Heap.lt_size e))).trans (Heap.get?_push_of_some _ e)
  have I4 : Inv (X.block pins scope x fp s3 H3) [] [none] H3 { s3 with heap := h4, toks := s3.toks + ([] : List (Str × Value)).length } := by
    refine ⟨okB, rfl, I3.bare, Un.kept kept4, ⟨_, ns4, fun i y v e1 e2 e3 => ?_⟩, (fun y c e => by cases e), I3.hok.fresh (Nat.le_refl _), (fun y c e => by cases e), (fun p hp => ?_), I3.hok.kept kept4, rfl⟩
    · exfalso
      cases i with
      | zero => cases e2
      | succ k => cases e2
    · have hp' : p ∈ X.pn ++ pins := by
        have hp1 : p ∈ (X.pn ++ pins) ++ [] := hp
        rw [List.append_nil] at hp1
        exact hp1
      obtain ⟨a1, a2, a3, a4, a5⟩ := I3.pin p hp'
      refine ⟨kept4 _ _ a1, a2, Nat.ne_of_lt (Heap.lt_size a1), fun z => ?_, a5⟩
      rcases List.mem_cons.mp (I3.stkSub _ z) with q | q
      · exact a3 q
      · exact a4 q
  have st4 : tn 0 h4 := T.keep 0 _ _ st3 fun b _ o e => kept4 b o e
  have fpB : ∀ {H' : Hp}, (∀ b ∈ fp, H' b = none) → ∀ b ∈ fp, FpOk (X.block pins scope x fp s3 H3) [] H' b := fun {H'} fr b hb => by
    obtain ⟨_, _, _, _, _, n5⟩ := f3 b hb
    refine ⟨fr b hb, Nat.ne_of_lt (exlt b hb), exStk b hb, .inl hb, (fun y c e => by cases e), fun p hp => n5 p ?_⟩
    have hp1 : p ∈ (X.pn ++ pins) ++ [] := hp
    rw [List.append_nil] at hp1
    exact hp1
  have loop : codeAny (model X.prog X.w) X.A (.compLoop (.ListComp elt [⟨.Name x px, iter, [], 0⟩] scope pos) 0 (.ref it) (.ref D) (benv X.env scope s3.heap.objs.size))
      (fun r s' => ∃ m, s'.heap.Ns s3.heap.objs.size m ∧ ∀ h', Heap.SameBut s3.heap.objs.size s'.heap h' →
        match r with | .ok _ => EP X pins σ Q (.ref D) { s' with heap := h' } | .error y => wpAny (model X.prog X.w) X.A (passOn "comprehension.variables-let-go" y (benv X.env scope s3.heap.objs.size)) (EP X pins σ Q) X.xe { s' with heap := h' })
      { s3 with heap := h4, toks := s3.toks + ([] : List (Str × Value)).length } := by
    refine codeAny_compLoop_list (fun n s' => ∃ (i : Nat) (z : Option V) (H' : Hp) (ys : List V), Inv (X.block pins scope x fp s3 H3) [] [z] H' s' ∧ tn i s'.heap ∧ (∀ b ∈ fp, H' b = none) ∧ W i n ys H') (fun n s' hI => ?_) m0 ⟨0, none, H3, [], I4, st4, fun b hb => (f3 b hb).1, w0⟩
    obtain ⟨i, z, H', ys, IB, st, fr, w'⟩ := hI
    obtain ⟨eD, tt⟩ := turn i n ys H' w'
    rcases tt with ⟨stop, q⟩ | ⟨go, hz, step⟩
    · refine wpAny_mono (T.done (X.block pins scope x fp s3 H3) rfl rfl rfl hc i [] s' [z] H' _ IB (fpB fr) st stop) (fun r s5 hr => ?_) (fun _ _ e => e)
      obtain ⟨hr, I5⟩ := hr
      subst hr
      obtain ⟨m, nsm, _⟩ := id I5.loc
      refine ⟨m, nsm, fun h' sb => ⟨.ref D, H', ?_, rfl, q⟩⟩
      have nC : ∀ b o, s3.heap.get? b = some o → b ≠ s3.heap.objs.size := fun b o e => Nat.ne_of_lt (Heap.lt_size e)
      have ub : Un (frs X.stack) fp H3 H' s3.heap s5.heap := I5.base
      have un : Un (frs X.stack) fp H3 H' s3.heap h' := by
        refine ⟨fun b o e n1 n2 n3 => (sb.2 b (nC b o e)).trans (ub.keep b o e n1 n2 n3), fun b o e n1 n2 n3 => ?_, ub.free, fun b o e n3 => ?_, ub.tups, ub.frzs, ub.tbls⟩
        · obtain ⟨sl, e1⟩ := ub.slot b o e n1 n2 n3
          exact ⟨sl, (sb.2 b (nC b o e)).trans e1⟩
        · obtain ⟨o', e1⟩ := ub.there b o e n3
          exact ⟨o', (sb.2 b (nC b o e)).trans e1⟩
      have hC : H' s3.heap.objs.size = none := I5.free
      have hok' : HOk X.prog X.w H' h' := fun b ob e => by
        refine (I5.hok b ob e).stay (fun c w' hc' q' => (sb.2 c ?_).trans q') (fun _ q' => q') fun _ _ q' => q'
        intro y
        rcases hc' with z' | z'
        · rw [← z', y, hC] at e
          cases e
        · rw [y, hC] at z'
          cases z'
      exact I3.call' (s' := { s5 with heap := h' }) (ch := fp) I5.os un hok' I5.bare fun b hb => ⟨(f3 b hb).2.2.2.1, (f3 b hb).2.1, (f3 b hb).2.2.2.2.1, (f3 b hb).2.2.2.2.2⟩
    · refine wpAny_mono (T.item (X.block pins scope x fp s3 H3) rfl rfl rfl hc i [] s' [z] H' _ IB (fpB fr) st go) (fun r s5 hr => ?_) (fun _ _ e => e)
      obtain ⟨u, hr, h5⟩ := hr
      subst hr
      refine (show ∀ {t : Sem Unit} {Q1 : Unit → Shared → Prop} {E1 : Value → Shared → Prop}, wpAny (model X.prog X.w) X.A (letOwnedTupleGo (.Name x px) (.ref it) u >>= fun _ => t) Q1 E1 s5 → wpAny (model X.prog X.w) X.A t Q1 E1 s5 from fun hh => hh) ?_
      refine wpAny_bind (wpAny_mono h5 (fun _ s6 hy => ?_) (fun _ _ e => e))
      obtain ⟨y, H5, I5, r5, y5, st5, fr5⟩ := hy
      have I5' := I5.pinned (fpB fr5) (T.obj _ _ st5)
      refine wpAny_assign_Name (store_ok (X := X.block pins scope x fp s3 H3) (i := 0) I5' (by simp [Cx.block]) rfl (.inl hx) r5 (fun s7 I7 => ?_) (.inr hx))
      refine wpAny_mono (he pins fp s3 H3 _ s7 [some y] H5 _ I7 (step y H5 y5)) (fun xv s8 h8 => ?_) (fun _ _ e => e.elim)
      obtain ⟨yv, H8, I8, r8, eD8, m', hm', w8⟩ := h8
      refine wpAny_mono (mt_append (X := X.block pins scope x fp s3 H3) _ s8 [some y] H8 (.ref D) [yv] (.ref D) [xv] (fun v H => v = .non ∧ H = upd H8 D (.lst (ys ++ [yv]))) I8 rfl (.cons r8 .nil) ⟨D, ys, yv, rfl, rfl, eD8, hz, rfl, rfl⟩) (fun _ s9 h9 => ?_) (fun _ _ e => e.elim)
      obtain ⟨_, H9, I9, _, _, rfl⟩ := h9
      refine ⟨m', hm', i + 1, some y, _, ys ++ [yv], I9.unpinned, T.keep _ _ _ st5 fun b hb o e => (I9.pin (b, o) (List.mem_append_right _ (List.mem_append_right _ (mem_pinsAt hb e)))).1, fun b hb => ?_, w8⟩
      obtain ⟨o, e, _⟩ := T.obj _ _ st5 b hb
      exact (I9.pin (b, o) (List.mem_append_right _ (List.mem_append_right _ (mem_pinsAt hb e)))).2.1
  exact codeAny_compStart_list loop (T.self X.A 0 _ _ _ st4 loop)
end
end L2
set_option maxRecDepth 100000
set_option maxHeartbeats 4000000
namespace L2
open PySem PySem.Spec PyProof.Rows
theorem all_eqZ : ∀ (ns ms : List Int), ((List.range (min ns.length ms.length)).all (fun j => decide (ns[j]? = ms[j]?)) && (ns.length == ms.length)) = decide (ns = ms) := fun ns ms => by
  by_cases h : ns = ms
  · subst h
    simp
  · rw [decide_eq_false h]
    by_cases hl : ns.length = ms.length
    · rw [Bool.and_eq_false_iff]
      left
      rw [Bool.eq_false_iff]
      intro z
      apply h
      apply List.ext_getElem? 
      intro j
      rw [List.all_eq_true] at z
      by_cases hj : j < ns.length
      · exact of_decide_eq_true (z j (List.mem_range.mpr (by omega)))
      · rw [List.getElem?_eq_none (by omega), List.getElem?_eq_none (by omega)]
    · rw [Bool.and_eq_false_iff]
      right
      simpa using hl
def rEqT (K : PySem.W.Frag) : R2 := fun x y H Q => ∃ (a b : Addr) (ns ms : List Int), x = .ref a ∧ y = .ref b ∧ SqT K H a (ns.map V.int) ∧ SqT K H b (ms.map V.int) ∧ Q (.bl (decide (ns = ms))) H
def rEqL (K : PySem.W.Frag) : R2 := fun x y H Q => ∃ (a b : Addr) (ns ms : List Int), x = .ref a ∧ y = .ref b ∧ SqL K H a (ns.map V.int) ∧ SqL K H b (ms.map V.int) ∧ Q (.bl (decide (ns = ms))) H
section
variable {X : Cx}
theorem eqAt_ints {A : Around} {s : Shared} {ns ms : List Int} {us vs : List Value} (r1 : Vals (ns.map V.int) us) (r2 : Vals (ms.map V.int) vs) (j : Nat) (h1 : j < us.toArray.size) (h2 : j < vs.toArray.size) :
    SeqAt.EqAt A s us.toArray[j] vs.toArray[j] (decide (ns[j]? = ms[j]?)) := by
  have l1 := r1.length
  have l2 := r2.length
  rw [List.length_map] at l1 l2
  rw [List.size_toArray] at h1 h2
  obtain ⟨n, hn⟩ : ∃ n, ns[j]? = some n := ⟨_, List.getElem?_eq_getElem (by omega)⟩
  obtain ⟨m, hm⟩ : ∃ m, ms[j]? = some m := ⟨_, List.getElem?_eq_getElem (by omega)⟩
  obtain ⟨u, hu, ru⟩ := r1.get (i := j) (x := .int n) (by rw [List.getElem?_map, hn]; rfl)
  obtain ⟨v, hv, rv⟩ := r2.get (i := j) (x := .int m) (by rw [List.getElem?_map, hm]; rfl)
  have eu : us.toArray[j] = u := by
    have := List.getElem?_eq_some_iff.mp hu
    simpa using this.2
  have ev : vs.toArray[j] = v := by
    have := List.getElem?_eq_some_iff.mp hv
    simpa using this.2
  have e0 : decide (ns[j]? = ms[j]?) = eqV (.int n) (.int m) := by
    rw [hn, hm]
    show _ = (n == m)
    by_cases e : n = m
    · subst e; simp
    · simp [e]
  rw [eu, ev, e0]
  exact eqAt_V ru rv rfl rfl
theorem op_eqT (hu : X.A.units < cLine) : OpR X (compareOp .Eq) (rEqT X.K) := by
  intro pins s σ H x y v u Q I rx ry h
  obtain ⟨a, b, ns, ms, e1, e2, h1, h2, q⟩ := h
  subst e1 e2
  cases rx
  cases ry
  obtain ⟨us, r1, t1, _⟩ := I.tuple h1
  obtain ⟨vs, r2, t2, _⟩ := I.tuple h2
  refine SeqAt.eq_tupleAt t1 t2 hu (fun j h1 h2 => eqAt_ints r1 r2 j h1 h2) ⟨.bl (decide (ns = ms)), H, I, ?_, q⟩
  have l1 := r1.length
  have l2 := r2.length
  rw [List.length_map] at l1 l2
  show Value.bool _ = Value.bool _
  rw [List.size_toArray, List.size_toArray, ← l1, ← l2, all_eqZ]
theorem op_eqL (hu : X.A.units < cLine) : OpR X (compareOp .Eq) (rEqL X.K) := by
  intro pins s σ H x y v u Q I rx ry h
  obtain ⟨a, b, ns, ms, e1, e2, h1, h2, q⟩ := h
  subst e1 e2
  cases rx
  cases ry
  obtain ⟨us, r1, t1, _⟩ := I.list h1
  obtain ⟨vs, r2, t2, _⟩ := I.list h2
  have l1 := r1.length
  have l2 := r2.length
  rw [List.length_map] at l1 l2
  by_cases hl : ns.length = ms.length
  · refine SeqAt.eq_listAt t1.isList t2.isList (by simp; omega) hu (fun j h1 h2 => eqAt_ints r1 r2 j h1 h2) ⟨.bl (decide (ns = ms)), H, I, ?_, q⟩
    show Value.bool _ = Value.bool _
    have z := all_eqZ ns ms
    rw [show (ns.length == ms.length) = true from by simpa using hl, Bool.and_true, ← hl, Nat.min_self] at z
    rw [List.size_toArray, ← l1, z]
  · refine SeqAt.eq_list_lengthsAt t1.isList t2.isList (by simp; omega) hu ⟨.bl (decide (ns = ms)), H, I, ?_, q⟩
    show Value.bool _ = Value.bool _
    rw [decide_eq_false (fun e => hl (by rw [e]))]
def rEqA (K : PySem.W.Frag) : R2 := fun x y H Q => rEq x y H Q ∨ rEqT K x y H Q ∨ rEqL K x y H Q
theorem op_eqA (hu : X.A.units < cLine) : OpR X (compareOp .Eq) (rEqA X.K) := op_eq.or ((op_eqT hu).or (op_eqL hu))
theorem PI.or {tg l : Expr} {w1 w2 : TI} (h : PI X tg l w1) (h' : PI X tg l w2) : PI X tg l (fun σ H R => w1 σ H R ∨ w2 σ H R) := fun pins s σ H R I q => q.elim (h pins s σ H R I) (h' pins s σ H R I)
end
theorem xpass_wn {X : Cx} : XPass X WN :=
  ⟨fun _ _ _ _ _ _ _ h => by
    obtain ⟨_, _, _, _, _, _, _, z, _⟩ := h
    exact z.elim⟩
section
variable {σ : St} {H : Hp} {Q : VK} {K : PySem.W.Frag}
theorem rd_eqAI {i j : Int} (h : Q (.bl (decide (i = j))) H) : rEqA K (.int i) (.int j) H Q := .inl (rd_eqI h)
theorem rd_eqAS {i j : Str} (h : Q (.bl (decide (i = j))) H) : rEqA K (.str i) (.str j) H Q := .inl (rd_eqS h)
def kCompT (K : PySem.W.Frag) (te : TE) (v : V) (H1 : Hp) (Q : VK) : Prop := ∃ a, v = .ref a ∧ (∃ xs, SqT K H1 a xs) ∧ ∀ D, H1 D = none → ∃ W : Nat → Nat → List V → Hp → Prop, (∃ m, W 0 m [] (upd H1 D (.lst []))) ∧ ∀ i m ys H, W i m ys H → H D = some (.lst ys) ∧
  (((Itt K a).stop i H ∧ Q (.ref D) H) ∨ ((Itt K a).go i H ∧ ys.length < sizeLine ∧ ∀ x H', (Itt K a).yld i H x H' → te [some x] H' fun y H2 => H2 D = some (.lst ys) ∧ ∃ m', m' < m ∧ W (i + 1) m' (ys ++ [y]) (upd H2 D (.lst (ys ++ [y])))))
theorem rd_compT {tl te : TE} {w1 : TI} (h : tl σ H fun x H1 => kCompT K te x H1 Q) : tComp (fun σ H R => w1 σ H R ∨ iTup K tl σ H R) te σ H Q := .inr h
theorem rd_kCompT {te : TE} {a : Addr} {xs : List V} (g : V → V) (h1 : SqT K H a xs) (hz : xs.length ≤ 1000) (he : ∀ x H' (Q' : VK), x ∈ xs → Q' (g x) H' → te [some x] H' Q') (h : ∀ D H', Same H H' → H D = none → H' D = some (.lst (xs.map g)) → Q (.ref D) H') : kCompT K te (.ref a) H Q := by
  refine ⟨a, rfl, ⟨xs, h1⟩, fun D hD => ⟨fun i m ys H' => m = xs.length - i ∧ i ≤ xs.length ∧ ys = (xs.take i).map g ∧ Same H H' ∧ H' D = some (.lst ys), ⟨xs.length, by simp, Nat.zero_le _, by simp, Same.new hD _, upd_same⟩, ?_⟩⟩
  rintro i m ys H' ⟨rfl, hi, rfl, hs, eD⟩
  refine ⟨eD, ?_⟩
  have q := hs.tup h1
  by_cases hlt : i < xs.length
  · refine .inr ⟨⟨xs, xs[i], q, by simp [hlt]⟩, ?_, fun x H2 y => ?_⟩
    · rw [List.length_map, List.length_take]
      exact small1000 (by omega)
    · obtain ⟨e, y⟩ := y
      subst e
      have hx := y xs q
      refine he x _ _ (List.mem_of_getElem? hx) ⟨eD, xs.length - (i + 1), by omega, rfl, hlt, ?_, hs.upd hD, upd_same⟩
      rw [List.take_add_one, hx, List.map_append]
      rfl
  · have e : i = xs.length := by omega
    subst e
    refine .inl ⟨⟨xs, q, Nat.le_refl _⟩, h D H' hs hD ?_⟩
    rw [List.take_length] at eD
    exact eD
theorem rd_allT {p : Addr} {xs : List V} (h1 : H p = some (.lst (xs.map fun _ => V.bl true))) (h : Q (.bl true) H) : rAll K [.ref p] H Q := by
  refine ⟨p, xs.map fun _ => true, rfl, SqL.of (by rw [List.map_map]; exact h1), ?_⟩
  have e : (xs.map fun _ => true).all id = true := by
    rw [List.all_map]
    simp
  rw [e]
  exact h
end
end L2
set_option maxRecDepth 100000
set_option maxHeartbeats 4000000
namespace L2
open PySem PySem.Spec PyProof.Rows
def rNeT (K : PySem.W.Frag) : R2 := fun x y H Q => ∃ (a b : Addr) (ns ms : List Int), x = .ref a ∧ y = .ref b ∧ SqT K H a (ns.map V.int) ∧ SqT K H b (ms.map V.int) ∧ Q (.bl (!decide (ns = ms))) H
section
variable {X : Cx}
theorem op_neT (hu : X.A.units < cLine) : OpR X (compareOp .NotEq) (rNeT X.K) := by
  intro pins s σ H x y v u Q I rx ry h
  obtain ⟨a, b, ns, ms, e1, e2, h1, h2, q⟩ := h
  subst e1 e2
  cases rx
  cases ry
  obtain ⟨us, r1, t1, _⟩ := I.tuple h1
  obtain ⟨vs, r2, t2, _⟩ := I.tuple h2
  refine SeqAt.RcNeAt.tuples t1 t2 hu (fun j h1 h2 => eqAt_ints r1 r2 j h1 h2) _ _ _ _ ⟨.bl (!decide (ns = ms)), H, I, ?_, q⟩
  have l1 := r1.length
  have l2 := r2.length
  rw [List.length_map] at l1 l2
  show Value.bool _ = Value.bool _
  rw [List.size_toArray, List.size_toArray, ← l1, ← l2, all_eqZ]
def rNeA (K : PySem.W.Frag) : R2 := fun x y H Q => rNe x y H Q ∨ rNeT K x y H Q
theorem op_neA (hu : X.A.units < cLine) : OpR X (compareOp .NotEq) (rNeA X.K) := op_ne.or (op_neT hu)
end
section
variable {σ : St} {H : Hp} {Q : VK} {K : PySem.W.Frag}
theorem rd_neAI {i j : Int} (h : rNe (.int i) (.int j) H Q) : rNeA K (.int i) (.int j) H Q := .inl h
theorem rd_neAS {i j : Str} (h : rNe (.str i) (.str j) H Q) : rNeA K (.str i) (.str j) H Q := .inl h
def kCompL (K : PySem.W.Frag) (te : TE) (v : V) (H1 : Hp) (Q : VK) : Prop := ∃ a, v = .ref a ∧ (∃ xs, SqL K H1 a xs) ∧ ∀ D, H1 D = none → ∃ W : Nat → Nat → List V → Hp → Prop, (∃ m, W 0 m [] (upd H1 D (.lst []))) ∧ ∀ i m ys H, W i m ys H → H D = some (.lst ys) ∧
  (((Itl K a).stop i H ∧ Q (.ref D) H) ∨ ((Itl K a).go i H ∧ ys.length < sizeLine ∧ ∀ x H', (Itl K a).yld i H x H' → te [some x] H' fun y H2 => H2 D = some (.lst ys) ∧ ∃ m', m' < m ∧ W (i + 1) m' (ys ++ [y]) (upd H2 D (.lst (ys ++ [y])))))
theorem rd_compL {tl te : TE} {w2 : TI} (h : tl σ H fun x H1 => kCompL K te x H1 Q) : tComp (fun σ H R => iList K tl σ H R ∨ w2 σ H R) te σ H Q := .inl h
theorem rd_kCompL {te : TE} {a : Addr} {xs : List V} (ys : List V) (h1 : SqL K H a xs) (hlen : ys.length = xs.length) (hz : xs.length ≤ 1000) (he : ∀ (i : Nat) x y H' (Q' : VK), xs[i]? = some x → ys[i]? = some y → Same H H' → (∀ H2, Same H' H2 → Q' y H2) → te [some x] H' Q') (h : ∀ D H', Same H H' → H D = none → H' D = some (.lst ys) → Q (.ref D) H') : kCompL K te (.ref a) H Q := by
  refine ⟨a, rfl, ⟨xs, h1⟩, fun D hD => ⟨fun i m zs H' => m = xs.length - i ∧ i ≤ xs.length ∧ zs = ys.take i ∧ Same H H' ∧ H' D = some (.lst zs), ⟨xs.length, by simp, Nat.zero_le _, by simp, Same.new hD _, upd_same⟩, ?_⟩⟩
  rintro i m zs H' ⟨rfl, hi, rfl, hs, eD⟩
  refine ⟨eD, ?_⟩
  have q := hs.seq h1
  by_cases hlt : i < xs.length
  · refine .inr ⟨⟨xs, xs[i], q, by simp [hlt]⟩, ?_, fun x H2 y => ?_⟩
    · rw [List.length_take]
      exact small1000 (by omega)
    · obtain ⟨e, y⟩ := y
      subst e
      have hx := y xs q
      obtain ⟨z, hz'⟩ : ∃ z, ys[i]? = some z := ⟨_, List.getElem?_eq_getElem (by omega)⟩
      refine he i x z _ _ hx hz' hs fun H2 s2 => ⟨s2.obj eD, xs.length - (i + 1), by omega, rfl, hlt, ?_, (hs.trans s2).upd hD, upd_same⟩
      rw [List.take_add_one, hz']
      rfl
  · have e : i = xs.length := by omega
    subst e
    refine .inl ⟨⟨xs, q, Nat.le_refl _⟩, h D H' hs hD ?_⟩
    rw [← hlen, List.take_length] at eD
    exact eD
end
end L2
set_option maxRecDepth 100000
set_option maxHeartbeats 4000000
namespace L2
open PySem PySem.Spec PyProof.Rows
section
variable {X : Cx}
theorem forIn_clo {env : Env} (f : Str × NameKind → List (Str × Addr) → Sem (ForInStep (List (Str × Addr)))) (hf : ∀ n k r, f (n, k) r = if k == .free then (do let a ← cellOf env n; pure (.yield ((n, a) :: r))) else pure (.yield r)) :
    ∀ (names : List (Str × NameKind)) (acc : List (Str × Addr)), (∀ y ∈ names, y.2 = .free → ∃ c, env.cells.lookup y.1 = some c) → (∀ x c, acc.lookup x = some c → env.cells.lookup x = some c) →
    ∃ cl, (forIn names acc f : Sem (List (Str × Addr))) = pure cl ∧ (∀ x c, cl.lookup x = some c → env.cells.lookup x = some c) ∧ (∀ y ∈ names, y.2 = .free → ∃ c, cl.lookup y.1 = some c) ∧ ∀ x c, acc.lookup x = some c → ∃ c, cl.lookup x = some c
  | [], acc, _, ha => ⟨acc, by rw [List.forIn_nil], ha, fun y hy => by simp at hy, fun x c e => ⟨c, e⟩⟩
  | (n, k) :: r, acc, hn, ha => by
    have hr : ∀ y ∈ r, y.2 = .free → ∃ c, env.cells.lookup y.1 = some c := fun y hy => hn y (List.mem_cons_of_mem _ hy)
    by_cases hk : k = .free
    · subst hk
      obtain ⟨c, hc⟩ := hn (n, .free) List.mem_cons_self rfl
      obtain ⟨cl, e, h1, h2, h3⟩ := forIn_clo f hf r ((n, c) :: acc) hr (fun x c' e => by
        rw [List.lookup_cons] at e
        split at e
        · rename_i hx
          rw [eq_of_beq hx, hc]
          exact e
        · exact ha x c' e)
      have hs : ∃ c', cl.lookup n = some c' := h3 n c (by simp [List.lookup_cons])
      refine ⟨cl, ?_, h1, fun y hy e' => ?_, fun x c' e' => ?_⟩
      · rw [List.forIn_cons, hf, if_pos (show (NameKind.free == NameKind.free) = true from by decide)]
        unfold cellOf
        simp only [hc]
        exact e
      · rcases List.mem_cons.mp hy with rfl | hy
        · exact hs
        · exact h2 y hy e'
      · by_cases hx : x = n
        · subst hx
          exact hs
        · refine h3 x c' ?_
          rw [List.lookup_cons, beq_eq_false_iff_ne.mpr hx]
          exact e'
    · obtain ⟨cl, e, h1, h2, h3⟩ := forIn_clo f hf r acc hr ha
      refine ⟨cl, ?_, h1, fun y hy e' => ?_, h3⟩
      · rw [List.forIn_cons, hf, if_neg (by simpa using hk)]
        exact e
      · rcases List.mem_cons.mp hy with rfl | hy
        · exact absurd e' hk
        · exact h2 y hy e'
theorem closureFor_ok {scope : Scope} {env : Env} (h : ∀ y ∈ scope.names, y.2 = .free → ∃ c, env.cells.lookup y.1 = some c) :
    ∃ cl, closureFor scope env = pure cl ∧ (∀ x c, cl.lookup x = some c → env.cells.lookup x = some c) ∧ ∀ x, scope.names.lookup x = some .free → ∃ c, cl.lookup x = some c := by
  obtain ⟨cl, e, h1, h2, _⟩ := forIn_clo (env := env) (fun y r => match y with | (n, k) => if k == .free then (do let a ← cellOf env n; pure (.yield ((n, a) :: r))) else pure (.yield r)) (fun _ _ _ => rfl) scope.names [] h (fun x c e => by cases e)
  refine ⟨cl, ?_, h1, fun x hx => h2 (x, .free) (PySem.mem_of_lookup hx) rfl⟩
  unfold closureFor
  rw [← bind_pure (forIn scope.names [] _)] at e
  refine Eq.trans ?_ e
  congr 1
theorem IsCell_kept {h h' : Heap} (k : ∀ b o, h.get? b = some o → h'.get? b = some o) {c : Addr} {v : Option Value} (z : h.IsCell c v) : h'.IsCell c v := by
  obtain ⟨o, e, d⟩ := z
  exact ⟨o, k _ _ e, d⟩
theorem lookup_relabel {env : Env} (x : Str) : ∀ (names : List (Str × NameKind)), (names.map fun (n, k) => if (k == NameKind.free && env.scope.kind == .function && env.kindOf n == some .cell) then (n, NameKind.cell) else (n, k)).lookup x = (names.lookup x).map fun k => if (k == NameKind.free && env.scope.kind == .function && env.kindOf x == some .cell) then NameKind.cell else k
  | [] => rfl
  | (n, k) :: r => by
    have ih := lookup_relabel (env := env) x r
    rw [List.map_cons]
    show List.lookup x ((if (k == NameKind.free && env.scope.kind == .function && env.kindOf n == some .cell) = true then (n, NameKind.cell) else (n, k)) :: _) = _
    cases hx : x == n with
    | true =>
      have e : x = n := eq_of_beq hx
      subst e
      by_cases hc : (k == NameKind.free && env.scope.kind == .function && env.kindOf x == some .cell) = true
      · rw [if_pos hc]
        simp only [List.lookup_cons, hx, Option.map_some]
        rw [if_pos hc]
      · rw [if_neg hc]
        simp only [List.lookup_cons, hx, Option.map_some]
        rw [if_neg hc]
    | false =>
      by_cases hc : (k == NameKind.free && env.scope.kind == .function && env.kindOf n == some .cell) = true
      · rw [if_pos hc]; simp only [List.lookup_cons, hx]; exact ih
      · rw [if_neg hc]; simp only [List.lookup_cons, hx]; exact ih
theorem relabel_free {scope : Scope} {env : Env} {y : Str} (hcell : ∀ y ∈ scope.names, y.2 ≠ .cell) (h : (relabel scope env).names.lookup y = some .cell ∨ (relabel scope env).names.lookup y = some .free) : scope.names.lookup y = some .free := by
  have e : (relabel scope env).names.lookup y = (scope.names.lookup y).map fun k => if (k == NameKind.free && env.scope.kind == .function && env.kindOf y == some .cell) then NameKind.cell else k := lookup_relabel y scope.names
  rw [e] at h
  cases hk : scope.names.lookup y with
  | none => rw [hk] at h; rcases h with h | h <;> cases h
  | some k =>
    rw [hk] at h
    have hm := PySem.mem_of_lookup hk
    have hn : k ≠ .cell := hcell _ hm
    by_cases hf : k = .free
    · rw [hf]
    · exfalso
      have hb : (k == NameKind.free) = false := beq_eq_false_iff_ne.mpr hf
      simp only [Option.map_some, hb, Bool.false_and, Bool.false_eq_true, if_false, Option.some.injEq] at h
      exact h.elim hn hf
def benvF (env : Env) (scope : Scope) (cl : List (Str × Addr)) (C : Addr) : Env := { newEnv scope C env.globals cl env.qual none .none (some env) builtinsNs with scope := relabel scope env }
def Cx.blockF (X : Cx) (pins : List (Addr × Obj)) (scope : Scope) (x : Str) (ys : List Str) (cl : List (Str × Addr)) (ex : List Addr) (s : Shared) (H : Hp) : Cx :=
  { X with N := x :: ys, s₀ := s, H₀ := H, env := benvF X.env scope cl s.heap.objs.size, outer := X.stack, stack := X.stack, ex := ex, fn := fun _ => false, pn := X.pn ++ pins, xe := fun _ _ => False }
def vsOf (fr : List Nat) (σ : St) : St := fr.map fun i => (σ[i]?).getD none
def kCompF (te : TE) (vs : St) (J : It) (H1 : Hp) (Q : VK) : Prop := ∀ D, H1 D = none → ∃ W : Nat → Nat → List V → Hp → Prop, (∃ m, W 0 m [] (upd H1 D (.lst []))) ∧ ∀ i m zs H, W i m zs H → H D = some (.lst zs) ∧
  ((J.stop i H ∧ Q (.ref D) H) ∨ (J.go i H ∧ zs.length < sizeLine ∧ ∀ x H', J.yld i H x H' → te (some x :: vs) H' fun y H2 => H2 D = some (.lst zs) ∧ ∃ m', m' < m ∧ W (i + 1) m' (zs ++ [y]) (upd H2 D (.lst (zs ++ [y])))))
def tCompF (wi : TI) (fr : List Nat) (te : TE) : TE := fun σ H Q => wi σ H fun J H1 => kCompF te (vsOf fr σ) J H1 Q
theorem pe_compF {elt iter : Expr} {x : Str} {px pos : Pos} {scope : Scope} {wi : TI} {te : TE} (fr : List Nat) (ys : List Str) (hc : X.calm = true) (hi : PI X (.Name x px) iter wi)
    (he : ∀ (pins : List (Addr × Obj)) (cl : List (Str × Addr)) (ex : List Addr) (s : Shared) (H : Hp), PE (X.blockF pins scope x ys cl ex s H) elt te)
    (hys : fr.map (fun i => X.N[i]?) = ys.map some) (hyk0 : ys.map X.env.kindOf = ys.map fun _ => some .cell) (hyr0 : ys.map (fun y => (relabel scope X.env).names.lookup y) = ys.map fun _ => some .cell)
    (hfree : ∀ y ∈ scope.names, y.2 = .free → y.1 ∈ ys) (hcell : ∀ y ∈ scope.names, y.2 ≠ .cell) (hkind : scope.kind = .function) (hnames : ∀ y ∈ scope.names, y.2 = .local → scope.names.lookup y.1 = some .local) (hx : scope.names.lookup x = some .local) (hnd : (x :: ys).Nodup)
    (hs : ∀ v, foldedSetIterable iter X.env v = pure v := by intro _; rfl) : PE X (.ListComp elt [⟨.Name x px, iter, [], 0⟩] scope pos) (tCompF wi fr te) := by
  have hyk : ∀ y ∈ ys, X.env.kindOf y = some .cell := fun y hy => List.map_inj_left.mp hyk0 y hy
  have hyr : ∀ y ∈ ys, (relabel scope X.env).names.lookup y = some .cell := fun y hy => List.map_inj_left.mp hyr0 y hy
  intro pins s σ H Q I h
  obtain ⟨cl, hclo, hcl, hclf⟩ := closureFor_ok (scope := scope) (env := X.env) fun y hy e => I.ok.has _ (.inl (hyk _ (hfree y hy e)))
  rw [eval_ListComp]
  refine wpAny_comprehension_free (use := none) rfl hs hclo hkind hnames (thn (hi pins s σ H _ I h) fun v s1 h1 => thn h1 fun itv s2 h2 => ?_)
  obtain ⟨it, fp, tn, J, H2, e, I2, T, st2, f2, hW⟩ := h2
  subst e
  refine wpAny_newObj_type ?_ (by show 0 ≤ sizeLine; exact Nat.zero_le _)
  have nD : H2 s2.heap.objs.size = none := I2.hok.fresh (Nat.le_refl _)
  obtain ⟨W, ⟨m0, w0⟩, turn⟩ := hW _ nD
  have I3 : Inv X pins σ (upd H2 s2.heap.objs.size (.lst [])) { s2 with heap := s2.heap.push { cls := .type "list", data := .seq ([] : List Value).toArray } } :=
    I2.laid (t' := s2.toks) (fun b u e => Heap.get?_push_of_some _ e) (Nat.le_refl _) ⟨Nat.zero_le _, [], 0, .nil, Heap.get?_push_size _ rfl⟩
  have st3 : tn 0 (s2.heap.push { cls := .type "list", data := .seq ([] : List Value).toArray }) := T.keep 0 _ _ st2 fun b _ o e => Heap.get?_push_of_some _ e
  have lfp : ∀ b ∈ fp, b < s2.heap.objs.size := fun b hb => by
    obtain ⟨o, e, _⟩ := T.obj 0 _ st2 b hb
    exact Heap.lt_size e
  have f3 : ∀ b ∈ fp, FpOk X pins (upd H2 s2.heap.objs.size (.lst [])) b := fun b hb => by
    obtain ⟨n0, r⟩ := f2 b hb
    exact ⟨by rw [upd_ne (Nat.ne_of_lt (lfp b hb))]; exact n0, r⟩
  have z3 : s2.heap.objs.size < (s2.heap.push { cls := .type "list", data := .seq ([] : List Value).toArray }).objs.size := by rw [Heap.size_push]; exact Nat.lt_succ_self _
  generalize hs3 : ({ s2 with heap := s2.heap.push { cls := .type "list", data := .seq ([] : List Value).toArray } } : Shared) = s3 at I3 ⊢
  have h3 : s3.heap = s2.heap.push { cls := .type "list", data := .seq ([] : List Value).toArray } := by rw [← hs3]
  rw [← h3] at st3 z3
  generalize hD : s2.heap.objs.size = D at *
  generalize hH3 : upd H2 D (.lst []) = H3 at *
  have exlt : ∀ b ∈ fp, b < s3.heap.objs.size := fun b hb => Nat.lt_trans (lfp b hb) z3
  have exStk : ∀ b ∈ fp, b ∉ frs X.stack := fun b hb z => by
    obtain ⟨_, n1, n2, _⟩ := f3 b hb
    rcases List.mem_cons.mp (I3.stkSub b z) with q | q
    · exact n1 q
    · exact n2 q
  refine wpAny_newFunctionEnv hcell (by intro y hy; simp at hy) (fun h4 ns4 sb4 => ?_) hkind
  have hxr : (relabel scope X.env).names.lookup x = some .local := lookup_relabel_local hx
  have hysome : ∀ y ∈ ys, ∃ c, cl.lookup y = some c := fun y hy => by
    obtain ⟨c, e⟩ := I3.ok.has y (.inl (hyk y hy))
    exact hclf y (relabel_free hcell (.inl (hyr y hy)))
  have okB : (X.blockF pins scope x ys cl fp s3 H3).Ok := by
    refine ⟨I3.ok.mod, hkind, I3.ok.glob, I3.ok.blt, Nat.le_refl _, (fun y z c e1 e2 => I3.ok.inj y z c (hcl _ _ e1) (hcl _ _ e2)), (fun y hy => ?_), (fun y c z => by cases z), (fun _ => I3.ok.hd hc), I3.ok.frames, .inl rfl, (fun b hb => ⟨Nat.ne_of_lt (exlt b hb), fun y c e => (f3 b hb).2.2.2.2.1 y c (hcl _ _ e)⟩), I3.bs, Nat.le_trans I3.ok.bsz I3.sz, (fun b o e hb => ?_), (fun b hb => exStk b hb), I3.stack, I3.stkFree⟩
    · exact hclf y (relabel_free hcell hy)
    · obtain ⟨_, _, _, n3, _⟩ := f3 b hb
      rcases n3 with z | z
      · exact I3.ok.noex b o e z
      · exact absurd (Nat.lt_of_lt_of_le (Heap.lt_size (I3.ok.bs b o e).1) z) (Nat.lt_irrefl _)
  have kept4 : ∀ b o, s3.heap.get? b = some o → h4.get? b = some o := fun b o e => (sb4.2 b (Nat.ne_of_lt (Heap.lt_size e))).trans (Heap.get?_push_of_some _ e)
  have I4 : Inv (X.blockF pins scope x ys cl fp s3 H3) [] (none :: vsOf fr σ) H3 { s3 with heap := h4, toks := s3.toks + ([] : List (Str × Value)).length } := by
    refine ⟨okB, rfl, I3.bare, Un.kept kept4, ⟨_, ns4, fun i y v e1 e2 e3 => ?_⟩, (fun y c e => (I3.cell y c (hcl _ _ e)).elim fun v z => ⟨v, IsCell_kept kept4 z⟩), I3.hok.fresh (Nat.le_refl _), (fun y c e => I3.freeC y c (hcl _ _ e)), (fun p hp => ?_), I3.hok.kept kept4, ?_⟩
    · obtain ⟨j, rfl⟩ : ∃ j, i = j + 1 := by
        cases i with
        | zero => cases e2
        | succ k => exact ⟨k, rfl⟩
      have e1' : ys[j]? = some y := e1
      have e2' : (vsOf fr σ)[j]? = some (some v) := e2
      obtain ⟨m, hn, hl⟩ := I3.loc
      unfold vsOf at e2'
      rw [List.getElem?_map] at e2'
      cases hj : fr[j]? with
      | none => rw [hj] at e2'; cases e2'
      | some q =>
        rw [hj] at e2'
        have e2'' : (σ[q]?).getD none = some v := by simpa using e2'
        have hq : σ[q]? = some (some v) := by
          cases hh : σ[q]? with
          | none => rw [hh] at e2''; cases e2''
          | some z => rw [hh] at e2''; rw [show z = some v from e2'']
        have hN : X.N[q]? = some y := by
          have := congrArg (fun l => l[j]?) hys
          simp only [List.getElem?_map, hj, e1'] at this
          exact Option.some.inj this
        have hy : y ∈ ys := List.mem_of_getElem? e1'
        obtain ⟨u, ru, lu⟩ := hl q y v hN hq (.inr (.inl (hyk y hy)))
        refine ⟨u, ru, .inr ⟨.inl (hyr y hy), ?_⟩⟩
        rcases lu with ⟨hk1, _⟩ | ⟨_, c, hc1, hc2⟩
        · rw [hyk y hy] at hk1
          cases hk1
        · obtain ⟨c', hc'⟩ := hysome y hy
          have := hcl _ _ hc'
          rw [hc1] at this
          cases this
          exact ⟨c, hc', IsCell_kept kept4 hc2⟩
    · have hp' : p ∈ X.pn ++ pins := by
        have hp1 : p ∈ (X.pn ++ pins) ++ [] := hp
        rw [List.append_nil] at hp1
        exact hp1
      obtain ⟨a1, a2, a3, a4, a5⟩ := I3.pin p hp'
      refine ⟨kept4 _ _ a1, a2, Nat.ne_of_lt (Heap.lt_size a1), fun z => ?_, a5⟩
      rcases List.mem_cons.mp (I3.stkSub _ z) with q | q
      · exact a3 q
      · exact a4 q
    · show (vsOf fr σ).length + 1 = ys.length + 1
      have := congrArg List.length hys
      simp only [List.length_map] at this
      unfold vsOf
      rw [List.length_map, this]
  have st4 : tn 0 h4 := T.keep 0 _ _ st3 fun b _ o e => kept4 b o e
  have fpB : ∀ {H' : Hp}, (∀ b ∈ fp, H' b = none) → ∀ b ∈ fp, FpOk (X.blockF pins scope x ys cl fp s3 H3) [] H' b := fun {H'} fr' b hb => by
    obtain ⟨_, _, _, _, _, n5⟩ := f3 b hb
    refine ⟨fr' b hb, Nat.ne_of_lt (exlt b hb), exStk b hb, .inl hb, (fun y c e => (f3 b hb).2.2.2.2.1 y c (hcl _ _ e)), fun p hp => n5 p ?_⟩
    have hp1 : p ∈ (X.pn ++ pins) ++ [] := hp
    rw [List.append_nil] at hp1
    exact hp1
  have loop : codeAny (model X.prog X.w) X.A (.compLoop (.ListComp elt [⟨.Name x px, iter, [], 0⟩] scope pos) 0 (.ref it) (.ref D) (benvF X.env scope cl s3.heap.objs.size))
      (compPost (model X.prog X.w) X.A X.xe none (EP X pins σ Q) (.ref D) s3.heap.objs.size)
      { s3 with heap := h4, toks := s3.toks + ([] : List (Str × Value)).length } := by
    refine codeAny_compLoop_list (fun n s' => ∃ (i : Nat) (z : Option V) (H' : Hp) (zs : List V), Inv (X.blockF pins scope x ys cl fp s3 H3) [] (z :: vsOf fr σ) H' s' ∧ tn i s'.heap ∧ (∀ b ∈ fp, H' b = none) ∧ W i n zs H') (fun n s' hI => ?_) m0 ⟨0, none, H3, [], I4, st4, fun b hb => (f3 b hb).1, w0⟩
    obtain ⟨i, z, H', zs, IB, st, fr', w'⟩ := hI
    obtain ⟨eD, tt⟩ := turn i n zs H' w'
    rcases tt with ⟨stop, q⟩ | ⟨go, hz, step⟩
    · refine wpAny_mono (T.done (X.blockF pins scope x ys cl fp s3 H3) rfl rfl rfl hc i [] s' (z :: vsOf fr σ) H' _ IB (fpB fr') st stop) (fun r s5 hr => ?_) (fun _ _ e => e)
      obtain ⟨hr, I5⟩ := hr
      subst hr
      obtain ⟨m, nsm, _⟩ := id I5.loc
      refine ⟨m, nsm, fun h' sb => ⟨.ref D, H', ?_, rfl, q⟩⟩
      have nC : ∀ b o, s3.heap.get? b = some o → b ≠ s3.heap.objs.size := fun b o e => Nat.ne_of_lt (Heap.lt_size e)
      have ub : Un (frs X.stack) fp H3 H' s3.heap s5.heap := I5.base
      have un : Un (frs X.stack) fp H3 H' s3.heap h' := by
        refine ⟨fun b o e n1 n2 n3 => (sb.2 b (nC b o e)).trans (ub.keep b o e n1 n2 n3), fun b o e n1 n2 n3 => ?_, ub.free, fun b o e n3 => ?_, ub.tups, ub.frzs, ub.tbls⟩
        · obtain ⟨sl, e1⟩ := ub.slot b o e n1 n2 n3
          exact ⟨sl, (sb.2 b (nC b o e)).trans e1⟩
        · obtain ⟨o', e1⟩ := ub.there b o e n3
          exact ⟨o', (sb.2 b (nC b o e)).trans e1⟩
      have hC : H' s3.heap.objs.size = none := I5.free
      have hok' : HOk X.prog X.w H' h' := fun b ob e => by
        refine (I5.hok b ob e).stay (fun c w' hc' q' => (sb.2 c ?_).trans q') (fun _ q' => q') fun _ _ q' => q'
        intro y
        rcases hc' with z' | z'
        · rw [← z', y, hC] at e
          cases e
        · rw [y, hC] at z'
          cases z'
      exact I3.call' (s' := { s5 with heap := h' }) (ch := fp) I5.os un hok' I5.bare fun b hb => ⟨(f3 b hb).2.2.2.1, (f3 b hb).2.1, (f3 b hb).2.2.2.2.1, (f3 b hb).2.2.2.2.2⟩
    · refine wpAny_mono (T.item (X.blockF pins scope x ys cl fp s3 H3) rfl rfl rfl hc i [] s' (z :: vsOf fr σ) H' _ IB (fpB fr') st go) (fun r s5 hr => ?_) (fun _ _ e => e)
      obtain ⟨u, hr, h5⟩ := hr
      subst hr
      refine (show ∀ {t : Sem Unit} {Q1 : Unit → Shared → Prop} {E1 : Value → Shared → Prop}, wpAny (model X.prog X.w) X.A (letOwnedTupleGo (.Name x px) (.ref it) u >>= fun _ => t) Q1 E1 s5 → wpAny (model X.prog X.w) X.A t Q1 E1 s5 from fun hh => hh) ?_
      refine wpAny_bind (wpAny_mono h5 (fun _ s6 hy => ?_) (fun _ _ e => e))
      obtain ⟨y, H5, I5, r5, y5, st5, fr5⟩ := hy
      have I5' := I5.pinned (fpB fr5) (T.obj _ _ st5)
      refine wpAny_assign_Name (store_ok (X := X.blockF pins scope x ys cl fp s3 H3) (i := 0) I5' hnd rfl (.inl hxr) r5 (fun s7 I7 => ?_) (.inr hxr))
      refine wpAny_mono (he pins cl fp s3 H3 _ s7 (some y :: vsOf fr σ) H5 _ I7 (step y H5 y5)) (fun xv s8 h8 => ?_) (fun _ _ e => e.elim)
      obtain ⟨yv, H8, I8, r8, eD8, m', hm', w8⟩ := h8
      refine wpAny_mono (mt_append (X := X.blockF pins scope x ys cl fp s3 H3) _ s8 (some y :: vsOf fr σ) H8 (.ref D) [yv] (.ref D) [xv] (fun v H => v = .non ∧ H = upd H8 D (.lst (zs ++ [yv]))) I8 rfl (.cons r8 .nil) ⟨D, zs, yv, rfl, rfl, eD8, hz, rfl, rfl⟩) (fun _ s9 h9 => ?_) (fun _ _ e => e.elim)
      obtain ⟨_, H9, I9, _, _, rfl⟩ := h9
      refine ⟨m', hm', i + 1, some y, _, zs ++ [yv], I9.unpinned, T.keep _ _ _ st5 fun b hb o e => (I9.pin (b, o) (List.mem_append_right _ (List.mem_append_right _ (mem_pinsAt hb e)))).1, fun b hb => ?_, w8⟩
      obtain ⟨o, e, _⟩ := T.obj _ _ st5 b hb
      exact (I9.pin (b, o) (List.mem_append_right _ (List.mem_append_right _ (mem_pinsAt hb e)))).2.1
  exact codeAny_compStart_list loop (T.self X.A 0 _ _ _ st4 loop)
theorem ix_AbF {pins : List (Addr × Obj)} {scope : Scope} {x : Str} {ys : List Str} {cl : List (Str × Addr)} {ex : List Addr} {s : Shared} {H : Hp} : IxR (X.blockF pins scope x ys cl ex s H) (rIxA X.K) := ix_A (X := X.blockF pins scope x ys cl ex s H)
end
section
variable {σ : St} {H : Hp} {Q : VK} {K : PySem.W.Frag}
theorem rd_compR {ta : TA} {te : TE} {fr : List Nat} (vs : St) (e : vsOf fr σ = vs) (h : ta σ H fun ws H1 => kRng1 ws H1 fun J H2 => kCompF te vs J H2 Q) : tCompF (iRng1 ta) fr te σ H Q := by subst e; exact h
theorem rd_compR2 {ta : TA} {te : TE} {fr : List Nat} (vs : St) (e : vsOf fr σ = vs) (h : ta σ H fun ws H1 => kRng2 ws H1 fun J H2 => kCompF te vs J H2 Q) : tCompF (iRng2 ta) fr te σ H Q := by subst e; exact h
theorem rd_kCompR {te : TE} {vs : St} {lo : Int} {n : Nat} (g : Int → V) (hz : n ≤ 1000) (he : ∀ (i : Nat) (k : Int) H' (Q' : VK), i < n → k = lo + i → Same H H' → (∀ H2, Same H' H2 → Q' (g k) H2) → te (some (.int k) :: vs) H' Q')
    (h : ∀ D H', Same H H' → H D = none → H' D = some (.lst ((List.range n).map fun i => g (lo + (i : Nat)))) → Q (.ref D) H') : kCompF te vs (Itr lo n) H Q := by
  intro D hD
  refine ⟨fun i m zs H' => m = n - i ∧ i ≤ n ∧ zs = (List.range i).map (fun i => g (lo + (i : Nat))) ∧ Same H H' ∧ H' D = some (.lst zs), ⟨n, by simp, Nat.zero_le _, by simp, Same.new hD _, upd_same⟩, ?_⟩
  rintro i m zs H' ⟨rfl, hi, rfl, hs, eD⟩
  refine ⟨eD, ?_⟩
  by_cases hlt : i < n
  · refine .inr ⟨hlt, ?_, fun x H2 y => ?_⟩
    · rw [List.length_map, List.length_range]
      exact small1000 (by omega)
    · obtain ⟨rfl, rfl⟩ := y
      refine he i _ _ _ hlt rfl hs fun H2 s2 => ⟨s2.obj eD, n - (i + 1), by omega, rfl, hlt, ?_, (hs.trans s2).upd hD, upd_same⟩
      rw [List.range_succ, List.map_append]
      rfl
  · have e : i = n := by omega
    subst e
    exact .inl ⟨Nat.le_refl _, h D H' hs hD eD⟩
end
end L2
set_option maxRecDepth 100000
set_option maxHeartbeats 4000000
namespace L2
open PySem PySem.Spec PyProof.Rows
structure CG (mg : Str → Option Value) (x : Str) : Type where
  addr : Addr
  gl : mg x = some (.ref addr)
def rCountB : V → List V → Hp → VK → Prop := fun x vs H Q => ∃ (l : Addr) (bs : List Bool), x = .ref l ∧ vs = [.bl true] ∧ H l = some (.lst (bs.map V.bl)) ∧ Q (.int (bs.countP id : Nat)) H
def rIndexB : V → List V → Hp → VK → Prop := fun x vs H Q => ∃ (l : Addr) (bs : List Bool) (j : Nat), x = .ref l ∧ vs = [.bl true] ∧ H l = some (.lst (bs.map V.bl)) ∧ bs[j]? = some true ∧ (∀ i, i < j → bs[i]? = some false) ∧ Q (.int j) H
def isTrueV : Value → Bool
  | .bool b => b
  | _ => false
section
variable {X : Cx}
theorem count_bools : ∀ {bs : List Bool} {us : List Value}, Vals (bs.map V.bl) us → us.countP isTrueV = bs.countP id
  | [], _, r => by
    cases r
    rfl
  | b :: bs, us, r => by
    cases us with
    | nil => have := r.length; simp at this
    | cons u us =>
      cases r with
      | cons r1 r2 =>
        obtain rfl : u = Value.bool b := r1
        rw [List.countP_cons, List.countP_cons, count_bools r2]
        rfl
theorem bools_mem {bs : List Bool} {us : List Value} (r : Vals (bs.map V.bl) us) {y : Value} (hy : y ∈ us.toArray) : ∃ b, y = .bool b := by
  have hy' : y ∈ us := by simpa using hy
  obtain ⟨i, hi, e⟩ := List.getElem_of_mem hy'
  have l := r.length
  rw [List.length_map] at l
  obtain ⟨b, hb⟩ : ∃ b, bs[i]? = some b := ⟨_, List.getElem?_eq_getElem (by omega)⟩
  obtain ⟨u, hu, ru⟩ := r.get (i := i) (x := .bl b) (by rw [List.getElem?_map, hb]; rfl)
  rw [List.getElem?_eq_getElem hi, e] at hu
  cases hu
  exact ⟨b, ru⟩
theorem eq_true_at {A : Around} {s : Shared} (b : Bool) : SeqAt.EqAt A s (.bool b) (.bool true) (isTrueV (.bool b)) := by
  have h := eqAt_V (A := A) (s := s) (y := .bl b) (x := .bl true) (u := .bool b) (v := .bool true) rfl rfl rfl rfl
  have e : eqV (.bl b) (.bl true) = isTrueV (.bool b) := by cases b <;> rfl
  rw [e] at h
  exact h
theorem mt_countB : MtM X "list.count" rCountB := by
  intro pins s σ H x vs v us Q I rx rv h
  obtain ⟨l, bs, rfl, rfl, hH, q⟩ := h
  cases rx
  obtain ⟨u, rfl, ru⟩ := rv.one
  obtain rfl : u = Value.bool true := ru
  obtain ⟨z, its, n, r, hl, e⟩ := I.lstM hH
  refine call_meets F.slot_list_count ⟨_, e, rfl⟩ F.entry_list_count (F.args_list_count_2 _ _) (SeqAt.list_countAt l its.toArray n _ _ (.bool true) isTrueV) ⟨e, fun y hy => ?_, ?_⟩
  · obtain ⟨b, rfl⟩ := bools_mem r hy
    exact eq_true_at b
  · refine ⟨.int (bs.countP id : Nat), H, I.tok _, ⟨s.toks, ?_⟩, q⟩
    show Value.int _ _ = _
    rw [← count_bools r]
theorem mt_indexB : MtM X "list.index" rIndexB := by
  intro pins s σ H x vs v us Q I rx rv h
  obtain ⟨l, bs, j, rfl, rfl, hH, hj, hno, q⟩ := h
  cases rx
  obtain ⟨u, rfl, ru⟩ := rv.one
  obtain rfl : u = Value.bool true := ru
  obtain ⟨z, its, n, r, hl, e⟩ := I.lstM hH
  have len := r.length
  rw [List.length_map] at len
  have hjl : j < bs.length := (List.getElem?_eq_some_iff.mp hj).1
  have val : ∀ i b, bs[i]? = some b → ∀ hi : i < its.toArray.size, its.toArray[i] = .bool b := fun i b hb hi => by
    obtain ⟨u, hu, ru⟩ := r.get (i := i) (x := .bl b) (by rw [List.getElem?_map, hb]; rfl)
    have := List.getElem?_eq_some_iff.mp hu
    rw [show u = Value.bool b from ru] at this
    simpa using this.2
  have hjs : j < its.toArray.size := by rw [List.size_toArray]; omega
  have hsz : (j : Int) < 2 ^ 63 - 1 := by
    have : bs.length ≤ sizeLine := by rw [List.length_map] at z; exact z
    have : sizeLine < 2 ^ 62 := by decide
    omega
  refine call_meets F.slot_list_index ⟨_, e, rfl⟩ F.entry_list_index (F.args_list_index_2 _ _) (SeqAt.list_indexAt l its.toArray n _ _ (.bool true) isTrueV j hjs hsz (by rw [val j true hj]; rfl) (fun m hm hlt => by rw [val m false (hno m hlt)]; rfl)) ⟨e, fun y hy => ?_, ?_⟩
  · obtain ⟨b, rfl⟩ := bools_mem r hy
    exact eq_true_at b
  · exact ⟨.int j, H, I.tok _, ⟨s.toks, rfl⟩, q⟩
theorem ix_AH {pins : List (Addr × Obj)} {a : Addr} {oe : Obj} : IxR (X.inH pins a oe) (rIxA X.K) := ix_A (X := X.inH pins a oe)
theorem pe_bmH {pins : List (Addr × Obj)} {a : Addr} {oe : Obj} {o e : Expr} {es : List Expr} {to : TE} {t : TA} {name : Str} {apos cpos : Pos} {T id : String} {r : V → List V → Hp → VK → Prop}
    (pa : PlainAttrs T) (slot : Slot T name id) (hty : typeOf (.builtin id) = pure (.type "method_descriptor")) (hm : MtR (X.inH pins a oe) id r) (ho : PE (X.inH pins a oe) o to) (ha : PA (X.inH pins a oe) (e :: es) t)
    (hbase : attributeBase o name X.env (eval o X.env) = eval o X.env := by rfl)
    (hfew : ((backTo cpos (starEach (e :: es) X.env)).all (fun x => !x.1) && (backToKw cpos (keywordEach [] X.env)).all (fun x => x.1.isSome)
      && decide ((e :: es).length + ([] : List Keyword).length + (if ([] : List Keyword).isEmpty then 0 else 1) < 30)) = true := by rfl)
    (hline : (apos.endLine == cpos.line) = true := by rfl) (hs : starEach (e :: es) X.env = (false, eval e X.env) :: starEach es X.env := by rfl) (hplain : (backTo cpos (starEach es X.env)).any (·.1) = false := by rfl) :
    PE (X.inH pins a oe) (.Call (.Attribute o name apos) (e :: es) [] cpos) (tBM X.K T r to t) := pe_bm (X := X.inH pins a oe) pa slot hty hm ho ha hbase hfew hline hs hplain
end
section
variable {σ : St} {H : Hp} {Q : VK} {K : PySem.W.Frag}
theorem rd_countB {a : Addr} (bs : List Bool) {k : Nat} (h1 : H a = some (.lst (bs.map V.bl))) (hk : bs.countP id = k) (h : Q (.int k) H) : rCountB (.ref a) [.bl true] H Q := ⟨a, bs, rfl, rfl, h1, by rw [hk]; exact h⟩
theorem rd_indexB {a : Addr} (bs : List Bool) (j : Nat) (h1 : H a = some (.lst (bs.map V.bl))) (hj : bs[j]? = some true) (hno : ∀ i, i < j → bs[i]? = some false) (h : Q (.int j) H) : rIndexB (.ref a) [.bl true] H Q := ⟨a, bs, j, rfl, rfl, h1, hj, hno, h⟩
end
end L2
set_option maxRecDepth 100000
set_option maxHeartbeats 4000000
namespace L2
open PySem PySem.Spec PyProof.Rows
section
variable {X : Cx}
end
section
variable {σ : St} {H : Hp} {Q : VK} {K : PySem.W.Frag}
end
end L2
set_option maxRecDepth 100000
set_option maxHeartbeats 4000000
namespace L2
open PySem PySem.Spec PyProof.Rows
section
variable {X : Cx} {tg : Expr}
end
section
variable {σ : St} {H : Hp} {Q : VK} {K : PySem.W.Frag}
end
end L2
set_option maxRecDepth 100000
set_option maxHeartbeats 4000000
namespace L2
open PySem PySem.Spec PyProof.Rows
section
variable {X : Cx} {pins : List (Addr × Obj)} {σ : St} {H : Hp} {s : Shared} {h' : Heap}
theorem Inv.turnedL {t' : Nat} {ch : List Addr} (I : Inv X pins σ H s) (k : ∀ b o, b ∉ ch → s.heap.get? b = some o → h'.get? b = some o) (hf : ∀ b ∈ ch, FpOk X pins H b) : Inv X pins σ H { s with heap := h', toks := t' } := by
  have nit : ∀ b u, H b = some u → b ∉ ch := fun b u e z => by rw [(hf b z).1] at e; cases e
  refine I.step (g' := s.gens) (d' := s.drawn) (ch := ch) (fun b hb => ?_) (fun b o _ _ hc e _ => k b o hc e) (fun b o _ _ hc e _ => ⟨o.slots, k b o hc e⟩) (fun _ _ _ _ n => n)
    (fun b o hc e => ⟨o, k b o hc e⟩) (fun _ _ e => e) (fun _ _ _ e => e) (fun b ps e => ⟨#[], by rw [e]; simp⟩) (fun m hm => ?_) (fun b u e => ?_) I.bare
  · obtain ⟨f0, f1, f2, f3, f4, f5⟩ := hf b hb
    exact ⟨f3, f1, f4, f5⟩
  · obtain ⟨o, es, ep, ho, r⟩ := hm
    exact ⟨o, es, ep, k _ o (fun z => (hf _ z).2.1 rfl) ho, r⟩
  · refine (I.hok b u e).stay (fun c v hc q => k c v ?_ q) (fun _ q => q) fun _ _ q => q
    rcases hc with z | z
    · rw [z]; exact nit b u e
    · exact nit c _ z
end
section
variable {X : Cx}
end
section
variable {σ : St} {H : Hp} {Q : VK} {D : Ends} {K : PySem.W.Frag}
end
end L2
set_option maxRecDepth 100000
set_option maxHeartbeats 4000000
namespace L2
open PySem PySem.Spec PyProof.Rows
section
variable {σ : St} {H : Hp} {Q : VK} {K : PySem.W.Frag}
end
theorem Same.none {H H' : Hp} {t : Addr} (s : Same H H') (h : H' t = none) : H t = none := by
  cases e : H t with
  | none => rfl
  | some o => rw [s.obj e] at h; cases h
end L2
set_option maxRecDepth 100000
set_option maxHeartbeats 4000000
namespace L2
open PySem PySem.Spec PyProof.Rows
section
variable {X : Cx}
theorem ps_setC {ti : Nat} {tv : Str} {py spos : Pos} {elt iter : Expr} {x : Str} {px pos : Pos} {scope : Scope} {wi : TI} {te : TE} (fr : List Nat) (ys : List Str) (hc : X.calm = true) (hi : PI X (.Name x px) iter wi)
    (he : ∀ (pins : List (Addr × Obj)) (cl : List (Str × Addr)) (ex : List Addr) (s : Shared) (H : Hp), PE (X.blockF pins scope x ys cl ex s H) elt te)
    (hys : fr.map (fun i => X.N[i]?) = ys.map some) (hyk0 : ys.map X.env.kindOf = ys.map fun _ => some .cell) (hyr0 : ys.map (fun y => (relabel scope X.env).names.lookup y) = ys.map fun _ => some .cell)
    (hfree : ∀ y ∈ scope.names, y.2 = .free → y.1 ∈ ys) (hcell : ∀ y ∈ scope.names, y.2 ≠ .cell) (hkind : scope.kind = .function) (hnames : ∀ y ∈ scope.names, y.2 = .local → scope.names.lookup y.1 = some .local) (hx : scope.names.lookup x = some .local) (hnd : (x :: ys).Nodup)
    (hN : X.N.Nodup) (hti : X.N[ti]? = some tv) (htl : Loc X.env.scope tv) (hsw : swapsWith (.ListComp elt [⟨.Name x px, iter, [], 0⟩] scope pos) (some (.Name tv py)) spos.line X.env = pure true := by rfl) (hfn : X.fn tv = true ∨ X.env.scope.names.lookup tv = some .local := by first | exact .inl rfl | exact .inr rfl | assumption)
    (hs : ∀ v, foldedSetIterable iter X.env v = pure v := by intro _; rfl) : PS X (.Assign [.Name tv py] (.ListComp elt [⟨.Name x px, iter, [], 0⟩] scope pos) spos) (tAsg (tCompF wi fr te) (gName ti)) := by
  have hyk : ∀ y ∈ ys, X.env.kindOf y = some .cell := fun y hy => List.map_inj_left.mp hyk0 y hy
  have hyr : ∀ y ∈ ys, (relabel scope X.env).names.lookup y = some .cell := fun y hy => List.map_inj_left.mp hyr0 y hy
  intro pins s σ H Ds I h
  obtain ⟨cl, hclo, hcl, hclf⟩ := closureFor_ok (scope := scope) (env := X.env) fun y hy e => I.ok.has _ (.inl (hyk _ (hfree y hy e)))
  rw [exec_Assign_Name_used _ _ _ _ hsw]
  refine wpAny_bind (wpAny_standAt (wpAny_bind ?_))
  show wpAny _ X.A (do let _ ← comprehension (.ListComp elt [⟨.Name x px, iter, [], 0⟩] scope pos) scope X.env _ (newList []) false (eval iter X.env) (some (assign (.Name tv py) X.env))) _ _ s
  refine wpAny_bind (wpAny_mono (wpAny_comprehension_free (use := some (assign (.Name tv py) X.env)) (Q := fun _ s' => SP X pins Ds .next s') rfl hs hclo hkind hnames (thn (hi pins s σ H _ I h) fun v s1 h1 => thn h1 fun itv s2 h2 => ?_)) (fun _ s' hq => wpAny_pure (wpAny_pure hq)) fun _ _ e => e)
  obtain ⟨it, fp, tn, J, H2, e, I2, T, st2, f2, hW⟩ := h2
  subst e
  refine wpAny_newObj_type ?_ (by show 0 ≤ sizeLine; exact Nat.zero_le _)
  have nD : H2 s2.heap.objs.size = none := I2.hok.fresh (Nat.le_refl _)
  obtain ⟨W, ⟨m0, w0⟩, turn⟩ := hW _ nD
  have I3 : Inv X pins σ (upd H2 s2.heap.objs.size (.lst [])) { s2 with heap := s2.heap.push { cls := .type "list", data := .seq ([] : List Value).toArray } } :=
    I2.laid (t' := s2.toks) (fun b u e => Heap.get?_push_of_some _ e) (Nat.le_refl _) ⟨Nat.zero_le _, [], 0, .nil, Heap.get?_push_size _ rfl⟩
  have st3 : tn 0 (s2.heap.push { cls := .type "list", data := .seq ([] : List Value).toArray }) := T.keep 0 _ _ st2 fun b _ o e => Heap.get?_push_of_some _ e
  have lfp : ∀ b ∈ fp, b < s2.heap.objs.size := fun b hb => by
    obtain ⟨o, e, _⟩ := T.obj 0 _ st2 b hb
    exact Heap.lt_size e
  have f3 : ∀ b ∈ fp, FpOk X pins (upd H2 s2.heap.objs.size (.lst [])) b := fun b hb => by
    obtain ⟨n0, r⟩ := f2 b hb
    exact ⟨by rw [upd_ne (Nat.ne_of_lt (lfp b hb))]; exact n0, r⟩
  have z3 : s2.heap.objs.size < (s2.heap.push { cls := .type "list", data := .seq ([] : List Value).toArray }).objs.size := by rw [Heap.size_push]; exact Nat.lt_succ_self _
  generalize hs3 : ({ s2 with heap := s2.heap.push { cls := .type "list", data := .seq ([] : List Value).toArray } } : Shared) = s3 at I3 ⊢
  have h3 : s3.heap = s2.heap.push { cls := .type "list", data := .seq ([] : List Value).toArray } := by rw [← hs3]
  rw [← h3] at st3 z3
  generalize hD : s2.heap.objs.size = D at *
  generalize hH3 : upd H2 D (.lst []) = H3 at *
  have exlt : ∀ b ∈ fp, b < s3.heap.objs.size := fun b hb => Nat.lt_trans (lfp b hb) z3
  have exStk : ∀ b ∈ fp, b ∉ frs X.stack := fun b hb z => by
    obtain ⟨_, n1, n2, _⟩ := f3 b hb
    rcases List.mem_cons.mp (I3.stkSub b z) with q | q
    · exact n1 q
    · exact n2 q
  refine wpAny_newFunctionEnv hcell (by intro y hy; simp at hy) (fun h4 ns4 sb4 => ?_) hkind
  have hxr : (relabel scope X.env).names.lookup x = some .local := lookup_relabel_local hx
  have hysome : ∀ y ∈ ys, ∃ c, cl.lookup y = some c := fun y hy => by
    obtain ⟨c, e⟩ := I3.ok.has y (.inl (hyk y hy))
    exact hclf y (relabel_free hcell (.inl (hyr y hy)))
  have okB : (X.blockF pins scope x ys cl fp s3 H3).Ok := by
    refine ⟨I3.ok.mod, hkind, I3.ok.glob, I3.ok.blt, Nat.le_refl _, (fun y z c e1 e2 => I3.ok.inj y z c (hcl _ _ e1) (hcl _ _ e2)), (fun y hy => ?_), (fun y c z => by cases z), (fun _ => I3.ok.hd hc), I3.ok.frames, .inl rfl, (fun b hb => ⟨Nat.ne_of_lt (exlt b hb), fun y c e => (f3 b hb).2.2.2.2.1 y c (hcl _ _ e)⟩), I3.bs, Nat.le_trans I3.ok.bsz I3.sz, (fun b o e hb => ?_), (fun b hb => exStk b hb), I3.stack, I3.stkFree⟩
    · exact hclf y (relabel_free hcell hy)
    · obtain ⟨_, _, _, n3, _⟩ := f3 b hb
      rcases n3 with z | z
      · exact I3.ok.noex b o e z
      · exact absurd (Nat.lt_of_lt_of_le (Heap.lt_size (I3.ok.bs b o e).1) z) (Nat.lt_irrefl _)
  have kept4 : ∀ b o, s3.heap.get? b = some o → h4.get? b = some o := fun b o e => (sb4.2 b (Nat.ne_of_lt (Heap.lt_size e))).trans (Heap.get?_push_of_some _ e)
  have I4 : Inv (X.blockF pins scope x ys cl fp s3 H3) [] (none :: vsOf fr σ) H3 { s3 with heap := h4, toks := s3.toks + ([] : List (Str × Value)).length } := by
    refine ⟨okB, rfl, I3.bare, Un.kept kept4, ⟨_, ns4, fun i y v e1 e2 e3 => ?_⟩, (fun y c e => (I3.cell y c (hcl _ _ e)).elim fun v z => ⟨v, IsCell_kept kept4 z⟩), I3.hok.fresh (Nat.le_refl _), (fun y c e => I3.freeC y c (hcl _ _ e)), (fun p hp => ?_), I3.hok.kept kept4, ?_⟩
    · obtain ⟨j, rfl⟩ : ∃ j, i = j + 1 := by
        cases i with
        | zero => cases e2
        | succ k => exact ⟨k, rfl⟩
      have e1' : ys[j]? = some y := e1
      have e2' : (vsOf fr σ)[j]? = some (some v) := e2
      obtain ⟨m, hn, hl⟩ := I3.loc
      unfold vsOf at e2'
      rw [List.getElem?_map] at e2'
      cases hj : fr[j]? with
      | none => rw [hj] at e2'; cases e2'
      | some q =>
        rw [hj] at e2'
        have e2'' : (σ[q]?).getD none = some v := by simpa using e2'
        have hq : σ[q]? = some (some v) := by
          cases hh : σ[q]? with
          | none => rw [hh] at e2''; cases e2''
          | some z => rw [hh] at e2''; rw [show z = some v from e2'']
        have hN : X.N[q]? = some y := by
          have := congrArg (fun l => l[j]?) hys
          simp only [List.getElem?_map, hj, e1'] at this
          exact Option.some.inj this
        have hy : y ∈ ys := List.mem_of_getElem? e1'
        obtain ⟨u, ru, lu⟩ := hl q y v hN hq (.inr (.inl (hyk y hy)))
        refine ⟨u, ru, .inr ⟨.inl (hyr y hy), ?_⟩⟩
        rcases lu with ⟨hk1, _⟩ | ⟨_, c, hc1, hc2⟩
        · rw [hyk y hy] at hk1
          cases hk1
        · obtain ⟨c', hc'⟩ := hysome y hy
          have := hcl _ _ hc'
          rw [hc1] at this
          cases this
          exact ⟨c, hc', IsCell_kept kept4 hc2⟩
    · have hp' : p ∈ X.pn ++ pins := by
        have hp1 : p ∈ (X.pn ++ pins) ++ [] := hp
        rw [List.append_nil] at hp1
        exact hp1
      obtain ⟨a1, a2, a3, a4, a5⟩ := I3.pin p hp'
      refine ⟨kept4 _ _ a1, a2, Nat.ne_of_lt (Heap.lt_size a1), fun z => ?_, a5⟩
      rcases List.mem_cons.mp (I3.stkSub _ z) with q | q
      · exact a3 q
      · exact a4 q
    · show (vsOf fr σ).length + 1 = ys.length + 1
      have := congrArg List.length hys
      simp only [List.length_map] at this
      unfold vsOf
      rw [List.length_map, this]
  have st4 : tn 0 h4 := T.keep 0 _ _ st3 fun b _ o e => kept4 b o e
  have fpB : ∀ {H' : Hp}, (∀ b ∈ fp, H' b = none) → ∀ b ∈ fp, FpOk (X.blockF pins scope x ys cl fp s3 H3) [] H' b := fun {H'} fr' b hb => by
    obtain ⟨_, _, _, _, _, n5⟩ := f3 b hb
    refine ⟨fr' b hb, Nat.ne_of_lt (exlt b hb), exStk b hb, .inl hb, (fun y c e => (f3 b hb).2.2.2.2.1 y c (hcl _ _ e)), fun p hp => n5 p ?_⟩
    have hp1 : p ∈ (X.pn ++ pins) ++ [] := hp
    rw [List.append_nil] at hp1
    exact hp1
  have loop : codeAny (model X.prog X.w) X.A (.compLoop (.ListComp elt [⟨.Name x px, iter, [], 0⟩] scope pos) 0 (.ref it) (.ref D) (benvF X.env scope cl s3.heap.objs.size))
      (compPost (model X.prog X.w) X.A X.xe (some (assign (.Name tv py) X.env)) (fun _ s' => SP X pins Ds .next s') (.ref D) s3.heap.objs.size)
      { s3 with heap := h4, toks := s3.toks + ([] : List (Str × Value)).length } := by
    refine codeAny_compLoop_list (fun n s' => ∃ (i : Nat) (z : Option V) (H' : Hp) (zs : List V), Inv (X.blockF pins scope x ys cl fp s3 H3) [] (z :: vsOf fr σ) H' s' ∧ tn i s'.heap ∧ (∀ b ∈ fp, H' b = none) ∧ W i n zs H') (fun n s' hI => ?_) m0 ⟨0, none, H3, [], I4, st4, fun b hb => (f3 b hb).1, w0⟩
    obtain ⟨i, z, H', zs, IB, st, fr', w'⟩ := hI
    obtain ⟨eD, tt⟩ := turn i n zs H' w'
    rcases tt with ⟨stop, q⟩ | ⟨go, hz, step⟩
    · refine wpAny_mono (T.done (X.blockF pins scope x ys cl fp s3 H3) rfl rfl rfl hc i [] s' (z :: vsOf fr σ) H' _ IB (fpB fr') st stop) (fun r s5 hr => ?_) (fun _ _ e => e)
      obtain ⟨hr, I5⟩ := hr
      subst hr
      obtain ⟨m, nsm, _⟩ := id I5.loc
      have IX : Inv X pins σ H' s5 := I3.call' (s' := s5) (ch := fp) I5.os I5.base I5.hok I5.bare fun b hb => ⟨(f3 b hb).2.2.2.1, (f3 b hb).2.1, (f3 b hb).2.2.2.2.1, (f3 b hb).2.2.2.2.2⟩
      show wpAny (model X.prog X.w) X.A (assign (.Name tv py) X.env (.ref D)) _ _ s5
      refine wpAny_assign_Name (store_ok2 (v := .ref D) IX hN hti htl rfl (fun s6 I6 hsb => ?_) hfn)
      obtain ⟨a, sb6, ha⟩ := hsb
      have aC : s3.heap.objs.size ≠ a := by
        rcases ha with rfl | ha
        · exact Ne.symm (Nat.ne_of_lt I3.lt)
        · obtain ⟨v', z'⟩ := I3.cell _ _ ha
          exact Ne.symm (Nat.ne_of_lt z'.lt)
      refine ⟨m, nsm.sameBut sb6 aC, fun h' sb => ⟨_, H', I6.turnedL (t' := s6.toks) (ch := [s3.heap.objs.size]) (fun b o hb e => (sb.2 b (by simpa using hb)).trans e) (fun b hb => ?_), q⟩⟩
      have eb : b = s3.heap.objs.size := by simpa using hb
      subst eb
      exact I3.fpOk (Nat.le_refl _) I5.free
    · refine wpAny_mono (T.item (X.blockF pins scope x ys cl fp s3 H3) rfl rfl rfl hc i [] s' (z :: vsOf fr σ) H' _ IB (fpB fr') st go) (fun r s5 hr => ?_) (fun _ _ e => e)
      obtain ⟨u, hr, h5⟩ := hr
      subst hr
      refine (show ∀ {t : Sem Unit} {Q1 : Unit → Shared → Prop} {E1 : Value → Shared → Prop}, wpAny (model X.prog X.w) X.A (letOwnedTupleGo (.Name x px) (.ref it) u >>= fun _ => t) Q1 E1 s5 → wpAny (model X.prog X.w) X.A t Q1 E1 s5 from fun hh => hh) ?_
      refine wpAny_bind (wpAny_mono h5 (fun _ s6 hy => ?_) (fun _ _ e => e))
      obtain ⟨y, H5, I5, r5, y5, st5, fr5⟩ := hy
      have I5' := I5.pinned (fpB fr5) (T.obj _ _ st5)
      refine wpAny_assign_Name (store_ok (X := X.blockF pins scope x ys cl fp s3 H3) (i := 0) I5' hnd rfl (.inl hxr) r5 (fun s7 I7 => ?_) (.inr hxr))
      refine wpAny_mono (he pins cl fp s3 H3 _ s7 (some y :: vsOf fr σ) H5 _ I7 (step y H5 y5)) (fun xv s8 h8 => ?_) (fun _ _ e => e.elim)
      obtain ⟨yv, H8, I8, r8, eD8, m', hm', w8⟩ := h8
      refine wpAny_mono (mt_append (X := X.blockF pins scope x ys cl fp s3 H3) _ s8 (some y :: vsOf fr σ) H8 (.ref D) [yv] (.ref D) [xv] (fun v H => v = .non ∧ H = upd H8 D (.lst (zs ++ [yv]))) I8 rfl (.cons r8 .nil) ⟨D, zs, yv, rfl, rfl, eD8, hz, rfl, rfl⟩) (fun _ s9 h9 => ?_) (fun _ _ e => e.elim)
      obtain ⟨_, H9, I9, _, _, rfl⟩ := h9
      refine ⟨m', hm', i + 1, some y, _, zs ++ [yv], I9.unpinned, T.keep _ _ _ st5 fun b hb o e => (I9.pin (b, o) (List.mem_append_right _ (List.mem_append_right _ (mem_pinsAt hb e)))).1, fun b hb => ?_, w8⟩
      obtain ⟨o, e, _⟩ := T.obj _ _ st5 b hb
      exact (I9.pin (b, o) (List.mem_append_right _ (List.mem_append_right _ (mem_pinsAt hb e)))).2.1
  exact codeAny_compStart_list loop (T.self X.A 0 _ _ _ st4 loop)
end
end L2
set_option maxRecDepth 100000
set_option maxHeartbeats 4000000
namespace L2
open PySem PySem.Spec PyProof.Rows
def Cx.blockN (X : Cx) (pins : List (Addr × Obj)) (scope : Scope) (nm : List Str) (ex : List Addr) (s : Shared) (H : Hp) : Cx :=
  { X with N := nm, s₀ := s, H₀ := H, env := benv X.env scope s.heap.objs.size, outer := X.stack, stack := X.stack, ex := ex, fn := fun _ => false, pn := X.pn ++ pins, xe := fun _ _ => False }
def kCompG (g : TG) (te : TE) (τ0 : St) (J : It) (H1 : Hp) (Q : VK) : Prop := ∀ D, H1 D = none → ∃ W : Nat → Nat → List V → St → Hp → Prop, (∃ m, W 0 m [] τ0 (upd H1 D (.lst []))) ∧ ∀ i m ys τ H, W i m ys τ H → H D = some (.lst ys) ∧
  ((J.stop i H ∧ Q (.ref D) H) ∨ (J.go i H ∧ ys.length < sizeLine ∧ ∀ x H', J.yld i H x H' → g x τ H' fun τ' H'' => te τ' H'' fun y H2 => H2 D = some (.lst ys) ∧ ∃ m', m' < m ∧ W (i + 1) m' (ys ++ [y]) τ' (upd H2 D (.lst (ys ++ [y])))))
def tCompG (wi : TI) (τ0 : St) (g : TG) (te : TE) : TE := fun σ H Q => wi σ H fun J H1 => kCompG g te τ0 J H1 Q
section
variable {X : Cx}
theorem pe_compG {elt iter : Expr} {elts : List Expr} {x1 : Nat} {tp pos : Pos} {scope : Scope} {wi : TI} {g : TG} {te : TE} (nm : List Str) (hc : X.calm = true) (hi : PI X (.Tuple elts x1 tp) iter wi)
    (hg : ∀ (pins : List (Addr × Obj)) (ex : List Addr) (s : Shared) (H : Hp), PG (X.blockN pins scope nm ex s H) (.Tuple elts x1 tp) g)
    (he : ∀ (pins : List (Addr × Obj)) (ex : List Addr) (s : Shared) (H : Hp), PE (X.blockN pins scope nm ex s H) elt te)
    (hfree : ∀ y ∈ scope.names, y.2 ≠ .free) (hcell : ∀ y ∈ scope.names, y.2 ≠ .cell) (hkind : scope.kind = .function) (hnames : ∀ y ∈ scope.names, y.2 = .local → scope.names.lookup y.1 = some .local)
    (hs : ∀ v, foldedSetIterable iter X.env v = pure v := by intro _; rfl) : PE X (.ListComp elt [⟨.Tuple elts x1 tp, iter, [], 0⟩] scope pos) (tCompG wi (nm.map fun _ => none) g te) := by
  intro pins s σ H Q I h
  refine wpAny_ListComp hfree hkind hnames (thn (hi pins s σ H _ I h) fun v s1 h1 => thn h1 fun itv s2 h2 => ?_) hs
  obtain ⟨it, fp, tn, J, H2, e, I2, T, st2, f2, hW⟩ := h2
  subst e
  refine wpAny_newObj_type ?_ (by show 0 ≤ sizeLine; exact Nat.zero_le _)
  have nD : H2 s2.heap.objs.size = none := I2.hok.fresh (Nat.le_refl _)
  obtain ⟨W, ⟨m0, w0⟩, turn⟩ := hW _ nD
  have I3 : Inv X pins σ (upd H2 s2.heap.objs.size (.lst [])) { s2 with heap := s2.heap.push { cls := .type "list", data := .seq ([] : List Value).toArray } } :=
    I2.laid (t' := s2.toks) (fun b u e => Heap.get?_push_of_some _ e) (Nat.le_refl _) ⟨Nat.zero_le _, [], 0, .nil, Heap.get?_push_size _ rfl⟩
  have st3 : tn 0 (s2.heap.push { cls := .type "list", data := .seq ([] : List Value).toArray }) := T.keep 0 _ _ st2 fun b _ o e => Heap.get?_push_of_some _ e
  have lfp : ∀ b ∈ fp, b < s2.heap.objs.size := fun b hb => by
    obtain ⟨o, e, _⟩ := T.obj 0 _ st2 b hb
    exact Heap.lt_size e
  have f3 : ∀ b ∈ fp, FpOk X pins (upd H2 s2.heap.objs.size (.lst [])) b := fun b hb => by
    obtain ⟨n0, r⟩ := f2 b hb
    exact ⟨by rw [upd_ne (Nat.ne_of_lt (lfp b hb))]; exact n0, r⟩
  have z3 : s2.heap.objs.size < (s2.heap.push { cls := .type "list", data := .seq ([] : List Value).toArray }).objs.size := by rw [Heap.size_push]; exact Nat.lt_succ_self _
  generalize hs3 : ({ s2 with heap := s2.heap.push { cls := .type "list", data := .seq ([] : List Value).toArray } } : Shared) = s3 at I3 ⊢
  have h3 : s3.heap = s2.heap.push { cls := .type "list", data := .seq ([] : List Value).toArray } := by rw [← hs3]
  rw [← h3] at st3 z3
  generalize hD : s2.heap.objs.size = D at *
  generalize hH3 : upd H2 D (.lst []) = H3 at *
  have exlt : ∀ b ∈ fp, b < s3.heap.objs.size := fun b hb => Nat.lt_trans (lfp b hb) z3
  have exStk : ∀ b ∈ fp, b ∉ frs X.stack := fun b hb z => by
    obtain ⟨_, n1, n2, _⟩ := f3 b hb
    rcases List.mem_cons.mp (I3.stkSub b z) with q | q
    · exact n1 q
    · exact n2 q
  refine wpAny_newFunctionEnv hcell (by intro y hy; simp at hy) (fun h4 ns4 sb4 => ?_) hkind
  have okB : (X.blockN pins scope nm fp s3 H3).Ok := by
    refine ⟨I3.ok.mod, hkind, I3.ok.glob, I3.ok.blt, Nat.le_refl _, (fun y z c e => by cases e), (fun y hy => ?_), (fun y c z => by cases z), (fun _ => I3.ok.hd hc), I3.ok.frames, .inl rfl, (fun b hb => ⟨Nat.ne_of_lt (exlt b hb), fun y c e => by cases e⟩), I3.bs, Nat.le_trans I3.ok.bsz I3.sz, (fun b o e hb => ?_), (fun b hb => exStk b hb), I3.stack, I3.stkFree⟩
    · exfalso
      have hy' : scope.names.lookup y = some .cell ∨ scope.names.lookup y = some .free := hy
      rcases hy' with z | z
      · exact hcell _ (PySem.mem_of_lookup z) rfl
      · exact hfree _ (PySem.mem_of_lookup z) rfl
    · obtain ⟨_, _, _, n3, _⟩ := f3 b hb
      rcases n3 with z | z
      · exact I3.ok.noex b o e z
      · exact absurd (Nat.lt_of_lt_of_le (Heap.lt_size (I3.ok.bs b o e).1) z) (Nat.lt_irrefl _)
  have kept4 : ∀ b o, s3.heap.get? b = some o → h4.get? b = some o := fun b o e => (sb4.2 b (Nat.ne_of_lt (Heap.lt_size e))).trans (Heap.get?_push_of_some _ e)
  have I4 : Inv (X.blockN pins scope nm fp s3 H3) [] (nm.map fun _ => none) H3 { s3 with heap := h4, toks := s3.toks + ([] : List (Str × Value)).length } := by
    refine ⟨okB, rfl, I3.bare, Un.kept kept4, ⟨_, ns4, fun i y v e1 e2 e3 => ?_⟩, (fun y c e => by cases e), I3.hok.fresh (Nat.le_refl _), (fun y c e => by cases e), (fun p hp => ?_), I3.hok.kept kept4, List.length_map _⟩
    · exfalso
      have e2' : ((nm.map fun _ => (none : Option V))[i]?) = some (some v) := e2
      rw [List.getElem?_map] at e2'
      cases hn : nm[i]? with
      | none => rw [hn] at e2'; cases e2'
      | some w => rw [hn] at e2'; cases e2'
    · have hp' : p ∈ X.pn ++ pins := by
        have hp1 : p ∈ (X.pn ++ pins) ++ [] := hp
        rw [List.append_nil] at hp1
        exact hp1
      obtain ⟨a1, a2, a3, a4, a5⟩ := I3.pin p hp'
      refine ⟨kept4 _ _ a1, a2, Nat.ne_of_lt (Heap.lt_size a1), fun z => ?_, a5⟩
      rcases List.mem_cons.mp (I3.stkSub _ z) with q | q
      · exact a3 q
      · exact a4 q
  have st4 : tn 0 h4 := T.keep 0 _ _ st3 fun b _ o e => kept4 b o e
  have fpB : ∀ {H' : Hp}, (∀ b ∈ fp, H' b = none) → ∀ b ∈ fp, FpOk (X.blockN pins scope nm fp s3 H3) [] H' b := fun {H'} fr b hb => by
    obtain ⟨_, _, _, _, _, n5⟩ := f3 b hb
    refine ⟨fr b hb, Nat.ne_of_lt (exlt b hb), exStk b hb, .inl hb, (fun y c e => by cases e), fun p hp => n5 p ?_⟩
    have hp1 : p ∈ (X.pn ++ pins) ++ [] := hp
    rw [List.append_nil] at hp1
    exact hp1
  have loop : codeAny (model X.prog X.w) X.A (.compLoop (.ListComp elt [⟨.Tuple elts x1 tp, iter, [], 0⟩] scope pos) 0 (.ref it) (.ref D) (benv X.env scope s3.heap.objs.size))
      (fun r s' => ∃ m, s'.heap.Ns s3.heap.objs.size m ∧ ∀ h', Heap.SameBut s3.heap.objs.size s'.heap h' →
        match r with | .ok _ => EP X pins σ Q (.ref D) { s' with heap := h' } | .error y => wpAny (model X.prog X.w) X.A (passOn "comprehension.variables-let-go" y (benv X.env scope s3.heap.objs.size)) (EP X pins σ Q) X.xe { s' with heap := h' })
      { s3 with heap := h4, toks := s3.toks + ([] : List (Str × Value)).length } := by
    refine PyProof.Rows.LCp.codeAny_compLoop_pair (fun n s' => ∃ (i : Nat) (z : St) (H' : Hp) (ys : List V), Inv (X.blockN pins scope nm fp s3 H3) [] z H' s' ∧ tn i s'.heap ∧ (∀ b ∈ fp, H' b = none) ∧ W i n ys z H') (fun n s' hI => ?_) m0 ⟨0, nm.map fun _ => none, H3, [], I4, st4, fun b hb => (f3 b hb).1, w0⟩
    obtain ⟨i, z, H', ys, IB, st, fr, w'⟩ := hI
    obtain ⟨eD, tt⟩ := turn i n ys z H' w'
    rcases tt with ⟨stop, q⟩ | ⟨go, hz, step⟩
    · refine wpAny_mono (T.done (X.blockN pins scope nm fp s3 H3) rfl rfl rfl hc i [] s' z H' _ IB (fpB fr) st stop) (fun r s5 hr => ?_) (fun _ _ e => e)
      obtain ⟨hr, I5⟩ := hr
      subst hr
      obtain ⟨m, nsm, _⟩ := id I5.loc
      refine ⟨m, nsm, fun h' sb => ⟨.ref D, H', ?_, rfl, q⟩⟩
      have nC : ∀ b o, s3.heap.get? b = some o → b ≠ s3.heap.objs.size := fun b o e => Nat.ne_of_lt (Heap.lt_size e)
      have ub : Un (frs X.stack) fp H3 H' s3.heap s5.heap := I5.base
      have un : Un (frs X.stack) fp H3 H' s3.heap h' := by
        refine ⟨fun b o e n1 n2 n3 => (sb.2 b (nC b o e)).trans (ub.keep b o e n1 n2 n3), fun b o e n1 n2 n3 => ?_, ub.free, fun b o e n3 => ?_, ub.tups, ub.frzs, ub.tbls⟩
        · obtain ⟨sl, e1⟩ := ub.slot b o e n1 n2 n3
          exact ⟨sl, (sb.2 b (nC b o e)).trans e1⟩
        · obtain ⟨o', e1⟩ := ub.there b o e n3
          exact ⟨o', (sb.2 b (nC b o e)).trans e1⟩
      have hC : H' s3.heap.objs.size = none := I5.free
      have hok' : HOk X.prog X.w H' h' := fun b ob e => by
        refine (I5.hok b ob e).stay (fun c w' hc' q' => (sb.2 c ?_).trans q') (fun _ q' => q') fun _ _ q' => q'
        intro y
        rcases hc' with z' | z'
        · rw [← z', y, hC] at e
          cases e
        · rw [y, hC] at z'
          cases z'
      exact I3.call' (s' := { s5 with heap := h' }) (ch := fp) I5.os un hok' I5.bare fun b hb => ⟨(f3 b hb).2.2.2.1, (f3 b hb).2.1, (f3 b hb).2.2.2.2.1, (f3 b hb).2.2.2.2.2⟩
    · refine wpAny_mono (T.item (X.blockN pins scope nm fp s3 H3) rfl rfl rfl hc i [] s' z H' _ IB (fpB fr) st go) (fun r s5 hr => ?_) (fun _ _ e => e)
      obtain ⟨u, hr, h5⟩ := hr
      subst hr
      refine wpAny_mono h5 (fun _ s6 hy => ?_) (fun _ _ e => e)
      obtain ⟨y, H5, I5, r5, y5, st5, fr5⟩ := hy
      have I5' := I5.pinned (fpB fr5) (T.obj _ _ st5)
      refine wpAny_mono (hg pins fp s3 H3 _ s6 z H5 y u _ I5' r5 (step y H5 y5)) (fun _ s7 h7 => ?_) (fun _ _ e => e.elim)
      obtain ⟨z7, H7, I7, q7⟩ := h7
      refine wpAny_mono (he pins fp s3 H3 _ s7 z7 H7 _ I7 q7) (fun xv s8 h8 => ?_) (fun _ _ e => e.elim)
      obtain ⟨yv, H8, I8, r8, eD8, m', hm', w8⟩ := h8
      refine wpAny_mono (mt_append (X := X.blockN pins scope nm fp s3 H3) _ s8 z7 H8 (.ref D) [yv] (.ref D) [xv] (fun v H => v = .non ∧ H = upd H8 D (.lst (ys ++ [yv]))) I8 rfl (.cons r8 .nil) ⟨D, ys, yv, rfl, rfl, eD8, hz, rfl, rfl⟩) (fun _ s9 h9 => ?_) (fun _ _ e => e.elim)
      obtain ⟨_, H9, I9, _, _, rfl⟩ := h9
      refine ⟨m', hm', i + 1, z7, _, ys ++ [yv], I9.unpinned, T.keep _ _ _ st5 fun b hb o e => (I9.pin (b, o) (List.mem_append_right _ (List.mem_append_right _ (mem_pinsAt hb e)))).1, fun b hb => ?_, w8⟩
      obtain ⟨o, e, _⟩ := T.obj _ _ st5 b hb
      exact (I9.pin (b, o) (List.mem_append_right _ (List.mem_append_right _ (mem_pinsAt hb e)))).2.1
  exact codeAny_compStart_list loop (T.self X.A 0 _ _ _ st4 loop)
theorem pg_tupN {pins : List (Addr × Obj)} {scope : Scope} {nm : List Str} {ex : List Addr} {s : Shared} {H : Hp} {es : List Expr} {k : Nat} {t : TGs} {n : Nat} {pos : Pos} (hc : X.calm = true) (h : PGs (X.blockN pins scope nm ex s H) es t)
    (hn : (assignEach es (X.blockN pins scope nm ex s H).env).length = n := by rfl) (hst : (assignEach es (X.blockN pins scope nm ex s H).env).findIdx? (·.1) = none := by rfl) : PG (X.blockN pins scope nm ex s H) (.Tuple es k pos) (gTup X.K n t) := pg_tup (X := X.blockN pins scope nm ex s H) hc h hn hst
end
section
variable {σ : St} {H : Hp} {Q : VK} {K : PySem.W.Frag}
end
end L2
set_option maxRecDepth 100000
set_option maxHeartbeats 4000000
namespace L2
open PySem PySem.Spec PyProof.Rows
section
variable {X : Cx} {tg : Expr}
end
section
variable {σ : St} {H : Hp} {D : Ends}
end
end L2
set_option maxRecDepth 100000
set_option maxHeartbeats 4000000
namespace L2
open PySem PySem.Spec PyProof.Rows
section
variable {σ : St} {H : Hp} {Q : VK} {K : PySem.W.Frag}
end
end L2
set_option maxRecDepth 100000
set_option maxHeartbeats 4000000
namespace L2
open PySem PySem.Spec PyProof.Rows
section
variable {X : Cx}
variable {H : Hp} {Q : VK}
end
end L2
set_option maxRecDepth 100000
set_option maxHeartbeats 4000000
namespace L2
open PySem PySem.Spec PyProof.Rows
section
variable {X : Cx}
end
end L2
set_option maxRecDepth 100000
set_option maxHeartbeats 4000000
namespace L2
open PySem PySem.Spec PyProof.Rows
section
variable {σ : St} {H : Hp} {Q : VK} {K : PySem.W.Frag}
structure Tab (H : Hp) (t : Addr) (a b c d : Int) : Prop where
  ex : ∃ r s : Addr, H t = some (.tup [.ref r, .ref s]) ∧ H r = some (.tup [.int a, .int b]) ∧ H s = some (.tup [.int c, .int d])
theorem Tab.same {H H' : Hp} {t : Addr} {a b c d : Int} (T : Tab H t a b c d) (s : Same H H') : Tab H' t a b c d := by
  obtain ⟨r, u, e1, e2, e3⟩ := T.ex
  exact ⟨r, u, s.obj e1, s.obj e2, s.obj e3⟩
end
end L2
set_option maxRecDepth 100000
set_option maxHeartbeats 4000000
namespace L2
open PySem PySem.Spec PyProof.Rows
section
variable {X : Cx}
end
section
variable {σ : St} {H : Hp} {Q : VK} {K : PySem.W.Frag}
end
end L2
set_option maxRecDepth 100000
set_option maxHeartbeats 4000000
namespace L2
open PySem PySem.Spec PyProof.Rows
section
variable {σ : St} {H : Hp} {Q : VK} {K : PySem.W.Frag}
end
end L2
set_option maxRecDepth 100000
set_option maxHeartbeats 4000000
namespace L2
open PySem PySem.Spec PyProof.Rows
def rIsN : R2 := fun x y H Q => y = .non ∧ Q (.bl (decide (x = .non))) H
section
variable {X : Cx}
theorem op_isNn : OpR X (compareOp .Is) rIsN := op_isN
variable {H : Hp} {Q : VK}
theorem rd_isNI {i : Int} (h : Q (.bl false) H) : rIsN (.int i) .non H Q := ⟨rfl, by rw [decide_eq_false (fun e => by cases e)]; exact h⟩
theorem rd_isNN (h : Q (.bl true) H) : rIsN .non .non H Q := ⟨rfl, by rw [decide_eq_true rfl]; exact h⟩
end
end L2
set_option maxRecDepth 100000
set_option maxHeartbeats 4000000
namespace L2
open PySem PySem.Spec PyProof.Rows
section
variable {H : Hp} {Q : VK}
end
end L2
set_option maxRecDepth 100000
set_option maxHeartbeats 4000000
namespace L2
open PySem PySem.Spec PyProof.Rows
section
variable {X : Cx} {pins : List (Addr × Obj)} {scope : Scope} {x : Str} {ex : List Addr} {s : Shared} {H : Hp} {tg l : Expr} {tl : TE}
end
end L2
set_option maxRecDepth 100000
set_option maxHeartbeats 4000000
namespace L2
open PySem PySem.Spec PyProof.Rows
section
variable {X : Cx} {pos : Pos}
variable {σ : St} {H : Hp} {K : PySem.W.Frag}
end
end L2
set_option maxRecDepth 100000
set_option maxHeartbeats 4000000
namespace L2
open PySem PySem.Spec PyProof.Rows
def ltr (b : Bool) : Str := if b then "u" else "v"
structure WordL (H : Hp) (D : Addr) (ws : List (Bool × Int)) : Prop where
  ex : ∃ as : List Addr, H D = some (.lst (as.map V.ref)) ∧ as.length = ws.length ∧ ∀ (i : Nat) (x : Addr) (p : Bool × Int), as[i]? = some x → ws[i]? = some p → H x = some (.tup [.str (ltr p.1), .int p.2])
theorem WordL.same {H H' : Hp} {D : Addr} {ws : List (Bool × Int)} (W : WordL H D ws) (s : Same H H') : WordL H' D ws := by
  obtain ⟨as, e, l, t⟩ := W.ex
  exact ⟨as, s.obj e, l, fun i x p hx hp => s.obj (t i x p hx hp)⟩
theorem WordL.nil {H : Hp} {D : Addr} (e : H D = some (.lst [])) : WordL H D [] := ⟨[], e, rfl, fun i x p hx => by simp at hx⟩
theorem WordL.snoc {H : Hp} {D t : Addr} {ws : List (Bool × Int)} {as : List Addr} {p : Bool × Int} (eD : H D = some (.lst (as.map V.ref))) (l : as.length = ws.length) (T : ∀ (i : Nat) (x : Addr) (p : Bool × Int), as[i]? = some x → ws[i]? = some p → H x = some (.tup [.str (ltr p.1), .int p.2])) (et : H t = some (.tup [.str (ltr p.1), .int p.2])) : WordL (upd H D (.lst ((as ++ [t]).map V.ref))) D (ws ++ [p]) := by
  refine ⟨as ++ [t], upd_same, by simp [l], fun i x q hx hq => ?_⟩
  have key : H x = some (.tup [.str (ltr q.1), .int q.2]) := by
    rcases Nat.lt_or_ge i as.length with z | z
    · rw [List.getElem?_append_left z] at hx
      rw [List.getElem?_append_left (by omega)] at hq
      exact T i x q hx hq
    · rw [List.getElem?_append_right z] at hx
      rw [List.getElem?_append_right (by omega)] at hq
      have z0 : i - as.length = 0 := by
        rcases Nat.eq_zero_or_pos (i - as.length) with z1 | z1
        · exact z1
        · rw [List.getElem?_eq_none (by simp; omega)] at hx
          cases hx
      rw [z0] at hx
      rw [show i - ws.length = 0 by omega] at hq
      cases hx
      cases hq
      exact et
  rw [upd_ne (fun z => by rw [z, eD] at key; cases key)]
  exact key
section
variable {H : Hp} {Q : VK}
theorem rd_uv {i : Int} (h : i = 0 ∨ i = 1) (q : Q (.str (ltr (decide (i = 0)))) H) : rIxS (.str "uv") (.int i) H Q := by
  rcases h with rfl | rfl
  · exact ⟨"uv", 0, _, rfl, rfl, by decide, rfl, q⟩
  · exact ⟨"uv", 1, _, rfl, rfl, by decide, rfl, q⟩
end
end L2
set_option maxRecDepth 100000
set_option maxHeartbeats 4000000
namespace L2
open PySem PySem.Spec PyProof.Rows
theorem rd_kParG {σ : St} {H : Hp} {i j : Nat} {v w : V} {nx : St → Hp → Prop} (h : gName i v σ H fun σ1 H1 => gName j w σ1 H1 nx) : kPar i j [v, w] σ H nx := ⟨v, w, rfl, h⟩
end L2
set_option maxRecDepth 100000
set_option maxHeartbeats 4000000
namespace L2
open PySem PySem.Spec PyProof.Rows
section
variable {σ : St} {H : Hp} {Q : VK} {K : PySem.W.Frag}
theorem rd_compGL {tl : TE} {τ0 : St} {g : TG} {te : TE} (h : tl σ H fun x H1 => kItl K x H1 fun J H2 => kCompG g te τ0 J H2 Q) : tCompG (iList K tl) τ0 g te σ H Q := h
theorem rd_kCompP {a : Addr} {te : TE} {as : List Addr} (ys : List V) (h1 : SqL K H a (as.map V.ref)) (hl : ys.length = as.length) (hz : as.length ≤ 1000)
    (hT : ∀ (i : Nat) x y, as[i]? = some x → ys[i]? = some y → ∃ p q, SqT K H x [p, q] ∧ ∀ H' (R : VK), Same H H' → (∀ H2, Same H' H2 → R y H2) → te [some p, some q] H' R)
    (h : ∀ D H', Same H H' → H D = none → H' D = some (.lst ys) → Q (.ref D) H') : kCompG (gTup K 2 (gCons (gName 0) (gCons (gName 1) gNil))) te [none, none] (Itl K a) H Q := by
  intro D hD
  refine ⟨fun i m zs τ H' => m = as.length - i ∧ i ≤ as.length ∧ zs = ys.take i ∧ (∃ u v, τ = [u, v]) ∧ Same H H' ∧ H' D = some (.lst zs), ⟨as.length, by simp, Nat.zero_le _, by simp, ⟨_, _, rfl⟩, Same.new hD _, upd_same⟩, ?_⟩
  rintro i m zs τ H' ⟨rfl, hi, rfl, ⟨u, v, rfl⟩, hs, eD⟩
  refine ⟨eD, ?_⟩
  have q1 := hs.seq h1
  by_cases hlt : i < as.length
  · obtain ⟨x, hx⟩ : ∃ x, as[i]? = some x := ⟨_, List.getElem?_eq_getElem hlt⟩
    obtain ⟨y, hy⟩ : ∃ y, ys[i]? = some y := ⟨_, List.getElem?_eq_getElem (by omega)⟩
    obtain ⟨p, q, t, he⟩ := hT i x y hx hy
    have hx' : (as.map V.ref)[i]? = some (.ref x) := by rw [List.getElem?_map, hx]; rfl
    refine .inr ⟨⟨_, _, q1, hx'⟩, ?_, fun v0 H2 y0 => ?_⟩
    · rw [List.length_take]
      exact small1000 (by omega)
    · obtain ⟨e, y0⟩ := y0
      subst e
      have e2 := y0 _ q1
      rw [hx'] at e2
      cases e2
      refine ⟨x, [p, q], rfl, hs.tup t, rfl, p, [q], rfl, q, [], rfl, rfl, ?_⟩
      show te [some p, some q] _ _
      refine he _ _ hs fun H3 s3 => ⟨s3.obj eD, as.length - (i + 1), by omega, rfl, hlt, ?_, ⟨_, _, rfl⟩, (hs.trans s3).upd hD, upd_same⟩
      rw [List.take_add_one, hy]
      rfl
  · have e : i = as.length := by omega
    subst e
    refine .inl ⟨⟨_, q1, by rw [List.length_map]; exact Nat.le_refl _⟩, h D H' hs hD ?_⟩
    rw [← hl, List.take_length] at eD
    exact eD
end
end L2
set_option maxRecDepth 100000
set_option maxHeartbeats 4000000
namespace L2
open PySem PySem.Spec PyProof.Rows
section
variable {σ : St} {H : Hp} {Q : VK} {K : PySem.W.Frag} {D : Ends}
end
end L2
set_option maxRecDepth 100000
set_option maxHeartbeats 4000000
namespace L2
open PySem PySem.Spec PyProof.Rows
section
variable {σ : St} {H : Hp} {Q : VK} {K : PySem.W.Frag}
end
end L2
set_option maxRecDepth 100000
set_option maxHeartbeats 4000000
namespace L2
open PySem PySem.Spec PyProof.Rows
section
variable {σ : St} {H : Hp} {Q : VK} {K : PySem.W.Frag} {D : Ends}
end
end L2
set_option maxRecDepth 100000
set_option maxHeartbeats 4000000
namespace L2
open PySem PySem.Spec PyProof.Rows
section
variable {X : Cx}
end
section
variable {σ : St} {H : Hp} {Q : VK} {K : PySem.W.Frag}
end
end L2
set_option maxRecDepth 100000
set_option maxHeartbeats 4000000
namespace L2
open PySem PySem.Spec PyProof.Rows
section
variable {prog : Program} {w : World} {A : Around} {E : Value → Shared → Prop} {s : Shared} {it t : Addr} {i : Nat} {items : Array Value}
end
section
variable {X : Cx}
end
section
variable {σ : St} {H : Hp} {Q : VK} {D : Ends} {K : PySem.W.Frag}
end
end L2
set_option maxRecDepth 100000
set_option maxHeartbeats 4000000
namespace L2
open PySem PySem.Spec PyProof.Rows
section
variable {X : Cx}
end
section
variable {σ : St} {H : Hp} {Q : VK} {K : PySem.W.Frag}
end
end L2
set_option maxRecDepth 100000
set_option maxHeartbeats 4000000
namespace L2
open PySem PySem.Spec PyProof.Rows
theorem cat_tup0 {prog : Program} {w : World} {A : Around} {E : Value → Shared → Prop} {s : Shared} {t b : Addr} {vs ws : List Value} {Q : Value → Shared → Prop} (ht : IsTup s.heap t vs.toArray) (hb : IsTup s.heap b ws.toArray) (hv : vs = []) (h : Q (.ref b) s) : wpAny (model prog w) A (binaryOp .Add (.ref t) (.ref b)) Q E s := by
  obtain ⟨⟨cls, dd, data, sl⟩, ho, hc, n, hd⟩ := id ht
  obtain ⟨⟨cls2, dd2, data2, sl2⟩, ho2, hc2, n2, hd2⟩ := id hb
  simp only at hc hd hc2 hd2
  subst hc hd hc2 hd2
  exact concat_meets ⟨_, ho, rfl⟩ ⟨_, ho2, rfl⟩ noFill_tuple_add seq_tuple_add PySem.F.slot_tuple_add PySem.F.entry_tuple_add (PySem.F.args_tuple_add_2 _ _)
    (tuple_addW0 t b vs.toArray ws.toArray n n2 dd dd2 sl sl2 (by simp [hv])) ⟨ho, ho2, h⟩
def rCatU : R2 := fun x y H Q => ∃ a b xs ys, x = .ref a ∧ y = .ref b ∧ H a = some (.tup xs) ∧ H b = some (.tup ys) ∧ xs.length + ys.length ≤ sizeLine ∧ ∀ p H', Same H H' → H' p = some (.tup (xs ++ ys)) → Q (.ref p) H'
section
variable {X : Cx}
theorem op_catU : OpR X (binaryOp .Add) rCatU := by
  intro pins s σ H x y v u Q I rx ry h
  obtain ⟨a, b, xs, ys, rfl, rfl, ha, hb, hz, q⟩ := h
  cases rx
  cases ry
  obtain ⟨its, r1, p1, _⟩ := I.tuple (SqT.of ha)
  obtain ⟨its2, r2, p2, _⟩ := I.tuple (SqT.of hb)
  by_cases hx : xs = []
  · subst hx
    exact cat_tup0 p1 p2 (r1.nil_iff.mpr rfl) ⟨.ref b, H, I, rfl, q b H (Same.refl _) (by rw [List.nil_append]; exact hb)⟩
  · refine HT.cat_tup p1 p2 (fun z => hx (r1.nil_iff.mp z)) (fun z => ⟨.ref a, H, I, rfl, q a H (Same.refl _) (by rw [r2.nil_iff.mp z, List.append_nil]; exact ha)⟩) (fun z => ?_) (by rw [← r1.length, ← r2.length]; exact hz)
    have nf : H s.heap.objs.size = none := I.hok.fresh (Nat.le_refl _)
    refine ⟨.ref s.heap.objs.size, _, I.laid (t' := s.toks) (o := .tup (xs ++ ys)) (fun b ob q => Heap.get?_push_of_some _ q) (Nat.le_refl _) ?_, rfl, q _ _ (Same.new nf _) upd_same⟩
    exact ⟨by rw [List.length_append]; exact hz, _, r1.append r2, IsTup.new _ _⟩
def rAddU : R2 := fun x y H Q => rAddA x y H Q ∨ rCatU x y H Q
theorem op_addU : OpR X (binaryOp .Add) rAddU := op_addA.or op_catU
end
section
variable {σ : St} {H : Hp} {Q : VK} {K : PySem.W.Frag}
theorem rd_catU {a b : Addr} {xs ys : List V} (h1 : H a = some (.tup xs)) (h2 : H b = some (.tup ys)) (hz : xs.length + ys.length ≤ 1000) (h : ∀ p H', Same H H' → H' p = some (.tup (xs ++ ys)) → Q (.ref p) H') : rAddU (.ref a) (.ref b) H Q := .inr ⟨a, b, xs, ys, rfl, rfl, h1, h2, Nat.le_of_lt (small1000 hz), h⟩
end
end L2
set_option maxRecDepth 100000
set_option maxHeartbeats 4000000
namespace L2
open PySem PySem.Spec PyProof.Rows
section
variable {prog : Program} {w : World} {A : Around} {E : Value → Shared → Prop} {s : Shared} {r : Addr} {n : Nat} {t u v : Tok} {j : Int}
end
section
variable {X : Cx}
end
section
variable {σ : St} {H : Hp} {Q : VK} {K : PySem.W.Frag}
end
end L2
set_option maxRecDepth 100000
set_option maxHeartbeats 4000000
namespace L2
open PySem PySem.Spec PyProof.Rows
section
variable {X : Cx}
end
section
variable {σ : St} {H : Hp} {Q : VK} {K : PySem.W.Frag}
theorem rd_compFL {tl : TE} {w2 : TI} {te : TE} {fr : List Nat} (vs : St) (e : vsOf fr σ = vs) (h : tl σ H fun x H1 => kItl K x H1 fun J H2 => kCompF te vs J H2 Q) : tCompF (fun σ H R => iList K tl σ H R ∨ w2 σ H R) fr te σ H Q := by subst e; exact .inl h
theorem rd_kCompFL {te : TE} {vs : St} {a : Addr} {xs : List V} (g : V → V) (h1 : SqL K H a xs) (hz : xs.length ≤ 1000)
    (he : ∀ x H' (Q' : VK), x ∈ xs → Same H H' → (∀ H2, Same H' H2 → Q' (g x) H2) → te (some x :: vs) H' Q')
    (h : ∀ D H', Same H H' → H D = none → H' D = some (.lst (xs.map g)) → Q (.ref D) H') : kCompF te vs (Itl K a) H Q := by
  intro D hD
  refine ⟨fun i m zs H' => m = xs.length - i ∧ i ≤ xs.length ∧ zs = (xs.take i).map g ∧ Same H H' ∧ H' D = some (.lst zs), ⟨xs.length, by simp, Nat.zero_le _, by simp, Same.new hD _, upd_same⟩, ?_⟩
  rintro i m zs H' ⟨rfl, hi, rfl, hs, eD⟩
  refine ⟨eD, ?_⟩
  have q := hs.seq h1
  by_cases hlt : i < xs.length
  · refine .inr ⟨⟨xs, xs[i], q, by simp [hlt]⟩, ?_, fun x H2 y => ?_⟩
    · rw [List.length_map, List.length_take]
      exact small1000 (by omega)
    · obtain ⟨e, y⟩ := y
      subst e
      have hx := y xs q
      have hm := List.mem_of_getElem? hx
      refine he x _ _ hm hs fun H2 s2 => ⟨s2.obj eD, xs.length - (i + 1), by omega, rfl, hlt, ?_, (hs.trans s2).upd hD, upd_same⟩
      rw [List.take_add_one, hx, List.map_append]
      rfl
  · have e : i = xs.length := by omega
    subst e
    rw [List.take_length] at eD
    exact .inl ⟨⟨xs, q, Nat.le_refl _⟩, h D H' hs hD eD⟩
end
end L2
set_option maxRecDepth 100000
set_option maxHeartbeats 4000000
namespace L2
open PySem PySem.Spec PyProof.Rows
section
variable {X : Cx}
variable {H : Hp} {Q : VK}
end
end L2
set_option maxRecDepth 100000
set_option maxHeartbeats 4000000
namespace L2
open PySem PySem.Spec PyProof.Rows
section
variable {X : Cx}
variable {H : Hp} {Q : VK} {K : PySem.W.Frag}
end
end L2
set_option maxRecDepth 100000
set_option maxHeartbeats 4000000
namespace L2
open PySem PySem.Spec PyProof.Rows
section
variable {X : Cx}
end
section
variable {X : Cx} {pins : List (Addr × Obj)} {scope : Scope} {x : Str} {ys : List Str} {cl : List (Str × Addr)} {ex : List Addr} {s : Shared} {H : Hp}
end
section
variable {σ : St} {H : Hp} {Q : VK} {K : PySem.W.Frag}
end
end L2
set_option maxRecDepth 100000
set_option maxHeartbeats 4000000
namespace L2
open PySem PySem.Spec PyProof.Rows
inductive Cmp (K : PySem.W.Frag) (H : Hp) : Nat → V → V → Bool → Prop
  | flat {d : Nat} {x y : V} (fx : flatV x = true) (fy : flatV y = true) : Cmp K H d x y (eqV x y)
  | tup {d : Nat} {a b : Addr} {xs ys : List V} (e : Nat → Bool) (h1 : SqT K H a xs) (h2 : SqT K H b ys) (hl : xs.length = ys.length) (he : ∀ (i : Nat) x y, xs[i]? = some x → ys[i]? = some y → Cmp K H d x y (e i)) : Cmp K H (d + 1) (.ref a) (.ref b) ((List.range xs.length).all e)
  | lst {d : Nat} {a b : Addr} {xs ys : List V} (e : Nat → Bool) (h1 : SqL K H a xs) (h2 : SqL K H b ys) (hl : xs.length = ys.length) (he : ∀ (i : Nat) x y, xs[i]? = some x → ys[i]? = some y → Cmp K H d x y (e i)) : Cmp K H (d + 1) (.ref a) (.ref b) ((List.range xs.length).all e)
  | lens {d : Nat} {a b : Addr} {xs ys : List V} (h1 : SqL K H a xs) (h2 : SqL K H b ys) (hl : xs.length ≠ ys.length) : Cmp K H (d + 1) (.ref a) (.ref b) false
theorem eqV_refl {x : V} (f : flatV x = true) : eqV x x = true := by
  cases x <;> simp [flatV] at f <;> simp [eqV]
theorem allR {n : Nat} {e : Nat → Bool} (h : ∀ i, i < n → e i = true) : (List.range n).all e = true :=
  List.all_eq_true.mpr fun i hi => h i (List.mem_range.mp hi)
section
variable {X : Cx} {pins : List (Addr × Obj)} {σ : St} {H : Hp} {s : Shared}
theorem Cmp.self (I : Inv X pins σ H s) {d : Nat} {x y : V} {b : Bool} (c : Cmp X.K H d x y b) : x = y → b = true := by
  induction c with
  | flat fx fy => intro e; subst e; exact eqV_refl fx
  | @tup d a b xs ys e h1 h2 hl he ih =>
    intro q
    cases q
    have := I.tuple_inj h1 h2
    subst this
    exact allR fun i hi => ih i xs[i] xs[i] (List.getElem?_eq_getElem hi) (List.getElem?_eq_getElem hi) rfl
  | @lst d a b xs ys e h1 h2 hl he ih =>
    intro q
    cases q
    have := I.list_inj h1 h2
    subst this
    exact allR fun i hi => ih i xs[i] xs[i] (List.getElem?_eq_getElem hi) (List.getElem?_eq_getElem hi) rfl
  | lens h1 h2 hl =>
    intro q
    cases q
    exact absurd (by rw [I.list_inj h1 h2]) hl
theorem Cmp.items {d : Nat} {xs ys : List V} {us vs : List Value} {e : Nat → Bool} {A : Around} (r1 : Vals xs us) (r2 : Vals ys vs) (he : ∀ (i : Nat) x y, xs[i]? = some x → ys[i]? = some y → ∀ {u v : Value}, RelV x u → RelV y v → SeqAt.EqAt A s u v (e i))
    (j : Nat) (g1 : j < us.toArray.size) (g2 : j < vs.toArray.size) : SeqAt.EqAt A s us.toArray[j] vs.toArray[j] (e j) := by
  have l1 := r1.length
  have l2 := r2.length
  rw [List.size_toArray] at g1 g2
  obtain ⟨x, hx⟩ : ∃ x, xs[j]? = some x := ⟨_, List.getElem?_eq_getElem (by omega)⟩
  obtain ⟨y, hy⟩ : ∃ y, ys[j]? = some y := ⟨_, List.getElem?_eq_getElem (by omega)⟩
  obtain ⟨u, hu', ru⟩ := r1.get hx
  obtain ⟨v, hv', rv⟩ := r2.get hy
  have eu : us.toArray[j] = u := by
    have := List.getElem?_eq_some_iff.mp hu'
    simpa using this.2
  have ev : vs.toArray[j] = v := by
    have := List.getElem?_eq_some_iff.mp hv'
    simpa using this.2
  rw [eu, ev]
  exact he j x y hx hy ru rv
theorem Cmp.at (I : Inv X pins σ H s) {d : Nat} {x y : V} {b : Bool} (c : Cmp X.K H d x y b) : ∀ {A : Around} {u v : Value}, A.units + d < cLine → RelV x u → RelV y v → SeqAt.EqAt A s u v b := by
  induction c with
  | flat fx fy => intro A u v _ ru rv; exact eqAt_V ru rv fx fy
  | @tup d a b xs ys e h1 h2 hl he ih =>
    intro A u v hu ru rv
    cases ru
    cases rv
    by_cases q : a = b
    · subst q
      rw [(Cmp.tup e h1 h2 hl he).self I rfl]
      exact SeqAt.EqAt.same _
    · obtain ⟨us, r1, t1, _⟩ := I.tuple h1
      obtain ⟨vs, r2, t2, _⟩ := I.tuple h2
      have h := SeqAt.EqAt.of_refs q (SeqAt.RcAt.tuples t1 t2 (by omega) (Cmp.items (s := s) (A := A.in1) (e := e) (d := d) r1 r2 fun i x y hx hy u v ru rv => ih i x y hx hy (A := A.in1) (by show A.units + 1 + d < _; omega) ru rv))
      have l1 := r1.length
      have l2 := r2.length
      rw [List.size_toArray, List.size_toArray, ← l1, ← l2, ← hl, Nat.min_self, beq_self_eq_true, Bool.and_true] at h
      exact h
  | @lst d a b xs ys e h1 h2 hl he ih =>
    intro A u v hu ru rv
    cases ru
    cases rv
    by_cases q : a = b
    · subst q
      rw [(Cmp.lst e h1 h2 hl he).self I rfl]
      exact SeqAt.EqAt.same _
    · obtain ⟨us, r1, t1, _⟩ := I.list h1
      obtain ⟨vs, r2, t2, _⟩ := I.list h2
      have l1 := r1.length
      have l2 := r2.length
      have h := SeqAt.EqAt.of_refs q (SeqAt.RcAt.lists t1.isList t2.isList (by rw [List.size_toArray, List.size_toArray]; omega) (by omega) (Cmp.items (s := s) (A := A.in1) (e := e) (d := d) r1 r2 fun i x y hx hy u v ru rv => ih i x y hx hy (A := A.in1) (by show A.units + 1 + d < _; omega) ru rv))
      rw [List.size_toArray, ← l1] at h
      exact h
  | @lens d a b xs ys h1 h2 hl =>
    intro A u v hu ru rv
    cases ru
    cases rv
    by_cases q : a = b
    · subst q
      exact absurd (by rw [I.list_inj h1 h2]) hl
    · obtain ⟨us, r1, t1, _⟩ := I.list h1
      obtain ⟨vs, r2, t2, _⟩ := I.list h2
      have l1 := r1.length
      have l2 := r2.length
      exact SeqAt.EqAt.of_refs q (SeqAt.RcAt.lists_lengths t1.isList t2.isList (by rw [List.size_toArray, List.size_toArray, ← l1, ← l2]; simpa using hl) (by omega))
end
theorem Room.units3 {k : Nat} {A : Around} (h : Room k A) : A.units + 5 < cLine := by
  have := h.un
  omega
def rEqF (K : PySem.W.Frag) : R2 := fun x y H Q => rEqA K x y H Q ∨ ∃ a c b, x = .ref a ∧ y = .ref c ∧ Cmp K H 4 (.ref a) (.ref c) b ∧ Q (.bl b) H
def rNeF (K : PySem.W.Frag) : R2 := fun x y H Q => rNeA K x y H Q ∨ ∃ a c b, x = .ref a ∧ y = .ref c ∧ Cmp K H 4 (.ref a) (.ref c) b ∧ Q (.bl (!b)) H
section
variable {X : Cx}
theorem op_eqF (hu : X.A.units + 5 < cLine) : OpR X (compareOp .Eq) (rEqF X.K) := by
  refine (op_eqA (by omega)).or ?_
  intro pins s σ H x y v u Q I rx ry h
  obtain ⟨a, c, b, rfl, rfl, hc, q⟩ := h
  cases rx
  cases ry
  cases hc with
  | flat f1 f2 => cases f1
  | @tup d a b xs ys e h1 h2 hl he =>
    obtain ⟨us, r1, t1, _⟩ := I.tuple h1
    obtain ⟨vs, r2, t2, _⟩ := I.tuple h2
    have l1 := r1.length
    have l2 := r2.length
    refine SeqAt.eq_tupleAt (e := e) t1 t2 (by omega) (Cmp.items (d := 3) r1 r2 fun i x y hx hy u v ru rv => (he i x y hx hy).at I (by show X.A.units + 1 + 3 < _; omega) ru rv) ⟨.bl _, H, I, ?_, q⟩
    show Value.bool _ = Value.bool _
    rw [List.size_toArray, List.size_toArray, ← l1, ← l2, ← hl, Nat.min_self, beq_self_eq_true, Bool.and_true]
  | @lst d a b xs ys e h1 h2 hl he =>
    obtain ⟨us, r1, t1, _⟩ := I.list h1
    obtain ⟨vs, r2, t2, _⟩ := I.list h2
    have l1 := r1.length
    have l2 := r2.length
    refine SeqAt.eq_listAt (e := e) t1.isList t2.isList (by rw [List.size_toArray, List.size_toArray]; omega) (by omega) (Cmp.items (d := 3) r1 r2 fun i x y hx hy u v ru rv => (he i x y hx hy).at I (by show X.A.units + 1 + 3 < _; omega) ru rv) ⟨.bl _, H, I, ?_, q⟩
    show Value.bool _ = Value.bool _
    rw [List.size_toArray, ← l1]
  | @lens d a b xs ys h1 h2 hl =>
    obtain ⟨us, r1, t1, _⟩ := I.list h1
    obtain ⟨vs, r2, t2, _⟩ := I.list h2
    have l1 := r1.length
    have l2 := r2.length
    exact SeqAt.eq_list_lengthsAt t1.isList t2.isList (by rw [List.size_toArray, List.size_toArray, ← l1, ← l2]; simpa using hl) (by omega) ⟨.bl _, H, I, rfl, q⟩
theorem op_neF (hu : X.A.units + 5 < cLine) : OpR X (compareOp .NotEq) (rNeF X.K) := by
  refine (op_neA (by omega)).or ?_
  intro pins s σ H x y v u Q I rx ry h
  obtain ⟨a, c, b, rfl, rfl, hc, q⟩ := h
  cases rx
  cases ry
  cases hc with
  | flat f1 f2 => cases f1
  | @tup d a b xs ys e h1 h2 hl he =>
    obtain ⟨us, r1, t1, _⟩ := I.tuple h1
    obtain ⟨vs, r2, t2, _⟩ := I.tuple h2
    have l1 := r1.length
    have l2 := r2.length
    refine SeqAt.RcNeAt.tuples (e := e) t1 t2 (by omega) (Cmp.items (d := 3) r1 r2 fun i x y hx hy u v ru rv => (he i x y hx hy).at I (by show X.A.units + 1 + 3 < _; omega) ru rv) _ _ _ _ ⟨.bl _, H, I, ?_, q⟩
    show Value.bool _ = Value.bool _
    rw [List.size_toArray, List.size_toArray, ← l1, ← l2, ← hl, Nat.min_self, beq_self_eq_true, Bool.and_true]
  | @lst d a b xs ys e h1 h2 hl he =>
    obtain ⟨us, r1, t1, _⟩ := I.list h1
    obtain ⟨vs, r2, t2, _⟩ := I.list h2
    have l1 := r1.length
    have l2 := r2.length
    refine SeqAt.RcNeAt.lists (e := e) t1.isList t2.isList (by rw [List.size_toArray, List.size_toArray]; omega) (by omega) (Cmp.items (d := 3) r1 r2 fun i x y hx hy u v ru rv => (he i x y hx hy).at I (by show X.A.units + 1 + 3 < _; omega) ru rv) _ _ _ _ ⟨.bl _, H, I, ?_, q⟩
    show Value.bool _ = Value.bool _
    rw [List.size_toArray, ← l1]
  | @lens d a b xs ys h1 h2 hl =>
    obtain ⟨us, r1, t1, _⟩ := I.list h1
    obtain ⟨vs, r2, t2, _⟩ := I.list h2
    have l1 := r1.length
    have l2 := r2.length
    exact SeqAt.RcNeAt.lists_lengths t1.isList t2.isList (by rw [List.size_toArray, List.size_toArray, ← l1, ← l2]; simpa using hl) (by omega) _ _ _ _ ⟨.bl _, H, I, rfl, q⟩
end
section
variable {σ : St} {H : Hp} {Q : VK} {K : PySem.W.Frag}
theorem rd_neFI {i j : Int} (h : rNe (.int i) (.int j) H Q) : rNeF K (.int i) (.int j) H Q := .inl (rd_neAI h)
theorem rd_neFS {i j : Str} (h : rNe (.str i) (.str j) H Q) : rNeF K (.str i) (.str j) H Q := .inl (rd_neAS h)
theorem rd_neF {a c : Addr} {b : Bool} (hc : Cmp K H 4 (.ref a) (.ref c) b) (h : Q (.bl (!b)) H) : rNeF K (.ref a) (.ref c) H Q := .inr ⟨a, c, b, rfl, rfl, hc, h⟩
theorem rd_eqF {a c : Addr} {b : Bool} (hc : Cmp K H 4 (.ref a) (.ref c) b) (h : Q (.bl b) H) : rEqF K (.ref a) (.ref c) H Q := .inr ⟨a, c, b, rfl, rfl, hc, h⟩
theorem Cmp.to {d : Nat} {x y : V} {b b' : Bool} (h : Cmp K H d x y b) (e : b = b') : Cmp K H d x y b' := e ▸ h
theorem Cmp.ints {d : Nat} {a b : Addr} {ns ms : List Int} (h1 : SqT K H a (ns.map V.int)) (h2 : SqT K H b (ms.map V.int)) (hl : ns.length = ms.length) : Cmp K H (d + 1) (.ref a) (.ref b) (decide (ns = ms)) := by
  refine (Cmp.tup (fun i => decide (ns[i]? = ms[i]?)) h1 h2 (by simpa using hl) fun i x y hx hy => ?_).to ?_
  · rw [List.getElem?_map] at hx hy
    cases ha : ns[i]? with
    | none => rw [ha] at hx; cases hx
    | some p =>
      cases hb : ms[i]? with
      | none => rw [hb] at hy; cases hy
      | some q =>
        rw [ha] at hx
        rw [hb] at hy
        cases hx
        cases hy
        refine (Cmp.flat (x := .int p) (y := .int q) rfl rfl).to ?_
        show (p == q) = decide (some p = some q)
        simp [BEq.beq]
  · rw [List.length_map]
    by_cases e : ns = ms
    · subst e
      rw [decide_eq_true rfl]
      exact allR fun i _ => decide_eq_true rfl
    · rw [decide_eq_false e]
      apply Bool.eq_false_iff.mpr
      intro z
      apply e
      apply List.ext_getElem?
      intro i
      rw [List.all_eq_true] at z
      by_cases hi : i < ns.length
      · exact of_decide_eq_true (z i (List.mem_range.mpr hi))
      · rw [List.getElem?_eq_none (by omega), List.getElem?_eq_none (by omega)]
theorem Cmp.words {d : Nat} {a b : Addr} {ws : List (Bool × Int)} (h1 : WordL H a ws) (h2 : WordL H b ws) : Cmp K H (d + 2) (.ref a) (.ref b) true := by
  obtain ⟨as, e1, l1, T1⟩ := h1
  obtain ⟨bs, e2, l2, T2⟩ := h2
  refine (Cmp.lst (fun _ => true) (SqL.of e1) (SqL.of e2) (by rw [List.length_map, List.length_map, l1, l2]) fun i x y hx hy => ?_).to (allR fun _ _ => rfl)
  rw [List.getElem?_map] at hx hy
  cases ha : as[i]? with
  | none => rw [ha] at hx; cases hx
  | some p =>
    cases hb : bs[i]? with
    | none => rw [hb] at hy; cases hy
    | some q =>
      rw [ha] at hx
      rw [hb] at hy
      cases hx
      cases hy
      obtain ⟨r, hr⟩ : ∃ r, ws[i]? = some r := ⟨_, List.getElem?_eq_getElem (by have := (List.getElem?_eq_some_iff.mp ha).1; omega)⟩
      refine (Cmp.tup (d := d) (fun _ => true) (SqT.of (T1 i p r ha hr)) (SqT.of (T2 i q r hb hr)) rfl fun j x y hx hy => ?_).to (allR fun _ _ => rfl)
      rw [hx] at hy
      cases hy
      match j, hx with
      | 0, hx => cases hx; exact (Cmp.flat rfl rfl).to (eqV_refl rfl)
      | 1, hx => cases hx; exact (Cmp.flat rfl rfl).to (eqV_refl rfl)
theorem Cmp.tabs {n : Nat} {t u a b c d : Addr} {x y z w x' y' z' w' : Int} (h1 : SqT K H t [.ref a, .ref b]) (h2 : SqT K H u [.ref c, .ref d]) (k1 : SqT K H a [.int x, .int y]) (k2 : SqT K H b [.int z, .int w]) (k3 : SqT K H c [.int x', .int y']) (k4 : SqT K H d [.int z', .int w']) :
    Cmp K H (n + 2) (.ref t) (.ref u) (decide (x = x' ∧ y = y' ∧ z = z' ∧ w = w')) := by
  refine (Cmp.tup (fun i => if i = 0 then decide ([x, y] = [x', y']) else decide ([z, w] = [z', w'])) h1 h2 rfl fun i p q hp hq => ?_).to ?_
  · match i, hp, hq with
    | 0, hp, hq => cases hp; cases hq; exact Cmp.ints k1 k3 rfl
    | 1, hp, hq => cases hp; cases hq; exact Cmp.ints k2 k4 rfl
  · show ((List.range 2).all _) = _
    simp [List.range_succ]
    grind
end
end L2
set_option maxRecDepth 100000
set_option maxHeartbeats 4000000
namespace L2
open PySem PySem.Spec PyProof.Rows
section
variable {X : Cx} {pins : List (Addr × Obj)} {scope : Scope} {x : Str} {ys : List Str} {cl : List (Str × Addr)} {ex : List Addr} {s : Shared} {H : Hp}
end
end L2
set_option maxRecDepth 100000
set_option maxHeartbeats 4000000
namespace L2
open PySem PySem.Spec PyProof.Rows
section
variable {prog : Program} {w : World} {A : Around} {E : Value → Shared → Prop} {s : Shared} {z TI TO i1 i2 : Addr} {f1 f2 : List Addr} {n1 n2 i : Nat} {P1 P2 : Nat → Value → Prop} {S1 S2 : Nat → Heap → Prop} {a b : Value}
end
section
variable {prog : Program} {w : World} {A : Around} {E : Value → Shared → Prop} {s : Shared}
variable {z TI TO i1 i2 : Addr} {f1 f2 : List Addr} {n1 n2 i : Nat} {P1 P2 : Nat → Value → Prop} {S1 S2 : Nat → Heap → Prop} {a b : Value}
end
section
variable {X : Cx}
end
section
variable {σ : St} {H : Hp} {Q : VK} {D : Ends} {K : PySem.W.Frag}
end
end L2
set_option maxRecDepth 100000
set_option maxHeartbeats 4000000
namespace HT
open PySem PySem.Spec PyProof.Rows
section
variable {prog : Program} {w : World} {A : Around} {E : Value → Shared → Prop} {s : Shared}
end
end HT
namespace L2
open PySem PySem.Spec PyProof.Rows
section
variable {X : Cx}
variable {H : Hp} {Q : VK} {K : PySem.W.Frag}
end
end L2
set_option maxRecDepth 100000
set_option maxHeartbeats 4000000
namespace L2
open PySem PySem.Spec PyProof.Rows
section
variable {X : Cx} {pins : List (Addr × Obj)} {scope : Scope} {x : Str} {ex : List Addr} {s : Shared} {H : Hp}
end
section
variable {X : Cx}
end
section
variable {σ : St} {H : Hp} {Q : VK} {K : PySem.W.Frag} {D : Ends}
end
end L2
set_option maxRecDepth 100000
set_option maxHeartbeats 4000000
namespace L2
open PySem PySem.Spec PyProof.Rows
section
variable {X : Cx} {pins : List (Addr × Obj)} {scope : Scope} {x : Str} {ys : List Str} {cl : List (Str × Addr)} {ex : List Addr} {s : Shared} {H : Hp}
end
section
variable {σ : St} {H : Hp} {Q : VK} {K : PySem.W.Frag} {D : Ends}
end
end L2
set_option maxRecDepth 100000
set_option maxHeartbeats 4000000
namespace L2
open PySem PySem.Spec PyProof.Rows
section
variable {X : Cx} {pins : List (Addr × Obj)} {scope : Scope} {x : Str} {ys : List Str} {cl : List (Str × Addr)} {ex : List Addr} {s : Shared} {H : Hp}
end
section
variable {X : Cx}
def rEqRS (K : PySem.W.Frag) : R2 := fun x y H Q => rEq x y H Q ∨ (∃ s, y = .str s ∧ ((∃ a, x = .ref a ∧ ((∃ xs, SqT K H a xs) ∨ ∃ xs, SqL K H a xs)) ∨ (∃ i, x = .int i) ∨ (∃ b, x = .bl b) ∨ x = .non) ∧ Q (.bl false) H)
theorem op_eqRS (hu : X.A.units < cLine) : OpR X (compareOp .Eq) (rEqRS X.K) := by
  refine op_eq.or ?_
  intro pins s σ H x y v u Q I rx ry h
  obtain ⟨t, rfl, hk, q⟩ := h
  obtain ⟨tk, rfl⟩ := ry
  rcases hk with ⟨a, rfl, ⟨xs, hk⟩ | ⟨xs, hk⟩⟩ | ⟨i, rfl⟩ | ⟨b, rfl⟩ | rfl
  · cases rx
    obtain ⟨us, r, p, _⟩ := I.tuple hk
    exact SeqAt.RcAt.tuple_str t tk p hu _ _ _ _ ⟨.bl false, H, I, rfl, q⟩
  · cases rx
    obtain ⟨us, r, p, _⟩ := I.list hk
    exact SeqAt.RcAt.list_str t tk p.isList hu _ _ _ _ ⟨.bl false, H, I, rfl, q⟩
  · obtain ⟨ti, rfl⟩ := rx
    exact SeqAt.RcAt.int_str i ti t tk _ _ _ _ ⟨.bl false, H, I, rfl, q⟩
  · obtain rfl := rx
    exact SeqAt.RcAt.bool_str b t tk _ _ _ _ ⟨.bl false, H, I, rfl, q⟩
  · obtain rfl := rx
    exact SeqAt.RcAt.none_str t tk _ _ _ _ ⟨.bl false, H, I, rfl, q⟩
variable {pins : List (Addr × Obj)} {W : Value → Option Addr → St → Hp → Prop}
end
section
variable {σ : St} {H : Hp} {Q : VK} {K : PySem.W.Frag} {D : Ends}
theorem rd_eqRSS {u t : Str} (h : Q (.bl (decide (u = t))) H) : rEqRS K (.str u) (.str t) H Q := .inl (rd_eqS h)
theorem rd_eqRSL {a : Addr} {xs : List V} {t : Str} (h1 : SqL K H a xs) (h : Q (.bl false) H) : rEqRS K (.ref a) (.str t) H Q := .inr ⟨t, rfl, .inl ⟨a, rfl, .inr ⟨xs, h1⟩⟩, h⟩
end
end L2
set_option maxRecDepth 100000
set_option maxHeartbeats 4000000
namespace L2
open PySem PySem.Spec PyProof.Rows
section
variable {prog : Program} {w : World} {A : Around} {s : Shared}
end
section
variable {X : Cx}
end
end L2
set_option maxRecDepth 100000
set_option maxHeartbeats 4000000
namespace L2
open PySem PySem.Spec PyProof.Rows
section
variable {X : Cx}
end
end L2
set_option maxRecDepth 100000
set_option maxHeartbeats 4000000
namespace L2
open PySem PySem.Spec PyProof.Rows
section
variable {X : Cx} {pins : List (Addr × Obj)} {scope : Scope} {x : Str} {ys : List Str} {cl : List (Str × Addr)} {ex : List Addr} {s : Shared} {H : Hp}
def rLenS : List V → Hp → VK → Prop := fun xs H Q => ∃ z, xs = [.str z] ∧ z.length ≤ sizeLine ∧ Q (.int z.length) H
theorem call_lenS : CallR X (.builtin "len") rLenS := call_len_str
end
section
variable {σ : St} {H : Hp} {Q : VK} {K : PySem.W.Frag}
end
end L2
set_option maxRecDepth 100000
set_option maxHeartbeats 4000000
namespace L2
open PySem PySem.Spec PyProof.Rows
section
variable {X : Cx}
end
section
variable {X : Cx} {P0 : List (Addr × Obj)} {S0 : Scope} {x0 : Str} {Y0 : List Str} {C0 : List (Str × Addr)} {E0 : List Addr} {s0 : Shared} {H0 : Hp}
end
end L2
set_option maxRecDepth 100000
set_option maxHeartbeats 4000000
namespace L2
open PySem PySem.Spec PyProof.Rows
section
variable {κ : Type} [DecidableEq κ]
end
section
variable {P : Program} {w : World} {H : Hp} {h : Heap} {a : Addr}
end
section
variable {X : Cx} {pins : List (Addr × Obj)} {σ : St} {H : Hp} {s : Shared} {a : Addr} {y v : V} {u r : Value} {o : Option V} {A : Around} {E : Value → Shared → Prop}
end
section
variable {X : Cx} {pins : List (Addr × Obj)} {σ : St} {H : Hp} {s : Shared} {a : Addr} {kvs : List (Key × V)} {k : Key} {u : Value} {A : Around} {E : Value → Shared → Prop}
end
section
variable {X : Cx} {o i e value : Expr} {pos pos' tpos : Pos} {td ty tv : TE}
end
section
variable {X : Cx} {pos : Pos}
end
section
variable {X : Cx} {pins : List (Addr × Obj)} {σ : St} {H : Hp} {s : Shared} {a : Addr} {y d : V} {u r : Value} {o : Option V} {A : Around} {E : Value → Shared → Prop}
end
section
variable {X : Cx} {o e f : Expr} {apos cpos : Pos} {td ty tx : TE}
end
section
variable {X : Cx} {pins : List (Addr × Obj)} {σ : St} {H : Hp} {s : Shared} {a : Addr} {kvs : List (Key × V)} {A : Around} {E : Value → Shared → Prop}
end
section
variable {X : Cx} {pins : List (Addr × Obj)} {σ : St} {H : Hp} {s : Shared} {a : Addr} {y : V} {u : Value} {A : Around} {E : Value → Shared → Prop}
end
section
variable {X : Cx}
end
section
variable {κ : Type} [DecidableEq κ]
end
end L2
set_option maxRecDepth 100000
set_option maxHeartbeats 4000000
namespace L2
open PySem PySem.Spec PyProof.Rows
structure VKind (prog : Program) (w : World) (K : Type) [DecidableEq K] where
  is : Heap → K → Value → Prop
  hash : K → Int
  draws : K → Nat
  deep : Nat
  like : K → K → Prop
  inj : ∀ {h : Heap} {v : Value} {x y : K}, is h x v → is h y v → x = y
  keeps : ∀ {h h' : Heap} {k : K} {v : Value} {d : Addr} {o : Obj} {es ep}, is h k v → h.get? d = some o → o.data = .dict es ep → Heap.SameBut d h h' → is h' k v
  pyHash : ∀ {A : Around} {E : Value → Shared → Prop} {s : Shared} {k : K} {v : Value} {Q : Int → Shared → Prop}, A.units + deep < cLine → is s.heap k v → Q (hash k) { s with toks := s.toks + draws k } → wpAny (model prog w) A (PySem.pyHash v) Q E s
  eqBool : ∀ {A : Around} {E : Value → Shared → Prop} {s : Shared} {x y : K} {u v : Value} {Q : Bool → Shared → Prop}, A.units + deep < cLine → like x y → is s.heap x u → is s.heap y v → Q (decide (x = y)) s → wpAny (model prog w) A (PySem.eqBool u v) Q E s
  quiet : ∀ {A : Around} {E : Value → Shared → Prop} {s : Shared} {k : K} {v : Value} {n : Nat} {Q : Bool → Shared → Prop}, deep ≤ n → is s.heap k v → Q true s → wpAny (model prog w) A (eqIsQuiet n v) Q E s
section
variable {prog : Program} {w : World} {K : Type} [DecidableEq K] (knd : VKind prog w K)
variable {knd}
variable {A : Around} {E : Value → Shared → Prop} {s : Shared}
end
end L2
set_option maxRecDepth 100000
set_option maxHeartbeats 4000000
namespace L2
open PySem PySem.Spec PyProof.Rows
abbrev PRow := Int × Int × List (Int × Int)
section
variable (P : Program) (w : World)
end
section
variable {P : Program} {w : World} {H : Hp} {h : Heap}
end
section
variable (P : Program) (w : World)
end
section
variable {P : Program} {w : World} {H : Hp} {h : Heap} {a : Addr} {xs : List (PRow × Addr × Value)}
end
section
variable {X : Cx} {o i value : Expr} {pos pos' : Pos} {td ty tv : TE}
end
section
variable {P : Program} {w : World} {K : PySem.W.Frag} {σ : St} {H : Hp} {Q : VK} {D : Ends} {td ty tv : TE}
end
end L2
set_option maxRecDepth 100000
set_option maxHeartbeats 4000000
namespace L2
open PySem PySem.Spec PyProof.Rows
section
variable {K : PySem.W.Frag} {H : Hp} {Q : VK}
end
end L2
set_option maxRecDepth 100000
set_option maxHeartbeats 4000000
namespace L2
open PySem PySem.Spec PyProof.Rows
section
variable {X : Cx}
end
section
variable {σ : St} {H : Hp} {Q : VK} {K : PySem.W.Frag}
end
end L2
set_option maxRecDepth 100000
set_option maxHeartbeats 4000000
namespace L2
open PySem PySem.Spec PyProof.Rows
end L2
set_option maxRecDepth 100000
set_option maxHeartbeats 4000000
namespace L2
open PySem PySem.Spec PyProof.Rows
end L2
set_option maxRecDepth 100000
set_option maxHeartbeats 4000000
namespace L2
open PySem PySem.Spec PyProof.Rows
theorem pick_down (its : List Value) : slicePick its.toArray none none (some (-1)) = its.reverse.toArray := by
  have e1 : (sliceBounds none none (some (-1)) its.toArray.size).1 = (its.length : Int) - 1 := by simp [sliceBounds]
  have e2 : (sliceBounds none none (some (-1)) its.toArray.size).2.1 = -1 := by simp [sliceBounds]
  have e3 : (sliceBounds none none (some (-1)) its.toArray.size).2.2 = -1 := rfl
  unfold slicePick
  rw [e1, e2, e3]
  congr 1
  unfold sliceRange
  have c : (if (-1 : Int) > 0 then (if (its.length : Int) - 1 < -1 then (-1 - ((its.length : Int) - 1) + -1 - 1) / -1 else 0) else (if (its.length : Int) - 1 > -1 then ((its.length : Int) - 1 - -1 - -1 - 1) / (- -1) else 0)).toNat = its.length := by
    rw [if_neg (by decide)]
    split
    · rw [show (- -1 : Int) = 1 from rfl, Int.ediv_one]; omega
    · omega
  simp only [c]
  apply List.ext_getElem?
  intro i
  have key : ∀ (l : List Nat), (∀ k ∈ l, k < its.length) → (l.filterMap fun k => its.toArray[k]?) = l.filterMap (fun k => its[k]?) := fun l _ => by simp
  rw [key _ (fun k hk => by
    obtain ⟨j, hj, rfl⟩ := List.mem_map.mp hk
    have := List.mem_range.mp hj
    omega)]
  have mapE : (List.range its.length).map (fun (k : Nat) => ((its.length : Int) - 1 + -1 * (k : Int)).toNat) = (List.range its.length).map fun k => its.length - 1 - k := by
    apply List.map_congr_left
    intro k hk
    have := List.mem_range.mp hk
    omega
  rw [mapE, List.filterMap_map]
  have : (List.range its.length).filterMap ((fun k => its[k]?) ∘ fun k => its.length - 1 - k) = its.reverse := by
    have h2 : ∀ n, n ≤ its.length → (List.range n).filterMap ((fun k => its[k]?) ∘ fun k => its.length - 1 - k) = its.reverse.take n := by
      intro n
      induction n with
      | zero => intro _; simp
      | succ n ih =>
        intro hn
        rw [List.range_succ, List.filterMap_append, ih (by omega), List.take_add_one, List.getElem?_reverse (by omega)]
        rw [List.getElem?_eq_getElem (show its.length - 1 - n < its.length by omega)]
        simp [List.filterMap, List.getElem?_eq_getElem (show its.length - 1 - n < its.length by omega)]
    rw [h2 _ (Nat.le_refl _), ← List.length_reverse, List.take_length]
  rw [this]
section
variable {X : Cx} {e : Expr} {te : TE} {st : Expr} {ts : TO} {p2 pos : Pos}
def kRv (K : PySem.W.Frag) (x : V) (k : Option Int) (H : Hp) (Q : VK) : Prop := k = some (-1) ∧ ∃ a xs, x = .ref a ∧ SqL K H a xs ∧ ∀ p, H p = none → Q (.ref p) (upd H p (.lst xs.reverse))
def tSlRv (K : PySem.W.Frag) (te : TE) (ts : TO) : TE := fun σ H Q => te σ H fun x H1 => ts σ H1 fun k H2 => kRv K x k H2 Q
theorem pe_sliceRv (he : PE X e te) (hst : PO X (some st) ts) : PE X (.Subscript e (.Slice none none (some st) p2) pos) (tSlRv X.K te ts) := by
  intro pins s σ H Q I h
  refine Subscript_ (thn (he pins s σ H _ I h) fun v s1 ⟨x, H1, I1, r1, q1⟩ => ?_)
  refine wpAny_Slice ?_
  rw [evalPart_none]
  refine wpAny_pure (wpAny_pure ?_)
  refine thn (hst pins s1 σ H1 _ I1 q1) fun vs s3 ⟨k, H3, I3, ps, q3⟩ => ?_
  obtain ⟨rfl, a, xs, rfl, hx, q⟩ := q3
  have I4 : Inv X pins σ H3 { s3 with heap := s3.heap.push { cls := .type "slice", data := .fields #[.none, .none, vs] } } := I3.kept (t' := s3.toks) fun b ob q => Heap.get?_push_of_some _ q
  cases r1
  obtain ⟨its, r, ht, hz⟩ := I4.list hx
  have hlen := r.length
  show wpAny (model X.prog X.w) X.A (subscriptTail e (.Slice none none (some st) p2) (.ref a) (.ref s3.heap.objs.size)) (EP X pins σ Q) X.xe { s3 with heap := s3.heap.push { cls := .type "slice", data := .fields #[.none, .none, vs] } }
  refine tail_any (ops := [.ref a, .ref s3.heap.objs.size]) (T := "list") ht.isList.typeIs slot_list_getitem.lookup ?_ (by with_unfolding_all rfl)
  refine wpAny_getItem_list_slice ht.isList (Heap.IsSliceOf.new ..) .none .none ps (by simp) ?_ (by rw [List.size_toArray] <;> omega)
  rw [pick_down]
  refine ⟨.ref _, _, I4.laid (t' := s3.toks) (o := .lst xs.reverse) (fun b ob q => Heap.get?_push_of_some _ q) (Nat.le_refl _) ?_, rfl, q _ (I4.hok.fresh (Nat.le_refl _))⟩
  exact ⟨by rw [List.length_reverse]; exact hz, _, 0, r.reverse, Heap.get?_push_size _ rfl⟩
end
section
variable {σ : St} {H : Hp} {Q : VK} {K : PySem.W.Frag}
theorem rd_slRv {te : TE} {ts : TO} (h : te σ H fun x H1 => ts σ H1 fun k H2 => kRv K x k H2 Q) : tSlRv K te ts σ H Q := h
theorem rd_kRv {a : Addr} {xs : List V} (h1 : SqL K H a xs) (h : ∀ p H', Same H H' → H p = none → H' p = some (.lst xs.reverse) → Q (.ref p) H') : kRv K (.ref a) (some (-1)) H Q := ⟨rfl, a, xs, rfl, h1, fun p hp => h p _ (Same.new hp _) hp upd_same⟩
end
end L2
set_option maxRecDepth 100000
set_option maxHeartbeats 4000000
namespace L2
open PySem PySem.Spec PyProof.Rows
section
variable {prog : Program} {w : World} {A : Around} {E : Value → Shared → Prop} {s : Shared}
end
section
variable {K : PySem.W.Frag} {H : Hp} {Q : VK}
end
end L2
set_option maxRecDepth 100000
set_option maxHeartbeats 4000000
namespace L2
open PySem PySem.Spec PyProof.Rows
end L2
set_option maxRecDepth 100000
set_option maxHeartbeats 4000000
namespace L2
open PySem PySem.Spec PyProof.Rows
section
variable {prog : Program} {w : World} {A : Around} {E : Value → Shared → Prop} {s : Shared} {it l a : Addr} {oe : Obj}
end
section
variable {X : Cx} {a : Addr} {oe : Obj} {pins : List (Addr × Obj)} {σ : St} {H : Hp} {s : Shared}
end
end L2
set_option maxRecDepth 100000
set_option maxHeartbeats 4000000
namespace L2
open PySem PySem.Spec PyProof.Rows
section
variable {X : Cx}
end
end L2
set_option maxRecDepth 100000
set_option maxHeartbeats 4000000
namespace L2
open PySem PySem.Spec PyProof.Rows
def rJoin (K : PySem.W.Frag) : V → List V → Hp → VK → Prop := fun x vs H Q => ∃ (sep : Str) (l : Addr) (ws : List Str), x = .str sep ∧ vs = [.ref l] ∧ SqL K H l (ws.map V.str) ∧ JoinOk sep ws = true ∧ Q (.str (Txt.join sep ws)) H
theorem strs_of : ∀ {ws : List Str} {us : List Value}, Vals (ws.map V.str) us → ∃ l : List (Str × Tok), us = strValues l ∧ l.map (·.1) = ws
  | [], us, r => by
    cases r
    exact ⟨[], rfl, rfl⟩
  | x :: xs, us, r => by
    cases r with
    | cons r1 r2 =>
      obtain ⟨t, rfl⟩ := r1
      obtain ⟨l, rfl, e⟩ := strs_of r2
      exact ⟨(x, t) :: l, rfl, by rw [List.map_cons, e]⟩
section
variable {X : Cx}
theorem mt_join : MtR X "str.join" (rJoin X.K) := by
  intro pins s σ H x vs v us Q I rx rv h
  obtain ⟨sep, l, ws, rfl, rfl, hq, hok, q⟩ := h
  obtain ⟨t, rfl⟩ := rx
  obtain ⟨u, rfl, ru⟩ := rv.one
  cases ru
  obtain ⟨its, r, p, hz⟩ := I.list hq
  obtain ⟨l', rfl, e⟩ := strs_of r
  exact SC.join p.isList e hok fun t' k => ⟨.str _, H, I.tok k, ⟨_, rfl⟩, q⟩
end
section
variable {σ : St} {H : Hp} {Q : VK} {K : PySem.W.Frag}
theorem rd_kJoin {sep : Str} {l : Addr} (ws : List Str) (h1 : SqL K H l (ws.map V.str)) (h2 : JoinOk sep ws = true) (h : Q (.str (Txt.join sep ws)) H) : rJoin K (.str sep) [.ref l] H Q := ⟨sep, l, ws, rfl, rfl, h1, h2, h⟩
theorem rd_kCompTL {te : TE} {a : Addr} {xs : List V} (ys : List V) (h1 : SqT K H a xs) (hlen : ys.length = xs.length) (hz : xs.length ≤ 1000) (he : ∀ (i : Nat) x y H' (Q' : VK), xs[i]? = some x → ys[i]? = some y → Same H H' → (∀ H2, Same H' H2 → Q' y H2) → te [some x] H' Q') (h : ∀ D H', Same H H' → H D = none → H' D = some (.lst ys) → Q (.ref D) H') : kCompT K te (.ref a) H Q := by
  refine ⟨a, rfl, ⟨xs, h1⟩, fun D hD => ⟨fun i m zs H' => m = xs.length - i ∧ i ≤ xs.length ∧ zs = ys.take i ∧ Same H H' ∧ H' D = some (.lst zs), ⟨xs.length, by simp, Nat.zero_le _, by simp, Same.new hD _, upd_same⟩, ?_⟩⟩
  rintro i m zs H' ⟨rfl, hi, rfl, hs, eD⟩
  refine ⟨eD, ?_⟩
  have q := hs.tup h1
  by_cases hlt : i < xs.length
  · refine .inr ⟨⟨xs, xs[i], q, by simp [hlt]⟩, ?_, fun x H2 y => ?_⟩
    · rw [List.length_take]
      exact small1000 (by omega)
    · obtain ⟨e, y⟩ := y
      subst e
      have hx := y xs q
      obtain ⟨z, hz'⟩ : ∃ z, ys[i]? = some z := ⟨_, List.getElem?_eq_getElem (by omega)⟩
      refine he i x z _ _ hx hz' hs fun H2 s2 => ⟨s2.obj eD, xs.length - (i + 1), by omega, rfl, hlt, ?_, (hs.trans s2).upd hD, upd_same⟩
      rw [List.take_add_one, hz']
      rfl
  · have e : i = xs.length := by omega
    subst e
    refine .inl ⟨⟨xs, q, Nat.le_refl _⟩, h D H' hs hD ?_⟩
    rw [← hlen, List.take_length] at eD
    exact eD
end
end L2
set_option maxRecDepth 100000
set_option maxHeartbeats 4000000
namespace L2
open PySem PySem.Spec PyProof.Rows
def rAddS : R2 := fun x y H Q => ∃ i j, x = .str i ∧ y = .str j ∧ i.length + j.length ≤ sizeLine ∧ Q (.str (i ++ j)) H
section
variable {X : Cx}
theorem op_addS : OpR X (binaryOp .Add) rAddS := op_add_str
end
section
variable {H : Hp} {Q : VK}
theorem rd_addS {i j : Str} (hz : i.length + j.length ≤ sizeLine) (h : Q (.str (i ++ j)) H) : rAddS (.str i) (.str j) H Q := ⟨i, j, rfl, rfl, hz, h⟩
end
end L2
set_option maxRecDepth 100000
set_option maxHeartbeats 4000000
namespace L2
open PySem PySem.Spec PyProof.Rows PySem.W
section
variable {prog : Program} {w : World} {A : Around} {E : Value → Shared → Prop} {hp : Heap} {gn : Array GenState} {dr : Drawn} {tk : Nat} {oS : OsState}
variable {nm qn : Str} {C N : Addr} {bs tl bmB : List Value} {hd0 : Bool} {sn : List Str} {sb : List Value} {ab : Bool} {col : Option Bool} {dd : Option Addr} {k0 k1 k2 k3 k5 : Option Value} {B nI iI : String}
end
end L2
set_option maxRecDepth 100000
set_option maxHeartbeats 4000000
namespace L2
open PySem PySem.Spec PyProof.Rows PySem.W Builtin Builtin.ObjectAttr
section
variable {prog : Program} {w : World} {A : Around} {E : Value → Shared → Prop} {hp : Heap} {gn : Array GenState} {dr : Drawn} {tk : Nat} {oS : OsState}
variable {nm qn : Str} {C N : Addr} {bs tl bmB : List Value} {hd0 : Bool} {sn : List Str} {sb : List Value} {ab : Bool} {col : Option Bool} {dd : Option Addr} {k0 k1 k2 k3 k5 : Option Value} {B nI iI : String}
end
section
variable {prog : Program} {w : World} {A : Around} {E : Value → Shared → Prop} {s : Shared} {K : PySem.W.Frag} {e C t : Addr} {fld : Str} {v : Value}
end
end L2
set_option maxRecDepth 100000
set_option maxHeartbeats 4000000
namespace L2
open PySem PySem.Spec PyProof.Rows PySem.W
section
variable {X : Cx} {pins : List (Addr × Obj)} {σ : St} {H : Hp} {s : Shared}
end
section
variable {X : Cx} {W : Value → Option Addr → St → Hp → Prop} {x : Str} {pos : Pos} {e : Expr} {es : List Expr} {t : TA}
end
end L2
set_option maxRecDepth 100000
set_option maxHeartbeats 4000000
namespace L2
open PySem PySem.Spec PyProof.Rows PySem.W
section
variable {P : Program} {w : World} {K : PySem.W.Frag} {mg : Str → Option Value} {base : Heap} {CX : CXT}
end
section
variable {X : Cx} {W : Value → Option Addr → St → Hp → Prop} {x : Str} {pos : Pos} {e : Expr} {es : List Expr} {t : TA}
end
end L2
set_option maxRecDepth 100000
set_option maxHeartbeats 4000000
namespace L2
open PySem PySem.Spec PyProof.Rows PySem.W
def rAnyB (K : PySem.W.Frag) : List V → Hp → VK → Prop := fun xs H Q => ∃ (p : Addr) (bs : List Bool), xs = [.ref p] ∧ SqL K H p (bs.map V.bl) ∧ Q (.bl (bs.any id)) H
theorem any_range : ∀ (bs : List Bool), (List.range bs.length).any (fun i => (bs[i]?).getD false) = bs.any id
  | [] => rfl
  | b :: r => by
    rw [List.length_cons, List.range_succ_eq_map, List.any_cons, List.any_map, List.any_cons]
    have := any_range r
    rw [← this]
    rfl
section
variable {X : Cx}
theorem call_anyB (hc : X.calm = true) : CallR X (.builtin "any") (rAnyB X.K) := by
  intro pins s σ H xs us Q I r h
  obtain ⟨p, bs, e, hq, q⟩ := h
  subst e
  obtain ⟨u, rfl, ru⟩ := vals1 r
  obtain rfl : u = Value.ref p := ru
  obtain ⟨its, rv, pl, hz⟩ := I.list hq
  refine call_any_walk (wpAny_pyIter_list pl.isList ?_)
  have hl : its.length = bs.length := by have := rv.length; rw [List.length_map] at this; omega
  have ne : p ≠ s.heap.objs.size := by
    obtain ⟨o, _, e, _⟩ := pl
    exact Nat.ne_of_lt (Heap.lt_size e)
  refine ⟨s.heap.objs.size, _, _, _, _, _, fun i => (bs[i]?).getD false, rfl, Walks.list (A := X.A.in1) (show X.A.in1.handled = none from I.ok.hd hc) _ p ne its.toArray, ⟨⟨_, Heap.get?_push_size _ rfl, rfl, rfl⟩, ?_⟩, ?_, fun h' tk hk => ?_⟩
  · obtain ⟨o, n, e, c, d, dd⟩ := pl
    exact ⟨o, Heap.get?_push_of_some _ e, c, n, dd⟩
  · intro i v s1 Q1 E1 hP hQ
    rw [List.getElem?_toArray] at hP
    have hi : i < bs.length := by have := (List.getElem?_eq_some_iff.mp hP).1; omega
    obtain ⟨b, hb⟩ : ∃ b, bs[i]? = some b := ⟨_, List.getElem?_eq_getElem hi⟩
    obtain ⟨u, hu, ru⟩ := rv.get (i := i) (x := .bl b) (by rw [List.getElem?_map, hb]; rfl)
    rw [hP] at hu
    cases hu
    obtain rfl : v = Value.bool b := ru
    refine wpAny_truthy_bool ?_
    have hQ' : Q1 ((bs[i]?).getD false) s1 := hQ
    rw [hb] at hQ'
    exact hQ'
  · have ea : (List.range its.toArray.size).any (fun i => (bs[i]?).getD false) = bs.any id := by
      rw [List.size_toArray, hl]
      exact any_range bs
    rw [ea]
    refine ⟨.bl (bs.any id), H, I.kept (h' := h') (t' := tk) fun b o e => hk b o ?_ (Heap.get?_push_of_some _ e), rfl, q⟩
    intro z
    have z' : b = s.heap.objs.size := by simpa using z
    exact absurd (z' ▸ Heap.lt_size e) (Nat.lt_irrefl _)
end
end L2
set_option maxRecDepth 100000
set_option maxHeartbeats 4000000
namespace L2
open PySem PySem.Spec PyProof.Rows PySem.W Builtin Builtin.Str
section
variable {X : Cx}
theorem strs_vals : ∀ {l : List (Str × Tok)}, Vals ((l.map (·.1)).map V.str) (strValues l)
  | [] => .nil
  | (x, t) :: l => .cons ⟨t, rfl⟩ (strs_vals (l := l))
def rSplit : V → List V → Hp → VK → Prop := fun x vs H Q => ∃ (a b : Str), x = .str a ∧ vs = [.str b] ∧ (b.length == 0) = false ∧ a.length ≤ sizeLine ∧ (Txt.split a b).length ≤ sizeLine ∧ ∀ D, H D = none → Q (.ref D) (upd H D (.lst ((Txt.split a b).map V.str)))
theorem mt_split : MtR X "str.split" rSplit := by
  intro pins s σ H x vs v us Q I rx rv h
  obtain ⟨a, b, rfl, rfl, hb, hz, hn, q⟩ := h
  obtain ⟨t, rfl⟩ := rx
  obtain ⟨u, rfl, ru⟩ := rv.one
  obtain ⟨u', rfl⟩ := ru
  have new : ∀ (l : List (Str × Tok)) (k : Nat), l.map (·.1) = Txt.split a b → EP X pins σ Q (.ref s.heap.objs.size) { s with heap := s.heap.push { cls := .type "list", data := .seq (strValues l).toArray }, toks := k } := fun l k e =>
    ⟨.ref s.heap.objs.size, _, I.laid (t' := k) (o := .lst ((Txt.split a b).map V.str)) (fun b ob q => Heap.get?_push_of_some _ q) (Nat.le_refl _) ⟨by rw [List.length_map]; exact hn, strValues l, 0, by rw [← e]; exact strs_vals, Heap.get?_push_size _ rfl⟩, rfl, q _ (I.hok.fresh (Nat.le_refl _))⟩
  cases h1 : (decide (a.length < b.length) || decide (strKind a < strKind b))
  · cases hf : (occurrences a b 0 a.length (a.length + 1)).isEmpty
    · have es : Txt.split a b = partsBetween a (occurrences a b 0 a.length (a.length + 1)) b.length := (if_neg (ne_true_of_eq_false h1)).trans (if_neg (ne_true_of_eq_false hf))
      refine call_meets F.slot_str_split (typeIs_str _ _ _) F.entry_str_split (F.args_str_split_2 _ _) (meets_str_split_sep a b t u' h1 hb hf hz (by rw [← es]; exact hn)) ?_
      show wants (EP X pins σ Q) X.xe _ { s with toks := _, heap := s.heap.push { cls := .type "list", data := .seq (strsFrom s.toks (partsBetween a (occurrences a b 0 a.length (a.length + 1)) b.length)).toArray } }
      rw [strsFrom_eq]
      exact new _ _ ((numbered_texts _ _).trans es.symm)
    · exact call_meets F.slot_str_split (typeIs_str _ _ _) F.entry_str_split (F.args_str_split_2 _ _) (meets_str_split_not_found a b t u' h1 hb hf) (new [(a, t)] s.toks ((if_neg (ne_true_of_eq_false h1)).trans (if_pos hf)).symm)
  · exact call_meets F.slot_str_split (typeIs_str _ _ _) F.entry_str_split (F.args_str_split_2 _ _) (meets_str_split_cannot_occur a b t u' h1) (new [(a, t)] s.toks (if_pos h1).symm)
def rStarts : V → List V → Hp → VK → Prop := fun x vs H Q => ∃ (a b : Str), x = .str a ∧ vs = [.str b] ∧ Q (.bl (Txt.startswith a b)) H
theorem mt_starts : MtR X "str.startswith" rStarts := by
  intro pins s σ H x vs v us Q I rx rv h
  obtain ⟨a, b, rfl, rfl, q⟩ := h
  obtain ⟨t, rfl⟩ := rx
  obtain ⟨u, rfl, ru⟩ := rv.one
  obtain ⟨u', rfl⟩ := ru
  exact SC.startswith ⟨.bl _, H, I, rfl, q⟩
def rSlS : V → Option Int → Option Int → Hp → VK → Prop := fun x lo hi H Q => ∃ a, x = .str a ∧ a.length ≤ sizeLine ∧ Q (.str (Txt.slice a lo hi)) H
theorem sl_str : SlR X rSlS := by
  intro pins s σ H x v vl vu lo hi sl Q I rx hs pl pu h
  obtain ⟨a, rfl, hz, q⟩ := h
  obtain ⟨t, rfl⟩ := rx
  refine ⟨"str", _, F.slot_str_getitem.lookup, typeIs_str _ _ _, ?_⟩
  have go : ∀ (l u : Option (Int × Tok)), vl = partValue l → vu = partValue u → l.map (·.1) = lo → u.map (·.1) = hi → wpAny (model X.prog X.w) X.A (getItem (.str a t) (.ref sl)) (EP X pins σ Q) X.xe s := fun l u e1 e2 e3 e4 => by
    subst e1 e2 e3 e4
    refine wpAny_getItem_str_slice (l := l) (u := u) (st := none) hs rfl (post_val_or_str ⟨Nat.le_trans (Txt.slice_le a _ _) hz, fun t' k => ?_⟩)
    exact ⟨.str _, H, I.tok k, ⟨_, rfl⟩, q⟩
  cases pl with
  | none =>
    cases pu with
    | none => exact go none none rfl rfl rfl rfl
    | int j tj => exact go none (some (j, tj)) rfl rfl rfl rfl
  | int i ti =>
    cases pu with
    | none => exact go (some (i, ti)) none rfl rfl rfl rfl
    | int j tj => exact go (some (i, ti)) (some (j, tj)) rfl rfl rfl rfl
end
end L2
set_option maxRecDepth 100000
set_option maxHeartbeats 4000000
namespace L2
open PySem PySem.Spec PyProof.Rows PySem.W
def Ist (x : Str) : It := ⟨fun i _ => i < x.cps.size, fun i H v H' => H' = H ∧ ∃ c, x.cps[i]? = some c ∧ v = .str ⟨#[c]⟩, fun i _ => x.cps.size ≤ i⟩
theorem turn_str {P : Program} {w : World} {K : PySem.W.Frag} {tg : Expr} (it : Addr) (x : Str) (t : Tok) : Turn P w K tg (Ist x) [it] it (fun i h => h.IsStrIter it "str_ascii_iterator" x t i) where
  mem := by simp
  obj := fun i h st b hb => by
    have e : b = it := by simpa using hb
    subst e
    obtain ⟨o, e, c, d⟩ := st
    exact ⟨o, e, fun v z => by rw [d] at z; cases z⟩
  keep := fun i h h' st k => by
    obtain ⟨o, e, r⟩ := st
    exact ⟨o, k it (by simp) o e, r⟩
  item := by
    intro X hP hw hK hc i pins s σ H E I hf st hg
    subst hP hw hK
    obtain ⟨f0, f1, f2, f3, f4, f5⟩ := hf it (by simp)
    refine (Walks.strAscii (prog := X.prog) (w := X.w) (I.ok.hd hc) it x t).item i s _ _ hg st fun v h' tk hv st' kk => ?_
    obtain ⟨c, u, hcu, rfl⟩ := hv
    have I1 : Inv X pins σ H { s with heap := h', toks := tk } := I.turned (fun b o hb e => kk b o (by simpa using hb) e) f0 f1 f3 f4 f5
    obtain ⟨o, e, c1, d⟩ := id st'
    exact ⟨_, rfl, go_of (s := { s with heap := h', toks := tk }) e c1 d (by decide) ⟨.str ⟨#[c]⟩, H, I1, ⟨u, rfl⟩, ⟨rfl, c, hcu, rfl⟩, st', fun b hb => (hf b hb).1⟩⟩
  done := by
    intro X hP hw hK hc i pins s σ H E I hf st hg
    subst hP hw hK
    obtain ⟨f0, f1, f2, f3, f4, f5⟩ := hf it (by simp)
    have hg : x.cps.size ≤ i := hg
    exact wpAny_pyNext_ascii_end (I.ok.hd hc) st (by simp [hg]) fun h' eb => ⟨rfl, I.turned (t' := s.toks) (fun b o hb e => eb b o hb e) f0 f1 f3 f4 f5⟩
  self := fun _ _ _ _ _ st h => wpAny_pyIter_striter_ascii st h
def iStr (tl : TE) : TI := fun σ H R => tl σ H fun x H1 => ∃ a, x = .str a ∧ a.cps.all (· < 128) = true ∧ R (Ist a) H1
section
variable {X : Cx} {tg : Expr}
theorem pi_str {l : Expr} {tl : TE} (hl : PE X l tl) : PI X tg l (iStr tl) := by
  intro pins s σ H R I h
  refine thn (hl pins s σ H _ I h) fun v s1 ⟨x, H1, I1, r1, q1⟩ => ?_
  obtain ⟨a, e, ha, q⟩ := q1
  subst e
  obtain ⟨t, rfl⟩ := r1
  refine wpAny_pyIter_ascii ha ?_
  refine ⟨s1.heap.objs.size, [s1.heap.objs.size], _, _, H1, rfl, I1.kept (t' := s1.toks) fun b o e => Heap.get?_push_of_some _ e, turn_str _ a t, ⟨_, Heap.get?_push_size _ rfl, rfl, rfl⟩, fun b hb => ?_, q⟩
  have e : b = s1.heap.objs.size := by simpa using hb
  subst e
  exact I1.fpOk (Nat.le_refl _) (I1.hok.fresh (Nat.le_refl _))
end
section
variable {σ : St} {H : Hp} {Q : VK}
def kCompS (te : TE) (v : V) (H1 : Hp) (Q : VK) : Prop := ∃ a, v = .str a ∧ a.cps.all (· < 128) = true ∧ ∀ D, H1 D = none → ∃ W : Nat → Nat → List V → Hp → Prop, (∃ m, W 0 m [] (upd H1 D (.lst []))) ∧ ∀ i m ys H, W i m ys H → H D = some (.lst ys) ∧
  (((Ist a).stop i H ∧ Q (.ref D) H) ∨ ((Ist a).go i H ∧ ys.length < sizeLine ∧ ∀ x H', (Ist a).yld i H x H' → te [some x] H' fun y H2 => H2 D = some (.lst ys) ∧ ∃ m', m' < m ∧ W (i + 1) m' (ys ++ [y]) (upd H2 D (.lst (ys ++ [y])))))
theorem rd_compS {tl te : TE} (h : tl σ H fun x H1 => kCompS te x H1 Q) : tComp (iStr tl) te σ H Q := h
theorem rd_kCompS {te : TE} {a : Str} (g : Nat → V) (ha : a.cps.all (· < 128) = true) (hz : a.cps.size ≤ 1000) (he : ∀ (i c : Nat) H' (Q' : VK), a.cps[i]? = some c → Same H H' → (∀ H2, Same H' H2 → Q' (g c) H2) → te [some (.str ⟨#[c]⟩)] H' Q')
    (h : ∀ D H', Same H H' → H D = none → H' D = some (.lst (a.cps.toList.map g)) → Q (.ref D) H') : kCompS te (.str a) H Q := by
  refine ⟨a, rfl, ha, fun D hD => ⟨fun i m zs H' => m = a.cps.size - i ∧ i ≤ a.cps.size ∧ zs = (a.cps.toList.take i).map g ∧ Same H H' ∧ H' D = some (.lst zs), ⟨a.cps.size, by simp, Nat.zero_le _, by simp, Same.new hD _, upd_same⟩, ?_⟩⟩
  rintro i m zs H' ⟨rfl, hi, rfl, hs, eD⟩
  refine ⟨eD, ?_⟩
  by_cases hlt : i < a.cps.size
  · refine .inr ⟨hlt, ?_, fun x H2 y => ?_⟩
    · rw [List.length_map, List.length_take]
      exact small1000 (by omega)
    · obtain ⟨e, c, hc, rfl⟩ := y
      subst e
      refine he i c _ _ hc hs fun H2 s2 => ⟨s2.obj eD, a.cps.size - (i + 1), by omega, rfl, hlt, ?_, (hs.trans s2).upd hD, upd_same⟩
      have hc' : a.cps.toList[i]? = some c := by rw [Array.getElem?_toList]; exact hc
      rw [List.take_add_one, hc', List.map_append]
      rfl
  · have e : i = a.cps.size := by omega
    subst e
    refine .inl ⟨Nat.le_refl _, h D H' hs hD ?_⟩
    rw [show a.cps.size = a.cps.toList.length from rfl, List.take_length] at eD
    exact eD
theorem rd_split {a b : Str} (hb : (b.length == 0) = false) (hz : a.length ≤ sizeLine) (ws : List Str) (hw : Txt.split a b = ws) (hn : ws.length ≤ sizeLine) (h : ∀ D H', Same H H' → H D = none → H' D = some (.lst (ws.map V.str)) → Q (.ref D) H') : rSplit (.str a) [.str b] H Q := by
  subst hw
  exact ⟨a, b, rfl, rfl, hb, hz, hn, fun D hD => h D _ (Same.new hD _) hD upd_same⟩
theorem rd_starts {a b : Str} (h : Q (.bl (Txt.startswith a b)) H) : rStarts (.str a) [.str b] H Q := ⟨a, b, rfl, rfl, h⟩
theorem rd_slS {a : Str} {lo hi : Option Int} (hz : a.length ≤ sizeLine) (h : Q (.str (Txt.slice a lo hi)) H) : rSlS (.str a) lo hi H Q := ⟨a, rfl, hz, h⟩
end
end L2
set_option maxRecDepth 100000
set_option maxHeartbeats 4000000
namespace L2
open PySem PySem.Spec PyProof.Rows PySem.W
def rIntT : List V → Hp → VK → Prop := fun xs H Q => ∃ (x : Str) (n : Int), xs = [.str x] ∧ PySem.intText? x = some n ∧ x.length ≤ 640 ∧ Q (.int n) H
section
variable {X : Cx} {pos : Pos}
theorem call_intT : CallR X (.type "int") rIntT := by
  intro pins s σ H xs us Q I r h
  obtain ⟨x, n, rfl, hn, hl, q⟩ := h
  obtain ⟨u, rfl, ru⟩ := vals1 r
  obtain ⟨t, rfl⟩ := ru
  exact KIN.call_text hn hl ⟨.int n, H, I.tok _, ⟨_, rfl⟩, q⟩
end
section
variable {σ : St} {H : Hp} {Q : VK}
theorem rd_intT {x : Str} {n : Int} (h1 : PySem.intText? x = some n) (h2 : x.length ≤ 640) (h : Q (.int n) H) : rIntT [.str x] H Q := ⟨x, n, rfl, h1, h2, h⟩
end
def half {α : Type} : List α → List α
  | [] => []
  | [x] => [x]
  | x :: _ :: r => x :: half r
theorem half_drop {α : Type} (l : List α) : ∀ (m k : Nat), m = (l.length - k + 1) / 2 → (List.range m).filterMap (fun i => l[k + 2 * i]?) = half (l.drop k)
  | 0, k, h => by
    rw [List.drop_eq_nil_of_le (by omega)]
    rfl
  | m + 1, k, h => by
    have hk : k < l.length := by omega
    rw [List.range_succ_eq_map, List.filterMap_cons]
    have e0 : l[k + 2 * 0]? = some l[k] := by rw [show k + 2 * 0 = k by omega]; exact List.getElem?_eq_getElem hk
    rw [e0, List.filterMap_map]
    have ih := half_drop l m (k + 2) (by omega)
    have ef : (fun i => l[k + 2 + 2 * i]?) = ((fun i => l[k + 2 * i]?) ∘ Nat.succ) := by
      funext i
      show l[k + 2 + 2 * i]? = l[k + 2 * (i + 1)]?
      congr 1
      omega
    rw [← ef]
    dsimp only
    rw [ih]
    rw [List.drop_eq_getElem_cons hk]
    cases hd : l.drop (k + 1) with
    | nil =>
      rw [List.drop_eq_nil_of_le (by have := congrArg List.length hd; rw [List.length_drop, List.length_nil] at this; omega)]
      rfl
    | cons y r =>
      have : l.drop (k + 2) = r := by
        rw [show k + 2 = (k + 1) + 1 by omega, ← List.drop_drop, hd]
        rfl
      rw [this]
      rfl
theorem half_map {α β : Type} (f : α → β) : ∀ l : List α, half (l.map f) = (half l).map f
  | [] => rfl
  | [_] => rfl
  | x :: _ :: r => by
    show f x :: half (r.map f) = f x :: (half r).map f
    rw [half_map f r]
theorem half_len {α : Type} : ∀ l : List α, (half l).length ≤ l.length
  | [] => Nat.le_refl _
  | [_] => Nat.le_refl _
  | x :: y :: r => by
    have := half_len r
    show (half r).length + 1 ≤ r.length + 1 + 1
    omega
theorem pick_two (its : List Value) (k : Nat) (hk : k ≤ 1) : slicePick its.toArray (some (k : Int)) none (some 2) = (half (its.drop k)).toArray := by
  have e1 : (sliceBounds (some (k : Int)) none (some 2) its.toArray.size).1 = ((min k its.length : Nat) : Int) := by
    have z : ¬ ((k : Int) < 0) := by omega
    show (if (2 : Int) > 0 then max 0 (min (if (k : Int) < 0 then (k : Int) + (its.toArray.size : Int) else (k : Int)) (its.toArray.size : Int)) else max (-1) (min (if (k : Int) < 0 then (k : Int) + (its.toArray.size : Int) else (k : Int)) ((its.toArray.size : Int) - 1))) = _
    rw [if_pos (by decide), if_neg z, List.size_toArray]
    omega
  have e2 : (sliceBounds (some (k : Int)) none (some 2) its.toArray.size).2.1 = (its.length : Int) := by simp [sliceBounds]
  have e3 : (sliceBounds (some (k : Int)) none (some 2) its.toArray.size).2.2 = 2 := rfl
  unfold slicePick
  rw [e1, e2, e3]
  congr 1
  unfold sliceRange
  have c : (if (2 : Int) > 0 then (if ((min k its.length : Nat) : Int) < its.length then ((its.length : Int) - (min k its.length : Nat) + 2 - 1) / 2 else 0) else (if ((min k its.length : Nat) : Int) > its.length then (((min k its.length : Nat) : Int) - its.length - 2 - 1) / (-2) else 0)).toNat = (its.length - k + 1) / 2 := by
    rw [if_pos (by decide)]
    split <;> omega
  simp only [c]
  rw [List.filterMap_map]
  rw [← half_drop its _ k rfl]
  have fc : ∀ (l : List Nat) (f g : Nat → Option Value), (∀ i ∈ l, f i = g i) → l.filterMap f = l.filterMap g := fun l f g h => by
    induction l with
    | nil => rfl
    | cons x r ih => rw [List.filterMap_cons, List.filterMap_cons, h x (List.mem_cons_self), ih fun i hi => h i (List.mem_cons_of_mem _ hi)]
  refine fc _ _ _ fun i hi => ?_
  have := List.mem_range.mp hi
  show its.toArray[(((min k its.length : Nat) : Int) + 2 * (i : Int)).toNat]? = its[k + 2 * i]?
  rw [List.getElem?_toArray, show (((min k its.length : Nat) : Int) + 2 * (i : Int)).toNat = k + 2 * i by omega]
section
variable {X : Cx} {e : Expr} {te : TE} {lo st : Expr} {tl ts : TO} {p2 pos : Pos}
def kTwo (K : PySem.W.Frag) (x : V) (k j : Option Int) (H : Hp) (Q : VK) : Prop := j = some 2 ∧ ∃ (n : Nat) (a : Addr) (xs : List V), k = some (n : Int) ∧ n ≤ 1 ∧ x = .ref a ∧ SqL K H a xs ∧ ∀ p, H p = none → Q (.ref p) (upd H p (.lst (half (xs.drop n))))
def tSlTwo (K : PySem.W.Frag) (te : TE) (tl ts : TO) : TE := fun σ H Q => te σ H fun x H1 => tl σ H1 fun k H2 => ts σ H2 fun j H3 => kTwo K x k j H3 Q
theorem vals_half : ∀ {xs : List V} {us : List Value}, Vals xs us → Vals (half xs) (half us)
  | [], _, .nil => .nil
  | [_], _, .cons r .nil => .cons r .nil
  | _ :: _ :: _, _, .cons r (.cons _ r2) => .cons r (vals_half r2)
theorem pe_sliceTwo (he : PE X e te) (hlo : PO X (some lo) tl) (hst : PO X (some st) ts) : PE X (.Subscript e (.Slice (some lo) none (some st) p2) pos) (tSlTwo X.K te tl ts) := by
  intro pins s σ H Q I h
  refine Subscript_ (thn (he pins s σ H _ I h) fun v s1 ⟨x, H1, I1, r1, q1⟩ => ?_)
  refine wpAny_Slice ?_
  refine thn (hlo pins s1 σ H1 _ I1 q1) fun vl s2 ⟨k, H2, I2, pl, q2⟩ => ?_
  rw [evalPart_none]
  refine wpAny_pure ?_
  refine thn (hst pins s2 σ H2 _ I2 q2) fun vs s3 ⟨j, H3, I3, ps, q3⟩ => ?_
  obtain ⟨rfl, n, a, xs, rfl, hn, rfl, hx, q⟩ := q3
  have I4 : Inv X pins σ H3 { s3 with heap := s3.heap.push { cls := .type "slice", data := .fields #[vl, .none, vs] } } := I3.kept (t' := s3.toks) fun b ob q => Heap.get?_push_of_some _ q
  cases r1
  obtain ⟨its, r, ht, hz⟩ := I4.list hx
  have hlen := r.length
  show wpAny (model X.prog X.w) X.A (subscriptTail e (.Slice (some lo) none (some st) p2) (.ref a) (.ref s3.heap.objs.size)) (EP X pins σ Q) X.xe { s3 with heap := s3.heap.push { cls := .type "slice", data := .fields #[vl, .none, vs] } }
  refine tail_any (ops := [.ref a, .ref s3.heap.objs.size]) (T := "list") ht.isList.typeIs slot_list_getitem.lookup ?_ (by with_unfolding_all rfl)
  refine wpAny_getItem_list_slice ht.isList (Heap.IsSliceOf.new ..) pl .none ps (by simp) ?_ (by rw [List.size_toArray] <;> omega)
  rw [pick_two its n hn]
  refine ⟨.ref _, _, I4.laid (t' := s3.toks) (o := .lst (half (xs.drop n))) (fun b ob q => Heap.get?_push_of_some _ q) (Nat.le_refl _) ?_, rfl, q _ (I4.hok.fresh (Nat.le_refl _))⟩
  exact ⟨Nat.le_trans (half_len _) (by rw [List.length_drop]; omega), _, 0, vals_half (r.drop n), Heap.get?_push_size _ rfl⟩
end
section
variable {σ : St} {H : Hp} {Q : VK} {K : PySem.W.Frag}
theorem rd_slTwo {te : TE} {tl ts : TO} (h : te σ H fun x H1 => tl σ H1 fun k H2 => ts σ H2 fun j H3 => kTwo K x k j H3 Q) : tSlTwo K te tl ts σ H Q := h
theorem rd_kTwo {a : Addr} {xs : List V} {k : Int} (n : Nat) (hk : k = (n : Int)) (hn : n ≤ 1) (h1 : SqL K H a xs) (h : ∀ p H', Same H H' → H p = none → H' p = some (.lst (half (xs.drop n))) → Q (.ref p) H') : kTwo K (.ref a) (some k) (some 2) H Q := by
  subst hk
  exact ⟨rfl, n, a, xs, rfl, hn, rfl, h1, fun p hp => h p _ (Same.new hp _) hp upd_same⟩
end
end L2
set_option maxRecDepth 100000
set_option maxHeartbeats 4000000
namespace L2
open PySem PySem.Spec PyProof.Rows PySem.W
def rStrI : List V → Hp → VK → Prop := fun xs H Q => ∃ i : Int, xs = [.int i] ∧ i.natAbs.log2 < 1920 ∧ Q (.str (toString i)) H
def inS (i j : Str) : Bool := !(Builtin.Str.occurrences j i 0 j.length 1).isEmpty
def rInS : V → V → Hp → VK → Prop := fun x y H Q => ∃ i j, x = .str i ∧ y = .str j ∧ Q (.bl (inS i j)) H
def rNotInS : V → V → Hp → VK → Prop := fun x y H Q => ∃ i j, x = .str i ∧ y = .str j ∧ Q (.bl (!inS i j)) H
section
variable {X : Cx}
theorem call_strI : CallR X (.type "str") rStrI := call_str_int
theorem op_inS : OpR X (compareOp .In) rInS := op_in_str
end
section
variable {H : Hp} {Q : VK}
theorem rd_strI {i : Int} (h1 : i.natAbs.log2 < 1920) (h : Q (.str (toString i)) H) : rStrI [.int i] H Q := ⟨i, rfl, h1, h⟩
theorem rd_inS {i j : Str} (h : Q (.bl (inS i j)) H) : rInS (.str i) (.str j) H Q := ⟨i, j, rfl, rfl, h⟩
theorem rd_lenTx {z : Str} (hz : z.length ≤ sizeLine) (h : Q (.int z.length) H) : rLenS [.str z] H Q := ⟨z, rfl, hz, h⟩
theorem rd_tyS {K : PySem.W.Frag} {x : Str} {B : Prop} (h : B) : tyV K "str" (.str x) H ∧ B := ⟨rfl, h⟩
theorem inS_fig {c : Nat} (h : c < 128) : inS ⟨#[c]⟩ "0123456789" = (decide (48 ≤ c) && decide (c ≤ 57)) := by
  have key : (List.range 128).all (fun c => inS ⟨#[c]⟩ "0123456789" == (decide (48 ≤ c) && decide (c ≤ 57))) = true := by decide +kernel
  have := List.all_eq_true.mp key c (List.mem_range.mpr h)
  simpa using this
end
end L2
set_option maxRecDepth 100000
set_option maxHeartbeats 4000000
namespace L2
open PySem PySem.Spec PyProof.Rows PySem.W
theorem starts_one {t : Str} {c : Nat} : Txt.startswith t ⟨#[c]⟩ = true ↔ ∃ cs, t.cps.toList = c :: cs := by
  obtain ⟨⟨l⟩⟩ := t
  unfold Txt.startswith Builtin.Str.subAt
  cases l with
  | nil =>
    constructor
    · intro h
      have h1 := (Bool.and_eq_true_iff.mp h).1
      have h1 : 0 + 1 ≤ 0 := of_decide_eq_true h1
      omega
    · rintro ⟨cs, h⟩
      cases h
  | cons d r =>
    have e : (⟨d :: r⟩ : Array Nat).extract 0 (0 + (⟨#[c]⟩ : Str).length) = #[d] := by
      show (⟨d :: r⟩ : Array Nat).extract 0 1 = #[d]
      simp
    constructor
    · intro h
      have h2 := (Bool.and_eq_true_iff.mp h).2
      dsimp only at h2
      rw [e] at h2
      have h3 : (#[d] : Array Nat) = #[c] := beq_iff_eq.mp h2
      have : d = c := by simpa using h3
      exact ⟨r, by rw [this]⟩
    · rintro ⟨cs, h⟩
      have : d = c := (List.cons.inj h).1
      refine Bool.and_eq_true_iff.mpr ⟨decide_eq_true (show 0 + 1 ≤ r.length + 1 by omega), ?_⟩
      dsimp only
      rw [e, this]
      exact beq_self_eq_true _
theorem slice_one {t : Str} {c : Nat} {cs : List Nat} (h : t.cps.toList = c :: cs) : (Txt.slice t (some 1) none).cps.toList = cs := by
  have e : Txt.slice t (some 1) none = StrLaws.sliceText t (some 1) none := rfl
  rw [e, StrLaws.sliceText_from ⟨by decide, by rw [h]; simp only [List.length_cons]; omega⟩]
  show (t.cps.toList.drop 1).take _ = cs
  rw [h]
  simp only [List.length_cons]
  rw [show ((((cs.length + 1 : Nat) : Int) - 1).toNat) = cs.length by omega]
  exact List.take_length
def jl (c : Nat) : List (List Nat) → List Nat
  | [] => []
  | [w] => w
  | w :: v :: r => w ++ c :: jl c (v :: r)
theorem join_cps (c : Nat) : ∀ ws : List Str, (Str.join ⟨#[c]⟩ ws).cps.toList = jl c (ws.map fun w => w.cps.toList)
  | [] => rfl
  | [_] => rfl
  | w :: v :: r => by
    show ((w ++ ⟨#[c]⟩ ++ Str.join ⟨#[c]⟩ (v :: r)) : Str).cps.toList = w.cps.toList ++ c :: jl c ((v :: r).map fun w => w.cps.toList)
    rw [← join_cps c (v :: r), Str.cps_append, Str.cps_append, Array.toList_append, Array.toList_append]
    simp
theorem split_ne (x : Str) (c : Nat) : Txt.split x ⟨#[c]⟩ ≠ [] := fun h => by
  unfold Txt.split at h
  split at h
  · cases h
  · rename_i h1
    split at h
    · cases h
    · rename_i h2
      have := StrLaws.join_split x ⟨#[c]⟩
      unfold Txt.split at this
      rw [if_neg h1, if_neg h2, h] at this
      rw [← this] at h1
      exact h1 (Bool.or_eq_true_iff.mpr (.inl (decide_eq_true (show 0 < 1 by decide))))
end L2
set_option maxRecDepth 100000
set_option maxHeartbeats 4000000
namespace L2
open PySem PySem.Spec PyProof.Rows PySem.W PySem.NumText
def figs (t : Str) : Str := if Txt.startswith t "-" = true then Txt.slice t (some 1) none else t
def allFig (t : Str) : Bool := t.cps.toList.all fun c => decide (48 ≤ c) && decide (c ≤ 57)
def isNum (t : Str) : Bool := !decide (figs t = "") && decide ((figs t).length ≤ 60) && allFig (figs t) && (decide (t = "0") || !Txt.startswith (figs t) "0")
def Asc (t : Str) : Prop := t.cps.all (· < 128) = true
theorem Asc.at {t : Str} (h : Asc t) {i c : Nat} (hc : t.cps[i]? = some c) : c < 128 := by
  have := Array.all_eq_true_iff_forall_mem.mp h c (Array.mem_of_getElem? hc)
  simpa using this
theorem Asc.slice {t : Str} (h : Asc t) (l u : Option Int) : Asc (Txt.slice t l u) := by
  unfold Txt.slice
  split
  · exact h
  · refine Array.all_eq_true_iff_forall_mem.mpr fun c hc => ?_
    obtain ⟨i, _, hi⟩ := List.mem_filterMap.mp (List.mem_toArray.mp hc)
    simpa using h.at hi
theorem asc_figs {t : Str} (h : Asc t) : Asc (figs t) := by
  unfold figs
  split
  · exact h.slice _ _
  · exact h
theorem len_figs (t : Str) : (figs t).length ≤ t.length := by
  unfold figs
  split
  · exact Txt.slice_le _ _ _
  · exact Nat.le_refl _
def dg (m : Nat) : List Nat := (Nat.toDigits 10 m).map Char.toNat
def numL (n : Int) : List Nat := if n < 0 then 45 :: dg n.natAbs else dg n.natAbs
theorem num_cps (n : Int) : (Str.ofString (toString n)).cps.toList = numL n := by
  unfold numL
  split
  · rename_i h
    rw [signs_ofString, Int.toString_eq_repr, Int.repr_eq_if, if_neg (by omega)]
    rw [show (-n).toNat = n.natAbs by omega, String.toList_append, List.map_append, Nat.toList_repr]
    rfl
  · rename_i h
    obtain ⟨m, rfl⟩ := Int.eq_ofNat_of_zero_le (show 0 ≤ n by omega)
    exact KIN.signs_num m
theorem dg_digits (m : Nat) : AllDigits (dg m) := by
  intro c hc
  obtain ⟨ch, hch, e⟩ := List.mem_map.mp hc
  have r := digit_range (Nat.isDigit_of_mem_toDigits (by decide) (by decide) hch)
  rw [← e]
  exact r
theorem dg_len {m k : Nat} (hk : 0 < k) (h : m < 10 ^ k) : (dg m).length ≤ k := by
  unfold dg
  rw [List.length_map, ← Nat.toList_repr, String.length_toList]
  exact (Nat.length_repr_le_iff hk).mpr h
theorem num_signs {n : Int} {c : Nat} (h : c ∈ (Str.ofString (toString n)).cps.toList) : c = 45 ∨ (48 ≤ c ∧ c ≤ 57) := by
  rw [num_cps] at h
  unfold numL at h
  split at h
  · rcases List.mem_cons.mp h with z | z
    · exact .inl z
    · exact .inr (dg_digits _ c z)
  · exact .inr (dg_digits _ c h)
theorem num_asc (n : Int) : Asc (Str.ofString (toString n)) := by
  refine Array.all_eq_true_iff_forall_mem.mpr fun c hc => ?_
  have := num_signs (n := n) (Array.mem_toList_iff.mpr hc)
  simp only [decide_eq_true_eq]
  omega
theorem len_cps (t : Str) : t.length = t.cps.toList.length := rfl
theorem num_len_le {n : Int} {k : Nat} (hk : 0 < k) (h : n.natAbs < 10 ^ k) : (Str.ofString (toString n)).length ≤ k + 1 := by
  rw [len_cps, num_cps]
  have := dg_len hk h
  unfold numL
  split
  · simp only [List.length_cons]
    omega
  · omega
def numOf (t : Str) : Int := (PySem.intText? t).getD 0
theorem minus_eq : (Str.ofString "-") = ⟨#[45]⟩ := by decide +kernel
theorem zero_eq : (Str.ofString "0") = ⟨#[48]⟩ := by decide +kernel
theorem isNum_reads {t : Str} (h : isNum t = true) : PySem.intText? t = some (numOf t) ∧ t.length ≤ 61 := by
  unfold isNum at h
  simp only [Bool.and_eq_true, Bool.not_eq_true', decide_eq_false_iff_not, decide_eq_true_eq] at h
  obtain ⟨⟨⟨h1, h2⟩, h3⟩, _⟩ := h
  have ad : AllDigits (figs t).cps.toList := fun c hc => by
    have := List.all_eq_true.mp h3 c hc
    simpa using this
  have ne : (figs t).cps.toList ≠ [] := fun z => h1 (Str.ext' (Array.toList_inj.mp (by rw [z]; rfl)))
  by_cases z : Txt.startswith t (Str.ofString "-") = true
  · rw [minus_eq] at z
    obtain ⟨cs, hc⟩ := starts_one.mp z
    have e : figs t = Txt.slice t (some 1) none := by
      unfold figs
      rw [minus_eq, if_pos z]
    have ec := slice_one hc
    rw [← e] at ec
    rw [ec] at ad ne
    have lt : t.length ≤ 61 := by
      rw [len_cps] at h2 ⊢
      rw [ec] at h2
      rw [hc]
      simp only [List.length_cons]
      omega
    have := intText_neg hc ad ne (Nat.le_trans lt (by decide))
    unfold numOf
    rw [this]
    exact ⟨rfl, lt⟩
  · have e : figs t = t := by
      unfold figs
      rw [if_neg z]
    rw [e] at ad ne h2
    have := intText_digits ad ne (Nat.le_trans h2 (by decide))
    unfold numOf
    rw [this]
    exact ⟨rfl, by omega⟩
theorem sz_of {t : Str} {k : Nat} (h : t.length ≤ k) (hk : k ≤ 16000000) : t.length ≤ sizeLine := Nat.le_trans h (Nat.le_trans hk (by decide))
theorem len_app {a b : Str} {i j : Nat} (ha : a.length ≤ i) (hb : b.length ≤ j) : (a ++ b).length ≤ i + j := by
  rw [Str.length_append]
  omega
theorem rd_addT {i j : Str} {H : Hp} {Q : VK} (hz : (i ++ j).length ≤ sizeLine) (h : Q (.str (i ++ j)) H) : rAddS (.str i) (.str j) H Q := rd_addS (by rw [← Str.length_append]; exact hz) h
end L2
set_option maxRecDepth 100000
set_option maxHeartbeats 4000000
namespace L2
open PySem PySem.Spec PyProof.Rows
section
variable {σ : St} {H : Hp} {Q : VK} {K : PySem.W.Frag}
end
end L2
set_option maxRecDepth 100000
set_option maxHeartbeats 4000000
namespace L2
open PySem PyProof.Rows
def isI (p : Keyed) : Prop := ∃ n t, p.1 = Value.int n t
section
variable {prog : Program} {w : World} {A : Around} {E : Value → Shared → Prop} {s : Shared}
end
section
variable {R : Keyed → Keyed → Prop} {T o ra rb xs : List Keyed}
end
section
variable {prog : Program} {w : World} {A : Around} {E : Value → Shared → Prop} {s : Shared}
end
section
variable {prog : Program} {w : World} {A : Around} {E : Value → Shared → Prop} {s : Shared}
section
variable {a b out : Array Keyed} {T xs ys : List Keyed} {ia ib : Nat} {p : Keyed}
end
end
section
variable {prog : Program} {w : World} {A : Around} {E : Value → Shared → Prop} {s : Shared}
section
variable {a b out : Array Keyed} {T xs ys : List Keyed} {na nb : Nat} {p : Keyed}
end
end
section
variable {a₀ b0 : Array Keyed} {lo : Nat} {pd : Array (Nat × Nat × Nat)} {st : SortSt}
end
section
variable {prog : Program} {w : World} {A : Around} {E : Value → Shared → Prop} {s : Shared} {a₀ b0 : Array Keyed} {lo : Nat} {pd : Array (Nat × Nat × Nat)}
end
section
variable {prog : Program} {w : World} {A : Around} {E : Value → Shared → Prop} {s : Shared} {a₀ b0 : Array Keyed} {lo : Nat} {pd : Array (Nat × Nat × Nat)}
end
section
variable {prog : Program} {w : World} {A : Around} {E : Value → Shared → Prop} {s : Shared} {a₀ : Array Keyed}
end
section
variable {prog : Program} {w : World} {A : Around} {E : Value → Shared → Prop} {s : Shared}
end
end L2
namespace L2
open PySem PySem.Spec PyProof.Rows
section
variable {K : PySem.W.Frag} {H : Hp} {Q : VK}
end
end L2
set_option maxRecDepth 100000
set_option maxHeartbeats 4000000
namespace L2
open PySem PySem.Spec PyProof.Rows
section
variable {X : Cx}
end
section
variable {σ : St} {H : Hp} {Q : VK} {K : PySem.W.Frag}
end
end L2
set_option maxRecDepth 100000
set_option maxHeartbeats 4000000
namespace L2
open PySem PySem.Spec PyProof.Rows PySem.W Builtin Builtin.Str
section
variable {X : Cx}
def rFind : V → List V → Hp → VK → Prop := fun x vs H Q => ∃ a b : Str, x = .str a ∧ vs = [.str b] ∧ Q (.int (Txt.find a b)) H
theorem mt_find : MtR X "str.find" rFind := by
  intro pins s σ H x vs v us Q I rx rv h
  obtain ⟨a, b, rfl, rfl, q⟩ := h
  obtain ⟨t, rfl⟩ := rx
  obtain ⟨u, rfl, ru⟩ := rv.one
  obtain ⟨u', rfl⟩ := ru
  exact SC.find ⟨.int _, H, I.tok _, ⟨_, rfl⟩, q⟩
def rMulS : V → V → Hp → VK → Prop := fun x y H Q => ∃ (a : Str) (n : Int), x = .str a ∧ y = .int n ∧ MulOk a n ∧ Q (.str (Txt.mul a n)) H
theorem op_mulS : OpR X (binaryOp .Mult) rMulS := by
  intro pins s σ H x y v u Q I rx ry h
  obtain ⟨a, n, rfl, rfl, ok, q⟩ := h
  obtain ⟨t, rfl⟩ := rx
  obtain ⟨t', rfl⟩ := ry
  exact SB.mul ok fun t' k => ⟨.str _, H, I.tok _, ⟨_, rfl⟩, q⟩
theorem op_notInS : OpR X (compareOp .NotIn) rNotInS := by
  intro pins s σ H x y v u Q I rx ry h
  obtain ⟨i, j, rfl, rfl, q⟩ := h
  obtain ⟨t, rfl⟩ := rx
  obtain ⟨t', rfl⟩ := ry
  exact notIn_str (fin_bl I q rfl)
end
section
variable {σ : St} {H : Hp} {Q : VK} {K : PySem.W.Frag} {D : Ends}
theorem rd_find {a b : Str} (h : Q (.int (Txt.find a b)) H) : rFind (.str a) [.str b] H Q := ⟨a, b, rfl, rfl, h⟩
theorem rd_mulS {a : Str} {n : Int} (ok : MulOk a n) (h : Q (.str (Txt.mul a n)) H) : rMulS (.str a) (.int n) H Q := ⟨a, n, rfl, rfl, ok, h⟩
theorem rd_notInS {i j : Str} (h : Q (.bl (!inS i j)) H) : rNotInS (.str i) (.str j) H Q := ⟨i, j, rfl, rfl, h⟩
theorem rd_ixS {z : Str} {i : Int} (c : Nat) (hz : z.length ≤ sizeLine) (hc : atI z.cps.toList i = some c) (h : Q (.str ⟨#[c]⟩) H) : rIxS (.str z) (.int i) H Q := ⟨z, i, c, rfl, rfl, hz, hc, h⟩
def kIts (x : V) (H : Hp) (R : It → Hp → Prop) : Prop := ∃ a, x = .str a ∧ a.cps.all (· < 128) = true ∧ R (Ist a) H
theorem rd_forS {tl : TE} {g : TG} {tb : TS} (h : tl σ H fun x H1 => kIts x H1 fun J H2 => ∃ W : Nat → Nat → St → Hp → Prop, (∃ m, W 0 m σ H2) ∧ ∀ i m σ H, W i m σ H →
  (J.stop i H ∧ D.nx σ H) ∨ (J.go i H ∧ ∃ N : St → Hp → Prop, (∀ σ' H', N σ' H' → ∃ m', m' < m ∧ W (i + 1) m' σ' H') ∧ ∀ x H', J.yld i H x H' → g x σ H' fun σ2 H2 => tb { D with nx := N, ct := N, bk := D.nx } σ2 H2)) : tFor (iStr tl) g tb D σ H := h
theorem rd_kIts {a : Str} {R : It → Hp → Prop} (h1 : a.cps.all (· < 128) = true) (h : R (Ist a) H) : kIts (.str a) H R := ⟨a, rfl, h1, h⟩
theorem for_str {x : Str} {g : TG} {tb : TS} (Pv : Nat → St → Hp → Prop) (h0 : Pv 0 σ H)
    (hs : ∀ i c σ H, x.cps[i]? = some c → Pv i σ H → g (.str ⟨#[c]⟩) σ H fun σ2 H2 => tb { D with nx := Pv (i + 1), ct := Pv (i + 1), bk := D.nx } σ2 H2) (hd : ∀ σ H, Pv x.cps.size σ H → D.nx σ H) :
    ∃ W : Nat → Nat → St → Hp → Prop, (∃ m, W 0 m σ H) ∧ ∀ i m σ H, W i m σ H →
      ((Ist x).stop i H ∧ D.nx σ H) ∨ ((Ist x).go i H ∧ ∃ N : St → Hp → Prop, (∀ σ' H', N σ' H' → ∃ m', m' < m ∧ W (i + 1) m' σ' H') ∧ ∀ y H', (Ist x).yld i H y H' → g y σ H' fun σ2 H2 => tb { D with nx := N, ct := N, bk := D.nx } σ2 H2) := by
  refine ⟨fun i m σ H => m = x.cps.size - i ∧ i ≤ x.cps.size ∧ Pv i σ H, ⟨x.cps.size, by simp, Nat.zero_le _, h0⟩, ?_⟩
  rintro i m σ H ⟨rfl, hi, p⟩
  by_cases hlt : i < x.cps.size
  · refine .inr ⟨hlt, Pv (i + 1), fun σ' H' p' => ⟨x.cps.size - (i + 1), by omega, rfl, hlt, p'⟩, fun y H' q => ?_⟩
    obtain ⟨e, c, hc, rfl⟩ := q
    subst e
    exact hs i c σ _ hc p
  · have e : i = x.cps.size := by omega
    subst e
    exact .inl ⟨Nat.le_refl _, hd σ H p⟩
end
theorem slice_first (t : Str) : (Txt.slice t none (some 1)).cps.toList = t.cps.toList.take 1 := by
  have e : Txt.slice t none (some 1) = StrLaws.sliceText t none (some 1) := rfl
  obtain ⟨⟨l⟩⟩ := t
  cases l with
  | nil => rfl
  | cons c r =>
    unfold Txt.slice
    split
    · rename_i h
      have h : (strSliceIndices none (some 1) 1 (r.length + 1)).length = r.length + 1 := beq_iff_eq.mp (Bool.and_eq_true_iff.mp h).2
      have k : strSliceIndices none (some 1) 1 (r.length + 1) = [0] := by
        show sliceRange 0 (max 0 (min 1 ((r.length + 1 : Nat) : Int))) 1 = [0]
        rw [show max 0 (min 1 ((r.length + 1 : Nat) : Int)) = 1 by omega]
        rfl
      rw [k] at h
      have : r = [] := List.length_eq_zero_iff.mp (by simpa using h.symm)
      rw [this]
      rfl
    · have k : strSliceIndices none (some 1) 1 (r.length + 1) = [0] := by
        show sliceRange 0 (max 0 (min 1 ((r.length + 1 : Nat) : Int))) 1 = [0]
        rw [show max 0 (min 1 ((r.length + 1 : Nat) : Int)) = 1 by omega]
        rfl
      show (List.filterMap _ (strSliceIndices none (some 1) 1 (r.length + 1))).toArray.toList = _
      rw [k]
      rfl
theorem first_is {t : Str} {c : Nat} : Txt.slice t none (some 1) = ⟨#[c]⟩ ↔ Txt.startswith t ⟨#[c]⟩ = true := by
  rw [starts_one]
  have e := slice_first t
  constructor
  · intro h
    rw [h] at e
    cases hl : t.cps.toList with
    | nil => rw [hl] at e; cases e
    | cons d r =>
      rw [hl] at e
      have : c = d := (List.cons.inj e).1
      exact ⟨r, by rw [this]⟩
  · rintro ⟨r, h⟩
    refine Str.ext' (Array.toList_inj.mp ?_)
    rw [e, h]
    rfl
theorem jl_mem {c : Nat} : ∀ {ws : List (List Nat)} {w : List Nat} {x : Nat}, w ∈ ws → x ∈ w → x ∈ jl c ws
  | [w], _, _, h, hx => by
    rw [List.mem_singleton] at h
    subst h
    exact hx
  | w :: v :: r, u, x, h, hx => by
    show x ∈ w ++ c :: jl c (v :: r)
    rcases List.mem_cons.mp h with z | z
    · subst z
      exact List.mem_append_left _ hx
    · exact List.mem_append_right _ (List.mem_cons_of_mem _ (jl_mem z hx))
theorem jl_len {c : Nat} : ∀ {ws : List (List Nat)}, ws ≠ [] → (ws.map List.length).sum + ws.length = (jl c ws).length + 1
  | [], h => absurd rfl h
  | [w], _ => by simp [jl]
  | w :: v :: r, _ => by
    have := jl_len (c := c) (ws := v :: r) (by simp)
    show w.length + ((v :: r).map List.length).sum + ((v :: r).length + 1) = (w ++ c :: jl c (v :: r)).length + 1
    simp only [List.length_append, List.length_cons] at this ⊢
    omega
theorem mem_sum : ∀ {ws : List (List Nat)} {w : List Nat}, w ∈ ws → w.length ≤ (ws.map List.length).sum
  | v :: r, w, h => by
    show _ ≤ v.length + (r.map List.length).sum
    rcases List.mem_cons.mp h with z | z
    · subst z
      omega
    · have := mem_sum z
      omega
theorem split_cps (t : Str) (c : Nat) : jl c ((Txt.split t ⟨#[c]⟩).map fun w => w.cps.toList) = t.cps.toList := by
  rw [← join_cps, StrLaws.join_split]
theorem split_len (t : Str) (c : Nat) : (Txt.split t ⟨#[c]⟩).length ≤ t.length + 1 := by
  have h := jl_len (c := c) (ws := (Txt.split t ⟨#[c]⟩).map fun w => w.cps.toList) (fun z => split_ne t c (List.map_eq_nil_iff.mp z))
  rw [split_cps, List.length_map] at h
  rw [len_cps]
  omega
theorem split_piece {t w : Str} {c : Nat} (h : w ∈ Txt.split t ⟨#[c]⟩) : w.length ≤ t.length ∧ ∀ x ∈ w.cps.toList, x ∈ t.cps.toList := by
  have hm : w.cps.toList ∈ (Txt.split t ⟨#[c]⟩).map fun w => w.cps.toList := List.mem_map.mpr ⟨w, h, rfl⟩
  have hl := jl_len (c := c) (ws := (Txt.split t ⟨#[c]⟩).map fun w => w.cps.toList) (fun z => split_ne t c (List.map_eq_nil_iff.mp z))
  have hs := mem_sum hm
  have ne : 1 ≤ (Txt.split t ⟨#[c]⟩).length := by
    cases hz : Txt.split t ⟨#[c]⟩ with
    | nil => exact absurd hz (split_ne t c)
    | cons _ _ => simp
  rw [split_cps, List.length_map] at hl
  refine ⟨by rw [len_cps, len_cps]; omega, fun x hx => ?_⟩
  rw [← split_cps t c]
  exact jl_mem hm hx
theorem Asc.iff {t : Str} : Asc t ↔ ∀ x ∈ t.cps.toList, x < 128 := by
  unfold Asc
  rw [Array.all_eq_true_iff_forall_mem]
  constructor
  · intro h x hx
    simpa using h x (Array.mem_toList_iff.mp hx)
  · intro h x hx
    simpa using h x (Array.mem_toList_iff.mpr hx)
theorem Asc.split {t w : Str} {c : Nat} (a : Asc t) (h : w ∈ Txt.split t ⟨#[c]⟩) : Asc w := Asc.iff.mpr fun x hx => Asc.iff.mp a x ((split_piece h).2 x hx)
theorem isNum_val {t : Str} (h : isNum t = true) : numOf t = if Txt.startswith t "-" = true then -((PySem.NumText.digitsVal (figs t).cps.toList : Nat) : Int) else ((PySem.NumText.digitsVal (figs t).cps.toList : Nat) : Int) := by
  unfold isNum at h
  simp only [Bool.and_eq_true, Bool.not_eq_true', decide_eq_false_iff_not, decide_eq_true_eq] at h
  obtain ⟨⟨⟨h1, h2⟩, h3⟩, _⟩ := h
  have ad : NumText.AllDigits (figs t).cps.toList := fun c hc => by
    have := List.all_eq_true.mp h3 c hc
    simpa using this
  have ne : (figs t).cps.toList ≠ [] := fun z => h1 (Str.ext' (Array.toList_inj.mp (by rw [z]; rfl)))
  by_cases z : Txt.startswith t (Str.ofString "-") = true
  · rw [if_pos z]
    rw [minus_eq] at z
    obtain ⟨cs, hc⟩ := starts_one.mp z
    have e : figs t = Txt.slice t (some 1) none := by
      unfold figs
      rw [minus_eq, if_pos z]
    have ec := slice_one hc
    rw [← e] at ec
    rw [ec] at ad ne ⊢
    have lt : t.length ≤ 61 := by
      rw [len_cps] at h2 ⊢
      rw [ec] at h2
      rw [hc]
      simp only [List.length_cons]
      omega
    have := intText_neg hc ad ne (Nat.le_trans lt (by decide))
    unfold numOf
    rw [this]
    rfl
  · rw [if_neg z]
    have e : figs t = t := by
      unfold figs
      rw [if_neg z]
    rw [e] at ad ne h2 ⊢
    have := intText_digits ad ne (Nat.le_trans h2 (by decide))
    unfold numOf
    rw [this]
    rfl
theorem digits_lt : ∀ (l : List Nat) (n k : Nat), (∀ c ∈ l, 48 ≤ c ∧ c ≤ 57) → n < 10 ^ k → l.foldl (fun acc c => acc * 10 + (c - 48)) n < 10 ^ (k + l.length)
  | [], n, k, _, h => h
  | c :: l, n, k, hd, h => by
    rw [List.foldl_cons, List.length_cons, show k + (l.length + 1) = (k + 1) + l.length by omega]
    have := hd c List.mem_cons_self
    refine digits_lt l _ _ (fun x hx => hd x (List.mem_cons_of_mem _ hx)) ?_
    rw [Nat.pow_succ]
    omega
theorem isNum_lt {t : Str} (h : isNum t = true) : (numOf t).natAbs < 10 ^ 60 := by
  have e := isNum_val h
  unfold isNum at h
  simp only [Bool.and_eq_true, Bool.not_eq_true', decide_eq_false_iff_not, decide_eq_true_eq] at h
  obtain ⟨⟨⟨h1, h2⟩, h3⟩, _⟩ := h
  have ad : ∀ c ∈ (figs t).cps.toList, 48 ≤ c ∧ c ≤ 57 := fun c hc => by
    have := List.all_eq_true.mp h3 c hc
    simpa using this
  have k := digits_lt _ 0 0 ad (by decide)
  have k2 : 10 ^ (0 + (figs t).cps.toList.length) ≤ 10 ^ 60 := Nat.pow_le_pow_right (by decide) (by rw [len_cps] at h2; omega)
  have k3 : NumText.digitsVal (figs t).cps.toList < 10 ^ 60 := Nat.lt_of_lt_of_le k k2
  rw [e]
  split <;> omega
theorem find_fig {c : Nat} (h1 : 48 ≤ c) (h2 : c ≤ 57) : Txt.find "0123456789" ⟨#[c]⟩ = (c : Int) - 48 := by
  have key : (List.range 10).all (fun d => Txt.find "0123456789" ⟨#[48 + d]⟩ == (((48 + d : Nat) : Int) - 48)) = true := by decide +kernel
  have := List.all_eq_true.mp key (c - 48) (List.mem_range.mpr (by omega))
  rw [show 48 + (c - 48) = c by omega] at this
  simpa using this
end L2
set_option maxRecDepth 100000
set_option maxHeartbeats 4000000
namespace L2
open PySem PySem.Spec PyProof.Rows PySem.W Builtin Builtin.Str
def PE1 (X : Cx) (e : Expr) (t : TE) : Prop :=
  ∀ (pins : List (Addr × Obj)) (s : Shared) (σ : St) (H : Hp) (Q : VK), Inv X pins σ H s → 1 ≤ s.toks → t σ H Q → wpAny (model X.prog X.w) X.A (eval e X.env) (EP X pins σ Q) X.xe s
def PEp (X : Cx) (e : Expr) (t : TE) : Prop :=
  ∀ (pins : List (Addr × Obj)) (s : Shared) (σ : St) (H : Hp) (Q : VK), Inv X pins σ H s → t σ H Q → wpAny (model X.prog X.w) X.A (eval e X.env) (fun u s' => 1 ≤ s'.toks ∧ EP X pins σ Q u s') X.xe s
def PA1 (X : Cx) (es : List Expr) (t : TA) : Prop :=
  ∀ (pos : Pos) (pins : List (Addr × Obj)) (s : Shared) (σ : St) (H : Hp) (Q : List V → Hp → Prop), Inv X pins σ H s → 1 ≤ s.toks → t σ H Q → wpAny (model X.prog X.w) X.A (spliced (backTo pos (starEach es X.env))) (AP X pins σ Q) X.xe s
def tRepl (y z : Str) (to : TE) : TE := fun σ H Q => to σ H fun x H1 => ∃ a, x = .str a ∧ a.length + (a.length + 1) * z.length ≤ 16777216 ∧ Q (.str (Txt.replace a y z)) H1
section
variable {X : Cx} {e a b o : Expr} {es : List Expr} {t : TA} {te ta tb to : TE} {pos apos cpos : Pos}
theorem toks1 {α : Type} {M : Model} {A : Around} {s : Shared} {m : Sem α} {Q : α → Shared → Prop} {E : Value → Shared → Prop} (h1 : 1 ≤ s.toks) (h : wpAny M A m Q E s) : wpAny M A m (fun a s' => 1 ≤ s'.toks ∧ Q a s') E s :=
  wpAny_mono (wpAny_toks_of h1 h) (fun _ _ x => x) fun _ _ x => x.2
theorem pa_consP (ha : PEp X e te) (hr : PA1 X es t) (hs : starEach (e :: es) X.env = (false, eval e X.env) :: starEach es X.env := by rfl) : PA X (e :: es) (tCons te t) := by
  intro pos pins s σ H Q I h
  rw [hs]
  show wpAny _ _ (spliced ((false, eval e X.env) :: backTo pos (starEach es X.env))) _ _ s
  refine Calls.spliced_cons (thn (ha pins s σ H _ I h) fun u s1 ⟨t1, x, H1, I1, r1, q1⟩ => ?_)
  exact thn (hr pos pins s1 σ H1 _ I1 t1 q1) fun us s2 ⟨xs, H2, I2, r2, q2⟩ => ⟨x :: xs, H2, I2, .cons r1 r2, q2⟩
theorem pa_cons1 (ha : PE1 X e te) (hr : PA1 X es t) (hs : starEach (e :: es) X.env = (false, eval e X.env) :: starEach es X.env := by rfl) : PA1 X (e :: es) (tCons te t) := by
  intro pos pins s σ H Q I t0 h
  rw [hs]
  show wpAny _ _ (spliced ((false, eval e X.env) :: backTo pos (starEach es X.env))) _ _ s
  refine Calls.spliced_cons (thn (toks1 t0 (ha pins s σ H _ I t0 h)) fun u s1 ⟨t1, x, H1, I1, r1, q1⟩ => ?_)
  exact thn (hr pos pins s1 σ H1 _ I1 t1 q1) fun us s2 ⟨xs, H2, I2, r2, q2⟩ => ⟨x :: xs, H2, I2, .cons r1 r2, q2⟩
theorem pa_nil1 : PA1 X [] tNil := fun pos pins s σ H Q I _ h => pa_nil pos pins s σ H Q I h
theorem pe1_of (h : PE X e te) : PE1 X e te := fun pins s σ H Q I _ q => h pins s σ H Q I q
theorem pep_str {x j pos} : PEp X (.Constant (.str x) j pos) (tC (.str x)) := fun _ s _ H _ I h => Calls.Constant_str ⟨Nat.le_add_left 1 s.toks, .str x, H, I.tok _, ⟨_, rfl⟩, h⟩
theorem pep_op {op : Operator} {r : R2} (ho : OpR X (binaryOp op) r) (ha : PE X a ta) (hb : PEp X b tb) : PEp X (.BinOp a op b pos) (tOp r ta tb) := by
  intro pins s σ H Q I h
  refine wpAny_BinOp (thn (ha pins s σ H _ I h) fun v s1 ⟨x, H1, I1, rx, q1⟩ => thn (hb pins s1 σ H1 _ I1 q1) fun u s2 ⟨t2, y, H2, I2, ry, q2⟩ => toks1 t2 (ho pins s2 σ H2 x y v u Q I2 rx ry q2))
theorem pep_opL {op : Operator} {r : R2} (ho : OpR X (binaryOp op) r) (ha : PEp X a ta) (hb : PE X b tb) : PEp X (.BinOp a op b pos) (tOp r ta tb) := by
  intro pins s σ H Q I h
  refine wpAny_BinOp (thn (ha pins s σ H _ I h) fun v s1 ⟨t1, x, H1, I1, rx, q1⟩ => thn (toks1 t1 (hb pins s1 σ H1 _ I1 q1)) fun u s2 ⟨t2, y, H2, I2, ry, q2⟩ => toks1 t2 (ho pins s2 σ H2 x y v u Q I2 rx ry q2))
theorem pep_bm {name : Str} {id : String} {T' : String} {r : V → List V → Hp → VK → Prop} (pa : PlainAttrs T') (slot : Slot T' name id) (hty : typeOf (.builtin id) = pure (.type "method_descriptor")) (hm : MtR X id r) (ho : PEp X o to) (ha : PA X (e :: es) t)
    (hbase : attributeBase o name X.env (eval o X.env) = eval o X.env := by rfl)
    (hfew : ((backTo cpos (starEach (e :: es) X.env)).all (fun x => !x.1) && (backToKw cpos (keywordEach [] X.env)).all (fun x => x.1.isSome)
      && decide ((e :: es).length + ([] : List Keyword).length + (if ([] : List Keyword).isEmpty then 0 else 1) < 30)) = true := by rfl)
    (hline : (apos.endLine == cpos.line) = true := by rfl) (hs : starEach (e :: es) X.env = (false, eval e X.env) :: starEach es X.env := by rfl) (hplain : (backTo cpos (starEach es X.env)).any (·.1) = false := by rfl) :
    PEp X (.Call (.Attribute o name apos) (e :: es) [] cpos) (tBM X.K T' r to t) := by
  intro pins s σ H Q I h
  refine wpAny_Call_method_late hbase hfew hline rfl (thn (ho pins s σ H _ I h) fun v s1 ⟨t1, x, H1, I1, r1, ty, q1⟩ => ?_)
  obtain ⟨h1, h2⟩ := tyV_is I1 r1 ty
  refine ⟨T', id, pa, slot, hty, h1, h2, toks1 t1 ?_⟩
  have hA := ha cpos pins s1 σ H1 _ I1 q1
  rw [hs] at hA ⊢
  refine Calls.callWith_builtin (by show (false || (backTo cpos (starEach es X.env)).any (·.1)) = false; rw [hplain] <;> rfl) (Calls.evalArgs_plain ?_)
  exact thn hA fun us s2 ⟨vs, H2, I2, r2, q2⟩ => hm pins s2 σ H2 x vs v us Q I2 r1 r2 q2
theorem pe_repl {y z : Str} {j1 j2 : Nat} {p1 p2 : Pos} (ne : (y == z) = false) (ho : PE X o to)
    (hbase : attributeBase o "replace" X.env (eval o X.env) = eval o X.env := by rfl)
    (hfew : ((backTo cpos (starEach [.Constant (.str y) j1 p1, .Constant (.str z) j2 p2] X.env)).all (fun x => !x.1) && (backToKw cpos (keywordEach [] X.env)).all (fun x => x.1.isSome)
      && decide ([Expr.Constant (.str y) j1 p1, .Constant (.str z) j2 p2].length + ([] : List Keyword).length + (if ([] : List Keyword).isEmpty then 0 else 1) < 30)) = true := by rfl)
    (hline : (apos.endLine == cpos.line) = true := by rfl) (hs : starEach [.Constant (.str y) j1 p1, .Constant (.str z) j2 p2] X.env = [(false, eval (.Constant (.str y) j1 p1) X.env), (false, eval (.Constant (.str z) j2 p2) X.env)] := by rfl) :
    PE1 X (.Call (.Attribute o "replace" apos) [.Constant (.str y) j1 p1, .Constant (.str z) j2 p2] [] cpos) (tRepl y z to) := by
  intro pins s σ H Q I t0 h
  refine wpAny_Call_method_late hbase hfew hline rfl (thn (toks1 t0 (ho pins s σ H _ I h)) fun v s1 ⟨t1, x, H1, I1, r1, a, ex, hz, q⟩ => ?_)
  subst ex
  obtain ⟨t, rfl⟩ := r1
  refine ⟨"str", _, PySem.F.plainAttrs_str, PySem.F.slot_str_replace, PySem.F.type_str_replace, typeIs_str _ _ _, (fun _ z => nomatch z), ?_⟩
  rw [hs]
  refine Calls.callWith_builtin rfl (Calls.evalArgs_plain (Calls.spliced_cons (Calls.Constant_str (k := j1) (pos := p1) (Calls.spliced_cons (Calls.Constant_str (k := j2) (pos := p2) (Calls.spliced_nil ?_))))))
  exact SC.replace (Nat.ne_of_gt t1) (Nat.succ_ne_zero _) (Nat.ne_of_lt (Nat.lt_succ_self _)) ne hz fun t' k => ⟨.str _, H1, I1.tok _, ⟨_, rfl⟩, q⟩
end
section
variable {σ : St} {H : Hp} {Q : VK}
def kRepl (y z : Str) (x : V) (H : Hp) (Q : VK) : Prop := ∃ a, x = .str a ∧ a.length + (a.length + 1) * z.length ≤ 16777216 ∧ Q (.str (Txt.replace a y z)) H
theorem rd_repl {y z : Str} {to : TE} (h : to σ H fun x H1 => kRepl y z x H1 Q) : tRepl y z to σ H Q := h
theorem rd_kRepl {y z a : Str} (hz : a.length + (a.length + 1) * z.length ≤ 16777216) (h : Q (.str (Txt.replace a y z)) H) : kRepl y z (.str a) H Q := ⟨a, rfl, hz, h⟩
end
end L2
set_option maxRecDepth 100000
set_option maxHeartbeats 4000000
namespace L2
open PySem PySem.Spec PyProof.Rows
section
variable {σ : St} {H : Hp} {Q : VK} {K : PySem.W.Frag}
theorem rd_kCompTup2 {te : TE} {vs : St} {lo : Int} {n : Nat} (row : Int → List V) (hz : n ≤ 1000) (he : ∀ (i : Nat) (k : Int) H' (Q' : VK), i < n → k = lo + i → Same H H' → (∀ t H2, Same H' H2 → H2 t = some (.tup (row k)) → Q' (.ref t) H2) → te (some (.int k) :: vs) H' Q')
    (h : ∀ D H' (as : List Addr), Same H H' → H D = none → H' D = some (.lst (as.map V.ref)) → as.length = n → (∀ (j : Nat) (x : Addr), as[j]? = some x → H' x = some (.tup (row (lo + (j : Nat))))) → Q (.ref D) H') : kCompF te vs (Itr lo n) H Q := by
  intro D hD
  refine ⟨fun i m zs H' => m = n - i ∧ i ≤ n ∧ Same H H' ∧ ∃ as : List Addr, zs = as.map V.ref ∧ as.length = i ∧ H' D = some (.lst zs) ∧ ∀ (j : Nat) (x : Addr), as[j]? = some x → H' x = some (.tup (row (lo + (j : Nat)))), ⟨n, by simp, Nat.zero_le _, Same.new hD _, [], rfl, rfl, upd_same, fun j x z => by simp at z⟩, ?_⟩
  rintro i m zs H' ⟨rfl, hi, hs, as, rfl, hl, eD, hT⟩
  refine ⟨eD, ?_⟩
  by_cases hlt : i < n
  · refine .inr ⟨hlt, ?_, fun x H2 y => ?_⟩
    · rw [List.length_map, hl]
      exact small1000 (by omega)
    · obtain ⟨rfl, rfl⟩ := y
      refine he i _ _ _ hlt rfl hs fun t H2 s2 e2 => ⟨s2.obj eD, n - (i + 1), by omega, rfl, hlt, (hs.trans s2).upd hD, as ++ [t], by simp, by simp [hl], upd_same, fun j x hx => ?_⟩
      have key : H2 x = some (.tup (row (lo + (j : Nat)))) := by
        rcases Nat.lt_or_ge j as.length with z | z
        · rw [List.getElem?_append_left z] at hx
          exact s2.obj (hT j x hx)
        · rw [List.getElem?_append_right z] at hx
          have z0 : j - as.length = 0 := by
            rcases Nat.eq_zero_or_pos (j - as.length) with z1 | z1
            · exact z1
            · rw [List.getElem?_eq_none (by simp; omega)] at hx
              cases hx
          rw [z0] at hx
          cases hx
          rw [show j = i by omega]
          exact e2
      have ne : x ≠ D := fun z => by
        rw [z, s2.obj eD] at key
        cases key
      rw [upd_ne ne]
      exact key
  · have e : i = n := by omega
    subst e
    exact .inl ⟨Nat.le_refl _, h D H' as hs hD eD hl hT⟩
end
theorem half_get {α : Type} : ∀ (l : List α) (i : Nat), (half l)[i]? = l[2 * i]?
  | [], i => by simp [half]
  | [x], 0 => rfl
  | [x], i + 1 => by
    show ([x] : List α)[i + 1]? = ([x] : List α)[2 * (i + 1)]?
    rw [List.getElem?_eq_none (by simp), List.getElem?_eq_none (by simp; omega)]
  | x :: y :: r, 0 => rfl
  | x :: y :: r, i + 1 => by
    show (half r)[i]? = (x :: y :: r)[2 * (i + 1)]?
    rw [half_get r i, show 2 * (i + 1) = (2 * i + 1) + 1 by omega, List.getElem?_cons_succ, List.getElem?_cons_succ]
theorem half_length {α : Type} : ∀ (l : List α), (half l).length = (l.length + 1) / 2
  | [] => by simp [half]
  | [_] => by simp [half]
  | x :: y :: r => by
    show (half r).length + 1 = (r.length + 1 + 1 + 1) / 2
    rw [half_length r]
    omega
end L2
set_option maxRecDepth 100000
set_option maxHeartbeats 4000000
namespace L2
open PySem PySem.Spec PyProof.Rows PySem.W
def numT (n : Int) : Str := Str.ofString (toString n)
def Small (n : Int) : Prop := n.natAbs < 10 ^ 570
theorem Small.log {n : Int} (h : Small n) : n.natAbs.log2 < 1920 := Nat.lt_trans (Bd.log2 (n := 1900) (by show Int.natAbs _ < _; exact Nat.lt_trans h (by decide)) (by decide)) (by decide)
theorem Small.len {n : Int} (h : Small n) : (numT n).length ≤ 571 := num_len_le (by decide) h
def tabT (a b c d : Int) : Str := Txt.join " " [numT a, numT b, numT c, numT d]
theorem foldl_len (ws : List Str) (sep : Str) : ∀ n : Nat, ws.foldl (fun x w => x + w.length + sep.length) n = n + (ws.map fun w => w.length + sep.length).sum := by
  induction ws with
  | nil => intro n; simp
  | cons w ws ih =>
    intro n
    rw [List.foldl_cons, ih, List.map_cons, List.sum_cons]
    omega
theorem join_ok {sep : Str} {ws : List Str} {k : Nat} (h1 : sep.length ≤ 10) (h2 : ws.length ≤ 1000) (h3 : ∀ w ∈ ws, w.length ≤ k) (hk : k ≤ 10000) : JoinOk sep ws = true := by
  have key : (ws.map fun w => w.length + sep.length).sum ≤ ws.length * 10010 := by
    clear h2
    induction ws with
    | nil => simp
    | cons w ws ih =>
      rw [List.map_cons, List.sum_cons, List.length_cons]
      have a := h3 w List.mem_cons_self
      have b := ih fun x hx => h3 x (List.mem_cons_of_mem _ hx)
      omega
  unfold JoinOk
  rw [← Array.foldl_toList, List.toList_toArray, foldl_len]
  unfold Builtin.Str.tooLong
  rw [Bool.not_eq_true', decide_eq_false_iff_not]
  have : sizeLine = 16777216 := rfl
  omega
def runT (p : Bool × Int) : Str := ltr p.1 ++ " " ++ numT p.2
theorem ltr_len (b : Bool) : (ltr b).length ≤ 1 := by cases b <;> decide +kernel
def wordT (ws : List (Bool × Int)) : Str := if ws = [] then "none" else Txt.join " " (ws.map runT)
theorem runT_len {p : Bool × Int} (h : Small p.2) : (runT p).length ≤ 600 := by
  have a := ltr_len p.1
  have b := h.len
  have c : (Str.ofString " ").length = 1 := by decide +kernel
  unfold runT
  rw [Str.length_append, Str.length_append]
  omega
theorem sp_eq : (Str.ofString " ") = ⟨#[32]⟩ := by decide +kernel
theorem sl_eq : (Str.ofString "/") = ⟨#[47]⟩ := by decide +kernel
def flat (ws : List (Bool × Int)) : List Str := ws.flatMap fun p => [ltr p.1, numT p.2]
theorem ascii_of {t : Str} (h : t.cps.all (· < 128) = true) : Asc t := h
theorem Asc.app {a b : Str} (ha : Asc a) (hb : Asc b) : Asc (a ++ b) := by
  rw [Asc.iff] at ha hb ⊢
  intro x hx
  rw [Str.cps_append, Array.toList_append] at hx
  rcases List.mem_append.mp hx with h | h
  · exact ha x h
  · exact hb x h
theorem Asc.joinS {sep : Str} (hs : Asc sep) : ∀ {ws : List Str}, (∀ w ∈ ws, Asc w) → Asc (Str.join sep ws)
  | [], _ => ascii_of (t := Str.empty) (by decide +kernel)
  | [w], h => h w List.mem_cons_self
  | w :: v :: r, h => ((h w List.mem_cons_self).app hs).app (Asc.joinS hs (ws := v :: r) fun x hx => h x (List.mem_cons_of_mem _ hx))
theorem Asc.join {sep : Str} {ws : List Str} (hs : Asc sep) (h : ∀ w ∈ ws, Asc w) : Asc (Txt.join sep ws) := by
  rw [show Txt.join sep ws = Str.join sep ws from StrLaws.glued_eq_join _ _]
  exact Asc.joinS hs h
theorem join_len_le {sep : Str} {ws : List Str} {k n m : Nat} (hs : sep.length ≤ m) (hn : ws.length ≤ n) (h : ∀ w ∈ ws, w.length ≤ k) : (Txt.join sep ws).length ≤ n * (k + m) := by
  rw [show Txt.join sep ws = Str.join sep ws from StrLaws.glued_eq_join _ _]
  refine Nat.le_trans (StrLaws.join_length_le _ _) ?_
  have key : (ws.map fun x => x.length).sum ≤ ws.length * k := by
    clear hn
    induction ws with
    | nil => simp
    | cons w ws ih =>
      rw [List.map_cons, List.sum_cons, List.length_cons, Nat.add_mul]
      have a := h w List.mem_cons_self
      have b := ih fun x hx => h x (List.mem_cons_of_mem _ hx)
      omega
  have k2 : ws.length * sep.length ≤ ws.length * m := Nat.mul_le_mul_left _ hs
  have k3 : ws.length * (k + m) ≤ n * (k + m) := Nat.mul_le_mul_right _ hn
  rw [Nat.mul_add] at k3
  omega
theorem lens_map (ws : List Str) : (ws.map fun x => x.length).sum = ((ws.map fun w => w.cps.toList).map List.length).sum := by
  induction ws with
  | nil => rfl
  | cons w ws ih =>
    rw [List.map_cons, List.sum_cons, ih, List.map_cons, List.map_cons, List.sum_cons]
    rfl
theorem split_sum (t : Str) (c : Nat) : ((Txt.split t ⟨#[c]⟩).map fun x => x.length).sum + (Txt.split t ⟨#[c]⟩).length = t.length + 1 := by
  have h := jl_len (c := c) (ws := (Txt.split t ⟨#[c]⟩).map fun w => w.cps.toList) (fun z => split_ne t c (List.map_eq_nil_iff.mp z))
  rw [split_cps, List.length_map] at h
  rw [lens_map, len_cps]
  exact h
theorem repl_len {t z : Str} {c : Nat} (hz : z.length ≤ 2) : (Txt.replace t ⟨#[c]⟩ z).length ≤ 2 * t.length + 2 := by
  rw [StrLaws.replace_one]
  refine Nat.le_trans (StrLaws.join_length_le _ _) ?_
  have h1 := split_sum t c
  have h2 := split_len t c
  have h3 : (Txt.split t ⟨#[c]⟩).length * z.length ≤ (Txt.split t ⟨#[c]⟩).length * 2 := Nat.mul_le_mul_left _ hz
  omega
theorem Asc.repl {t z : Str} {c : Nat} (ht : Asc t) (hz : Asc z) : Asc (Txt.replace t ⟨#[c]⟩ z) := by
  rw [StrLaws.replace_one]
  exact Asc.joinS hz fun w hw => ht.split hw
theorem ltr_asc (b : Bool) : Asc (ltr b) := by cases b <;> exact ascii_of (by decide +kernel)
theorem sp_asc : Asc (Str.ofString " ") := ascii_of (by decide +kernel)
theorem tab_asc (a b c d : Int) : Asc (tabT a b c d) := Asc.join sp_asc fun w hw => by
  obtain ⟨n, _, rfl⟩ := List.mem_map.mp (show w ∈ [a, b, c, d].map numT from hw)
  exact num_asc n
theorem run_asc (p : Bool × Int) : Asc (runT p) := ((ltr_asc _).app sp_asc).app (num_asc _)
theorem word_asc (ws : List (Bool × Int)) : Asc (wordT ws) := by
  unfold wordT
  split
  · exact ascii_of (by decide +kernel)
  · exact Asc.join sp_asc fun w hw => by
      obtain ⟨p, _, rfl⟩ := List.mem_map.mp hw
      exact run_asc p
theorem num_len60 {n : Int} (h : n.natAbs < 10 ^ 60) : (numT n).length ≤ 61 := num_len_le (by decide) h
theorem tab_len {a b c d : Int} {k : Nat} (h : ∀ n ∈ [a, b, c, d], (numT n).length ≤ k) : (tabT a b c d).length ≤ 4 * (k + 1) :=
  join_len_le (by decide +kernel) (by show 4 ≤ 4; decide) fun w hw => by
    obtain ⟨n, hn, rfl⟩ := List.mem_map.mp (show w ∈ [a, b, c, d].map numT from hw)
    exact h n hn
theorem run_len {p : Bool × Int} {k : Nat} (h : (numT p.2).length ≤ k) : (runT p).length ≤ k + 2 := by
  unfold runT
  rw [Str.length_append, Str.length_append]
  have := ltr_len p.1
  have c : (Str.ofString " ").length = 1 := by decide +kernel
  omega
theorem word_len {ws : List (Bool × Int)} {k n : Nat} (hn : ws.length ≤ n) (h : ∀ p ∈ ws, (numT p.2).length ≤ k) : (wordT ws).length ≤ n * (k + 3) + 4 := by
  unfold wordT
  split
  · have : (Str.ofString "none").length = 4 := by decide +kernel
    omega
  · refine Nat.le_trans (join_len_le (m := 1) (n := n) (k := k + 2) (by decide +kernel) (by rw [List.length_map]; exact hn) fun w hw => ?_) (by rw [show k + 2 + 1 = k + 3 by omega]; omega)
    obtain ⟨p, hp, rfl⟩ := List.mem_map.mp hw
    exact run_len (h p hp)
end L2
set_option maxRecDepth 100000
set_option maxHeartbeats 4000000
namespace L2
open PySem PySem.Spec PyProof.Rows
section
variable {X : Cx}
def rEqG (K : PySem.W.Frag) : R2 := fun x y H Q => rEqF K x y H Q ∨ rEqRS K x y H Q
theorem op_eqG (hu : X.A.units + 5 < cLine) : OpR X (compareOp .Eq) (rEqG X.K) := (op_eqF hu).or (op_eqRS (by omega))
def rNeRS (K : PySem.W.Frag) : R2 := fun x y H Q => ∃ s a, y = .str s ∧ x = .ref a ∧ ((∃ xs, SqT K H a xs) ∨ ∃ xs, SqL K H a xs) ∧ Q (.bl true) H
def rNeG (K : PySem.W.Frag) : R2 := fun x y H Q => rNeF K x y H Q ∨ rNeRS K x y H Q
theorem op_neG (hu : X.A.units + 5 < cLine) : OpR X (compareOp .NotEq) (rNeG X.K) := by
  refine (op_neF hu).or ?_
  intro pins s σ H x y v u Q I rx ry h
  obtain ⟨t, a, rfl, rfl, hk, q⟩ := h
  obtain ⟨tk, rfl⟩ := ry
  cases rx
  rcases hk with ⟨xs, hk⟩ | ⟨xs, hk⟩
  · obtain ⟨us, r, p, _⟩ := I.tuple hk
    exact SeqAt.RcNeAt.tuple_str t tk p (by omega) _ _ _ _ ⟨.bl true, H, I, rfl, q⟩
  · obtain ⟨us, r, p, _⟩ := I.list hk
    exact SeqAt.RcNeAt.list_str t tk p.isList (by omega) _ _ _ _ ⟨.bl true, H, I, rfl, q⟩
end
section
variable {H : Hp} {Q : VK} {K : PySem.W.Frag}
theorem rd_eqGS {i j : Str} (h : Q (.bl (decide (i = j))) H) : rEqG K (.str i) (.str j) H Q := .inr (rd_eqRSS h)
theorem rd_eqGR {a c : Addr} {b : Bool} (hc : Cmp K H 4 (.ref a) (.ref c) b) (h : Q (.bl b) H) : rEqG K (.ref a) (.ref c) H Q := .inl (rd_eqF hc h)
theorem rd_eqGL {a : Addr} {xs : List V} {t : Str} (h1 : SqL K H a xs) (h : Q (.bl false) H) : rEqG K (.ref a) (.str t) H Q := .inr (rd_eqRSL h1 h)
theorem rd_neGS {i j : Str} (h : rNe (.str i) (.str j) H Q) : rNeG K (.str i) (.str j) H Q := .inl (rd_neFS h)
theorem rd_neGR {a c : Addr} {b : Bool} (hc : Cmp K H 4 (.ref a) (.ref c) b) (h : Q (.bl (!b)) H) : rNeG K (.ref a) (.ref c) H Q := .inl (rd_neF hc h)
theorem rd_neGT {a : Addr} {xs : List V} {t : Str} (h1 : SqT K H a xs) (h : Q (.bl true) H) : rNeG K (.ref a) (.str t) H Q := .inr ⟨t, a, rfl, rfl, .inl ⟨xs, h1⟩, h⟩
theorem rd_ixStr {a : Addr} {ts : List Str} {i : Int} (h1 : SqL K H a (ts.map V.str)) (h0 : 0 ≤ i) (h2 : i < ts.length) (h : ∀ t, ts[i.toNat]? = some t → Q (.str t) H) : rIxA K (.ref a) (.int i) H Q := by
  obtain ⟨t, ht⟩ : ∃ t, ts[i.toNat]? = some t := ⟨_, List.getElem?_eq_getElem (by omega)⟩
  refine rd_ixL (v := .str t) h1 ?_ (h t ht)
  have e := atI_nat (xs := ts.map V.str) (j := i.toNat) (v := .str t) (by rw [List.getElem?_map, ht]; rfl)
  rw [show ((i.toNat : Nat) : Int) = i by omega] at e
  exact e
theorem rd_anyL {p : Addr} {bs : List Bool} (h1 : SqL K H p (bs.map V.bl)) (h : Q (.bl (bs.any id)) H) : rAnyB K [.ref p] H Q := ⟨p, bs, rfl, h1, h⟩
theorem inV_strs (t : Str) : ∀ ts : List Str, inV (.str t) (ts.map V.str) = decide (t ∈ ts)
  | [] => by simp [inV]
  | u :: ts => by
    have ih := inV_strs t ts
    by_cases h : t = u
    · subst h
      simp [inV, eqV]
    · simp only [inV, List.map_cons, List.any_cons] at ih ⊢
      rw [ih]
      simp [eqV, h, Ne.symm h]
theorem strs_flat : ∀ ts : List Str, (ts.map V.str).all flatV = true
  | [] => rfl
  | _ :: ts => strs_flat ts
theorem rd_ninTs {p : Addr} {t : Str} (ts : List Str) (h1 : SqT K H p (ts.map V.str)) (h : Q (.bl (!decide (t ∈ ts))) H) : rIn K true (.str t) (.ref p) H Q := ⟨p, _, rfl, .inr h1, rfl, strs_flat ts, by rw [inV_strs]; exact h⟩
end
end L2
set_option maxRecDepth 100000
set_option maxHeartbeats 4000000
namespace L2
open PySem PySem.Spec PyProof.Rows
section
variable {X : Cx} {k : Nat} {ps : List Str} {sp : Sp} {W : Value → Option Addr → St → Hp → Prop} {x : Str} {p pos : Pos}
theorem pe_defS0 (D : Def X.prog X.w X.K X.mg X.base (CXE X.prog X.w) k x ps sp) (hr : Room k X.A) (hg : Gl X x) (hx : XPass X W) (hdb : (x == ("__debug__" : Str)) = false := by decide) :
    PE X (.Call (.Name x p) [] [] pos) (tCallS sp W tNil) := by
  obtain ⟨f, fd, F, m, kp, b, _⟩ := D.ex
  intro pins s σ H Q I h
  refine wpAny_Call_Name_kw (ld_glob I hg m ?_ hdb)
  refine PySem.W.callWith_K0 I.kIn kp ?_
  have hl : (([] : List Value) ++ []).length = ps.length := (F.len _ _ _ _ h)
  have bnd := b s [] I.kIn hl
  rw [List.append_nil] at bnd
  refine wpAny_call (codeAny_mono (F.run X.A X.stack s H ⟨[], []⟩ [] [] Q _ hr I.env0 bnd .nil h) fun res s2 hq => ?_)
  cases res with
  | error ex => exact hx.call pins σ H s ex s2 I hq
  | ok fl =>
    cases fl with
    | ret u => exact I.after hq
    | next => exact False.elim hq
    | brk => exact False.elim hq
    | cont => exact False.elim hq
end
end L2
set_option exponentiation.threshold 2000
namespace Mth
theorem gcd_fmod (a b : Int) : Int.gcd b (a.fmod b) = Int.gcd a b := by
  rw [Int.fmod_def, Int.sub_eq_add_neg, ← Int.mul_neg, Int.gcd_add_mul_left_right, Int.gcd_comm]
theorem gcd_emod (a b : Int) : Int.gcd b (a % b) = Int.gcd a b := by
  rw [Int.emod_def, Int.sub_eq_add_neg, ← Int.mul_neg, Int.gcd_add_mul_left_right, Int.gcd_comm]
theorem fmod_neg_bounds (a b : Int) (h : b < 0) : b < a.fmod b ∧ a.fmod b ≤ 0 := by
  have e : a.fmod b = - ((-a).fmod (-b)) := by
    rw [Int.neg_fmod_neg]; omega
  have h1 := Int.fmod_nonneg_of_pos (-a) (show 0 < -b by omega)
  have h2 := Int.fmod_lt_of_pos (-a) (show 0 < -b by omega)
  omega
theorem natAbs_fmod_lt (a b : Int) (h : b ≠ 0) : (a.fmod b).natAbs < b.natAbs := by
  rcases Int.lt_or_gt_of_ne h with hb | hb
  · have := fmod_neg_bounds a b hb
    omega
  · have h1 := Int.fmod_nonneg_of_pos a hb
    have h2 := Int.fmod_lt_of_pos a hb
    omega
end Mth
set_option exponentiation.threshold 4000
namespace Mth
end Mth
namespace Mth
end Mth
namespace Mth
end Mth
set_option exponentiation.threshold 4000
namespace Mth
end Mth
namespace Mth
end Mth
set_option exponentiation.threshold 4000
namespace Mth
end Mth
namespace Mth
end Mth
set_option exponentiation.threshold 4000
namespace Mth
end Mth
set_option exponentiation.threshold 4000
namespace Mth
end Mth
set_option exponentiation.threshold 4000
namespace Mth
end Mth
namespace Mth
def nums (m : Int) (ps : List (Int × Int)) : List Int := m :: ps.map Prod.snd
def lowBy (t b : Int) : Int := if 0 < b then (Int.gcd t b : Int) else -(Int.gcd t b : Int)
def lowT (t b : Int) : Int := t.fdiv (lowBy t b)
def lowB (t b : Int) : Int := b.fdiv (lowBy t b)
theorem lowBy_pos {t b : Int} (h : 0 < b) : lowBy t b = (Int.gcd t b : Int) := if_pos h
theorem low_pos {t b : Int} (h : 0 < b) : lowT t b = t / (Int.gcd t b : Int) ∧ lowB t b = b / (Int.gcd t b : Int) := by
  unfold lowT lowB
  rw [lowBy_pos h, Int.fdiv_eq_ediv_of_nonneg _ (by omega), Int.fdiv_eq_ediv_of_nonneg _ (by omega)]
  exact ⟨rfl, rfl⟩
theorem lowBy_ne {t b : Int} (h : b ≠ 0) : lowBy t b ≠ 0 := by
  have := Int.gcd_pos_of_ne_zero_right t h
  unfold lowBy
  split <;> omega
theorem lowBy_le {t b : Int} (h : b ≠ 0) : (lowBy t b).natAbs ≤ b.natAbs := by
  have := Nat.le_of_dvd (by omega) (Int.natAbs_dvd_natAbs.mpr (Int.gcd_dvd_right t b))
  unfold lowBy
  split <;> omega
end Mth
namespace Mth
end Mth
namespace Mth
end Mth
namespace Mth
end Mth
namespace Mth
end Mth
namespace Mth
end Mth
namespace Mth
end Mth
namespace Mth
end Mth
namespace Mth
end Mth
namespace Mth
end Mth
namespace Mth
end Mth
namespace Mth
end Mth
namespace Mth
end Mth
namespace Mth
end Mth
namespace Mth
end Mth
namespace Mth
def bl (m : Int) : Nat → List Int
  | 0 => []
  | h + 1 => ((h : Int) + 1) :: (m - ((h : Int) + 1)) :: bl m h
end Mth
namespace Mth
end Mth
namespace Mth
end Mth
set_option exponentiation.threshold 4000
namespace Mth
end Mth
namespace Mth
end Mth
namespace Mth
end Mth
set_option exponentiation.threshold 4000
namespace Mth
end Mth
namespace Mth
end Mth
set_option exponentiation.threshold 4000
namespace Mth
def Alt (ws : List (Bool × Int)) : Prop := ∀ (i : Nat) p q, ws[i]? = some p → ws[i + 1]? = some q → p.1 ≠ q.1
section
variable {a0 b0 c0 d0 a b c d : Int} {ws : List (Bool × Int)}
end
end Mth
namespace Mth
def Small (x : Int) : Prop := x = -1 ∨ x = 0 ∨ x = 1
end Mth
namespace Mth
def wl : List (Bool × Int) → Int × Int × Int × Int
  | [] => (1, 0, 0, 1)
  | p :: r => if p.1 then ((wl r).1 + p.2 * (wl r).2.2.1, (wl r).2.1 + p.2 * (wl r).2.2.2, (wl r).2.2.1, (wl r).2.2.2) else ((wl r).1, (wl r).2.1, (wl r).2.2.1 + p.2 * (wl r).1, (wl r).2.2.2 + p.2 * (wl r).2.1)
end Mth
set_option exponentiation.threshold 4000
namespace Mth
end Mth
set_option exponentiation.threshold 4000
namespace Mth
end Mth
set_option exponentiation.threshold 4000
namespace Mth
end Mth
set_option exponentiation.threshold 4000
namespace Mth
end Mth
set_option exponentiation.threshold 4000
namespace Mth
theorem pow_pos1 {q : Int} (h : 2 ≤ q) : ∀ k : Nat, 1 ≤ q ^ k
  | 0 => by rw [Int.pow_zero]; exact Int.le_refl _
  | k + 1 => by
    rw [Int.pow_succ]
    have := pow_pos1 h k
    have h2 : 1 * 1 ≤ q ^ k * q := Int.mul_le_mul this (by omega) (by decide) (by omega)
    omega
end Mth
set_option exponentiation.threshold 4000
namespace Mth
end Mth
set_option exponentiation.threshold 4000
namespace Mth
end Mth
set_option exponentiation.threshold 4000
namespace Mth
end Mth
set_option exponentiation.threshold 4000
namespace Mth
end Mth
set_option exponentiation.threshold 4000
namespace Mth
end Mth
set_option exponentiation.threshold 4000
namespace Mth
end Mth
set_option exponentiation.threshold 4000
namespace Mth
end Mth
set_option exponentiation.threshold 4000
namespace Mth
end Mth
set_option exponentiation.threshold 4000
namespace Mth
end Mth
set_option exponentiation.threshold 4000
namespace Mth
end Mth
namespace Mth
end Mth
set_option maxRecDepth 100000
set_option maxHeartbeats 4000000
set_option exponentiation.threshold 4000
namespace Mth
end Mth
set_option maxRecDepth 100000
set_option maxHeartbeats 4000000
set_option exponentiation.threshold 4000
local macro_rules | `(tactic| walk_at "lo") => `(tactic| first | exact .inl rfl | exact .inr rfl | assumption)
local macro_rules | `(tactic| walk_at "mulok") => `(tactic| first
  | exact PySem.IntMulOk.of_right (PySem.intBits_le_64 (by omega) (by omega))
  | exact PySem.IntMulOk.of_left (PySem.intBits_le_64 (by omega) (by omega))
  | exact L2.Bd.mulOk (m := 2000) (n := 2000) (by show Int.natAbs _ < _; omega) (by show Int.natAbs _ < _; omega) (by decide) (by decide))
local macro_rules | `(tactic| walk_at "bd") => `(tactic| (show Int.natAbs _ < _; omega))
local macro_rules | `(tactic| walk_at "hp") => `(tactic| first
  | assumption
  | exact L2.SqL.of (by assumption)
  | exact L2.SqT.of (by assumption)
  | exact L2.upd_same
  | (refine' L2.Same.seq (by assumption) ?z; (case z => walk_at "hp"))
  | (refine' L2.Same.tup (by assumption) ?z; (case z => walk_at "hp"))
  | (refine' L2.Same.obj (by assumption) ?z; (case z => walk_at "hp")))
local macro_rules | `(tactic| walk_at "lenle") => `(tactic| first | ((with_reducible refine' L2.len_app ?p ?q); (case p => walk_at "lenle"); (case q => walk_at "lenle")) | with_reducible assumption | exact (show _ ≤ 40 from by decide +kernel) | assumption)
local macro_rules | `(tactic| walk_at "strsz") => `(tactic| first | decide +kernel | (refine' L2.sz_of ?a ?b; (case a => walk_at "lenle"); (case b => decide)))
local macro_rules | `(tactic| walk_at "tsz") => `(tactic| first | assumption | decide +kernel | (exact Nat.le_trans (by assumption) (by decide)) | (exact Nat.le_of_lt (L2.small1000 (by omega))))
local macro_rules | `(tactic| walk_at "fmtsz") => `(tactic| first | assumption | decide +kernel)
local macro_rules | `(tactic| walk_at "sm") => `(tactic| first
  | exact L2.Same.refl _
  | assumption
  | (refine' L2.Same.trans ?z (by assumption); (case z => walk_at "sm")))
local macro_rules | `(tactic| walk_at "sz") => `(tactic| first | decide | (simp only [List.length_cons, List.length_nil]; decide) | (simp; decide))
local macro_rules | `(tactic| walk_at "rdvar") => `(tactic| first
  | with_reducible refine L2.rd_var0 ?_
  | with_reducible refine L2.rd_var1 ?_
  | with_reducible refine L2.rd_var2 ?_
  | with_reducible refine L2.rd_var3 ?_
  | with_reducible refine L2.rd_var4 ?_
  | with_reducible refine L2.rd_var5 ?_
  | with_reducible refine L2.rd_var6 ?_
  | with_reducible refine L2.rd_var7 ?_
  | with_reducible refine L2.rd_var8 ?_
  | with_reducible refine L2.rd_var9 ?_
  | with_reducible refine L2.rd_var10 ?_
  | with_reducible refine L2.rd_var11 ?_
  | with_reducible refine L2.rd_var12 ?_
  | with_reducible refine L2.rd_var13 ?_
  | with_reducible refine L2.rd_var14 ?_
  | with_reducible refine L2.rd_var15 ?_
  | with_reducible refine L2.rd_var16 ?_
  | with_reducible refine L2.rd_var17 ?_
  | with_reducible refine L2.rd_var18 ?_
  | with_reducible refine L2.rd_var19 ?_
  | with_reducible refine L2.rd_var20 ?_
  | with_reducible refine L2.rd_var21 ?_
  | with_reducible refine L2.rd_var22 ?_
  | with_reducible refine L2.rd_var23 ?_
  | with_reducible refine L2.rd_var24 ?_
  | with_reducible refine L2.rd_var25 ?_
  | with_reducible refine L2.rd_set0 ?_
  | with_reducible refine L2.rd_set1 ?_
  | with_reducible refine L2.rd_set2 ?_
  | with_reducible refine L2.rd_set3 ?_
  | with_reducible refine L2.rd_set4 ?_
  | with_reducible refine L2.rd_set5 ?_
  | with_reducible refine L2.rd_set6 ?_
  | with_reducible refine L2.rd_set7 ?_
  | with_reducible refine L2.rd_set8 ?_
  | with_reducible refine L2.rd_set9 ?_
  | with_reducible refine L2.rd_set10 ?_
  | with_reducible refine L2.rd_set11 ?_
  | with_reducible refine L2.rd_set12 ?_
  | with_reducible refine L2.rd_set13 ?_
  | with_reducible refine L2.rd_set14 ?_
  | with_reducible refine L2.rd_set15 ?_
  | with_reducible refine L2.rd_set16 ?_
  | with_reducible refine L2.rd_set17 ?_
  | with_reducible refine L2.rd_set18 ?_
  | with_reducible refine L2.rd_set19 ?_
  | with_reducible refine L2.rd_set20 ?_
  | with_reducible refine L2.rd_set21 ?_
  | with_reducible refine L2.rd_set22 ?_
  | with_reducible refine L2.rd_set23 ?_
  | with_reducible refine L2.rd_set24 ?_
  | with_reducible refine L2.rd_set25 ?_
  | with_reducible refine L2.rd_del0 ?_
  | with_reducible refine L2.rd_del1 ?_
  | with_reducible refine L2.rd_del2 ?_
  | with_reducible refine L2.rd_del3 ?_
  | with_reducible refine L2.rd_del4 ?_
  | with_reducible refine L2.rd_del5 ?_
  | with_reducible refine L2.rd_del6 ?_
  | with_reducible refine L2.rd_del7 ?_
  | with_reducible refine L2.rd_del8 ?_
  | with_reducible refine L2.rd_del9 ?_
  | with_reducible refine L2.rd_del10 ?_
  | with_reducible refine L2.rd_del11 ?_
  | with_reducible refine L2.rd_del12 ?_
  | with_reducible refine L2.rd_del13 ?_
  | with_reducible refine L2.rd_del14 ?_
  | with_reducible refine L2.rd_del15 ?_
  | with_reducible refine L2.rd_del16 ?_
  | with_reducible refine L2.rd_del17 ?_
  | with_reducible refine L2.rd_del18 ?_
  | with_reducible refine L2.rd_del19 ?_
  | with_reducible refine L2.rd_del20 ?_
  | with_reducible refine L2.rd_del21 ?_
  | with_reducible refine L2.rd_del22 ?_
  | with_reducible refine L2.rd_del23 ?_
  | with_reducible refine L2.rd_del24 ?_
  | with_reducible refine L2.rd_del25 ?_)
local macro_rules | `(tactic| walk_at "rd1") => `(tactic| first
  | with_reducible refine L2.rd_neGS ?_
  | with_reducible refine L2.rd_eqGS ?_
  | with_reducible refine L2.rd_find ?_
  | with_reducible refine L2.rd_notInS ?_
  | with_reducible refine L2.rd_forS ?_
  | with_reducible refine L2.rd_repl ?_
  | with_reducible refine L2.rd_tyS ?_
  | with_reducible refine L2.rd_starts ?_
  | with_reducible refine L2.rd_compS ?_
  | with_reducible refine L2.rd_fmtS ?_
  | with_reducible refine L2.rd_inS ?_
  | with_reducible refine L2.rd_slTwo ?_
  | with_reducible refine L2.rd_raiseI ?_
  | with_reducible refine L2.rd_base ?_
  | with_reducible refine L2.rd_fldX ?_
  | with_reducible refine L2.rd_xf ?_
  | with_reducible refine L2.rd_slRv ?_
  | with_reducible refine L2.rd_dIn ?_
  | with_reducible refine L2.rd_dNotIn ?_
  | with_reducible refine L2.rd_dPut ?_
  | with_reducible refine L2.rd_dGet ?_
  | with_reducible refine L2.rd_hNotIn ?_
  | with_reducible refine L2.rd_hPut ?_
  | with_reducible refine L2.rd_callS ?_
  | with_reducible refine L2.rd_raise ?_
  | with_reducible refine L2.rd_kRaise ?_
  | with_reducible refine L2.rd_jnil ?_
  | with_reducible refine L2.rd_jcons ?_
  | with_reducible refine L2.rd_fmt ?_
  | with_reducible refine L2.rd_seq ?_
  | with_reducible refine L2.rd_asg ?_
  | with_reducible refine L2.rd_ret ?_
  | with_reducible refine L2.rd_retN ?_
  | with_reducible refine L2.rd_drop ?_
  | with_reducible refine L2.rd_ifS ?_
  | with_reducible refine L2.rd_op ?_
  | with_reducible refine L2.rd_un ?_
  | with_reducible refine L2.rd_c ?_
  | with_reducible refine L2.rd_test ?_
  | with_reducible refine L2.rd_tB ?_
  | with_reducible refine L2.rd_kB ?_
  | with_reducible refine L2.rd_and ?_
  | with_reducible refine L2.rd_or ?_
  | with_reducible refine L2.rd_not ?_
  | with_reducible refine L2.rd_andV ?_
  | with_reducible refine L2.rd_orV ?_
  | with_reducible refine L2.rd_notV ?_
  | with_reducible refine L2.rd_ifE ?_
  | with_reducible refine L2.rd_chain ?_
  | with_reducible refine L2.rd_nil ?_
  | with_reducible refine L2.rd_cons ?_
  | with_reducible refine L2.rd_lst ?_
  | with_reducible refine L2.rd_tup ?_
  | with_reducible refine L2.rd_cB ?_
  | with_reducible refine L2.rd_call ?_
  | with_reducible refine L2.rd_next ?_
  | with_reducible refine L2.rd_par ?_
  | with_reducible refine L2.rd_kParG ?_
  | with_reducible refine L2.rd_lenSet ?_
  | with_reducible refine L2.rd_add ?_
  | with_reducible refine L2.rd_sub ?_
  | with_reducible refine L2.rd_lt ?_
  | with_reducible refine L2.rd_le ?_
  | with_reducible refine L2.rd_gt ?_
  | with_reducible refine L2.rd_ge ?_
  | with_reducible refine L2.rd_eqAI ?_
  | with_reducible refine L2.rd_eqAS ?_
  | with_reducible refine L2.rd_eqAB ?_
  | with_reducible refine L2.rd_neAI ?_
  | with_reducible refine L2.rd_neAS ?_
  | with_reducible refine L2.rd_neAB ?_
  | with_reducible refine L2.rd_gSub ?_
  | with_reducible refine L2.rd_eqI ?_
  | with_reducible refine L2.rd_neI ?_
  | with_reducible refine L2.rd_eqS ?_
  | with_reducible refine L2.rd_neS ?_
  | with_reducible refine L2.rd_eqB ?_
  | with_reducible refine L2.rd_neB ?_
  | with_reducible refine L2.rd_isB ?_
  | with_reducible refine L2.rd_isNI ?_
  | with_reducible refine L2.rd_isNR ?_
  | with_reducible refine L2.rd_isNN ?_
  | with_reducible refine L2.rd_neBI ?_
  | with_reducible refine L2.rd_neBS ?_
  | with_reducible refine L2.rd_neBB ?_
  | with_reducible refine L2.rd_eqBI ?_
  | with_reducible refine L2.rd_eqBS ?_
  | with_reducible refine L2.rd_eqBB ?_
  | with_reducible refine L2.rd_u ?_
  | with_reducible refine L2.rd_i0 ?_
  | with_reducible refine L2.rd_sl ?_
  | with_reducible refine L2.rd_noPart ?_
  | with_reducible refine L2.rd_part ?_
  | with_reducible refine L2.rd_kPart ?_
  | with_reducible refine L2.rd_gNil ?_
  | with_reducible refine L2.rd_gCons ?_
  | with_reducible refine L2.rd_forR ?_
  | with_reducible refine L2.rd_forR2 ?_
  | with_reducible refine L2.rd_forZ ?_
  | with_reducible refine L2.rd_neDI ?_
  | with_reducible refine L2.rd_neDS ?_
  | with_reducible refine L2.rd_augS ?_
  | with_reducible refine L2.rd_ipI ?_
  | with_reducible refine L2.rd_eqRSS ?_
  | with_reducible refine L2.rd_eqRSI ?_
  | with_reducible refine L2.rd_eqRSB ?_
  | with_reducible refine L2.rd_eqRSN ?_
  | with_reducible refine L2.rd_neFI ?_
  | with_reducible refine L2.rd_neFS ?_
  | with_reducible refine L2.rd_neFB ?_
  | with_reducible refine L2.rd_eqFI ?_
  | with_reducible refine L2.rd_eqFS ?_
  | with_reducible refine L2.rd_addU ?_
  | with_reducible refine L2.rd_isnB ?_
  | with_reducible refine L2.rd_tupRng ?_
  | with_reducible refine L2.rd_listRng ?_
  | with_reducible refine L2.rd_listRng2 ?_
  | with_reducible refine L2.rd_forE ?_
  | with_reducible refine L2.rd_forT ?_
  | with_reducible refine L2.rd_forL ?_
  | with_reducible refine L2.rd_neCI ?_
  | with_reducible refine L2.rd_neCS ?_
  | with_reducible refine L2.rd_neCB ?_
  | with_reducible refine L2.rd_eqCI ?_
  | with_reducible refine L2.rd_eqCS ?_
  | with_reducible refine L2.rd_forV ?_
  | with_reducible refine L2.rd_forD ?_
  | with_reducible refine L2.rd_bm ?_
  | with_reducible refine L2.rd_bm0 ?_
  | with_reducible refine L2.rd_turn ?_
  | with_reducible refine L2.rd_iteT ?_
  | with_reducible refine L2.rd_iteF ?_
  | with_reducible refine L2.rd_iteNT ?_
  | with_reducible refine L2.rd_iteNF ?_
  | with_reducible refine L2.rd_ints ?_
  | with_reducible refine L2.rd_kRng2B ?_
  | with_reducible refine L2.rd_sp1 ?_
  | with_reducible refine L2.rd_sp2 ?_
  | with_reducible refine L2.rd_sp3 ?_
  | with_reducible refine L2.rd_sp4 ?_
  | with_reducible refine L2.rd_sp5 ?_
  | walk_at "rdvar"
  | ((with_reducible refine L2.rd_kIts ?c ?_); (case c => assumption))
  | ((with_reducible refine L2.rd_addT ?c ?_); (case c => walk_at "strsz"))
  | ((with_reducible refine L2.rd_lenTx ?c ?_); (case c => walk_at "tsz"))
  | ((with_reducible refine L2.rd_slS ?c ?_); (case c => walk_at "tsz"))
  | ((with_reducible refine L2.rd_kFmtS ?c ?_); (case c => walk_at "tsz"))
  | ((with_reducible refine L2.rd_strI ?c ?_); (case c => walk_at "fmtsz"))
  | ((with_reducible refine' L2.rd_kBase ?c ?_); (case c => walk_at "hp"))
  | ((with_reducible refine' L2.rd_kFldX ?c ?_); (case c => walk_at "hp"); intro _ _)
  | ((with_reducible refine' L2.rd_kRv ?c ?_); (case c => walk_at "hp"); intro _ _ _ _ _)
  | ((with_reducible refine L2.rd_min2 ?_); intro _ _)
  | ((with_reducible refine L2.rd_dNewK ?_); intro _ _ _ _ _)
  | ((with_reducible refine L2.rd_disp1 ?_); intro _ _ _ _ _)
  | ((with_reducible refine' L2.rd_kDIn ?c ?_); (case c => walk_at "hp"))
  | ((with_reducible refine' L2.rd_kDNotIn ?c ?_); (case c => walk_at "hp"))
  | ((with_reducible refine L2.rd_mul ?c ?_); (case c => walk_at "mulok"))
  | ((with_reducible refine L2.rd_modP ?c ?_); (case c => omega))
  | ((with_reducible refine L2.rd_modN ?c ?_); (case c => omega))
  | ((with_reducible refine L2.rd_divP ?c ?d ?_); (case c => omega); (case d => walk_at "bd"))
  | ((with_reducible refine L2.rd_divN ?c ?d ?_); (case c => omega); (case d => walk_at "bd"))
  | ((with_reducible refine' L2.rd_lenL ?c ?_); (case c => walk_at "hp"))
  | ((with_reducible refine' L2.rd_lenT ?c ?_); (case c => walk_at "hp"))
  | ((with_reducible refine L2.rd_abs ?_); intro _ _)
  | ((with_reducible refine L2.rd_max ?_); intro _ _)
  | ((with_reducible refine L2.rd_min4 ?_); intro _ _ _ _ _ _)
  | ((with_reducible refine L2.rd_intB ?_); intro _ _ _)
  | ((with_reducible refine L2.rd_kLst ?c ?_); (case c => walk_at "sz"); intro _ _ _ _ _)
  | ((with_reducible refine L2.rd_kLstI ?c ?_); (case c => decide); intro _ _ _ _ _)
  | ((with_reducible refine L2.rd_kTup ?c ?_); (case c => walk_at "sz"); intro _ _ _ _ _)
  | ((with_reducible refine' L2.rd_slL ?c ?_); (case c => walk_at "hp"); intro _ _ _ _ _)
  | ((with_reducible refine' L2.rd_listOf ?c ?_); (case c => walk_at "hp"); intro _ _ _ _ _)
  | ((with_reducible refine' L2.rd_tupOf ?c ?_); (case c => walk_at "hp"); intro _ _ _ _ _)
  | ((with_reducible refine' L2.rd_sum ?c ?_); (case c => walk_at "hp"))
  | ((with_reducible refine' L2.rd_kItl ?c ?_); (case c => walk_at "hp"))
  | ((with_reducible refine' L2.rd_aug ?c ?_); (case c => rfl))
  | (with_reducible refine L2.rd_kIp ?_)
  | ((with_reducible refine L2.rd_kTR ?c ?d ?_); (case c => omega); (case d => omega); intro _ _ _ _ _)
  | ((with_reducible refine L2.rd_kLR ?c ?d ?_); (case c => omega); (case d => omega); intro _ _ _ _ _)
  | ((with_reducible refine L2.rd_kLR2 ?c ?d ?e ?_); (case c => omega); (case d => omega); (case e => omega); intro _ _ _ _ _)
  | ((with_reducible refine' L2.rd_kEnum ?c ?_); (case c => walk_at "hp"))
  | ((with_reducible refine' L2.rd_kItt ?c ?_); (case c => walk_at "hp"))
  | ((with_reducible refine' L2.rd_in2 ?c ?_); (case c => walk_at "hp"))
  | ((with_reducible refine' L2.rd_kZip ?c ?d ?_); (case c => walk_at "hp"); (case d => walk_at "hp"))
  | ((with_reducible refine' L2.rd_kZipT ?c ?d ?_); (case c => walk_at "hp"); (case d => walk_at "hp"))
  | ((with_reducible refine' L2.rd_slF ?c ?_); (case c => walk_at "hp"); intro _ _ _ _)
  | ((with_reducible refine' L2.rd_eqRST ?c ?_); (case c => walk_at "hp"))
  | ((with_reducible refine' L2.rd_eqRSL ?c ?_); (case c => walk_at "hp"))
  | ((with_reducible refine' L2.rd_kItv ?c ?_); (case c => walk_at "hp"))
  | ((with_reducible refine' L2.rd_tyL ?c ?_); (case c => walk_at "hp"))
  | ((with_reducible refine' L2.rd_cat ?a ?b ?c ?_); (case a => walk_at "hp"); (case b => walk_at "hp"); (case c => walk_at "sz"); intro _ _ _ _ _)
  | ((with_reducible refine' L2.rd_rep ?a ?b ?c ?d ?_); (case a => walk_at "hp"); (case b => omega); (case c => omega); (case d => walk_at "sz"); intro _ _ _ _ _)
  | ((with_reducible refine L2.rd_kRng1 ?c ?d ?_); (case c => omega); (case d => omega))
  | ((with_reducible refine L2.rd_kRngD ?c ?d ?e ?f ?_); (case c => omega); (case d => omega); (case e => omega); (case f => omega))
  | ((with_reducible refine L2.rd_kRng2 ?c ?d ?e ?f ?_); (case c => omega); (case d => omega); (case e => omega); (case f => omega))
  | ((with_reducible refine' L2.rd_gTup ?c ?d ?_); (case c => walk_at "hp"); (case d => rfl))
  | ((with_reducible refine' L2.rd_isi ?c ?d ?_); (case c => first | exact .int _ | exact .bl _ | exact .non | exact .str _ | exact .tup (by walk_at "hp") | exact .lst (by walk_at "hp") | constructor); (case d => rfl))
  | ((with_reducible refine' L2.rd_isX ?c ?d ?_); (case c => assumption); (case d => assumption))
  | ((with_reducible refine' L2.rd_isXT ?c ?d ?_); (case c => assumption); (case d => assumption))
  | ((with_reducible refine' L2.rd_isXA ?c ?d ?e ?f ?_); (case c => assumption); (case d => walk_at "hp"); (case e => assumption); (case f => rfl))
  | ((with_reducible refine L2.rd_thT ?c ?_); (case c => assumption))
  | ((with_reducible refine L2.rd_thF ?c ?_); (case c => assumption))
  | ((with_reducible refine L2.rd_kStr ?c ?_); (case c => walk_at "strsz"))
  | ((with_reducible refine L2.rd_kFmt ?c ?_); (case c => walk_at "fmtsz"))
  | ((with_reducible refine' L2.rd_ixL ?c ?d ?_); (case c => walk_at "hp"); (case d => rfl))
  | ((with_reducible refine' L2.rd_ixT ?c ?d ?_); (case c => walk_at "hp"); (case d => rfl))
  | walk_at "rdcall"
  | with_reducible refine L2.rd_nx ?_
  | with_reducible refine L2.rd_rt ?_
  | with_reducible refine L2.rd_bk ?_
  | with_reducible refine L2.rd_ct ?_)
local macro_rules | `(tactic| walk_at "rdcall") => `(tactic| fail "no call")
local macro_rules | `(tactic| walk_at "rd") => `(tactic| repeat (walk_at "rd1"))
local macro_rules | `(tactic| walk_at "ite") => `(tactic| first
  | (with_reducible refine L2.rd_ite (fun _ => ?_) (fun _ => ?_))
  | (with_reducible refine L2.rd_iteN (fun _ => ?_) (fun _ => ?_))
  | (with_reducible refine L2.rd_iteNN (fun _ => ?_) (fun _ => ?_))
  | (with_reducible refine L2.rd_iteb (fun _ => ?_) (fun _ => ?_)))
local macro_rules | `(tactic| walk_at "rdi") => `(tactic| repeat' (first | walk_at "rd1" | (walk_at "ite" <;> (try (exfalso; omega)))))
namespace My
open PySem L2
abbrev s_is_whole : Stmt := top 18
theorem sc_is_whole : FnScope ["thing"] ["thing"] (defScope s_is_whole) := ⟨rfl, rfl, rfl, by decide +kernel, rfl, by decide +kernel, by decide +kernel⟩
abbrev s_is_pair_of_wholes : Stmt := top 19
theorem sc_is_pair_of_wholes : FnScope ["thing"] ["thing"] (defScope s_is_pair_of_wholes) := ⟨rfl, rfl, rfl, by decide +kernel, rfl, by decide +kernel, by decide +kernel⟩
abbrev s_shared : Stmt := top 21
theorem sc_shared : FnScope ["a", "b", "high", "low", "rest"] ["a", "b"] (defScope s_shared) := ⟨rfl, rfl, rfl, by decide +kernel, rfl, by decide +kernel, by decide +kernel⟩
abbrev s_need_bottom : Stmt := top 23
theorem sc_need_bottom : FnScope ["bottom"] ["bottom"] (defScope s_need_bottom) := ⟨rfl, rfl, rfl, by decide +kernel, rfl, by decide +kernel, by decide +kernel⟩
abbrev s_fraction : Stmt := top 24
theorem sc_fraction : FnScope ["top", "bottom", "part"] ["top", "bottom"] (defScope s_fraction) := ⟨rfl, rfl, rfl, by decide +kernel, rfl, by decide +kernel, by decide +kernel⟩
abbrev s_is_table : Stmt := top 26
theorem sc_is_table : FnScope ["table"] ["table"] (defScope s_is_table) := ⟨rfl, rfl, rfl, by decide +kernel, rfl, by decide +kernel, by decide +kernel⟩
abbrev s_need_table : Stmt := top 27
theorem sc_need_table : FnScope ["table"] ["table"] (defScope s_need_table) := ⟨rfl, rfl, rfl, by decide +kernel, rfl, by decide +kernel, by decide +kernel⟩
abbrev s_is_run : Stmt := top 29
theorem sc_is_run : FnScope ["thing"] ["thing"] (defScope s_is_run) := ⟨rfl, rfl, rfl, by decide +kernel, rfl, by decide +kernel, by decide +kernel⟩
abbrev s_is_word : Stmt := top 30
theorem sc_is_word : FnScope ["word"] ["word"] (defScope s_is_word) := ⟨rfl, rfl, rfl, by decide +kernel, rfl, by decide +kernel, by decide +kernel⟩
abbrev s_is_number : Stmt := top 35
theorem sc_is_number : FnScope ["text", "figures"] ["text"] (defScope s_is_number) := ⟨rfl, rfl, rfl, by decide +kernel, rfl, by decide +kernel, by decide +kernel⟩
abbrev s_need_text : Stmt := top 36
theorem sc_need_text : FnScope ["holds"] ["holds"] (defScope s_need_text) := ⟨rfl, rfl, rfl, by decide +kernel, rfl, by decide +kernel, by decide +kernel⟩
abbrev s_read_numbers : Stmt := top 37
theorem sc_read_numbers : FnScope ["pieces"] ["pieces"] (defScope s_read_numbers) := ⟨rfl, rfl, rfl, by decide +kernel, rfl, by decide +kernel, by decide +kernel⟩
abbrev s_read_fraction : Stmt := top 38
theorem sc_read_fraction : FnScope ["text", "numbers"] ["text"] (defScope s_read_fraction) := ⟨rfl, rfl, rfl, by decide +kernel, rfl, by decide +kernel, by decide +kernel⟩
abbrev s_read_table : Stmt := top 39
theorem sc_read_table : FnScope ["text", "numbers", "table"] ["text"] (defScope s_read_table) := ⟨rfl, rfl, rfl, by decide +kernel, rfl, by decide +kernel, by decide +kernel⟩
abbrev s_read_word : Stmt := top 40
theorem sc_read_word : FnScope ["text", "pieces", "letters", "numbers", "word"] ["text"] (defScope s_read_word) := ⟨rfl, rfl, rfl, by decide +kernel, rfl, by decide +kernel, by decide +kernel⟩
abbrev s__law_cell : Stmt := top 42
theorem sc__law_cell : FnScope ["_law_script", "_law_k"] ["_law_script", "_law_k"] (defScope s__law_cell) := ⟨rfl, rfl, rfl, by decide +kernel, rfl, by decide +kernel, by decide +kernel⟩
abbrev s__law_mixed : Stmt := top 43
theorem sc__law_mixed : FnScope ["_law_cell_here", "_law_k", "_law_prime", "_law_far_here"] ["_law_cell_here", "_law_k", "_law_prime"] (defScope s__law_mixed) := ⟨rfl, rfl, rfl, by decide +kernel, rfl, by decide +kernel, by decide +kernel⟩
abbrev s__law_draws : Stmt := top 44
theorem sc__law_draws : FnScope ["_law_cell_here", "_law_widths", "_law_prime", "_law_left", "_law_found", "_law_k"] ["_law_cell_here", "_law_widths", "_law_prime"] (defScope s__law_draws) := ⟨rfl, rfl, rfl, by decide +kernel, rfl, by decide +kernel, by decide +kernel⟩
abbrev s__law_far : Stmt := top 45
theorem sc__law_far : FnScope ["_law_cell_here", "_law_prime", "_law_draws_here", "_law_far_here", "_law_part"] ["_law_cell_here", "_law_prime"] (defScope s__law_far) := ⟨rfl, rfl, rfl, by decide +kernel, rfl, by decide +kernel, by decide +kernel⟩
abbrev s__law_shared : Stmt := top 46
theorem sc__law_shared : FnScope ["_law_a", "_law_b"] ["_law_a", "_law_b"] (defScope s__law_shared) := ⟨rfl, rfl, rfl, by decide +kernel, rfl, by decide +kernel, by decide +kernel⟩
abbrev s__law_lowest : Stmt := top 47
theorem sc__law_lowest : FnScope ["_law_top", "_law_bottom", "_law_by"] ["_law_top", "_law_bottom"] (defScope s__law_lowest) := ⟨rfl, rfl, rfl, by decide +kernel, rfl, by decide +kernel, by decide +kernel⟩
abbrev s__law_whole : Stmt := top 48
theorem sc__law_whole : FnScope ["_law_found"] ["_law_found"] (defScope s__law_whole) := ⟨rfl, rfl, rfl, by decide +kernel, rfl, by decide +kernel, by decide +kernel⟩
abbrev s__law_row : Stmt := top 49
theorem sc__law_row : FnScope ["_law_found", "_law_many"] ["_law_found", "_law_many"] (defScope s__law_row) := ⟨rfl, rfl, rfl, by decide +kernel, rfl, by decide +kernel, by decide +kernel⟩
abbrev s__law_spare : Stmt := top 50
theorem sc__law_spare : FnScope ["_law_cell_here", "_law_width"] ["_law_cell_here", "_law_width"] (defScope s__law_spare) := ⟨rfl, rfl, rfl, by decide +kernel, rfl, by decide +kernel, by decide +kernel⟩
abbrev s__law_text_number : Stmt := top 51
theorem sc__law_text_number : FnScope ["_law_cell_here", "_law_prime", "_law_draws_here", "_law_far_here", "_law_k"] ["_law_cell_here", "_law_prime"] (defScope s__law_text_number) := ⟨rfl, rfl, rfl, by decide +kernel, rfl, by decide +kernel, by decide +kernel⟩
abbrev s__law_any_table : Stmt := top 52
theorem sc__law_any_table : FnScope ["_law_cell_here", "_law_prime", "_law_draws_here", "_law_a", "_law_b", "_law_c", "_law_d", "_law_k", "_law_far_here"] ["_law_cell_here", "_law_prime"] (defScope s__law_any_table) := ⟨rfl, rfl, rfl, by decide +kernel, rfl, by decide +kernel, by decide +kernel⟩
abbrev s__law_any_word : Stmt := top 53
theorem sc__law_any_word : FnScope ["_law_cell_here", "_law_prime", "_law_draws_here", "_law_found", "_law_k", "_law_often"] ["_law_cell_here", "_law_prime"] (defScope s__law_any_word) := ⟨rfl, rfl, rfl, by decide +kernel, rfl, by decide +kernel, by decide +kernel⟩
abbrev s__law_table_text : Stmt := top 54
theorem sc__law_table_text : FnScope ["_law_table"] ["_law_table"] (defScope s__law_table_text) := ⟨rfl, rfl, rfl, by decide +kernel, rfl, by decide +kernel, by decide +kernel⟩
abbrev s__law_word_text : Stmt := top 55
theorem sc__law_word_text : FnScope ["_law_word"] ["_law_word"] (defScope s__law_word_text) := ⟨rfl, rfl, rfl, by decide +kernel, rfl, by decide +kernel, by decide +kernel⟩
abbrev s__law_is_table_of : Stmt := top 56
theorem sc__law_is_table_of : FnScope ["_law_found", "_law_due"] ["_law_found", "_law_due"] (defScope s__law_is_table_of) := ⟨rfl, rfl, rfl, by decide +kernel, rfl, by decide +kernel, by decide +kernel⟩
abbrev s__law_is_word_of : Stmt := top 57
theorem sc__law_is_word_of : FnScope ["_law_found", "_law_due", "_law_pair"] ["_law_found", "_law_due"] (defScope s__law_is_word_of) := ⟨rfl, rfl, rfl, by decide +kernel, rfl, by decide +kernel, by decide +kernel⟩
abbrev s__law_number_of : Stmt := top 58
theorem sc__law_number_of : FnScope ["_law_word", "_law_figures", "_law_total", "_law_sign_here"] ["_law_word"] (defScope s__law_number_of) := ⟨rfl, rfl, rfl, by decide +kernel, rfl, by decide +kernel, by decide +kernel⟩
abbrev s__law_fraction_of : Stmt := top 59
theorem sc__law_fraction_of : FnScope ["_law_text", "_law_row_here"] ["_law_text"] (defScope s__law_fraction_of) := ⟨rfl, rfl, rfl, by decide +kernel, rfl, by decide +kernel, by decide +kernel⟩
abbrev s__law_table_of : Stmt := top 60
theorem sc__law_table_of : FnScope ["_law_text", "_law_row_here"] ["_law_text"] (defScope s__law_table_of) := ⟨rfl, rfl, rfl, by decide +kernel, rfl, by decide +kernel, by decide +kernel⟩
abbrev s__law_word_of : Stmt := top 61
theorem sc__law_word_of : FnScope ["_law_text", "_law_parts", "_law_found", "_law_k", "_law_often"] ["_law_text"] (defScope s__law_word_of) := ⟨rfl, rfl, rfl, by decide +kernel, rfl, by decide +kernel, by decide +kernel⟩
abbrev s__law_told : Stmt := top 62
theorem sc__law_told : FnScope ["_law_way", "_law_text", "_law_told_here", "e", "_law_sorts"] ["_law_way", "_law_text"] (defScope s__law_told) := ⟨rfl, rfl, rfl, by decide +kernel, rfl, by decide +kernel, by decide +kernel⟩
abbrev s__law_well_read : Stmt := top 63
theorem sc__law_well_read : FnScope ["_law_text", "_law_due", "_law_told_here"] ["_law_text"] (defScope s__law_well_read) := ⟨rfl, rfl, rfl, by decide +kernel, rfl, by decide +kernel, by decide +kernel⟩
abbrev s__law_sign : Stmt := top 64
theorem sc__law_sign : FnScope ["_law_way", "_law_low"] ["_law_way"] (defScope s__law_sign) := ⟨rfl, rfl, rfl, by decide +kernel, rfl, by decide +kernel, by decide +kernel⟩
abbrev s__law_changed : Stmt := top 65
theorem sc__law_changed : FnScope ["_law_text", "_law_way", "_law_at", "_law_sign_here", "_law_words", "_law_some"] ["_law_text", "_law_way"] (defScope s__law_changed) := ⟨rfl, rfl, rfl, by decide +kernel, rfl, by decide +kernel, by decide +kernel⟩
abbrev s__law_odd_texts : Stmt := top 66
theorem sc__law_odd_texts : FnScope ["_law_some"] [] (defScope s__law_odd_texts) := ⟨rfl, rfl, rfl, by decide +kernel, rfl, by decide +kernel, by decide +kernel⟩
abbrev s_law : Stmt := top 67
theorem sc_law : FnScope ["_law_script", "_law_way", "_law_text", "_law_top"] ["_law_script"] (defScope s_law) := ⟨rfl, rfl, rfl, by decide +kernel, rfl, by decide +kernel, by decide +kernel⟩
structure Blt (mg : Str → Option Value) : Prop where
  ValueError : mg "ValueError" = none
  abs : mg "abs" = none
  all : mg "all" = none
  any : mg "any" = none
  bool : mg "bool" = none
  int : mg "int" = none
  isinstance : mg "isinstance" = none
  len : mg "len" = none
  list : mg "list" = none
  max : mg "max" = none
  range : mg "range" = none
  str : mg "str" = none
  tuple : mg "tuple" = none
structure Cls (K : PySem.W.Frag) (mg : Str → Option Value) (base : Heap) : Type where
  SawError : CK K mg base "SawError"
  NoCount : CG mg "NoCount"
  NotOdd : CG mg "NotOdd"
  TooMany : CG mg "TooMany"
  NotApart : CG mg "NotApart"
  NoShuffle : CG mg "NoShuffle"
  NoPaper : CG mg "NoPaper"
  NoPrime : CG mg "NoPrime"
  NoFraction : CK K mg base "NoFraction"
  NoTable : CK K mg base "NoTable"
  NoWord : CG mg "NoWord"
  NoRow : CG mg "NoRow"
  NoText : CK K mg base "NoText"
  NoLine : CG mg "NoLine"
  NoName : CG mg "NoName"
  NoDeed : CG mg "NoDeed"
structure Rel (K : PySem.W.Frag) (mg : Str → Option Value) (base : Heap) (C : Cls K mg base) : Prop where
  r_NoText_sw : PySem.W.kitOne K (.ref C.NoText.addr) (.ref C.SawError.addr) = some true
  r_NoText_ve : PySem.W.kitOne K (.ref C.NoText.addr) (.type "ValueError") = some true
  r_NoText_NoCount : PySem.W.kitOne K (.ref C.NoText.addr) (.ref C.NoCount.addr) = some false
  r_NoText_NotOdd : PySem.W.kitOne K (.ref C.NoText.addr) (.ref C.NotOdd.addr) = some false
  r_NoText_TooMany : PySem.W.kitOne K (.ref C.NoText.addr) (.ref C.TooMany.addr) = some false
  r_NoText_NotApart : PySem.W.kitOne K (.ref C.NoText.addr) (.ref C.NotApart.addr) = some false
  r_NoText_NoTable : PySem.W.kitOne K (.ref C.NoText.addr) (.ref C.NoTable.addr) = some false
  r_NoText_NoText : PySem.W.kitOne K (.ref C.NoText.addr) (.ref C.NoText.addr) = some true
  r_NoText_NoShuffle : PySem.W.kitOne K (.ref C.NoText.addr) (.ref C.NoShuffle.addr) = some false
  r_NoText_NoWord : PySem.W.kitOne K (.ref C.NoText.addr) (.ref C.NoWord.addr) = some false
  r_NoText_NoRow : PySem.W.kitOne K (.ref C.NoText.addr) (.ref C.NoRow.addr) = some false
  r_NoText_NoPaper : PySem.W.kitOne K (.ref C.NoText.addr) (.ref C.NoPaper.addr) = some false
  r_NoText_NoFraction : PySem.W.kitOne K (.ref C.NoText.addr) (.ref C.NoFraction.addr) = some false
  r_NoText_NoPrime : PySem.W.kitOne K (.ref C.NoText.addr) (.ref C.NoPrime.addr) = some false
  r_NoText_NoLine : PySem.W.kitOne K (.ref C.NoText.addr) (.ref C.NoLine.addr) = some false
  r_NoText_NoName : PySem.W.kitOne K (.ref C.NoText.addr) (.ref C.NoName.addr) = some false
  r_NoText_NoDeed : PySem.W.kitOne K (.ref C.NoText.addr) (.ref C.NoDeed.addr) = some false
  r_NoTable_sw : PySem.W.kitOne K (.ref C.NoTable.addr) (.ref C.SawError.addr) = some true
  r_NoTable_ve : PySem.W.kitOne K (.ref C.NoTable.addr) (.type "ValueError") = some true
  r_NoTable_NoCount : PySem.W.kitOne K (.ref C.NoTable.addr) (.ref C.NoCount.addr) = some false
  r_NoTable_NotOdd : PySem.W.kitOne K (.ref C.NoTable.addr) (.ref C.NotOdd.addr) = some false
  r_NoTable_TooMany : PySem.W.kitOne K (.ref C.NoTable.addr) (.ref C.TooMany.addr) = some false
  r_NoTable_NotApart : PySem.W.kitOne K (.ref C.NoTable.addr) (.ref C.NotApart.addr) = some false
  r_NoTable_NoTable : PySem.W.kitOne K (.ref C.NoTable.addr) (.ref C.NoTable.addr) = some true
  r_NoTable_NoText : PySem.W.kitOne K (.ref C.NoTable.addr) (.ref C.NoText.addr) = some false
  r_NoTable_NoShuffle : PySem.W.kitOne K (.ref C.NoTable.addr) (.ref C.NoShuffle.addr) = some false
  r_NoTable_NoWord : PySem.W.kitOne K (.ref C.NoTable.addr) (.ref C.NoWord.addr) = some false
  r_NoTable_NoRow : PySem.W.kitOne K (.ref C.NoTable.addr) (.ref C.NoRow.addr) = some false
  r_NoTable_NoPaper : PySem.W.kitOne K (.ref C.NoTable.addr) (.ref C.NoPaper.addr) = some false
  r_NoTable_NoFraction : PySem.W.kitOne K (.ref C.NoTable.addr) (.ref C.NoFraction.addr) = some false
  r_NoTable_NoPrime : PySem.W.kitOne K (.ref C.NoTable.addr) (.ref C.NoPrime.addr) = some false
  r_NoTable_NoLine : PySem.W.kitOne K (.ref C.NoTable.addr) (.ref C.NoLine.addr) = some false
  r_NoTable_NoName : PySem.W.kitOne K (.ref C.NoTable.addr) (.ref C.NoName.addr) = some false
  r_NoTable_NoDeed : PySem.W.kitOne K (.ref C.NoTable.addr) (.ref C.NoDeed.addr) = some false
structure Cst (K : PySem.W.Frag) (mg : Str → Option Value) : Prop where
  MOST_FIGURES : ∃ t, mg "MOST_FIGURES" = some (.int 60 t)
  FIGURES : ∃ t, mg "FIGURES" = some (.str "0123456789" t)
  EMPTY_WORD : ∃ t, mg "EMPTY_WORD" = some (.str "none" t)
def spLaw (K : PySem.W.Frag) : Sp := fun vs H Q _ => ∃ (a : Addr) (ns : List Int), vs = [.ref a] ∧ SqL K H a (ns.map V.int) ∧ ns.length ≤ 63 ∧ ∀ H', Q (.bl true) H'
section
variable {P : Program} {w : World} {K : PySem.W.Frag} {mg : Str → Option Value} {base : Heap}
structure Hide (p : Prop) : Prop where
  out : p
def spGcd : Sp := fun vs H Q _ => ∃ a b : Int, vs = [.int a, .int b] ∧ Q (.int (Int.gcd a b)) H
theorem use_gcd {a b : Int} {H : Hp} {Q : VK} {E : XK} (h : Q (.int (Int.gcd a b)) H) : spGcd [.int a, .int b] H Q E := ⟨a, b, rfl, h⟩
local macro_rules | `(tactic| walk_at "rdcall") => `(tactic| (with_reducible refine use_gcd ?_))
def isI : V → Bool
  | .int _ => true
  | _ => false
def Kn (H : Hp) (v : V) : Prop := (∃ i, v = .int i) ∨ (∃ b, v = .bl b) ∨ (∃ s, v = .str s) ∨ v = .non ∨ (∃ p xs, v = .ref p ∧ H p = some (.lst xs)) ∨ (∃ p xs, v = .ref p ∧ H p = some (.tup xs))
theorem Kn.same {H H' : Hp} {v : V} (k : Kn H v) (s : Same H H') : Kn H' v := by
  rcases k with k | k | k | k | ⟨p, xs, e, h⟩ | ⟨p, xs, e, h⟩
  · exact .inl k
  · exact .inr (.inl k)
  · exact .inr (.inr (.inl k))
  · exact .inr (.inr (.inr (.inl k)))
  · exact .inr (.inr (.inr (.inr (.inl ⟨p, xs, e, s.obj h⟩))))
  · exact .inr (.inr (.inr (.inr (.inr ⟨p, xs, e, s.obj h⟩))))
def spWh : Sp := fun vs H Q _ => ∃ v : V, vs = [v] ∧ Kn H v ∧ Q (.bl (isI v)) H
theorem use_wh {v : V} {H : Hp} {Q : VK} {E : XK} (k : Kn H v) (h : Q (.bl (isI v)) H) : spWh [v] H Q E := ⟨v, rfl, k, h⟩
theorem ok_is_whole (F : Src K mg "is_whole" s_is_whole ["thing"]) (B : Blt mg) (C : Cls K mg base) (R : Rel K mg base C) (Kc : Cst K mg)  : Def P w K mg base (CXE P w) 1 "is_whole" ["thing"] spWh := by
  refine F.ok (CX := CXE P w) (k := 0) sc_is_whole (fun vs H Q E h => ?_) (fun f cdv A outer s H vs Q E hr h => ?_)
  · obtain ⟨_, rfl, _⟩ := h
    rfl
  have nd := sc_is_whole.nd
  obtain ⟨v, rfl, k, q⟩ := h
  refine ⟨_, (@pss_one _ _ _ (@ps_ret _ _ _ _ (@pe_and _ _ _ _ _ _ _ (@pe_callB _ _ _ _ _ _ _ _ _ call_isi rfl B.isinstance PyProof.Rows.boot_isinstance (@pa_cons _ _ _ _ _ (pv 0) (@pa_cons _ _ _ _ _ (@pe_bltn _ _ (.ty "int") _ _ rfl B.int PyProof.Rows.boot_int rfl (by decide) (by decide)) pa_nil (by rfl)) (by rfl)) (by decide) (by decide) (by rfl) (by rfl)) (@pe_one _ _ _ _ _ (@pe_not _ _ _ _ (@pe_callB _ _ _ _ _ _ _ _ _ call_isi rfl B.isinstance PyProof.Rows.boot_isinstance (@pa_cons _ _ _ _ _ (pv 0) (@pa_cons _ _ _ _ _ (@pe_bltn _ _ (.ty "bool") _ _ rfl B.bool PyProof.Rows.boot_bool rfl (by decide) (by decide)) pa_nil (by rfl)) (by rfl)) (by decide) (by decide) (by rfl) (by rfl))))))), ?_⟩
  try dsimp only [cxOf, Cx.inH, Cx.tried]
  refine rd_start [some v] rfl ?_
  rcases k with ⟨i, rfl⟩ | ⟨b, rfl⟩ | ⟨s, rfl⟩ | rfl | ⟨p, xs, rfl, hp⟩ | ⟨p, xs, rfl, hp⟩
  · walk_at "rd"
    exact q
  · walk_at "rd"
    walk_at "ite"
    · walk_at "rd"
      exact q
    · rename_i c
      exact absurd c (by decide)
  · walk_at "rd"
    exact q
  · walk_at "rd"
    exact q
  · walk_at "rd"
    exact q
  · walk_at "rd"
    exact q
def spIP : Sp := fun vs H Q _ => ∃ (r : Addr) (a b : Int), vs = [.ref r] ∧ H r = some (.tup [.int a, .int b]) ∧ Q (.bl true) H
theorem use_IP {r : Addr} {a b : Int} {H : Hp} {Q : VK} {E : XK} (e : H r = some (.tup [.int a, .int b])) (h : Q (.bl true) H) : spIP [.ref r] H Q E := ⟨r, a, b, rfl, e, h⟩
theorem ok_is_pair_of_wholes (F : Src K mg "is_pair_of_wholes" s_is_pair_of_wholes ["thing"]) (B : Blt mg) (C : Cls K mg base) (R : Rel K mg base C) (Kc : Cst K mg) (D_is_whole : Def P w K mg base (CXE P w) 1 "is_whole" ["thing"] spWh) : Def P w K mg base (CXE P w) 2 "is_pair_of_wholes" ["thing"] spIP := by
  refine F.ok (CX := CXE P w) (k := 1) sc_is_pair_of_wholes (fun vs H Q E h => ?_) (fun f cdv A outer s H vs Q E hr h => ?_)
  · obtain ⟨_, _, _, rfl, _⟩ := h
    rfl
  have nd := sc_is_pair_of_wholes.nd
  obtain ⟨r, a, b, rfl, e, q⟩ := h
  refine ⟨_, (@pss_one _ _ _ (@ps_ret _ _ _ _ (@pe_and _ _ _ _ _ _ _ (@pe_callB _ _ _ _ _ _ _ _ _ call_isi rfl B.isinstance PyProof.Rows.boot_isinstance (@pa_cons _ _ _ _ _ (pv 0) (@pa_cons _ _ _ _ _ (@pe_bltn _ _ (.ty "tuple") _ _ rfl B.tuple PyProof.Rows.boot_tuple rfl (by decide) (by decide)) pa_nil (by rfl)) (by rfl)) (by decide) (by decide) (by rfl) (by rfl)) (@pe_and _ _ _ _ _ _ _ (@pe_cmpR _ _ _ _ _ _ _ _ (op_eqA hr.units0) (@pe_callB _ _ _ _ _ _ _ _ _ call_lenA rfl B.len PySem.boot_len (@pa_cons _ _ _ _ _ (pv 0) pa_nil (by rfl)) (by decide) (by decide) (by rfl) (by rfl)) pe_int (nomark _)) (@pe_and _ _ _ _ _ _ _ (@pe_defS _ _ _ _ _ _ _ _ _ _ _ D_is_whole (hr.mono (by decide)) rfl xpass_nox (@pa_cons _ _ _ _ _ (@pe_ix _ _ _ _ _ _ _ ix_A (pv 0) pe_int (fun _ _ => rfl)) pa_nil (by rfl)) (by decide) (by rfl) (by rfl)) (@pe_one _ _ _ _ _ (@pe_defS _ _ _ _ _ _ _ _ _ _ _ D_is_whole (hr.mono (by decide)) rfl xpass_nox (@pa_cons _ _ _ _ _ (@pe_ix _ _ _ _ _ _ _ ix_A (pv 0) pe_int (fun _ _ => rfl)) pa_nil (by rfl)) (by decide) (by rfl) (by rfl)))))))), ?_⟩
  try dsimp only [cxOf, Cx.inH, Cx.tried]
  refine rd_start [some (.ref r)] rfl ?_
  walk_at "rd"
  walk_at "ite"
  · walk_at "rd"
    refine use_wh (.inl ⟨_, rfl⟩) ?_
    rw [show isI (V.int a) = true from rfl]
    walk_at "rd"
    refine use_wh (.inl ⟨_, rfl⟩) ?_
    exact q
  · rename_i c
    exact absurd rfl c
theorem ok_shared (F : Src K mg "shared" s_shared ["a", "b"]) (B : Blt mg) (C : Cls K mg base) (R : Rel K mg base C) (Kc : Cst K mg)  : Def P w K mg base (CXE P w) 1 "shared" ["a", "b"] spGcd := by
  refine F.ok (CX := CXE P w) (k := 0) sc_shared (fun vs H Q E h => ?_) (fun f cdv A outer s H vs Q E hr h => ?_)
  · obtain ⟨_, _, rfl, _⟩ := h
    rfl
  have nd := sc_shared.nd
  obtain ⟨a, b, rfl, q⟩ := h
  refine ⟨_, (@pss_cons _ _ _ _ _ (@ps_set _ _ 2 _ _ _ _ nd rfl (Or.inl rfl) (@pe_callB _ _ _ _ _ _ _ _ _ call_absI rfl B.abs PyProof.Rows.boot_abs (@pa_cons _ _ _ _ _ (pv 0) pa_nil (by rfl)) (by decide) (by decide) (by rfl) (by rfl)) (by rfl) (by walk_at "lo")) (@pss_cons _ _ _ _ _ (@ps_set _ _ 3 _ _ _ _ nd rfl (Or.inl rfl) (@pe_callB _ _ _ _ _ _ _ _ _ call_absI rfl B.abs PyProof.Rows.boot_abs (@pa_cons _ _ _ _ _ (pv 1) pa_nil (by rfl)) (by decide) (by decide) (by rfl) (by rfl)) (by rfl) (by walk_at "lo")) (@pss_cons _ _ _ _ _ (@ps_while _ _ _ _ _ _ PassesOwn.never (@pt_cmpR _ _ _ _ _ _ _ _ (op_neA hr.units0) (pv 3) pe_int (nomark _)) (@pss_cons _ _ _ _ _ (@ps_set _ _ 4 _ _ _ _ nd rfl (Or.inl rfl) (@pe_op _ _ _ _ _ _ _ _ op_modA (pv 2) (pv 3)) (by rfl) (by walk_at "lo")) (@pss_cons _ _ _ _ _ (@ps_set _ _ 2 _ _ _ _ nd rfl (Or.inl rfl) (pv 3) (by rfl) (by walk_at "lo")) (@pss_one _ _ _ (@ps_set _ _ 3 _ _ _ _ nd rfl (Or.inl rfl) (pv 4) (by rfl) (by walk_at "lo")))))) (@pss_one _ _ _ (@ps_ret _ _ _ _ (pv 2)))))), ?_⟩
  try dsimp only [cxOf, Cx.inH, Cx.tried]
  refine rd_start [some (.int a), some (.int b), none, none, none] rfl ?_
  walk_at "rd"
  rename_i x0 e0 y0 e1
  refine rd_while (fun m σ H' => H' = H ∧ ∃ (x y : Int) (z : Option V), m = y.natAbs ∧ σ = [some (.int a), some (.int b), some (.int x), some (.int y), z] ∧ 0 ≤ x ∧ 0 ≤ y ∧ Int.gcd x y = Int.gcd a b) _ ⟨rfl, x0, y0, _, rfl, rfl, by omega, by omega, by rw [e0, e1]; simp [Int.gcd]⟩ ?_
  rintro m σ H' ⟨rfl, x, y, z, rfl, rfl, hx, hy, hg⟩
  walk_at "rd"
  walk_at "ite"
  · rename_i c
    walk_at "rd"
    have h1 := Int.emod_nonneg x c
    have h2 := Int.emod_lt_of_pos x (show 0 < y by omega)
    exact ⟨_, by omega, rfl, _, _, _, rfl, rfl, hy, h1, (Mth.gcd_emod x y).trans hg⟩
  · rename_i c
    subst c
    walk_at "rd"
    have e : x = (Int.gcd a b : Int) := by
      rw [← hg, Int.gcd_zero_right]; omega
    rw [e]
    exact q
def spNB (c : Addr) : Sp := fun vs H Q E => ∃ b : Int, vs = [.int b] ∧ (b = 0 → E (.ref c) none H) ∧ (b ≠ 0 → Q .non H)
theorem use_NB {c : Addr} {b : Int} {H : Hp} {Q : VK} {E : XK} (h1 : b = 0 → E (.ref c) none H) (h2 : b ≠ 0 → Q .non H) : spNB c [.int b] H Q E := ⟨b, rfl, h1, h2⟩
theorem ok_need_bottom (F : Src K mg "need_bottom" s_need_bottom ["bottom"]) (B : Blt mg) (C : Cls K mg base) (R : Rel K mg base C) (Kc : Cst K mg)  : Def P w K mg base (CXE P w) 1 "need_bottom" ["bottom"] (spNB C.NoFraction.addr) := by
  refine F.okX (CX := CXE P w) (k := 0) sc_need_bottom (fun vs H Q E h => ?_) (fun f cdv A outer s H vs Q E hr h => ?_)
  · obtain ⟨_, rfl, _⟩ := h
    rfl
  have nd := sc_need_bottom.nd
  obtain ⟨b, rfl, h1, h2⟩ := h
  refine ⟨_, (@pss_one _ _ _ (@ps_if _ _ _ _ _ _ _ _ (@pt_cmpR _ _ _ _ _ _ _ _ (op_eqA hr.units0) (pv 0) pe_int (nomark _)) (@pss_one _ _ _ (@ps_raise _ _ _ _ _ _ _ _ _ _ _ _ _ _ (C.NoFraction).own PySem.F.excBase_ValueError rfl rfl xmade_cx (@pa_cons _ _ _ _ _ pe_str pa_nil (by rfl)) (by decide) (by rfl) (by rfl))) pss_nil)), ?_⟩
  try dsimp only [cxOf, Cx.inH, Cx.tried]
  refine rd_start [some (.int b)] rfl ?_
  walk_at "rd"
  walk_at "ite"
  · rename_i c
    walk_at "rd"
    exact h1 c
  · rename_i c
    walk_at "rd"
    exact h2 c
def spFrac (c : Addr) : Sp := fun vs H Q E => ∃ t b : Int, vs = [.int t, .int b] ∧ b.natAbs < 10 ^ 600 ∧ (b = 0 → E (.ref c) none H) ∧ (b ≠ 0 → ∀ r H', Same H H' → H r = none → H' r = some (.tup [.int (Mth.lowT t b), .int (Mth.lowB t b)]) → Q (.ref r) H')
theorem use_frac {c : Addr} {t b : Int} {H : Hp} {Q : VK} {E : XK} (hB : b.natAbs < 10 ^ 600) (h1 : b = 0 → E (.ref c) none H) (h2 : b ≠ 0 → ∀ r H', Same H H' → H r = none → H' r = some (.tup [.int (Mth.lowT t b), .int (Mth.lowB t b)]) → Q (.ref r) H') : spFrac c [.int t, .int b] H Q E := ⟨t, b, rfl, hB, h1, h2⟩
theorem ok_fraction (F : Src K mg "fraction" s_fraction ["top", "bottom"]) (B : Blt mg) (C : Cls K mg base) (R : Rel K mg base C) (Kc : Cst K mg) (D_need_bottom : Def P w K mg base (CXE P w) 1 "need_bottom" ["bottom"] (spNB C.NoFraction.addr)) (D_shared : Def P w K mg base (CXE P w) 1 "shared" ["a", "b"] spGcd) : Def P w K mg base (CXE P w) 2 "fraction" ["top", "bottom"] (spFrac C.NoFraction.addr) := by
  refine F.okX (CX := CXE P w) (k := 1) sc_fraction (fun vs H Q E h => ?_) (fun f cdv A outer s H vs Q E hr h => ?_)
  · obtain ⟨_, _, rfl, _⟩ := h
    rfl
  have nd := sc_fraction.nd
  obtain ⟨t, b, rfl, hB, h1, h2⟩ := h
  refine ⟨_, (@pss_cons _ _ _ _ _ (@ps_expr _ _ _ _ (@pe_defS _ _ _ _ _ _ _ _ _ _ _ D_need_bottom (hr.mono (by decide)) rfl xpass_cx (@pa_cons _ _ _ _ _ (pv 1) pa_nil (by rfl)) (by decide) (by rfl) (by rfl)) (by rfl)) (@pss_cons _ _ _ _ _ (@ps_set _ _ 2 _ _ _ _ nd rfl (Or.inl rfl) (@pe_ifExp _ _ _ _ _ _ _ _ (@pt_cmpR _ _ _ _ _ _ _ _ op_gtI (pv 1) pe_int (nomark _)) (@pe_defS _ _ _ _ _ _ _ _ _ _ _ D_shared (hr.mono (by decide)) rfl xpass_cx (@pa_cons _ _ _ _ _ (pv 0) (@pa_cons _ _ _ _ _ (pv 1) pa_nil (by rfl)) (by rfl)) (by decide) (by rfl) (by rfl)) (@pe_un _ _ _ _ _ _ un_neg (@pe_defS _ _ _ _ _ _ _ _ _ _ _ D_shared (hr.mono (by decide)) rfl xpass_cx (@pa_cons _ _ _ _ _ (pv 0) (@pa_cons _ _ _ _ _ (pv 1) pa_nil (by rfl)) (by rfl)) (by decide) (by rfl) (by rfl)))) (by rfl) (by walk_at "lo")) (@pss_one _ _ _ (@ps_ret _ _ _ _ (@pe_tup _ _ _ _ _ (@pa_cons _ _ _ _ _ (@pe_op _ _ _ _ _ _ _ _ op_divA (pv 0) (pv 2)) (@pa_cons _ _ _ _ _ (@pe_op _ _ _ _ _ _ _ _ op_divA (pv 1) (pv 2)) pa_nil (by rfl)) (by rfl))))))), ?_⟩
  try dsimp only [cxOf, Cx.inH, Cx.tried]
  refine rd_start [some (.int t), some (.int b), none] rfl ?_
  walk_at "rd"
  refine use_NB h1 fun hb => ?_
  have l1 := Mth.lowBy_ne (t := t) hb
  have l2 := Mth.lowBy_le (t := t) hb
  have en : ∀ (z : Int), z = Mth.lowBy t b → z ≠ 0 ∧ z.natAbs < 10 ^ 600 := fun z e => by rw [e]; exact ⟨l1, by omega⟩
  walk_at "rd"
  walk_at "ite"
  · rename_i c
    have e1 : (Int.gcd t b : Int) = Mth.lowBy t b := (Mth.lowBy_pos c).symm
    have e2 := en _ e1
    obtain ⟨e4, e5⟩ := Mth.low_pos (t := t) c
    walk_at "rd"
    rename_i r H1 s1 n1 e3
    rw [← e4, ← e5] at e3
    exact h2 hb r H1 s1 n1 e3
  · rename_i c
    have e1 : -(Int.gcd t b : Int) = Mth.lowBy t b := (if_neg c).symm
    have e2 := en _ e1
    walk_at "rd"
    rename_i r H1 s1 n1 e3
    rw [e1] at e3
    exact h2 hb r H1 s1 n1 e3
def spIT3 : Sp := fun vs H Q _ => ∃ (t : Addr) (a b c d : Int), vs = [.ref t] ∧ Tab H t a b c d ∧ a.natAbs < 10 ^ 190 ∧ b.natAbs < 10 ^ 190 ∧ c.natAbs < 10 ^ 190 ∧ d.natAbs < 10 ^ 190 ∧ Q (.bl (decide (a * d - b * c = 1))) H
theorem use_IT3 {t : Addr} {a b c d : Int} {H : Hp} {Q : VK} {E : XK} (T : Tab H t a b c d) (b1 : a.natAbs < 10 ^ 190) (b2 : b.natAbs < 10 ^ 190) (b3 : c.natAbs < 10 ^ 190) (b4 : d.natAbs < 10 ^ 190) (h : Q (.bl (decide (a * d - b * c = 1))) H) : spIT3 [.ref t] H Q E := ⟨t, a, b, c, d, rfl, T, b1, b2, b3, b4, h⟩
theorem ok_is_table (F : Src K mg "is_table" s_is_table ["table"]) (B : Blt mg) (C : Cls K mg base) (R : Rel K mg base C) (Kc : Cst K mg) (D_is_pair_of_wholes : Def P w K mg base (CXE P w) 2 "is_pair_of_wholes" ["thing"] spIP) : Def P w K mg base (CXE P w) 3 "is_table" ["table"] spIT3 := by
  refine F.ok (CX := CXE P w) (k := 2) sc_is_table (fun vs H Q E h => ?_) (fun f cdv A outer s H vs Q E hr h => ?_)
  · obtain ⟨_, _, _, _, _, rfl, _⟩ := h
    rfl
  have nd := sc_is_table.nd
  obtain ⟨t, a, b, c, d, rfl, ⟨r, s, e1, e2, e3⟩, b1, b2, b3, b4, q⟩ := h
  refine ⟨_, (@pss_cons _ _ _ _ _ (@ps_if _ _ _ _ _ _ _ _ (@PW.pt _ _ _ (@pw_or _ _ _ _ _ _ _ (@pt_not _ _ _ _ (@pt_val _ _ _ (@pe_callB _ _ _ _ _ _ _ _ _ call_isi rfl B.isinstance PyProof.Rows.boot_isinstance (@pa_cons _ _ _ _ _ (pv 0) (@pa_cons _ _ _ _ _ (@pe_bltn _ _ (.ty "tuple") _ _ rfl B.tuple PyProof.Rows.boot_tuple rfl (by decide) (by decide)) pa_nil (by rfl)) (by rfl)) (by decide) (by decide) (by rfl) (by rfl)) (by intro _; rfl))) (@pw_or1 _ _ _ _ (@pt_cmpR _ _ _ _ _ _ _ _ (op_neA hr.units0) (@pe_callB _ _ _ _ _ _ _ _ _ call_lenA rfl B.len PySem.boot_len (@pa_cons _ _ _ _ _ (pv 0) pa_nil (by rfl)) (by decide) (by decide) (by rfl) (by rfl)) pe_int (nomark _))))) (@pss_one _ _ _ (@ps_ret _ _ _ _ pe_bl)) pss_nil) (@pss_cons _ _ _ _ _ (@ps_if _ _ _ _ _ _ _ _ (@PW.pt _ _ _ (@pw_or _ _ _ _ _ _ _ (@pt_not _ _ _ _ (@pt_val _ _ _ (@pe_defS _ _ _ _ _ _ _ _ _ _ _ D_is_pair_of_wholes (hr.mono (by decide)) rfl xpass_nox (@pa_cons _ _ _ _ _ (@pe_ix _ _ _ _ _ _ _ ix_A (pv 0) pe_int (fun _ _ => rfl)) pa_nil (by rfl)) (by decide) (by rfl) (by rfl)) (by intro _; rfl))) (@pw_or1 _ _ _ _ (@pt_not _ _ _ _ (@pt_val _ _ _ (@pe_defS _ _ _ _ _ _ _ _ _ _ _ D_is_pair_of_wholes (hr.mono (by decide)) rfl xpass_nox (@pa_cons _ _ _ _ _ (@pe_ix _ _ _ _ _ _ _ ix_A (pv 0) pe_int (fun _ _ => rfl)) pa_nil (by rfl)) (by decide) (by rfl) (by rfl)) (by intro _; rfl)))))) (@pss_one _ _ _ (@ps_ret _ _ _ _ pe_bl)) pss_nil) (@pss_one _ _ _ (@ps_ret _ _ _ _ (@pe_cmpR _ _ _ _ _ _ _ _ (op_eqA hr.units0) (@pe_op _ _ _ _ _ _ _ _ op_subI (@pe_op _ _ _ _ _ _ _ _ op_mulA (@pe_ix _ _ _ _ _ _ _ ix_A (@pe_ix _ _ _ _ _ _ _ ix_A (pv 0) pe_int (fun _ _ => rfl)) pe_int (fun _ _ => rfl)) (@pe_ix _ _ _ _ _ _ _ ix_A (@pe_ix _ _ _ _ _ _ _ ix_A (pv 0) pe_int (fun _ _ => rfl)) pe_int (fun _ _ => rfl))) (@pe_op _ _ _ _ _ _ _ _ op_mulA (@pe_ix _ _ _ _ _ _ _ ix_A (@pe_ix _ _ _ _ _ _ _ ix_A (pv 0) pe_int (fun _ _ => rfl)) pe_int (fun _ _ => rfl)) (@pe_ix _ _ _ _ _ _ _ ix_A (@pe_ix _ _ _ _ _ _ _ ix_A (pv 0) pe_int (fun _ _ => rfl)) pe_int (fun _ _ => rfl)))) pe_int (nomark _)))))), ?_⟩
  try dsimp only [cxOf, Cx.inH, Cx.tried]
  refine rd_start [some (.ref t)] rfl ?_
  walk_at "rd"
  walk_at "ite"
  · rename_i c
    exact absurd rfl c
  walk_at "rd"
  refine use_IP e2 ?_
  walk_at "rd"
  refine use_IP e3 ?_
  walk_at "rd"
  exact q
def spNT3 (cX : Addr) : Sp := fun vs H Q E => ∃ (t : Addr) (a b c d : Int), vs = [.ref t] ∧ Tab H t a b c d ∧ a.natAbs < 10 ^ 190 ∧ b.natAbs < 10 ^ 190 ∧ c.natAbs < 10 ^ 190 ∧ d.natAbs < 10 ^ 190 ∧ (a * d - b * c = 1 → Q .non H) ∧ (a * d - b * c ≠ 1 → E (.ref cX) none H)
theorem use_NT3 {cX t : Addr} {a b c d : Int} {H : Hp} {Q : VK} {E : XK} (T : Tab H t a b c d) (b1 : a.natAbs < 10 ^ 190) (b2 : b.natAbs < 10 ^ 190) (b3 : c.natAbs < 10 ^ 190) (b4 : d.natAbs < 10 ^ 190) (h1 : a * d - b * c = 1 → Q .non H) (h2 : a * d - b * c ≠ 1 → E (.ref cX) none H) : spNT3 cX [.ref t] H Q E := ⟨t, a, b, c, d, rfl, T, b1, b2, b3, b4, h1, h2⟩
theorem use_NT {cX t : Addr} {a b c d : Int} {H : Hp} {Q : VK} {E : XK} (T : Tab H t a b c d) (e : a * d - b * c = 1) (b1 : a.natAbs < 10 ^ 190) (b2 : b.natAbs < 10 ^ 190) (b3 : c.natAbs < 10 ^ 190) (b4 : d.natAbs < 10 ^ 190) (h : Q .non H) : spNT3 cX [.ref t] H Q E := ⟨t, a, b, c, d, rfl, T, b1, b2, b3, b4, fun _ => h, fun z => absurd e z⟩
theorem ok_need_table (F : Src K mg "need_table" s_need_table ["table"]) (B : Blt mg) (C : Cls K mg base) (R : Rel K mg base C) (Kc : Cst K mg) (D_is_table : Def P w K mg base (CXE P w) 3 "is_table" ["table"] spIT3) : Def P w K mg base (CXE P w) 4 "need_table" ["table"] (spNT3 C.NoTable.addr) := by
  refine F.okX (CX := CXE P w) (k := 3) sc_need_table (fun vs H Q E h => ?_) (fun f cdv A outer s H vs Q E hr h => ?_)
  · obtain ⟨_, _, _, _, _, rfl, _⟩ := h
    rfl
  have nd := sc_need_table.nd
  obtain ⟨t, a, b, c, d, rfl, T, b1, b2, b3, b4, q1, q2⟩ := h
  refine ⟨_, (@pss_one _ _ _ (@ps_if _ _ _ _ _ _ _ _ (@pt_not _ _ _ _ (@pt_val _ _ _ (@pe_defS _ _ _ _ _ _ _ _ _ _ _ D_is_table (hr.mono (by decide)) rfl xpass_cx (@pa_cons _ _ _ _ _ (pv 0) pa_nil (by rfl)) (by decide) (by rfl) (by rfl)) (by intro _; rfl))) (@pss_one _ _ _ (@ps_raise _ _ _ _ _ _ _ _ _ _ _ _ _ _ (C.NoTable).own PySem.F.excBase_ValueError rfl rfl xmade_cx (@pa_cons _ _ _ _ _ pe_str pa_nil (by rfl)) (by decide) (by rfl) (by rfl))) pss_nil)), ?_⟩
  try dsimp only [cxOf, Cx.inH, Cx.tried]
  refine rd_start [some (.ref t)] rfl ?_
  walk_at "rd"
  refine use_IT3 T b1 b2 b3 b4 ?_
  by_cases z : a * d - b * c = 1
  · rw [decide_eq_true z]
    walk_at "rd"
    exact q1 z
  · rw [decide_eq_false z]
    walk_at "rd"
    exact q2 z
def RunIs (H : Hp) (v : V) (b : Bool) (n : Int) : Prop := ∃ p, v = .ref p ∧ H p = some (.tup [.str (ltr b), .int n]) ∧ 1 ≤ n
def RunB (H : Hp) (v : V) : Prop := ∃ b n, RunIs H v b n
def KR (H : Hp) (v : V) : Prop := (flatV v = true) ∨ (∃ p xs, v = .ref p ∧ H p = some (.lst xs)) ∨ (∃ p xs, v = .ref p ∧ H p = some (.tup xs) ∧ (xs.length = 2 → ∀ x ∈ xs, flatV x = true))
theorem flat_kn {v : V} (h : flatV v = true) (H : Hp) : Kn H v := by
  cases v with
  | int i => exact .inl ⟨i, rfl⟩
  | bl b => exact .inr (.inl ⟨b, rfl⟩)
  | str s => exact .inr (.inr (.inl ⟨s, rfl⟩))
  | non => exact .inr (.inr (.inr (.inl rfl)))
  | _ => cases h
theorem KR.same {H H' : Hp} {v : V} (k : KR H v) (s : Same H H') : KR H' v := by
  rcases k with k | ⟨p, xs, e, h⟩ | ⟨p, xs, e, h, k⟩
  · exact .inl k
  · exact .inr (.inl ⟨p, xs, e, s.obj h⟩)
  · exact .inr (.inr ⟨p, xs, e, s.obj h, k⟩)
theorem RunIs.same {H H' : Hp} {v : V} {b : Bool} {n : Int} (r : RunIs H v b n) (s : Same H H') : RunIs H' v b n := by
  obtain ⟨p, e, h, k⟩ := r
  exact ⟨p, e, s.obj h, k⟩
theorem RunB.back {H H' : Hp} {v : V} (k : KR H v) (s : Same H H') (r : RunB H' v) : RunB H v := by
  obtain ⟨b, n, p, rfl, h, n1⟩ := r
  rcases k with k | ⟨q, xs, e, h'⟩ | ⟨q, xs, e, h', _⟩
  · cases k
  · cases e
    rw [s.obj h'] at h
    cases h
  · cases e
    have := s.obj h'
    rw [this] at h
    cases h
    exact ⟨b, n, p, rfl, h', n1⟩
def spRun : Sp := fun vs H Q _ => ∃ v : V, vs = [v] ∧ KR H v ∧ (RunB H v → ∀ H', Same H H' → Q (.bl true) H') ∧ (¬ RunB H v → ∀ H', Same H H' → Q (.bl false) H')
theorem use_run {v : V} {H : Hp} {Q : VK} {E : XK} (k : KR H v) (h1 : RunB H v → ∀ H', Same H H' → Q (.bl true) H') (h2 : ¬ RunB H v → ∀ H', Same H H' → Q (.bl false) H') : spRun [v] H Q E := ⟨v, rfl, k, h1, h2⟩
theorem runb_ref {H : Hp} {p : Addr} {o : HO} (h : H p = some o) (n : ∀ b k, 1 ≤ k → o ≠ .tup [.str (ltr b), .int k]) : ¬ RunB H (.ref p) := by
  rintro ⟨b, k, q, e, h', k1⟩
  cases e
  rw [h] at h'
  exact n b k k1 (Option.some.inj h')
theorem tup2 {x y x' y' : V} (h : HO.tup [x, y] = HO.tup [x', y']) : x = x' ∧ y = y' := by
  injection h with h
  injection h with h1 h2
  injection h2 with h2 _
  exact ⟨h1, h2⟩
theorem in_uv {x : V} (f : flatV x = true) : inV x [.str "u", .str "v"] = true ↔ ∃ b, x = .str (ltr b) := by
  constructor
  · intro h
    cases x with
    | str s =>
      have : s = "u" ∨ s = "v" := by
        by_cases h1 : s = "u"
        · exact .inl h1
        · by_cases h2 : s = "v"
          · exact .inr h2
          · exfalso
            simp [inV, eqV, Ne.symm h1, Ne.symm h2, h1, h2] at h
      rcases this with rfl | rfl
      · exact ⟨true, rfl⟩
      · exact ⟨false, rfl⟩
    | _ => simp [inV, eqV] at h
  · rintro ⟨b, rfl⟩
    cases b <;> rfl
theorem ok_is_run (F : Src K mg "is_run" s_is_run ["thing"]) (B : Blt mg) (C : Cls K mg base) (R : Rel K mg base C) (Kc : Cst K mg) (D_is_whole : Def P w K mg base (CXE P w) 1 "is_whole" ["thing"] spWh) : Def P w K mg base (CXE P w) 2 "is_run" ["thing"] spRun := by
  refine F.ok (CX := CXE P w) (k := 1) sc_is_run (fun vs H Q E h => ?_) (fun f cdv A outer s H vs Q E hr h => ?_)
  · obtain ⟨_, rfl, _⟩ := h
    rfl
  have nd := sc_is_run.nd
  obtain ⟨v, rfl, k, q1, q2⟩ := h
  refine ⟨_, (@pss_cons _ _ _ _ _ (@ps_if _ _ _ _ _ _ _ _ (@PW.pt _ _ _ (@pw_or _ _ _ _ _ _ _ (@pt_not _ _ _ _ (@pt_val _ _ _ (@pe_callB _ _ _ _ _ _ _ _ _ call_isi rfl B.isinstance PyProof.Rows.boot_isinstance (@pa_cons _ _ _ _ _ (pv 0) (@pa_cons _ _ _ _ _ (@pe_bltn _ _ (.ty "tuple") _ _ rfl B.tuple PyProof.Rows.boot_tuple rfl (by decide) (by decide)) pa_nil (by rfl)) (by rfl)) (by decide) (by decide) (by rfl) (by rfl)) (by intro _; rfl))) (@pw_or1 _ _ _ _ (@pt_cmpR _ _ _ _ _ _ _ _ (op_neA hr.units0) (@pe_callB _ _ _ _ _ _ _ _ _ call_lenA rfl B.len PySem.boot_len (@pa_cons _ _ _ _ _ (pv 0) pa_nil (by rfl)) (by decide) (by decide) (by rfl) (by rfl)) pe_int (nomark _))))) (@pss_one _ _ _ (@ps_ret _ _ _ _ pe_bl)) pss_nil) (@pss_one _ _ _ (@ps_ret _ _ _ _ (@pe_and _ _ _ _ _ _ _ (@pe_cmpR _ _ _ _ _ _ _ _ op_in_seq (@pe_ix _ _ _ _ _ _ _ ix_A (pv 0) pe_int (fun _ _ => rfl)) (@pe_tup _ _ _ _ _ (@pa_cons _ _ _ _ _ pe_str (@pa_cons _ _ _ _ _ pe_str pa_nil (by rfl)) (by rfl))) rfl) (@pe_and _ _ _ _ _ _ _ (@pe_defS _ _ _ _ _ _ _ _ _ _ _ D_is_whole (hr.mono (by decide)) rfl xpass_nox (@pa_cons _ _ _ _ _ (@pe_ix _ _ _ _ _ _ _ ix_A (pv 0) pe_int (fun _ _ => rfl)) pa_nil (by rfl)) (by decide) (by rfl) (by rfl)) (@pe_one _ _ _ _ _ (@pe_cmpR _ _ _ _ _ _ _ _ op_geI (@pe_ix _ _ _ _ _ _ _ ix_A (pv 0) pe_int (fun _ _ => rfl)) pe_int (nomark _)))))))), ?_⟩
  try dsimp only [cxOf, Cx.inH, Cx.tried]
  refine rd_start [some v] rfl ?_
  rcases k with k | ⟨p, xs, rfl, e⟩ | ⟨p, xs, rfl, e, k⟩
  · have q := q2 (by rintro ⟨b, n, p, rfl, _⟩; cases k) _ (Same.refl _)
    cases v with
    | int i => walk_at "rd"; exact q
    | bl b => walk_at "rd"; exact q
    | str s => walk_at "rd"; exact q
    | non => walk_at "rd"; exact q
    | _ => cases k
  · have q := q2 (runb_ref e fun b k _ z => by cases z) _ (Same.refl _)
    walk_at "rd"
    exact q
  · walk_at "rd"
    walk_at "ite"
    · rename_i c
      walk_at "rd"
      exact q2 (runb_ref e fun b k _ z => by cases z; exact c rfl) _ (Same.refl _)
    · rename_i c
      match xs, c, e, k with
      | [x, y], _, e, k =>
      have fx := k rfl x (by simp)
      have fy := k rfl y (by simp)
      walk_at "rd"
      rename_i t H1 s1 n1 e1
      have e' := s1.obj e
      refine ⟨t, _, rfl, .inr (SqT.of e1), fx, rfl, ?_⟩
      show kB (.bl (inV x [.str "u", .str "v"])) H1 _
      cases hin : inV x [.str "u", .str "v"] with
      | false =>
        walk_at "rd"
        exact q2 (runb_ref e fun b k _ z => by cases z; rw [(in_uv rfl).mpr ⟨b, rfl⟩] at hin; cases hin) _ s1
      | true =>
        obtain ⟨b, rfl⟩ := (in_uv fx).mp hin
        walk_at "rd"
        refine use_wh (flat_kn fy _) ?_
        by_cases hI : ∃ i, y = .int i
        · obtain ⟨i, rfl⟩ := hI
          rw [show isI (V.int i) = true from rfl]
          walk_at "rd"
          by_cases hi : 1 ≤ i
          · rw [decide_eq_true (show i ≥ 1 from hi)]
            exact q1 ⟨b, i, p, rfl, e, hi⟩ _ s1
          · rw [decide_eq_false (show ¬ i ≥ 1 from hi)]
            exact q2 (runb_ref e fun b k k1 z => by have := (tup2 z).2; cases this; exact hi k1) _ s1
        · have e0 : isI y = false := by cases y <;> first | rfl | exact absurd ⟨_, rfl⟩ hI
          rw [e0]
          walk_at "rd"
          exact q2 (runb_ref e fun b k k1 z => hI ⟨_, (tup2 z).2⟩) _ s1
def KW (H : Hp) (v : V) : Prop := (flatV v = true) ∨ (∃ p xs, v = .ref p ∧ H p = some (.tup xs)) ∨ (∃ p xs, v = .ref p ∧ H p = some (.lst xs) ∧ xs.length ≤ 900 ∧ ∀ x ∈ xs, KR H x)
def GoodW (H : Hp) (v : V) (ws : List (Bool × Int)) : Prop := ∃ D, v = .ref D ∧ WordL H D ws ∧ Mth.Alt ws ∧ (∀ p ∈ ws, 1 ≤ p.2) ∧ ws.length ≤ 900
def WordB (H : Hp) (v : V) : Prop := ∃ ws, GoodW H v ws
theorem KW.same {H H' : Hp} {v : V} (k : KW H v) (s : Same H H') : KW H' v := by
  rcases k with k | ⟨p, xs, e, h⟩ | ⟨p, xs, e, h, l, k⟩
  · exact .inl k
  · exact .inr (.inl ⟨p, xs, e, s.obj h⟩)
  · exact .inr (.inr ⟨p, xs, e, s.obj h, l, fun x hx => (k x hx).same s⟩)
theorem GoodW.same {H H' : Hp} {v : V} {ws : List (Bool × Int)} (g : GoodW H v ws) (s : Same H H') : GoodW H' v ws := by
  obtain ⟨D, e, W, k⟩ := g
  exact ⟨D, e, W.same s, k⟩
theorem runs_word {H : Hp} : ∀ {xs : List V}, (∀ x ∈ xs, RunB H x) → ∃ (as : List Addr) (ws : List (Bool × Int)), xs = as.map V.ref ∧ as.length = ws.length ∧ (∀ (i : Nat) (x : Addr) (p : Bool × Int), as[i]? = some x → ws[i]? = some p → H x = some (.tup [.str (ltr p.1), .int p.2])) ∧ ∀ p ∈ ws, 1 ≤ p.2
  | [], _ => ⟨[], [], rfl, rfl, fun i x p h => by simp at h, fun p h => by simp at h⟩
  | x :: r, h => by
    obtain ⟨b, n, p, rfl, e, n1⟩ := h x (List.mem_cons_self ..)
    obtain ⟨as, ws, rfl, l, T, P⟩ := runs_word (xs := r) fun y hy => h y (List.mem_cons_of_mem _ hy)
    refine ⟨p :: as, (b, n) :: ws, rfl, by simp [l], fun i x q hx hq => ?_, fun q hq => ?_⟩
    · cases i with
      | zero => cases hx; cases hq; exact e
      | succ j => exact T j x q hx hq
    · rcases List.mem_cons.mp hq with rfl | hq
      · exact n1
      · exact P q hq
theorem WordL.runs {H : Hp} {D : Addr} {ws : List (Bool × Int)} {xs : List V} (W : WordL H D ws) (P : ∀ p ∈ ws, 1 ≤ p.2) (e : H D = some (.lst xs)) : ∀ x ∈ xs, RunB H x := by
  obtain ⟨as, eD, la, T⟩ := W.ex
  rw [e] at eD
  cases eD
  intro x hx
  obtain ⟨u, hu, rfl⟩ := List.mem_map.mp hx
  obtain ⟨i, hi⟩ := List.getElem?_of_mem hu
  obtain ⟨p, hp⟩ : ∃ p, ws[i]? = some p := ⟨_, List.getElem?_eq_getElem (by have := (List.getElem?_eq_some_iff.mp hi).1; omega)⟩
  exact ⟨p.1, p.2, u, rfl, T i u p hi hp, P p (List.mem_of_getElem? hp)⟩
theorem WordL.uniq {H : Hp} {D : Addr} {ws us : List (Bool × Int)} (W : WordL H D ws) (U : WordL H D us) : ws = us := by
  obtain ⟨as, eD, la, T⟩ := W.ex
  obtain ⟨bs, eB, lb, S⟩ := U.ex
  rw [eD] at eB
  have hab : as = bs := by
    have h := HO.lst.inj (Option.some.inj eB)
    exact (List.map_inj_right (f := V.ref) (fun a b h => by cases h; rfl)).mp h
  subst hab
  apply List.ext_getElem?
  intro i
  by_cases hi : i < as.length
  · obtain ⟨x, hx⟩ : ∃ x, as[i]? = some x := ⟨_, List.getElem?_eq_getElem hi⟩
    obtain ⟨p, hp⟩ : ∃ p, ws[i]? = some p := ⟨_, List.getElem?_eq_getElem (by omega)⟩
    obtain ⟨q, hq⟩ : ∃ q, us[i]? = some q := ⟨_, List.getElem?_eq_getElem (by omega)⟩
    have e1 := T i x p hx hp
    rw [S i x q hx hq] at e1
    have h2 := tup2 (Option.some.inj e1)
    rw [hp, hq]
    obtain ⟨b, n⟩ := p
    obtain ⟨c, m⟩ := q
    have en : m = n := by have := h2.2; cases this; rfl
    have eb : c = b := by
      have h3 : ltr c = ltr b := V.str.inj h2.1
      cases c <;> cases b <;> first | rfl | exact absurd h3 (by decide)
    rw [en, eb]
  · rw [List.getElem?_eq_none (by omega), List.getElem?_eq_none (by omega)]
theorem rd_ixV {K : PySem.W.Frag} {H : Hp} {Q : VK} {a : Addr} {xs : List V} {i : Int} {v : V} (h1 : SqL K H a xs) (h0 : 0 ≤ i) (hv : xs[i.toNat]? = some v) (h : Q v H) : rIxA K (.ref a) (.int i) H Q := by
  refine rd_ixL (v := v) h1 ?_ h
  have e := atI_nat (xs := xs) (j := i.toNat) (v := v) hv
  rw [show ((i.toNat : Nat) : Int) = i by omega] at e
  exact e
def altB (ws : List (Bool × Int)) (k : Nat) : Bool := !decide (ltr ((ws.getD (k - 1) (true, 0)).1) = ltr ((ws.getD k (true, 0)).1))
theorem alt_all (ws : List (Bool × Int)) : ((List.range (ws.length - 1)).all fun i => altB ws (1 + i)) = true ↔ Mth.Alt ws := by
  rw [List.all_eq_true]
  constructor
  · intro h i p q hp hq
    have hl := (List.getElem?_eq_some_iff.mp hq).1
    have := h i (List.mem_range.mpr (by omega))
    unfold altB at this
    rw [show 1 + i - 1 = i by omega, show 1 + i = i + 1 by omega, List.getD_eq_getElem?_getD, List.getD_eq_getElem?_getD, hp, hq] at this
    intro e
    rw [show ((some p).getD (true, 0)).1 = p.1 from rfl, show ((some q).getD (true, 0)).1 = q.1 from rfl, e, decide_eq_true rfl] at this
    cases this
  · intro h i hi
    have hl := List.mem_range.mp hi
    obtain ⟨p, hp⟩ : ∃ p, ws[i]? = some p := ⟨_, List.getElem?_eq_getElem (by omega)⟩
    obtain ⟨q, hq⟩ : ∃ q, ws[i + 1]? = some q := ⟨_, List.getElem?_eq_getElem (by omega)⟩
    unfold altB
    rw [show 1 + i - 1 = i by omega, show 1 + i = i + 1 by omega, List.getD_eq_getElem?_getD, List.getD_eq_getElem?_getD, hp, hq]
    show (!decide (ltr p.1 = ltr q.1)) = true
    rw [decide_eq_false fun e => h i p q hp hq (by cases hb : p.1 <;> cases hc : q.1 <;> rw [hb, hc] at e <;> first | rfl | exact absurd e (by decide))]
    rfl
def spWd : Sp := fun vs H Q _ => ∃ v : V, vs = [v] ∧ KW H v ∧ (WordB H v → ∀ H', Same H H' → Q (.bl true) H') ∧ (¬ WordB H v → ∀ H', Same H H' → Q (.bl false) H')
theorem use_wd {v : V} {H : Hp} {Q : VK} {E : XK} (k : KW H v) (h1 : WordB H v → ∀ H', Same H H' → Q (.bl true) H') (h2 : ¬ WordB H v → ∀ H', Same H H' → Q (.bl false) H') : spWd [v] H Q E := ⟨v, rfl, k, h1, h2⟩
open Classical in
theorem ok_is_word (F : Src K mg "is_word" s_is_word ["word"]) (B : Blt mg) (C : Cls K mg base) (R : Rel K mg base C) (Kc : Cst K mg) (D_is_run : Def P w K mg base (CXE P w) 2 "is_run" ["thing"] spRun) : Def P w K mg base (CXE P w) 3 "is_word" ["word"] spWd := by
  refine F.ok (CX := CXE P w) (k := 2) sc_is_word (fun vs H Q E h => ?_) (fun f cdv A outer s H vs Q E hr h => ?_)
  · obtain ⟨_, rfl, _⟩ := h
    rfl
  have nd := sc_is_word.nd
  obtain ⟨v, rfl, k, q1, q2⟩ := h
  refine ⟨_, (@pss_cons _ _ _ _ _ (@ps_if _ _ _ _ _ _ _ _ (@PW.pt _ _ _ (@pw_or _ _ _ _ _ _ _ (@pt_not _ _ _ _ (@pt_val _ _ _ (@pe_callB _ _ _ _ _ _ _ _ _ call_isi rfl B.isinstance PyProof.Rows.boot_isinstance (@pa_cons _ _ _ _ _ (pv 0) (@pa_cons _ _ _ _ _ (@pe_bltn _ _ (.ty "list") _ _ rfl B.list PyProof.Rows.boot_list rfl (by decide) (by decide)) pa_nil (by rfl)) (by rfl)) (by decide) (by decide) (by rfl) (by rfl)) (by intro _; rfl))) (@pw_or1 _ _ _ _ (@pt_not _ _ _ _ (@pt_val _ _ _ (@pe_callB _ _ _ _ _ _ _ _ _ (call_allB rfl) rfl B.all PyProof.Rows.boot_all (@pa_cons _ _ _ _ _ (@pe_comp _ _ _ _ _ _ _ _ _ rfl (@PI.or _ _ _ _ _ (@pi_list _ _ _ _ (pv 0)) (@pi_tup _ _ _ _ (pv 0))) (fun pins ex s H => (@pe_defS _ _ _ _ _ _ _ _ _ _ _ D_is_run (hr.mono (by decide)) rfl xpass_wn (@pa_cons _ _ _ _ _ (pv 0) pa_nil (by rfl)) (by decide) (by rfl) (by rfl))) (by decide +kernel) (by decide +kernel) rfl (by decide +kernel) rfl (by intro _; rfl)) pa_nil (by rfl)) (by decide) (by decide) (by rfl) (by rfl)) (by intro _; rfl)))))) (@pss_one _ _ _ (@ps_ret _ _ _ _ pe_bl)) pss_nil) (@pss_one _ _ _ (@ps_ret _ _ _ _ (@pe_callB _ _ _ _ _ _ _ _ _ (call_allB rfl) rfl B.all PyProof.Rows.boot_all (@pa_cons _ _ _ _ _ (@pe_compF _ _ _ _ _ _ _ _ _ [0] ["word"] rfl (@pi_range2 _ _ _ _ _ _ _ rfl B.range (@pa_cons _ _ _ _ _ pe_int (@pa_cons _ _ _ _ _ (@pe_callB _ _ _ _ _ _ _ _ _ call_lenA rfl B.len PySem.boot_len (@pa_cons _ _ _ _ _ (pv 0) pa_nil (by rfl)) (by decide) (by decide) (by rfl) (by rfl)) pa_nil (by rfl)) (by rfl)) (by rfl) (by rfl)) (fun pins cl ex s H => (@pe_cmpR _ _ _ _ _ _ _ _ op_ne (@pe_ix _ _ _ _ _ _ _ ix_AbF (@pe_ix _ _ _ _ _ _ _ ix_AbF (pv 1) (@pe_op _ _ _ _ _ _ _ _ op_subI (pv 0) pe_int) (fun _ _ => rfl)) pe_int (fun _ _ => rfl)) (@pe_ix _ _ _ _ _ _ _ ix_AbF (@pe_ix _ _ _ _ _ _ _ ix_AbF (pv 1) (pv 0) (fun _ _ => rfl)) pe_int (fun _ _ => rfl)) (nomark _))) rfl rfl rfl (by decide +kernel) (by decide +kernel) rfl (by decide +kernel) rfl (by decide +kernel) (by intro _; rfl)) pa_nil (by rfl)) (by decide) (by decide) (by rfl) (by rfl))))), ?_⟩
  try dsimp only [cxOf, Cx.inH, Cx.tried]
  refine rd_start [some v] rfl ?_
  rcases k with k | ⟨p, xs, rfl, e⟩ | ⟨p, xs, rfl, e, l, k⟩
  · have q := q2 (by rintro ⟨ws, D, rfl, _⟩; cases k) _ (Same.refl _)
    cases v with
    | int i => walk_at "rd"; exact q
    | bl b => walk_at "rd"; exact q
    | str s => walk_at "rd"; exact q
    | non => walk_at "rd"; exact q
    | _ => cases k
  · have q := q2 (by rintro ⟨ws, D, hD, W, _⟩; cases hD; obtain ⟨as, eD, _⟩ := W.ex; rw [e] at eD; cases eD) _ (Same.refl _)
    walk_at "rd"
    exact q
  · walk_at "rd"
    refine rd_compL ?_
    walk_at "rd"
    refine rd_kCompL (xs.map fun x => V.bl (decide (RunB H x))) (SqL.of e) (List.length_map _) (by omega) (fun i x y H' Q' hx hy s' hQ => ?_) fun D H1 s1 n1 e1 => ?_
    · rw [List.getElem?_map, hx] at hy
      cases hy
      have kx := (k x (List.mem_of_getElem? hx)).same s'
      change ∀ H2, Same H' H2 → Q' (.bl (decide (RunB H x))) H2 at hQ
      walk_at "rd"
      refine use_run kx (fun r H2 s2 => ?_) (fun r H2 s2 => ?_)
      · rw [decide_eq_true (r.back (k x (List.mem_of_getElem? hx)) s')] at hQ
        exact hQ _ s2
      · rw [decide_eq_false (p := RunB H x) (fun z => r (by obtain ⟨b, n, z⟩ := z; exact ⟨b, n, z.same s'⟩))] at hQ
        exact hQ _ s2
    walk_at "rd"
    refine ⟨D, xs.map fun x => decide (RunB H x), rfl, SqL.of (by rw [e1, List.map_map]; rfl), ?_⟩
    by_cases all : ∀ x ∈ xs, RunB H x
    · rw [show (xs.map fun x => decide (RunB H x)).all id = true by rw [List.all_map]; exact List.all_eq_true.mpr fun x hx => decide_eq_true (all x hx)]
      obtain ⟨as, ws, rfl, la, T, P⟩ := runs_word all
      have W : WordL H p ws := ⟨as, e, la, T⟩
      rw [List.length_map] at l
      have e' := s1.obj e
      have hlm : (as.map V.ref).length = as.length := List.length_map _
      walk_at "rd"
      refine rd_compR2 [some (.ref p)] rfl ?_
      walk_at "rd"
      rw [hlm]
      refine rd_kCompR (fun k => .bl (altB ws k.toNat)) (by omega) (fun i k H' Q' hi hk s' hQ => ?_) fun D2 H2 s2 n2 e2 => ?_
      · obtain ⟨x, hx⟩ : ∃ x, as[i]? = some x := ⟨_, List.getElem?_eq_getElem (by omega)⟩
        obtain ⟨y, hy⟩ : ∃ y, as[i + 1]? = some y := ⟨_, List.getElem?_eq_getElem (by omega)⟩
        obtain ⟨a, ha⟩ : ∃ a, ws[i]? = some a := ⟨_, List.getElem?_eq_getElem (by omega)⟩
        obtain ⟨b, hb⟩ : ∃ b, ws[i + 1]? = some b := ⟨_, List.getElem?_eq_getElem (by omega)⟩
        have ep := s'.obj e'
        have ex := s'.obj (s1.obj (T i x a hx ha))
        have ey := s'.obj (s1.obj (T (i + 1) y b hy hb))
        have ek : altB ws k.toNat = !decide (ltr a.1 = ltr b.1) := by
          unfold altB
          rw [show k.toNat - 1 = i by omega, show k.toNat = i + 1 by omega, List.getD_eq_getElem?_getD, List.getD_eq_getElem?_getD, ha, hb]
          rfl
        rw [ek] at hQ
        walk_at "rd"
        refine rd_ixV (v := .ref x) (SqL.of ep) (by omega) (by rw [List.getElem?_map, show (k - 1).toNat = i by omega, hx]; rfl) ?_
        walk_at "rd"
        refine rd_ixV (v := .ref y) (SqL.of ep) (by omega) (by rw [List.getElem?_map, show k.toNat = i + 1 by omega, hy]; rfl) ?_
        walk_at "rd"
        exact hQ _ (Same.refl _)
      · walk_at "rd"
        refine ⟨D2, (List.range (ws.length - 1)).map fun i => altB ws (1 + i), rfl, SqL.of (by rw [e2, List.map_map, show ((as.length : Int) - 1).toNat = ws.length - 1 by omega]; exact congrArg (fun l => some (HO.lst l)) (List.map_congr_left fun i _ => by show V.bl _ = V.bl _; rw [show (1 + (i : Int)).toNat = 1 + i by omega])), ?_⟩
        rw [show ((List.range (ws.length - 1)).map fun i => altB ws (1 + i)).all id = (List.range (ws.length - 1)).all fun i => altB ws (1 + i) by rw [List.all_map]; rfl]
        by_cases al : Mth.Alt ws
        · rw [(alt_all ws).mpr al]
          exact q1 ⟨ws, p, rfl, W, al, P, by omega⟩ _ (s1.trans s2)
        · rw [Bool.eq_false_iff.mpr fun z => al ((alt_all ws).mp z)]
          refine q2 ?_ _ (s1.trans s2)
          rintro ⟨us, D', hD', U, au, _⟩
          cases hD'
          rw [← WordL.uniq W U] at au
          exact al au
    · rw [show (xs.map fun x => decide (RunB H x)).all id = false by
        rw [List.all_map]
        exact Bool.eq_false_iff.mpr fun z => all fun x hx => of_decide_eq_true (List.all_eq_true.mp z x hx)]
      walk_at "rd"
      refine q2 ?_ _ s1
      rintro ⟨ws, D', hD', W, _, P, _⟩
      cases hD'
      exact all (WordL.runs W P e)
def spIsNum : Sp := fun vs H Q _ => ∃ t : Str, vs = [.str t] ∧ Asc t ∧ t.length ≤ 10000 ∧ ∀ H', Same H H' → Q (.bl (isNum t)) H'
theorem use_isnum {t : Str} {H : Hp} {Q : VK} {E : XK} (h1 : Asc t) (h2 : t.length ≤ 10000) (h : ∀ H', Same H H' → Q (.bl (isNum t)) H') : spIsNum [.str t] H Q E := ⟨t, rfl, h1, h2, h⟩
theorem ok_is_number (F : Src K mg "is_number" s_is_number ["text"]) (B : Blt mg) (C : Cls K mg base) (R : Rel K mg base C) (Kc : Cst K mg)  : Def P w K mg base (CXE P w) 1 "is_number" ["text"] spIsNum := by
  refine F.ok (CX := CXE P w) (k := 0) sc_is_number (fun vs H Q E h => ?_) (fun f cdv A outer s H vs Q E hr h => ?_)
  · obtain ⟨_, rfl, _⟩ := h
    rfl
  have nd := sc_is_number.nd
  obtain ⟨t, rfl, ta, tl, q⟩ := h
  have tz : t.length ≤ sizeLine := Nat.le_trans tl (by decide)
  have fa := asc_figs ta
  have fl := len_figs t
  have fz : (figs t).length ≤ sizeLine := Nat.le_trans fl tz
  refine ⟨_, (@pss_cons _ _ _ _ _ (@ps_set _ _ 1 _ _ _ _ nd rfl (Or.inl rfl) (@pe_ifExp _ _ _ _ _ _ _ _ (@pt_val _ _ _ (@pe_bm _ _ _ _ _ _ _ _ _ _ _ _ PySem.F.plainAttrs_str PySem.F.slot_str_startswith PySem.F.type_str_startswith mt_starts (pv 0) (@pa_cons _ _ _ _ _ pe_str pa_nil (by rfl)) (by rfl) (by rfl) (by rfl) (by rfl) (by rfl)) (by intro _; rfl)) (@pe_slice _ _ _ _ _ _ _ _ _ _ sl_str (pv 0) (@po_some _ _ _ pe_int) po_none) (pv 0)) (by rfl) (by walk_at "lo")) (@pss_cons _ _ _ _ _ (@ps_if _ _ _ _ _ _ _ _ (@PW.pt _ _ _ (@pw_or _ _ _ _ _ _ _ (@pt_cmpR _ _ _ _ _ _ _ _ (op_eqA hr.units0) (pv 1) pe_str (nomark _)) (@pw_or _ _ _ _ _ _ _ (@pt_cmpR _ _ _ _ _ _ _ _ op_gtI (@pe_callB _ _ _ _ _ _ _ _ _ call_lenS rfl B.len PySem.boot_len (@pa_cons _ _ _ _ _ (pv 1) pa_nil (by rfl)) (by decide) (by decide) (by rfl) (by rfl)) (@pe_glob _ _ (.int 60) _ _ rfl Kc.MOST_FIGURES.choose_spec ⟨_, rfl⟩ (by decide)) (nomark _)) (@pw_or1 _ _ _ _ (@pt_not _ _ _ _ (@pt_val _ _ _ (@pe_callB _ _ _ _ _ _ _ _ _ (call_allB rfl) rfl B.all PyProof.Rows.boot_all (@pa_cons _ _ _ _ _ (@pe_comp _ _ _ _ _ _ _ _ _ rfl (@pi_str _ _ _ _ (pv 1)) (fun pins ex s H => (@pe_cmpR _ _ _ _ _ _ _ _ op_inS (pv 0) (@pe_glob _ _ (.str "0123456789") _ _ rfl Kc.FIGURES.choose_spec ⟨_, rfl⟩ (by decide)) rfl)) (by decide +kernel) (by decide +kernel) rfl (by decide +kernel) rfl (by intro _; rfl)) pa_nil (by rfl)) (by decide) (by decide) (by rfl) (by rfl)) (by intro _; rfl))))))) (@pss_one _ _ _ (@ps_ret _ _ _ _ pe_bl)) pss_nil) (@pss_one _ _ _ (@ps_ret _ _ _ _ (@pe_or _ _ _ _ _ _ _ (@pe_cmpR _ _ _ _ _ _ _ _ (op_eqA hr.units0) (pv 0) pe_str (nomark _)) (@pe_one _ _ _ _ _ (@pe_not _ _ _ _ (@pe_bm _ _ _ _ _ _ _ _ _ _ _ _ PySem.F.plainAttrs_str PySem.F.slot_str_startswith PySem.F.type_str_startswith mt_starts (pv 1) (@pa_cons _ _ _ _ _ pe_str pa_nil (by rfl)) (by rfl) (by rfl) (by rfl) (by rfl) (by rfl))))))))), ?_⟩
  try dsimp only [cxOf, Cx.inH, Cx.tried]
  refine rd_start [some (.str t), none] rfl ?_
  walk_at "rd"
  refine (fun (hX : Hide (?hXX : Prop)) => ?hXa) ⟨?hXb⟩
  case hXa =>
    walk_at "ite"
    · rename_i c
      have e : Txt.slice t (some 1) none = figs t := (if_pos c).symm
      walk_at "rd"
      rw [e]
      exact hX.out
    · rename_i c
      have e : t = figs t := (if_neg (by rw [c]; decide)).symm
      walk_at "rd"
      have z := hX.out
      rw [← e] at z
      exact z
  walk_at "ite"
  · rename_i c
    walk_at "rd"
    have z := q _ (Same.refl _)
    rw [show isNum t = false by unfold isNum; rw [decide_eq_true c]; rfl] at z
    exact z
  rename_i c1
  walk_at "rd"
  walk_at "ite"
  · rename_i c
    walk_at "rd"
    have z := q _ (Same.refl _)
    rw [show isNum t = false by unfold isNum; rw [decide_eq_false (show ¬ (figs t).length ≤ 60 by omega), Bool.and_false]; rfl] at z
    exact z
  rename_i c2
  have l60 : (figs t).length ≤ 60 := by omega
  walk_at "rd"
  refine rd_kCompS (fun c => .bl (decide (48 ≤ c) && decide (c ≤ 57))) fa (by show (figs t).length ≤ 1000; omega) (fun i c H' Q' hc s' hQ => ?_) fun D H2 s2 n2 e2 => ?_
  · walk_at "rd"
    rw [inS_fig (fa.at hc)]
    exact hQ _ (Same.refl _)
  walk_at "rd"
  refine ⟨D, (figs t).cps.toList.map (fun c => decide (48 ≤ c) && decide (c ≤ 57)), rfl, SqL.of (by rw [List.map_map]; exact e2), ?_⟩
  have ea : ((figs t).cps.toList.map (fun c => decide (48 ≤ c) && decide (c ≤ 57))).all id = allFig (figs t) := by
    unfold allFig
    rw [List.all_map]
    rfl
  rw [ea]
  have z := q _ s2
  have ez : isNum t = (allFig (figs t) && (decide (t = "0") || !Txt.startswith (figs t) "0")) := by
    unfold isNum
    rw [decide_eq_false c1, decide_eq_true l60]
    rfl
  rw [ez] at z
  cases hf : allFig (figs t)
  · rw [hf] at z
    walk_at "rd"
    exact z
  · rw [hf] at z
    walk_at "rd"
    walk_at "ite"
    · rename_i c
      rw [decide_eq_true c] at z
      exact z
    · rename_i c
      rw [decide_eq_false c] at z
      walk_at "rd"
      exact z
def spNeedT (cX : Addr) : Sp := fun vs H Q E => ∃ b : Bool, vs = [.bl b] ∧ (b = false → E (.ref cX) none H) ∧ (b = true → Q .non H)
theorem use_needt {cX : Addr} {b : Bool} {H : Hp} {Q : VK} {E : XK} (h0 : b = false → E (.ref cX) none H) (h1 : b = true → Q .non H) : spNeedT cX [.bl b] H Q E := ⟨b, rfl, h0, h1⟩
theorem ok_need_text (F : Src K mg "need_text" s_need_text ["holds"]) (B : Blt mg) (C : Cls K mg base) (R : Rel K mg base C) (Kc : Cst K mg)  : Def P w K mg base (CXE P w) 1 "need_text" ["holds"] (spNeedT C.NoText.addr) := by
  refine F.okX (CX := CXE P w) (k := 0) sc_need_text (fun vs H Q E h => ?_) (fun f cdv A outer s H vs Q E hr h => ?_)
  · obtain ⟨_, rfl, _⟩ := h
    rfl
  have nd := sc_need_text.nd
  obtain ⟨b, rfl, q0, q1⟩ := h
  refine ⟨_, (@pss_one _ _ _ (@ps_if _ _ _ _ _ _ _ _ (@pt_not _ _ _ _ (@pt_val _ _ _ (pv 0) (by intro _; rfl))) (@pss_one _ _ _ (@ps_raise _ _ _ _ _ _ _ _ _ _ _ _ _ _ (C.NoText).own PySem.F.excBase_ValueError rfl rfl xmade_cx (@pa_cons _ _ _ _ _ pe_str pa_nil (by rfl)) (by decide) (by rfl) (by rfl))) pss_nil)), ?_⟩
  try dsimp only [cxOf, Cx.inH, Cx.tried]
  refine rd_start [some (.bl b)] rfl ?_
  cases b
  · walk_at "rd"
    exact q0 rfl
  · walk_at "rd"
    exact q1 rfl
def TxtOk (ws : List Str) : Prop := ws.length ≤ 1000 ∧ ∀ w ∈ ws, Asc w ∧ w.length ≤ 10000
def spReadN (K : PySem.W.Frag) (cX : Addr) : Sp := fun vs H Q E => ∃ (l : Addr) (ws : List Str), vs = [.ref l] ∧ SqL K H l (ws.map V.str) ∧ TxtOk ws ∧ (ws.all isNum = false → ∀ H', Same H H' → E (.ref cX) none H') ∧ (ws.all isNum = true → ∀ D H', Same H H' → H D = none → H' D = some (.lst ((ws.map numOf).map V.int)) → Q (.ref D) H')
theorem use_readn {K : PySem.W.Frag} {cX : Addr} {l : Addr} {ws : List Str} {H : Hp} {Q : VK} {E : XK} (h1 : SqL K H l (ws.map V.str)) (h2 : TxtOk ws) (h3 : ws.all isNum = false → ∀ H', Same H H' → E (.ref cX) none H') (h4 : ws.all isNum = true → ∀ D H', Same H H' → H D = none → H' D = some (.lst ((ws.map numOf).map V.int)) → Q (.ref D) H') : spReadN K cX [.ref l] H Q E := ⟨l, ws, rfl, h1, h2, h3, h4⟩
theorem ok_read_numbers (F : Src K mg "read_numbers" s_read_numbers ["pieces"]) (B : Blt mg) (C : Cls K mg base) (R : Rel K mg base C) (Kc : Cst K mg) (D_is_number : Def P w K mg base (CXE P w) 1 "is_number" ["text"] spIsNum) (D_need_text : Def P w K mg base (CXE P w) 1 "need_text" ["holds"] (spNeedT C.NoText.addr)) : Def P w K mg base (CXE P w) 2 "read_numbers" ["pieces"] (spReadN K C.NoText.addr) := by
  refine F.okX (CX := CXE P w) (k := 1) sc_read_numbers (fun vs H Q E h => ?_) (fun f cdv A outer s H vs Q E hr h => ?_)
  · obtain ⟨_, _, rfl, _⟩ := h
    rfl
  have nd := sc_read_numbers.nd
  obtain ⟨l, ws, rfl, hl, ⟨w1, w2⟩, q0, q1⟩ := h
  refine ⟨_, (@pss_cons _ _ _ _ _ (@ps_expr _ _ _ _ (@pe_defS _ _ _ _ _ _ _ _ _ _ _ D_need_text (hr.mono (by decide)) rfl xpass_cx (@pa_cons _ _ _ _ _ (@pe_callB _ _ _ _ _ _ _ _ _ (call_allB rfl) rfl B.all PyProof.Rows.boot_all (@pa_cons _ _ _ _ _ (@pe_comp _ _ _ _ _ _ _ _ _ rfl (@PI.or _ _ _ _ _ (@pi_list _ _ _ _ (pv 0)) (@pi_tup _ _ _ _ (pv 0))) (fun pins ex s H => (@pe_defS _ _ _ _ _ _ _ _ _ _ _ D_is_number (hr.mono (by decide)) rfl xpass_wn (@pa_cons _ _ _ _ _ (pv 0) pa_nil (by rfl)) (by decide) (by rfl) (by rfl))) (by decide +kernel) (by decide +kernel) rfl (by decide +kernel) rfl (by intro _; rfl)) pa_nil (by rfl)) (by decide) (by decide) (by rfl) (by rfl)) pa_nil (by rfl)) (by decide) (by rfl) (by rfl)) (by rfl)) (@pss_one _ _ _ (@ps_ret _ _ _ _ (@pe_comp _ _ _ _ _ _ _ _ _ rfl (@PI.or _ _ _ _ _ (@pi_list _ _ _ _ (pv 0)) (@pi_tup _ _ _ _ (pv 0))) (fun pins ex s H => (@pe_callTy _ _ _ _ _ _ _ _ _ call_intT rfl B.int PyProof.Rows.boot_int (@pa_cons _ _ _ _ _ (pv 0) pa_nil (by rfl)) (by decide) (by decide) (by rfl) (by rfl))) (by decide +kernel) (by decide +kernel) rfl (by decide +kernel) rfl (by intro _; rfl))))), ?_⟩
  try dsimp only [cxOf, Cx.inH, Cx.tried]
  refine rd_start [some (.ref l)] rfl ?_
  walk_at "rd"
  refine rd_compL ?_
  walk_at "rd"
  refine rd_kCompL (ws.map fun w => V.bl (isNum w)) hl (by rw [List.length_map, List.length_map]) (by rw [List.length_map]; exact w1) (fun i x y H' Q' hx hy s' hQ => ?_) fun D H1 s1 n1 e1 => ?_
  · rw [List.getElem?_map] at hx hy
    cases hw : ws[i]? with
    | none => rw [hw] at hx; cases hx
    | some w =>
    rw [hw] at hx hy
    cases hx
    cases hy
    obtain ⟨a1, a2⟩ := w2 w (List.mem_of_getElem? hw)
    walk_at "rd"
    exact use_isnum a1 a2 fun H2 s2 => hQ _ s2
  walk_at "rd"
  refine ⟨D, ws.map isNum, rfl, SqL.of (by rw [List.map_map]; exact e1), ?_⟩
  rw [show (ws.map isNum).all id = ws.all isNum by rw [List.all_map]; rfl]
  walk_at "rd"
  refine use_needt (fun z => q0 z _ s1) fun z => ?_
  walk_at "rd"
  refine rd_compL ?_
  walk_at "rd"
  refine rd_kCompL ((ws.map numOf).map V.int) (s1.seq hl) (by rw [List.length_map, List.length_map, List.length_map]) (by rw [List.length_map]; exact w1) (fun i x y H' Q' hx hy s' hQ => ?_) fun D2 H2 s2 n2 e2 => ?_
  · rw [List.getElem?_map] at hx hy
    rw [List.getElem?_map] at hy
    cases hw : ws[i]? with
    | none => rw [hw] at hx; cases hx
    | some w =>
    rw [hw] at hx hy
    cases hx
    cases hy
    obtain ⟨a1, a2⟩ := isNum_reads (List.all_eq_true.mp z w (List.mem_of_getElem? hw))
    walk_at "rd"
    refine rd_intT a1 (Nat.le_trans a2 (by decide)) ?_
    exact hQ _ (Same.refl _)
  exact q1 z D2 H2 (s1.trans s2) (s1.none n2) e2
def Tx (t : Str) : Prop := Asc t ∧ t.length ≤ 900
theorem Tx.sz {t : Str} (h : Tx t) : t.length ≤ sizeLine := Nat.le_trans h.2 (by decide)
theorem Tx.ok {t : Str} (h : Tx t) (c : Nat) : TxtOk (Txt.split t ⟨#[c]⟩) := ⟨Nat.le_trans (split_len t c) (by have := h.2; omega), fun w hw => ⟨h.1.split hw, Nat.le_trans (split_piece hw).1 (by have := h.2; omega)⟩⟩
def FracIs (t : Str) (a b : Int) : Prop := (Txt.split t "/").all isNum = true ∧ (((Txt.split t "/").map numOf = [a] ∧ b = 1) ∨ ∃ x y, (Txt.split t "/").map numOf = [x, y] ∧ 1 ≤ y ∧ a = Mth.lowT x y ∧ b = Mth.lowB x y)
def spRdF (cX : Addr) : Sp := fun vs H Q E => ∃ t : Str, vs = [.str t] ∧ Tx t ∧ (∀ a b, FracIs t a b → ∀ D H', Same H H' → H' D = some (.tup [.int a, .int b]) → Q (.ref D) H') ∧ ((∀ a b, ¬ FracIs t a b) → ∀ H', Same H H' → E (.ref cX) none H')
theorem use_rdf {cX : Addr} {t : Str} {H : Hp} {Q : VK} {E : XK} (h : Tx t) (h1 : ∀ a b, FracIs t a b → ∀ D H', Same H H' → H' D = some (.tup [.int a, .int b]) → Q (.ref D) H') (h2 : (∀ a b, ¬ FracIs t a b) → ∀ H', Same H H' → E (.ref cX) none H') : spRdF cX [.str t] H Q E := ⟨t, rfl, h, h1, h2⟩
theorem nums_lt {ws : List Str} {ns : List Int} (al : ws.all isNum = true) (e : ws.map numOf = ns) : ∀ n ∈ ns, n.natAbs < 10 ^ 60 := fun n hn => by
  subst e
  obtain ⟨w, hw, rfl⟩ := List.mem_map.mp hn
  exact isNum_lt (List.all_eq_true.mp al w hw)
theorem ok_read_fraction (F : Src K mg "read_fraction" s_read_fraction ["text"]) (B : Blt mg) (C : Cls K mg base) (R : Rel K mg base C) (Kc : Cst K mg) (D_need_text : Def P w K mg base (CXE P w) 1 "need_text" ["holds"] (spNeedT C.NoText.addr)) (D_read_numbers : Def P w K mg base (CXE P w) 2 "read_numbers" ["pieces"] (spReadN K C.NoText.addr)) (D_fraction : Def P w K mg base (CXE P w) 2 "fraction" ["top", "bottom"] (spFrac C.NoFraction.addr)) : Def P w K mg base (CXE P w) 3 "read_fraction" ["text"] (spRdF C.NoText.addr) := by
  refine F.okX (CX := CXE P w) (k := 2) sc_read_fraction (fun vs H Q E h => ?_) (fun f cdv A outer s H vs Q E hr h => ?_)
  · obtain ⟨_, rfl, _⟩ := h
    rfl
  have nd := sc_read_fraction.nd
  obtain ⟨t, rfl, tx, q1, q0⟩ := h
  have tz := tx.sz
  have ok := tx.ok 47
  rw [← sl_eq] at ok
  refine ⟨_, (@pss_cons _ _ _ _ _ (@ps_expr _ _ _ _ (@pe_defS _ _ _ _ _ _ _ _ _ _ _ D_need_text (hr.mono (by decide)) rfl xpass_cx (@pa_cons _ _ _ _ _ (@pe_callB _ _ _ _ _ _ _ _ _ call_isi rfl B.isinstance PyProof.Rows.boot_isinstance (@pa_cons _ _ _ _ _ (pv 0) (@pa_cons _ _ _ _ _ (@pe_bltn _ _ (.ty "str") _ _ rfl B.str PyProof.Rows.boot_str rfl (by decide) (by decide)) pa_nil (by rfl)) (by rfl)) (by decide) (by decide) (by rfl) (by rfl)) pa_nil (by rfl)) (by decide) (by rfl) (by rfl)) (by rfl)) (@pss_cons _ _ _ _ _ (@ps_set _ _ 1 _ _ _ _ nd rfl (Or.inl rfl) (@pe_defS _ _ _ _ _ _ _ _ _ _ _ D_read_numbers (hr.mono (by decide)) rfl xpass_cx (@pa_cons _ _ _ _ _ (@pe_bm _ _ _ _ _ _ _ _ _ _ _ _ PySem.F.plainAttrs_str PySem.F.slot_str_split PySem.F.type_str_split mt_split (pv 0) (@pa_cons _ _ _ _ _ pe_str pa_nil (by rfl)) (by rfl) (by rfl) (by rfl) (by rfl) (by rfl)) pa_nil (by rfl)) (by decide) (by rfl) (by rfl)) (by rfl) (by walk_at "lo")) (@pss_cons _ _ _ _ _ (@ps_if _ _ _ _ _ _ _ _ (@pt_cmpR _ _ _ _ _ _ _ _ (op_eqA hr.units0) (@pe_callB _ _ _ _ _ _ _ _ _ call_lenA rfl B.len PySem.boot_len (@pa_cons _ _ _ _ _ (pv 1) pa_nil (by rfl)) (by decide) (by decide) (by rfl) (by rfl)) pe_int (nomark _)) (@pss_one _ _ _ (@ps_ret _ _ _ _ (@pe_tup _ _ _ _ _ (@pa_cons _ _ _ _ _ (@pe_ix _ _ _ _ _ _ _ ix_A (pv 1) pe_int (fun _ _ => rfl)) (@pa_cons _ _ _ _ _ pe_int pa_nil (by rfl)) (by rfl))))) pss_nil) (@pss_cons _ _ _ _ _ (@ps_expr _ _ _ _ (@pe_defS _ _ _ _ _ _ _ _ _ _ _ D_need_text (hr.mono (by decide)) rfl xpass_cx (@pa_cons _ _ _ _ _ (@pe_and _ _ _ _ _ _ _ (@pe_cmpR _ _ _ _ _ _ _ _ (op_eqA hr.units0) (@pe_callB _ _ _ _ _ _ _ _ _ call_lenA rfl B.len PySem.boot_len (@pa_cons _ _ _ _ _ (pv 1) pa_nil (by rfl)) (by decide) (by decide) (by rfl) (by rfl)) pe_int (nomark _)) (@pe_one _ _ _ _ _ (@pe_cmpR _ _ _ _ _ _ _ _ op_geI (@pe_ix _ _ _ _ _ _ _ ix_A (pv 1) pe_int (fun _ _ => rfl)) pe_int (nomark _)))) pa_nil (by rfl)) (by decide) (by rfl) (by rfl)) (by rfl)) (@pss_one _ _ _ (@ps_ret _ _ _ _ (@pe_defS _ _ _ _ _ _ _ _ _ _ _ D_fraction (hr.mono (by decide)) rfl xpass_cx (@pa_cons _ _ _ _ _ (@pe_ix _ _ _ _ _ _ _ ix_A (pv 1) pe_int (fun _ _ => rfl)) (@pa_cons _ _ _ _ _ (@pe_ix _ _ _ _ _ _ _ ix_A (pv 1) pe_int (fun _ _ => rfl)) pa_nil (by rfl)) (by rfl)) (by decide) (by rfl) (by rfl)))))))), ?_⟩
  try dsimp only [cxOf, Cx.inH, Cx.tried]
  refine rd_start [some (.str t), none] rfl ?_
  walk_at "rd"
  refine use_needt (fun z => by cases z) fun _ => ?_
  walk_at "rd"
  refine rd_split (by decide +kernel) tz _ rfl (Nat.le_trans ok.1 (by decide)) fun D H1 s1 n1 e1 => ?_
  walk_at "rd"
  refine use_readn (SqL.of e1) ok (fun z H2 s2 => q0 (fun a b f => by rw [f.1] at z; cases z) H2 (s1.trans s2)) fun al D2 H2 s2 n2 e2 => ?_
  have s12 := s1.trans s2
  have nb := nums_lt al rfl
  generalize hns : (Txt.split t "/").map numOf = ns at *
  have hl : (ns.map V.int).length = ns.length := List.length_map _
  walk_at "rd"
  walk_at "ite"
  · rename_i c
    obtain ⟨a, rfl⟩ : ∃ a, ns = [a] := List.length_eq_one_iff.mp (by omega)
    walk_at "rd"
    rename_i t5 H5 s5 n5 e5
    exact q1 a 1 ⟨al, .inl ⟨hns, rfl⟩⟩ t5 H5 (s12.trans s5) e5
  rename_i c1
  walk_at "rd"
  walk_at "ite"
  · rename_i c2
    obtain ⟨a, b, rfl⟩ : ∃ a b, ns = [a, b] := by
      match ns, (show ns.length = 2 by omega) with
      | [a, b], _ => exact ⟨a, b, rfl⟩
    have b6 := nb b (by simp)
    walk_at "rd"
    refine use_needt (fun z => q0 (fun x y f => ?_) _ s12) fun z => ?_
    · obtain ⟨_, ⟨f, _⟩ | ⟨u, v, f, v1, _⟩⟩ := f
      · rw [hns] at f
        cases f
      · rw [hns] at f
        cases f
        exact absurd v1 (of_decide_eq_false z)
    have b1 : 1 ≤ b := of_decide_eq_true z
    walk_at "rd"
    refine use_frac (Nat.lt_trans b6 (by decide)) (fun z => by omega) fun _ r5 H5 s5 n5 e5 => ?_
    exact q1 _ _ ⟨al, .inr ⟨a, b, hns, b1, rfl, rfl⟩⟩ r5 H5 (s12.trans s5) e5
  · rename_i c2
    walk_at "rd"
    refine use_needt (fun z => q0 (fun x y f => ?_) _ s12) fun z => by cases z
    obtain ⟨_, ⟨f, _⟩ | ⟨u, v, f, v1, _⟩⟩ := f
    · rw [hns] at f
      rw [f] at hl c1
      exact c1 rfl
    · rw [hns] at f
      rw [f] at c2
      exact c2 rfl
def Four (t : Str) (a b c d : Int) : Prop := (Txt.split t " ").all isNum = true ∧ (Txt.split t " ").map numOf = [a, b, c, d]
def spRdT (cX cT : Addr) : Sp := fun vs H Q E => ∃ t : Str, vs = [.str t] ∧ Tx t ∧ (∀ a b c d, Four t a b c d → a * d - b * c = 1 → ∀ D H', Same H H' → Tab H' D a b c d → Q (.ref D) H') ∧ (∀ a b c d, Four t a b c d → a * d - b * c ≠ 1 → ∀ H', Same H H' → E (.ref cT) none H') ∧ ((∀ a b c d, ¬ Four t a b c d) → ∀ H', Same H H' → E (.ref cX) none H')
theorem use_rdt {cX cT : Addr} {t : Str} {H : Hp} {Q : VK} {E : XK} (h : Tx t) (h1 : ∀ a b c d, Four t a b c d → a * d - b * c = 1 → ∀ D H', Same H H' → Tab H' D a b c d → Q (.ref D) H') (h2 : ∀ a b c d, Four t a b c d → a * d - b * c ≠ 1 → ∀ H', Same H H' → E (.ref cT) none H') (h3 : (∀ a b c d, ¬ Four t a b c d) → ∀ H', Same H H' → E (.ref cX) none H') : spRdT cX cT [.str t] H Q E := ⟨t, rfl, h, h1, h2, h3⟩
theorem Four.lt {t : Str} {a b c d : Int} (h : Four t a b c d) : a.natAbs < 10 ^ 60 ∧ b.natAbs < 10 ^ 60 ∧ c.natAbs < 10 ^ 60 ∧ d.natAbs < 10 ^ 60 := by
  have k := nums_lt h.1 h.2
  exact ⟨k a (by simp), k b (by simp), k c (by simp), k d (by simp)⟩
theorem four_up {n : Int} (h : n.natAbs < 10 ^ 60) : n.natAbs < 10 ^ 190 := Nat.lt_trans h (by decide)
theorem ok_read_table (F : Src K mg "read_table" s_read_table ["text"]) (B : Blt mg) (C : Cls K mg base) (R : Rel K mg base C) (Kc : Cst K mg) (D_need_text : Def P w K mg base (CXE P w) 1 "need_text" ["holds"] (spNeedT C.NoText.addr)) (D_read_numbers : Def P w K mg base (CXE P w) 2 "read_numbers" ["pieces"] (spReadN K C.NoText.addr)) (D_need_table : Def P w K mg base (CXE P w) 4 "need_table" ["table"] (spNT3 C.NoTable.addr)) : Def P w K mg base (CXE P w) 5 "read_table" ["text"] (spRdT C.NoText.addr C.NoTable.addr) := by
  refine F.okX (CX := CXE P w) (k := 4) sc_read_table (fun vs H Q E h => ?_) (fun f cdv A outer s H vs Q E hr h => ?_)
  · obtain ⟨_, rfl, _⟩ := h
    rfl
  have nd := sc_read_table.nd
  obtain ⟨t, rfl, tx, q1, q2, q0⟩ := h
  have tz := tx.sz
  have ok := tx.ok 32
  rw [← sp_eq] at ok
  refine ⟨_, (@pss_cons _ _ _ _ _ (@ps_expr _ _ _ _ (@pe_defS _ _ _ _ _ _ _ _ _ _ _ D_need_text (hr.mono (by decide)) rfl xpass_cx (@pa_cons _ _ _ _ _ (@pe_callB _ _ _ _ _ _ _ _ _ call_isi rfl B.isinstance PyProof.Rows.boot_isinstance (@pa_cons _ _ _ _ _ (pv 0) (@pa_cons _ _ _ _ _ (@pe_bltn _ _ (.ty "str") _ _ rfl B.str PyProof.Rows.boot_str rfl (by decide) (by decide)) pa_nil (by rfl)) (by rfl)) (by decide) (by decide) (by rfl) (by rfl)) pa_nil (by rfl)) (by decide) (by rfl) (by rfl)) (by rfl)) (@pss_cons _ _ _ _ _ (@ps_set _ _ 1 _ _ _ _ nd rfl (Or.inl rfl) (@pe_defS _ _ _ _ _ _ _ _ _ _ _ D_read_numbers (hr.mono (by decide)) rfl xpass_cx (@pa_cons _ _ _ _ _ (@pe_bm _ _ _ _ _ _ _ _ _ _ _ _ PySem.F.plainAttrs_str PySem.F.slot_str_split PySem.F.type_str_split mt_split (pv 0) (@pa_cons _ _ _ _ _ pe_str pa_nil (by rfl)) (by rfl) (by rfl) (by rfl) (by rfl) (by rfl)) pa_nil (by rfl)) (by decide) (by rfl) (by rfl)) (by rfl) (by walk_at "lo")) (@pss_cons _ _ _ _ _ (@ps_expr _ _ _ _ (@pe_defS _ _ _ _ _ _ _ _ _ _ _ D_need_text (hr.mono (by decide)) rfl xpass_cx (@pa_cons _ _ _ _ _ (@pe_cmpR _ _ _ _ _ _ _ _ (op_eqA hr.units0) (@pe_callB _ _ _ _ _ _ _ _ _ call_lenA rfl B.len PySem.boot_len (@pa_cons _ _ _ _ _ (pv 1) pa_nil (by rfl)) (by decide) (by decide) (by rfl) (by rfl)) pe_int (nomark _)) pa_nil (by rfl)) (by decide) (by rfl) (by rfl)) (by rfl)) (@pss_cons _ _ _ _ _ (@ps_set _ _ 2 _ _ _ _ nd rfl (Or.inl rfl) (@pe_tup _ _ _ _ _ (@pa_cons _ _ _ _ _ (@pe_tup _ _ _ _ _ (@pa_cons _ _ _ _ _ (@pe_ix _ _ _ _ _ _ _ ix_A (pv 1) pe_int (fun _ _ => rfl)) (@pa_cons _ _ _ _ _ (@pe_ix _ _ _ _ _ _ _ ix_A (pv 1) pe_int (fun _ _ => rfl)) pa_nil (by rfl)) (by rfl))) (@pa_cons _ _ _ _ _ (@pe_tup _ _ _ _ _ (@pa_cons _ _ _ _ _ (@pe_ix _ _ _ _ _ _ _ ix_A (pv 1) pe_int (fun _ _ => rfl)) (@pa_cons _ _ _ _ _ (@pe_ix _ _ _ _ _ _ _ ix_A (pv 1) pe_int (fun _ _ => rfl)) pa_nil (by rfl)) (by rfl))) pa_nil (by rfl)) (by rfl))) (by rfl) (by walk_at "lo")) (@pss_cons _ _ _ _ _ (@ps_expr _ _ _ _ (@pe_defS _ _ _ _ _ _ _ _ _ _ _ D_need_table (hr.mono (by decide)) rfl xpass_cx (@pa_cons _ _ _ _ _ (pv 2) pa_nil (by rfl)) (by decide) (by rfl) (by rfl)) (by rfl)) (@pss_one _ _ _ (@ps_ret _ _ _ _ (pv 2)))))))), ?_⟩
  try dsimp only [cxOf, Cx.inH, Cx.tried]
  refine rd_start [some (.str t), none, none] rfl ?_
  walk_at "rd"
  refine use_needt (fun z => by cases z) fun _ => ?_
  walk_at "rd"
  refine rd_split (by decide +kernel) tz _ rfl (Nat.le_trans ok.1 (by decide)) fun D H1 s1 n1 e1 => ?_
  walk_at "rd"
  refine use_readn (SqL.of e1) ok (fun z H2 s2 => q0 (fun a b c d f => by rw [f.1] at z; cases z) H2 (s1.trans s2)) fun al D2 H2 s2 n2 e2 => ?_
  have s12 := s1.trans s2
  generalize hns : (Txt.split t " ").map numOf = ns at *
  have hl : (ns.map V.int).length = ns.length := List.length_map _
  walk_at "rd"
  refine use_needt (fun z => q0 (fun a b c d f => ?_) _ s12) fun z => ?_
  · have f := f.2
    rw [hns] at f
    rw [f] at z
    cases z
  obtain ⟨a, b, c, d, rfl⟩ : ∃ a b c d, ns = [a, b, c, d] := by
    have z := of_decide_eq_true z
    match ns, (show ns.length = 4 by omega) with
    | [a, b, c, d], _ => exact ⟨a, b, c, d, rfl⟩
  have F : Four t a b c d := ⟨al, hns⟩
  obtain ⟨k1, k2, k3, k4⟩ := F.lt
  walk_at "rd"
  rename_i p1 H3 s3 n3 e3 p2 H4 s4 n4 e4 p3 H5 s5 n5 e5
  have T : Tab H5 p3 a b c d := ⟨p1, p2, e5, (s4.trans s5).obj e3, s5.obj e4⟩
  have s15 := s12.trans (s3.trans (s4.trans s5))
  refine use_NT3 T (four_up k1) (four_up k2) (four_up k3) (four_up k4) (fun det => ?_) fun det => q2 a b c d F det H5 s15
  walk_at "rd"
  exact q1 a b c d F det p3 H5 s15 T
def Runs (ps : List Str) (ws : List (Bool × Int)) : Prop := ps.length = 2 * ws.length ∧ ∀ (i : Nat) (p : Bool × Int), ws[i]? = some p → ps[2 * i]? = some (ltr p.1) ∧ ∃ n, ps[2 * i + 1]? = some n ∧ isNum n = true ∧ numOf n = p.2 ∧ 1 ≤ p.2
def RW (t : Str) (ws : List (Bool × Int)) : Prop := (t = Str.ofString "none" ∧ ws = []) ∨ (t ≠ Str.ofString "none" ∧ Runs (Txt.split t " ") ws ∧ Mth.Alt ws)
theorem Runs.small {ps : List Str} {ws : List (Bool × Int)} (h : Runs ps ws) : ∀ p ∈ ws, 1 ≤ p.2 ∧ p.2.natAbs < 10 ^ 60 := fun p hp => by
  obtain ⟨i, hi⟩ := List.getElem?_of_mem hp
  obtain ⟨_, n, _, h1, h2, h3⟩ := h.2 i p hi
  exact ⟨h3, by rw [← h2]; exact isNum_lt h1⟩
theorem RW.small {t : Str} {ws : List (Bool × Int)} (h : RW t ws) : ∀ p ∈ ws, 1 ≤ p.2 ∧ p.2.natAbs < 10 ^ 60 := by
  rcases h with ⟨_, rfl⟩ | ⟨_, h, _⟩
  · exact fun p hp => (List.not_mem_nil hp).elim
  · exact h.small
def spRdW (cX : Addr) : Sp := fun vs H Q E => ∃ t : Str, vs = [.str t] ∧ Tx t ∧ (∀ ws, RW t ws → ws.length ≤ 460 → ∀ D H', Same H H' → H D = none → GoodW H' (.ref D) ws → Q (.ref D) H') ∧ ((∀ ws, ¬ RW t ws) → ∀ H', Same H H' → E (.ref cX) none H')
theorem use_rdw {cX : Addr} {t : Str} {H : Hp} {Q : VK} {E : XK} (h : Tx t) (h1 : ∀ ws, RW t ws → ws.length ≤ 460 → ∀ D H', Same H H' → H D = none → GoodW H' (.ref D) ws → Q (.ref D) H') (h2 : (∀ ws, ¬ RW t ws) → ∀ H', Same H H' → E (.ref cX) none H') : spRdW cX [.str t] H Q E := ⟨t, rfl, h, h1, h2⟩
theorem Runs.nums {ps : List Str} {ws : List (Bool × Int)} (h : Runs ps ws) : (half (ps.drop 1)).all isNum = true := by
  rw [List.all_eq_true]
  intro w hw
  obtain ⟨i, hi⟩ := List.getElem?_of_mem hw
  rw [half_get, List.getElem?_drop] at hi
  have hl := (List.getElem?_eq_some_iff.mp hi).1
  have h0 := h.1
  obtain ⟨p, hp⟩ : ∃ p, ws[i]? = some p := ⟨_, List.getElem?_eq_getElem (by omega)⟩
  obtain ⟨_, n, h1, h2, _⟩ := h.2 i p hp
  rw [show 1 + 2 * i = 2 * i + 1 by omega, h1] at hi
  cases hi
  exact h2
theorem ok_read_word (F : Src K mg "read_word" s_read_word ["text"]) (B : Blt mg) (C : Cls K mg base) (R : Rel K mg base C) (Kc : Cst K mg) (D_need_text : Def P w K mg base (CXE P w) 1 "need_text" ["holds"] (spNeedT C.NoText.addr)) (D_read_numbers : Def P w K mg base (CXE P w) 2 "read_numbers" ["pieces"] (spReadN K C.NoText.addr)) (D_is_word : Def P w K mg base (CXE P w) 3 "is_word" ["word"] spWd) : Def P w K mg base (CXE P w) 4 "read_word" ["text"] (spRdW C.NoText.addr) := by
  refine F.okX (CX := CXE P w) (k := 3) sc_read_word (fun vs H Q E h => ?_) (fun f cdv A outer s H vs Q E hr h => ?_)
  · obtain ⟨_, rfl, _⟩ := h
    rfl
  have nd := sc_read_word.nd
  obtain ⟨t, rfl, tx, q1, q0⟩ := h
  have tz := tx.sz
  have ok := tx.ok 32
  have pl := split_len t 32
  rw [← sp_eq] at ok pl
  have tl := tx.2
  refine ⟨_, (@pss_cons _ _ _ _ _ (@ps_expr _ _ _ _ (@pe_defS _ _ _ _ _ _ _ _ _ _ _ D_need_text (hr.mono (by decide)) rfl xpass_cx (@pa_cons _ _ _ _ _ (@pe_callB _ _ _ _ _ _ _ _ _ call_isi rfl B.isinstance PyProof.Rows.boot_isinstance (@pa_cons _ _ _ _ _ (pv 0) (@pa_cons _ _ _ _ _ (@pe_bltn _ _ (.ty "str") _ _ rfl B.str PyProof.Rows.boot_str rfl (by decide) (by decide)) pa_nil (by rfl)) (by rfl)) (by decide) (by decide) (by rfl) (by rfl)) pa_nil (by rfl)) (by decide) (by rfl) (by rfl)) (by rfl)) (@pss_cons _ _ _ _ _ (@ps_if _ _ _ _ _ _ _ _ (@pt_cmpR _ _ _ _ _ _ _ _ (op_eqA hr.units0) (pv 0) (@pe_glob _ _ (.str "none") _ _ rfl Kc.EMPTY_WORD.choose_spec ⟨_, rfl⟩ (by decide)) (nomark _)) (@pss_one _ _ _ (@ps_ret _ _ _ _ (@pe_lst _ _ _ _ pa_nil))) pss_nil) (@pss_cons _ _ _ _ _ (@ps_set _ _ 1 _ _ _ _ nd rfl (Or.inl rfl) (@pe_bm _ _ _ _ _ _ _ _ _ _ _ _ PySem.F.plainAttrs_str PySem.F.slot_str_split PySem.F.type_str_split mt_split (pv 0) (@pa_cons _ _ _ _ _ pe_str pa_nil (by rfl)) (by rfl) (by rfl) (by rfl) (by rfl) (by rfl)) (by rfl) (by walk_at "lo")) (@pss_cons _ _ _ _ _ (@ps_set _ _ 2 _ _ _ _ nd rfl (Or.inr rfl) (@pe_sliceTwo _ _ _ _ _ _ _ _ _ (pv 1) (@po_some _ _ _ pe_int) (@po_some _ _ _ pe_int)) (by rfl) (by walk_at "lo")) (@pss_cons _ _ _ _ _ (@ps_set _ _ 3 _ _ _ _ nd rfl (Or.inr rfl) (@pe_defS _ _ _ _ _ _ _ _ _ _ _ D_read_numbers (hr.mono (by decide)) rfl xpass_cx (@pa_cons _ _ _ _ _ (@pe_sliceTwo _ _ _ _ _ _ _ _ _ (pv 1) (@po_some _ _ _ pe_int) (@po_some _ _ _ pe_int)) pa_nil (by rfl)) (by decide) (by rfl) (by rfl)) (by rfl) (by walk_at "lo")) (@pss_cons _ _ _ _ _ (@ps_expr _ _ _ _ (@pe_defS _ _ _ _ _ _ _ _ _ _ _ D_need_text (hr.mono (by decide)) rfl xpass_cx (@pa_cons _ _ _ _ _ (@pe_cmpR _ _ _ _ _ _ _ _ (op_eqA hr.units0) (@pe_callB _ _ _ _ _ _ _ _ _ call_lenA rfl B.len PySem.boot_len (@pa_cons _ _ _ _ _ (pv 2) pa_nil (by rfl)) (by decide) (by decide) (by rfl) (by rfl)) (@pe_callB _ _ _ _ _ _ _ _ _ call_lenA rfl B.len PySem.boot_len (@pa_cons _ _ _ _ _ (pv 3) pa_nil (by rfl)) (by decide) (by decide) (by rfl) (by rfl)) (nomark _)) pa_nil (by rfl)) (by decide) (by rfl) (by rfl)) (by rfl)) (@pss_cons _ _ _ _ _ (@ps_setC _ 4 _ _ _ _ _ _ _ _ _ _ _ [2, 3] ["letters", "numbers"] rfl (@pi_range1 _ _ _ _ _ _ rfl B.range (@pa_cons _ _ _ _ _ (@pe_callB _ _ _ _ _ _ _ _ _ call_lenA rfl B.len PySem.boot_len (@pa_cons _ _ _ _ _ (pv 2) pa_nil (by rfl)) (by decide) (by decide) (by rfl) (by rfl)) pa_nil (by rfl)) (by rfl)) (fun pins cl ex s H => (@pe_tup _ _ _ _ _ (@pa_cons _ _ _ _ _ (@pe_ix _ _ _ _ _ _ _ ix_AbF (pv 1) (pv 0) (fun _ _ => rfl)) (@pa_cons _ _ _ _ _ (@pe_ix _ _ _ _ _ _ _ ix_AbF (pv 2) (pv 0) (fun _ _ => rfl)) pa_nil (by rfl)) (by rfl)))) rfl rfl rfl (by decide +kernel) (by decide +kernel) rfl (by decide +kernel) rfl (by decide +kernel) nd rfl (Or.inl rfl) (by rfl) (by walk_at "lo") (by intro _; rfl)) (@pss_cons _ _ _ _ _ (@ps_expr _ _ _ _ (@pe_defS _ _ _ _ _ _ _ _ _ _ _ D_need_text (hr.mono (by decide)) rfl xpass_cx (@pa_cons _ _ _ _ _ (@pe_defS _ _ _ _ _ _ _ _ _ _ _ D_is_word (hr.mono (by decide)) rfl xpass_cx (@pa_cons _ _ _ _ _ (pv 4) pa_nil (by rfl)) (by decide) (by rfl) (by rfl)) pa_nil (by rfl)) (by decide) (by rfl) (by rfl)) (by rfl)) (@pss_one _ _ _ (@ps_ret _ _ _ _ (pv 4))))))))))), ?_⟩
  try dsimp only [cxOf, Cx.inH, Cx.tried]
  refine rd_start [some (.str t), none, none, none, none] rfl ?_
  walk_at "rd"
  refine use_needt (fun z => by cases z) fun _ => ?_
  walk_at "rd"
  walk_at "ite"
  · rename_i c
    walk_at "rd"
    rename_i L H1 s1 n1 e1
    exact q1 [] (.inl ⟨c, rfl⟩) (by decide) L H1 s1 n1 ⟨L, rfl, WordL.nil e1, fun i x y h => by simp at h, fun p hp => (List.not_mem_nil hp).elim, by decide⟩
  rename_i cn
  walk_at "rd"
  refine rd_split (by decide +kernel) tz _ rfl (Nat.le_trans ok.1 (by decide)) fun D H1 s1 n1 e1 => ?_
  generalize hps : Txt.split t " " = ps at *
  walk_at "rd"
  refine rd_kTwo 0 rfl (by decide) (SqL.of e1) fun D2 H2 s2 n2 e2 => ?_
  have e2 : H2 D2 = some (.lst ((half ps).map V.str)) := by
    rw [List.drop_zero, half_map] at e2
    exact e2
  walk_at "rd"
  refine rd_kTwo 1 rfl (by decide) (SqL.of (s2.obj e1)) fun D3 H3 s3 n3 e3 => ?_
  have e3 : H3 D3 = some (.lst ((half (ps.drop 1)).map V.str)) := by
    rw [← List.map_drop, half_map] at e3
    exact e3
  have s13 := s1.trans (s2.trans s3)
  have ok3 : TxtOk (half (ps.drop 1)) := by
    refine ⟨Nat.le_trans (half_len _) (by rw [List.length_drop]; have := ok.1; omega), fun w hw => ?_⟩
    obtain ⟨i, hi⟩ := List.getElem?_of_mem hw
    rw [half_get, List.getElem?_drop] at hi
    exact ok.2 w (List.mem_of_getElem? hi)
  walk_at "rd"
  refine use_readn (SqL.of e3) ok3 (fun z H4 s4 => q0 (fun ws r => ?_) H4 (s13.trans s4)) fun al D4 H4 s4 n4 e4 => ?_
  · rcases r with ⟨r, _⟩ | ⟨_, r, _⟩
    · exact cn r
    · rw [hps] at r
      rw [r.nums] at z
      cases z
  have s14 := s13.trans s4
  have e2 := (s3.trans s4).obj e2
  have l2 : ((half ps).map V.str).length = (ps.length + 1) / 2 := by rw [List.length_map, half_length]
  have l4 : (((half (ps.drop 1)).map numOf).map V.int).length = ps.length / 2 := by
    rw [List.length_map, List.length_map, half_length, List.length_drop]
    have : 1 ≤ ps.length := by
      cases hz : ps with
      | nil =>
        rw [hz, sp_eq] at hps
        exact absurd hps (split_ne t 32)
      | cons _ _ => simp
    omega
  walk_at "rd"
  refine use_needt (fun z => q0 (fun ws r => ?_) H4 s14) fun z => ?_
  · rw [l2, l4] at z
    rcases r with ⟨r, _⟩ | ⟨_, r, _⟩
    · exact cn r
    · rw [hps] at r
      have := r.1
      exact of_decide_eq_false z (by omega)
  rw [l2, l4] at z
  have z := of_decide_eq_true z
  obtain ⟨m, hm⟩ : ∃ m, ps.length = 2 * m := ⟨ps.length / 2, by omega⟩
  walk_at "rd"
  refine rd_compR [some (.ref D2), some (.ref D4)] rfl ?_
  walk_at "rd"
  refine rd_kCompTup2 (fun k => [.str (((half ps)[k.toNat]?).getD ""), .int (numOf (((half (ps.drop 1))[k.toNat]?).getD ""))]) (by rw [l2]; omega) (fun i k H' Q' hi hk s' hQ => ?_) fun D5 H5 as s5 n5 e5 la T => ?_
  · rw [l2] at hi
    have hk' : k = (i : Int) := by omega
    subst hk'
    obtain ⟨u, hu⟩ : ∃ u, (half ps)[i]? = some u := ⟨_, List.getElem?_eq_getElem (by rw [half_length]; omega)⟩
    obtain ⟨v, hv⟩ : ∃ v, (half (ps.drop 1))[i]? = some v := ⟨_, List.getElem?_eq_getElem (by rw [half_length, List.length_drop]; omega)⟩
    have x2 := s'.obj e2
    have x4 := s'.obj e4
    have a2 : atI ((half ps).map V.str) (i : Int) = some (.str u) := atI_nat (by rw [List.getElem?_map, hu]; rfl)
    have a4 : atI (((half (ps.drop 1)).map numOf).map V.int) (i : Int) = some (.int (numOf v)) := atI_nat (by rw [List.getElem?_map, List.getElem?_map, hv]; rfl)
    walk_at "rd"
    refine rd_ixL (SqL.of x2) a2 ?_
    walk_at "rd"
    refine rd_ixL (SqL.of x4) a4 ?_
    walk_at "rd"
    rename_i t6 H6 s6 n6 e6
    refine hQ t6 H6 s6 ?_
    rw [show ((i : Int)).toNat = i from rfl, hu, hv]
    exact e6
  have la : as.length = m := by rw [la, l2]; omega
  have at_ : ∀ (j : Nat) (x : Addr), as[j]? = some x → ∃ u v, ps[2 * j]? = some u ∧ ps[2 * j + 1]? = some v ∧ isNum v = true ∧ H5 x = some (.tup [.str u, .int (numOf v)]) := fun j x hx => by
    have hj := (List.getElem?_eq_some_iff.mp hx).1
    obtain ⟨u, hu⟩ : ∃ u, (half ps)[j]? = some u := ⟨_, List.getElem?_eq_getElem (by rw [half_length]; omega)⟩
    obtain ⟨v, hv⟩ : ∃ v, (half (ps.drop 1))[j]? = some v := ⟨_, List.getElem?_eq_getElem (by rw [half_length, List.length_drop]; omega)⟩
    have tx := T j x hx
    rw [show (0 + (j : Int)).toNat = j by omega, hu, hv] at tx
    have nv := List.all_eq_true.mp al v (List.mem_of_getElem? hv)
    rw [half_get] at hu
    rw [half_get, List.getElem?_drop, show 1 + 2 * j = 2 * j + 1 by omega] at hv
    exact ⟨u, v, hu, hv, nv, tx⟩
  have kw : KW H5 (.ref D5) := .inr (.inr ⟨D5, _, rfl, e5, by rw [List.length_map]; omega, fun x hx => by
    obtain ⟨y, hy, rfl⟩ := List.mem_map.mp hx
    obtain ⟨j, hj⟩ := List.getElem?_of_mem hy
    obtain ⟨u, v, _, _, _, ey⟩ := at_ j y hj
    exact .inr (.inr ⟨y, _, rfl, ey, fun _ z hz => by
      simp only [List.mem_cons, List.not_mem_nil, or_false] at hz
      rcases hz with rfl | rfl <;> rfl⟩)⟩)
  have s15 := s14.trans s5
  walk_at "rd"
  refine use_wd kw (fun wb H6 s6 => ?_) (fun wb H6 s6 => ?_)
  · walk_at "rd"
    refine use_needt (fun z => by cases z) fun _ => ?_
    walk_at "rd"
    obtain ⟨ws, g⟩ := wb
    obtain ⟨D', eD, ⟨bs, eb, lb, U⟩, alt, pos, lw⟩ := id g
    cases eD
    rw [e5] at eb
    have hab : as = bs := (List.map_inj_right (f := V.ref) (fun a b h => by cases h; rfl)).mp (HO.lst.inj (Option.some.inj eb))
    subst hab
    refine q1 ws (.inr ⟨cn, ?_, alt⟩) (by omega) D5 H6 (s15.trans s6) (s14.none n5) (g.same s6)
    rw [hps]
    refine ⟨by omega, fun i p hp => ?_⟩
    have hi := (List.getElem?_eq_some_iff.mp hp).1
    obtain ⟨x, hx⟩ : ∃ x, as[i]? = some x := ⟨_, List.getElem?_eq_getElem (by omega)⟩
    obtain ⟨u, v, hu, hv, nv, ex⟩ := at_ i x hx
    have ex2 := U i x p hx hp
    rw [ex] at ex2
    obtain ⟨k1, k2⟩ := tup2 (Option.some.inj ex2)
    rw [hu, V.str.inj k1]
    exact ⟨rfl, v, hv, nv, V.int.inj k2, pos p (List.mem_of_getElem? hp)⟩
  · walk_at "rd"
    refine use_needt (fun _ => q0 (fun ws r => wb ⟨ws, ?_⟩) H6 (s15.trans s6)) fun z => by cases z
    rcases r with ⟨r, _⟩ | ⟨_, r, alt⟩
    · exact absurd r cn
    rw [hps] at r
    have r1 := r.1
    refine ⟨D5, rfl, ⟨as, e5, by omega, fun i x p hx hp => ?_⟩, alt, fun p hp => (r.small p hp).1, by omega⟩
    obtain ⟨u, v, hu, hv, nv, ex⟩ := at_ i x hx
    obtain ⟨h1, n, h2, h3, h4, h5⟩ := r.2 i p hp
    rw [hu] at h1
    rw [hv] at h2
    cases h1
    cases h2
    rw [ex, h4]
def spCell (K : PySem.W.Frag) : Sp := fun vs H Q _ => ∃ (a : Addr) (ns : List Int) (k : Int), vs = [.ref a, .int k] ∧ SqL K H a (ns.map V.int) ∧ 0 ≤ k ∧ k ≤ 1000 ∧ ∀ v : Int, Q (.int v) H
theorem use_cell {K : PySem.W.Frag} {k : Int} {a : Addr} {ns : List Int} {H : Hp} {Q : VK} {E : XK} (h1 : SqL K H a (ns.map V.int)) (h0 : 0 ≤ k) (h2 : k ≤ 1000) (h : ∀ v : Int, Q (.int v) H) : spCell K [.ref a, .int k] H Q E := ⟨a, ns, k, rfl, h1, h0, h2, h⟩
local macro_rules | `(tactic| walk_at "rdcall") => `(tactic| ((with_reducible refine' use_cell ?a ?b ?c ?_); (case a => walk_at "hp"); (case b => omega); (case c => omega); intro _))
theorem ok__law_cell (F : Src K mg "_law_cell" s__law_cell ["_law_script", "_law_k"]) (B : Blt mg) (C : Cls K mg base) (R : Rel K mg base C) (Kc : Cst K mg)  : Def P w K mg base (CXE P w) 1 "_law_cell" ["_law_script", "_law_k"] (spCell K) := by
  refine F.ok (CX := CXE P w) (k := 0) sc__law_cell (fun vs H Q E h => ?_) (fun f cdv A outer s H vs Q E hr h => ?_)
  · obtain ⟨_, _, _, rfl, _⟩ := h
    rfl
  have nd := sc__law_cell.nd
  obtain ⟨a, ns, k, rfl, hS, h0, h1, q⟩ := h
  refine ⟨_, (@pss_cons _ _ _ _ _ (@ps_if _ _ _ _ _ _ _ _ (@pt_cmpR _ _ _ _ _ _ _ _ (op_eqA hr.units0) (@pe_callB _ _ _ _ _ _ _ _ _ call_lenA rfl B.len PySem.boot_len (@pa_cons _ _ _ _ _ (pv 0) pa_nil (by rfl)) (by decide) (by decide) (by rfl) (by rfl)) pe_int (nomark _)) (@pss_one _ _ _ (@ps_ret _ _ _ _ (@pe_op _ _ _ _ _ _ _ _ op_mulA pe_int (@pe_op _ _ _ _ _ _ _ _ op_addA (pv 1) pe_int)))) pss_nil) (@pss_cons _ _ _ _ _ (@ps_if _ _ _ _ _ _ _ _ (@pt_cmpR _ _ _ _ _ _ _ _ op_ltI (pv 1) (@pe_callB _ _ _ _ _ _ _ _ _ call_lenA rfl B.len PySem.boot_len (@pa_cons _ _ _ _ _ (pv 0) pa_nil (by rfl)) (by decide) (by decide) (by rfl) (by rfl)) (nomark _)) (@pss_one _ _ _ (@ps_ret _ _ _ _ (@pe_ix _ _ _ _ _ _ _ ix_A (pv 0) (pv 1) (fun _ _ => rfl)))) pss_nil) (@pss_one _ _ _ (@ps_ret _ _ _ _ (@pe_op _ _ _ _ _ _ _ _ op_addA (@pe_ix _ _ _ _ _ _ _ ix_A (pv 0) (@pe_op _ _ _ _ _ _ _ _ op_modA (pv 1) (@pe_callB _ _ _ _ _ _ _ _ _ call_lenA rfl B.len PySem.boot_len (@pa_cons _ _ _ _ _ (pv 0) pa_nil (by rfl)) (by decide) (by decide) (by rfl) (by rfl))) (fun _ _ => rfl)) (@pe_op _ _ _ _ _ _ _ _ op_mulA pe_int (pv 1))))))), ?_⟩
  try dsimp only [cxOf, Cx.inH, Cx.tried]
  refine rd_start [some (.ref a), some (.int k)] rfl ?_
  have hl : (ns.map V.int).length = ns.length := List.length_map _
  walk_at "rd"
  walk_at "ite"
  · walk_at "rd"
    exact q _
  · rename_i c0
    walk_at "rd"
    walk_at "ite"
    · rename_i c1
      walk_at "rd"
      refine rd_ixM hS (by omega) (by omega) fun v _ _ => ?_
      walk_at "rd"
      exact q _
    · rename_i c1
      walk_at "rd"
      refine rd_ixM hS (Int.emod_nonneg _ (by omega)) (by have := Int.emod_lt_of_pos k (show (0:Int) < ((ns.map V.int).length : Int) by omega); omega) fun v _ _ => ?_
      walk_at "rd"
      exact q _
def spMixed : Sp := fun vs H Q _ => ∃ c k p : Int, vs = [.int c, .int k, .int p] ∧ 0 ≤ k ∧ k ≤ 1000 ∧ 0 < p ∧ ∀ v : Int, 0 ≤ v → v < p → Q (.int v) H
theorem use_mixed {c k p : Int} {H : Hp} {Q : VK} {E : XK} (h0 : 0 ≤ k) (h1 : k ≤ 1000) (hp : 0 < p) (h : ∀ v : Int, 0 ≤ v → v < p → Q (.int v) H) : spMixed [.int c, .int k, .int p] H Q E := ⟨c, k, p, rfl, h0, h1, hp, h⟩
local macro_rules | `(tactic| walk_at "rdcall") => `(tactic| ((with_reducible refine use_mixed ?a ?b ?c ?_); (case a => omega); (case b => omega); (case c => omega); intro _ _ _))
theorem ok__law_mixed (F : Src K mg "_law_mixed" s__law_mixed ["_law_cell_here", "_law_k", "_law_prime"]) (B : Blt mg) (C : Cls K mg base) (R : Rel K mg base C) (Kc : Cst K mg)  : Def P w K mg base (CXE P w) 1 "_law_mixed" ["_law_cell_here", "_law_k", "_law_prime"] spMixed := by
  refine F.ok (CX := CXE P w) (k := 0) sc__law_mixed (fun vs H Q E h => ?_) (fun f cdv A outer s H vs Q E hr h => ?_)
  · obtain ⟨_, _, _, rfl, _⟩ := h
    rfl
  have nd := sc__law_mixed.nd
  obtain ⟨c, k, p, rfl, h0, h1, hp, q⟩ := h
  refine ⟨_, (@pss_cons _ _ _ _ _ (@ps_set _ _ 3 _ _ _ _ nd rfl (Or.inl rfl) (@pe_op _ _ _ _ _ _ _ _ op_modA (@pe_op _ _ _ _ _ _ _ _ op_mulA (@pe_op _ _ _ _ _ _ _ _ op_addA (@pe_op _ _ _ _ _ _ _ _ op_addA (@pe_op _ _ _ _ _ _ _ _ op_addA (pv 0) (@pe_op _ _ _ _ _ _ _ _ op_mulA (@pe_op _ _ _ _ _ _ _ _ op_mulA pe_int (pv 1)) (pv 1))) (@pe_op _ _ _ _ _ _ _ _ op_mulA pe_int (pv 1))) pe_int) pe_int) pe_int) (by rfl) (by walk_at "lo")) (@pss_cons _ _ _ _ _ (@ps_set _ _ 3 _ _ _ _ nd rfl (Or.inl rfl) (@pe_op _ _ _ _ _ _ _ _ op_modA (@pe_op _ _ _ _ _ _ _ _ op_mulA (pv 3) (pv 3)) pe_int) (by rfl) (by walk_at "lo")) (@pss_one _ _ _ (@ps_ret _ _ _ _ (@pe_op _ _ _ _ _ _ _ _ op_modA (@pe_op _ _ _ _ _ _ _ _ op_mulA (pv 3) pe_int) (pv 2)))))), ?_⟩
  try dsimp only [cxOf, Cx.inH, Cx.tried]
  refine rd_start [some (.int c), some (.int k), some (.int p), none] rfl ?_
  walk_at "rd"
  exact q _ (Int.emod_nonneg _ (by omega)) (Int.emod_lt_of_pos _ hp)
def DrawOk (fs ws : List Int) : Prop := fs.length = ws.length ∧ ∀ (i : Nat) (v w : Int), fs[i]? = some v → ws[i]? = some w → 0 ≤ v ∧ v < w
def spDraws (K : PySem.W.Frag) : Sp := fun vs H Q _ => ∃ (c : Int) (a : Addr) (ws : List Int) (p : Int), vs = [.int c, .ref a, .int p] ∧ SqL K H a (ws.map V.int) ∧ ws.length ≤ 100 ∧ (∀ x ∈ ws, 0 < x ∧ x < 2 ^ 60) ∧ 0 < p ∧
  ∀ (r : Addr) (H' : Hp) (fs : List Int), Same H H' → H r = none → H' r = some (.lst (fs.map V.int)) → DrawOk fs ws → Q (.ref r) H'
theorem use_draws {K : PySem.W.Frag} {c p : Int} {a : Addr} {H : Hp} {Q : VK} {E : XK} (ws : List Int) (h1 : SqL K H a (ws.map V.int)) (h2 : ws.length ≤ 100) (h3 : ∀ x ∈ ws, 0 < x ∧ x < 2 ^ 60) (hp : 0 < p)
    (h : ∀ (r : Addr) (H' : Hp) (fs : List Int), Same H H' → H r = none → H' r = some (.lst (fs.map V.int)) → DrawOk fs ws → Q (.ref r) H') : spDraws K [.int c, .ref a, .int p] H Q E := ⟨c, a, ws, p, rfl, h1, h2, h3, hp, h⟩
theorem ok__law_draws (F : Src K mg "_law_draws" s__law_draws ["_law_cell_here", "_law_widths", "_law_prime"]) (B : Blt mg) (C : Cls K mg base) (R : Rel K mg base C) (Kc : Cst K mg) (D__law_mixed : Def P w K mg base (CXE P w) 1 "_law_mixed" ["_law_cell_here", "_law_k", "_law_prime"] spMixed) : Def P w K mg base (CXE P w) 2 "_law_draws" ["_law_cell_here", "_law_widths", "_law_prime"] (spDraws K) := by
  refine F.ok (CX := CXE P w) (k := 1) sc__law_draws (fun vs H Q E h => ?_) (fun f cdv A outer s H vs Q E hr h => ?_)
  · obtain ⟨_, _, _, _, rfl, _⟩ := h
    rfl
  have nd := sc__law_draws.nd
  obtain ⟨c, a, ws, p, rfl, hS, h100, hw, hp, q⟩ := h
  have hl : (ws.map V.int).length = ws.length := List.length_map _
  refine ⟨_, (@pss_cons _ _ _ _ _ (@ps_set _ _ 3 _ _ _ _ nd rfl (Or.inl rfl) pe_int (by rfl) (by walk_at "lo")) (@pss_consE _ _ _ _ _ (@ps_if _ _ _ _ _ _ _ _ (@pt_cmpR _ _ _ _ _ _ _ _ op_geI (pv 0) (@pe_powc _ _ 18 _ _ _ _ _ (by decide) (by decide)) (nomark _)) (@pss_one _ _ _ (@ps_set _ _ 3 _ _ _ _ nd rfl (Or.inl rfl) (@pe_op _ _ _ _ _ _ _ _ op_subI (pv 0) (@pe_powc _ _ 18 _ _ _ _ _ (by decide) (by decide))) (by rfl) (by walk_at "lo"))) pss_nil) (@pss_cons _ _ _ _ _ (@ps_set _ _ 4 _ _ _ _ nd rfl (Or.inl rfl) (@pe_lst _ _ _ _ pa_nil) (by rfl) (by walk_at "lo")) (@pss_cons _ _ _ _ _ (@ps_for _ _ _ _ _ _ _ _ PassesOwn.never rfl (@pi_range1 _ _ _ _ _ _ rfl B.range (@pa_cons _ _ _ _ _ (@pe_callB _ _ _ _ _ _ _ _ _ call_lenA rfl B.len PySem.boot_len (@pa_cons _ _ _ _ _ (pv 1) pa_nil (by rfl)) (by decide) (by decide) (by rfl) (by rfl)) pa_nil (by rfl)) (by rfl)) (@pg_name _ _ 5 _ nd rfl (Or.inl rfl) (by walk_at "lo")) (@pss_one _ _ _ (@ps_if _ _ _ _ _ _ _ _ (@pt_cmpR _ _ _ _ _ _ _ _ op_gtI (pv 3) pe_int (nomark _)) (@pss_cons _ _ _ _ _ (@ps_expr _ _ _ _ (@pe_bm _ _ _ _ _ _ _ _ _ _ _ _ PySem.F.plainAttrs_list PySem.F.slot_list_append PySem.F.type_list_append mt_append (pv 4) (@pa_cons _ _ _ _ _ (@pe_op _ _ _ _ _ _ _ _ op_modA (pv 3) (@pe_ix _ _ _ _ _ _ _ ix_A (pv 1) (pv 5) (fun _ _ => rfl))) pa_nil (by rfl)) (by rfl) (by rfl) (by rfl) (by rfl) (by rfl)) (by rfl)) (@pss_one _ _ _ (@ps_set _ _ 3 _ _ _ _ nd rfl (Or.inl rfl) (@pe_op _ _ _ _ _ _ _ _ op_divA (pv 3) (@pe_ix _ _ _ _ _ _ _ ix_A (pv 1) (pv 5) (fun _ _ => rfl))) (by rfl) (by walk_at "lo")))) (@pss_one _ _ _ (@ps_expr _ _ _ _ (@pe_bm _ _ _ _ _ _ _ _ _ _ _ _ PySem.F.plainAttrs_list PySem.F.slot_list_append PySem.F.type_list_append mt_append (pv 4) (@pa_cons _ _ _ _ _ (@pe_op _ _ _ _ _ _ _ _ op_modA (@pe_defS _ _ _ _ _ _ _ _ _ _ _ D__law_mixed (hr.mono (by decide)) rfl xpass_nox (@pa_cons _ _ _ _ _ (pv 0) (@pa_cons _ _ _ _ _ (pv 5) (@pa_cons _ _ _ _ _ (pv 2) pa_nil (by rfl)) (by rfl)) (by rfl)) (by decide) (by rfl) (by rfl)) (@pe_ix _ _ _ _ _ _ _ ix_A (pv 1) (pv 5) (fun _ _ => rfl))) pa_nil (by rfl)) (by rfl) (by rfl) (by rfl) (by rfl) (by rfl)) (by rfl))))) (by intro _; rfl)) (@pss_one _ _ _ (@ps_ret _ _ _ _ (pv 4))))))), ?_⟩
  try dsimp only [cxOf, Cx.inH, Cx.tried]
  refine rd_start [some (.int c), some (.ref a), some (.int p), none, none, none] rfl ?_
  walk_at "rd"
  refine rd_join (fun σ H' => H = H' ∧ ∃ x : Int, σ = [some (.int c), some (.ref a), some (.int p), some (.int x), none, none]) ?_ ?_
  · walk_at "rd"
    walk_at "ite"
    · walk_at "rd"
      exact ⟨rfl, _, rfl⟩
    · walk_at "rd"
      exact ⟨rfl, _, rfl⟩
  rintro σ _ ⟨rfl, x0, rfl⟩
  walk_at "rd"
  rename_i r H1 s1 hn1 e1
  refine for_range (n := ((ws.map V.int).length : Int).toNat) (fun i σ H2 => Same H H2 ∧ i ≤ ws.length ∧ ∃ (x : Int) (fs : List Int) (z : Option V), σ = [some (.int c), some (.ref a), some (.int p), some (.int x), some (.ref r), z] ∧
    H2 r = some (.lst (fs.map V.int)) ∧ fs.length = i ∧ ∀ (i : Nat) (v w : Int), fs[i]? = some v → ws[i]? = some w → 0 ≤ v ∧ v < w) ⟨s1, Nat.zero_le _, x0, [], _, rfl, e1, rfl, fun i v w h => by simp at h⟩ ?_ ?_
  · rintro i σ H2 hi ⟨s2, hi', x, fs, z, rfl, e2, hfl, hfs⟩
    have hi2 : i < ws.length := by omega
    obtain ⟨y, hy⟩ : ∃ y, ws[i]? = some y := ⟨_, List.getElem?_eq_getElem hi2⟩
    have hyp := hw y (List.mem_of_getElem? hy)
    have hS2 : SqL K H2 a (ws.map V.int) := s2.seq hS
    have grow : ∀ v : Int, 0 ≤ v → v < y → (fs ++ [v]).length = i + 1 ∧ ∀ (i : Nat) (v' w : Int), (fs ++ [v])[i]? = some v' → ws[i]? = some w → 0 ≤ v' ∧ v' < w := fun v h0 h1 => by
      refine ⟨by rw [List.length_append, hfl]; rfl, fun j v' w hv hw' => ?_⟩
      rcases Nat.lt_trichotomy j i with hj | hj | hj
      · rw [List.getElem?_append_left (by omega)] at hv
        exact hfs j v' w hv hw'
      · subst hj
        rw [List.getElem?_append_right (by omega), hfl, Nat.sub_self] at hv
        rw [hy] at hw'
        cases hv
        cases hw'
        exact ⟨h0, h1⟩
      · rw [List.getElem?_eq_none (by rw [List.length_append, hfl]; simp; omega)] at hv
        cases hv
    have em : ∀ v : Int, (fs.map V.int) ++ [.int v] = (fs ++ [v]).map V.int := fun v => by rw [List.map_append]; rfl
    have ei : (0 : Int) + (i : Int) = (i : Int) := by omega
    have hz : (fs.map V.int).length < sizeLine := by rw [List.length_map, hfl]; exact small1000 (by omega)
    rw [ei]
    walk_at "rd"
    walk_at "ite"
    · walk_at "rd"
      refine rd_ixM hS2 (by omega) (by omega) fun v _ hv => ?_
      rw [Int.toNat_natCast, hy] at hv
      cases hv
      walk_at "rd"
      refine rd_append e2 hz ?_
      walk_at "rd"
      refine rd_ixM ((s2.upd hn1).seq hS) (by omega) (by omega) fun v _ hv => ?_
      rw [Int.toNat_natCast, hy] at hv
      cases hv
      walk_at "rd"
      exact ⟨s2.upd hn1, hi2, _, _, _, rfl, by rw [em]; exact upd_same, grow _ (Int.emod_nonneg _ (by omega)) (Int.emod_lt_of_pos _ (by omega))⟩
    · walk_at "rd"
      refine rd_ixM hS2 (by omega) (by omega) fun v _ hv => ?_
      rw [Int.toNat_natCast, hy] at hv
      cases hv
      walk_at "rd"
      refine rd_append e2 hz ?_
      walk_at "rd"
      exact ⟨s2.upd hn1, hi2, _, _, _, rfl, by rw [em]; exact upd_same, grow _ (Int.emod_nonneg _ (by omega)) (Int.emod_lt_of_pos _ (by omega))⟩
  · rintro σ H2 ⟨s2, hi', x, fs, z, rfl, e2, hfl, hfs⟩
    walk_at "rd"
    exact q r H2 fs s2 hn1 e2 ⟨by omega, hfs⟩
def spFar : Sp := fun vs H Q _ => ∃ c p : Int, vs = [.int c, .int p] ∧ 0 < p ∧ ∀ (H' : Hp) (v : Int), Same H H' → -(10 ^ 60) < v → v < 10 ^ 60 → Q (.int v) H'
theorem use_far {c p : Int} {H : Hp} {Q : VK} {E : XK} (hp : 0 < p) (h : ∀ (H' : Hp) (v : Int), Same H H' → -(10 ^ 60) < v → v < 10 ^ 60 → Q (.int v) H') : spFar [.int c, .int p] H Q E := ⟨c, p, rfl, hp, h⟩
local macro_rules | `(tactic| walk_at "rdcall") => `(tactic| ((with_reducible refine use_far ?a ?_); (case a => omega); intro _ _ _ _ _))
theorem ok__law_far (F : Src K mg "_law_far" s__law_far ["_law_cell_here", "_law_prime"]) (B : Blt mg) (C : Cls K mg base) (R : Rel K mg base C) (Kc : Cst K mg) (D__law_draws : Def P w K mg base (CXE P w) 2 "_law_draws" ["_law_cell_here", "_law_widths", "_law_prime"] (spDraws K)) : Def P w K mg base (CXE P w) 3 "_law_far" ["_law_cell_here", "_law_prime"] spFar := by
  refine F.ok (CX := CXE P w) (k := 2) sc__law_far (fun vs H Q E h => ?_) (fun f cdv A outer s H vs Q E hr h => ?_)
  · obtain ⟨_, _, rfl, _⟩ := h
    rfl
  have nd := sc__law_far.nd
  obtain ⟨c, p, rfl, hp, q⟩ := h
  refine ⟨_, (@pss_cons _ _ _ _ _ (@ps_set _ _ 2 _ _ _ _ nd rfl (Or.inl rfl) (@pe_defS _ _ _ _ _ _ _ _ _ _ _ D__law_draws (hr.mono (by decide)) rfl xpass_nox (@pa_cons _ _ _ _ _ (pv 0) (@pa_cons _ _ _ _ _ (@pe_op _ _ _ _ _ _ _ _ op_addA (@pe_op _ _ _ _ _ _ _ _ op_addA (@pe_lst _ _ _ _ (@pa_cons _ _ _ _ _ pe_int pa_nil (by rfl))) (@pe_op _ _ _ _ _ _ _ _ op_mulA (@pe_lst _ _ _ _ (@pa_cons _ _ _ _ _ (@pe_powc _ _ 8 _ _ _ _ _ (by decide) (by decide)) pa_nil (by rfl))) pe_int)) (@pe_lst _ _ _ _ (@pa_cons _ _ _ _ _ pe_int pa_nil (by rfl)))) (@pa_cons _ _ _ _ _ (pv 1) pa_nil (by rfl)) (by rfl)) (by rfl)) (by decide) (by rfl) (by rfl)) (by rfl) (by walk_at "lo")) (@pss_cons _ _ _ _ _ (@ps_set _ _ 3 _ _ _ _ nd rfl (Or.inl rfl) pe_int (by rfl) (by walk_at "lo")) (@pss_cons _ _ _ _ _ (@ps_for _ _ _ _ _ _ _ _ PassesOwn.never rfl (@pi_list _ _ _ _ (@pe_slice _ _ _ _ _ _ _ _ _ _ sl_A (pv 2) (@po_some _ _ _ pe_int) (@po_some _ _ _ pe_int))) (@pg_name _ _ 4 _ nd rfl (Or.inl rfl) (by walk_at "lo")) (@pss_one _ _ _ (@ps_set _ _ 3 _ _ _ _ nd rfl (Or.inl rfl) (@pe_op _ _ _ _ _ _ _ _ op_addA (@pe_op _ _ _ _ _ _ _ _ op_mulA (pv 3) (@pe_powc _ _ 8 _ _ _ _ _ (by decide) (by decide))) (pv 4)) (by rfl) (by walk_at "lo"))) (by intro _; rfl)) (@pss_cons _ _ _ _ _ (@ps_set _ _ 3 _ _ _ _ nd rfl (Or.inl rfl) (@pe_op _ _ _ _ _ _ _ _ op_modA (pv 3) (@pe_ix _ _ _ _ _ _ _ ix_A (@pe_lst _ _ _ _ (@pa_cons _ _ _ _ _ pe_int (@pa_cons _ _ _ _ _ pe_int (@pa_cons _ _ _ _ _ (@pe_powc _ _ 9 _ _ _ _ _ (by decide) (by decide)) (@pa_cons _ _ _ _ _ (@pe_powc _ _ 20 _ _ _ _ _ (by decide) (by decide)) (@pa_cons _ _ _ _ _ (@pe_powc _ _ 60 _ _ _ _ _ (by decide) (by decide)) pa_nil (by rfl)) (by rfl)) (by rfl)) (by rfl)) (by rfl))) (@pe_ix _ _ _ _ _ _ _ ix_A (pv 2) pe_int (fun _ _ => rfl)) (fun _ _ => rfl))) (by rfl) (by walk_at "lo")) (@pss_one _ _ _ (@ps_ret _ _ _ _ (@pe_op _ _ _ _ _ _ _ _ op_mulA (pv 3) (@pe_op _ _ _ _ _ _ _ _ op_subI pe_int (@pe_op _ _ _ _ _ _ _ _ op_mulA pe_int (@pe_ix _ _ _ _ _ _ _ ix_A (pv 2) pe_int (fun _ _ => rfl))))))))))), ?_⟩
  try dsimp only [cxOf, Cx.inH, Cx.tried]
  refine rd_start [some (.int c), some (.int p), none, none, none] rfl ?_
  walk_at "rd"
  refine use_draws [5, 10 ^ 8, 10 ^ 8, 10 ^ 8, 10 ^ 8, 10 ^ 8, 10 ^ 8, 10 ^ 8, 10 ^ 8, 2] (by walk_at "hp") (by decide) (by decide) hp ?_
  intro r H6 fs s6 n6 e6 hD
  walk_at "rd"
  rename_i p7 H7 s7 n7 e7
  obtain ⟨ms, hms, _⟩ := cut_map fs (some 1) (some 9)
  rw [hms] at e7
  have hf : fs.length = 10 := hD.1
  refine for_ints (ns := ms) (fun i σ H' => H7 = H' ∧ ∃ (x : Int) (z : Option V), σ = [some (.int c), some (.int p), some (.ref r), some (.int x), z]) ⟨rfl, 0, _, rfl⟩ (fun i σ H' _ h => ?_) ?_ ?_
  · obtain ⟨rfl, _⟩ := h
    walk_at "hp"
  · rintro i n σ H' _ ⟨rfl, x, z, rfl⟩
    walk_at "rd"
    exact ⟨rfl, _, _, rfl⟩
  rintro σ H' ⟨rfl, x, z, rfl⟩
  walk_at "rd"
  refine rd_ixM (ns := fs) (by walk_at "hp") (by omega) (by omega) fun v0 _ hv0 => ?_
  have b0 := hD.2 0 v0 5 hv0 rfl
  walk_at "rd"
  refine rd_ixM (ns := [13, 201, 10 ^ 9, 10 ^ 20, 10 ^ 60]) (by walk_at "hp") (by omega) (by show v0 < 5; omega) fun m hm _ => ?_
  have hm1 : 0 < m ∧ m ≤ 10 ^ 60 := by
    simp at hm
    omega
  have b1 := Int.emod_nonneg x (show m ≠ 0 by omega)
  have b2 := Int.emod_lt_of_pos x hm1.1
  walk_at "rd"
  refine rd_ixM (ns := fs) (by walk_at "hp") (by omega) (by omega) fun v9 _ hv9 => ?_
  have b9 := hD.2 9 v9 2 hv9 rfl
  walk_at "rd"
  have e9 : v9 = 0 ∨ v9 = 1 := by omega
  refine q _ _ (by walk_at "sm") ?_ ?_
  · rcases e9 with rfl | rfl <;> omega
  · rcases e9 with rfl | rfl <;> omega
theorem ok__law_shared (F : Src K mg "_law_shared" s__law_shared ["_law_a", "_law_b"]) (B : Blt mg) (C : Cls K mg base) (R : Rel K mg base C) (Kc : Cst K mg)  : Def P w K mg base (CXE P w) 1 "_law_shared" ["_law_a", "_law_b"] spGcd := by
  refine F.ok (CX := CXE P w) (k := 0) sc__law_shared (fun vs H Q E h => ?_) (fun f cdv A outer s H vs Q E hr h => ?_)
  · obtain ⟨_, _, rfl, _⟩ := h
    rfl
  have nd := sc__law_shared.nd
  obtain ⟨a, b, rfl, q⟩ := h
  refine ⟨_, (@pss_cons _ _ _ _ _ (@ps_while _ _ _ _ _ _ PassesOwn.never (@pt_cmpR _ _ _ _ _ _ _ _ (op_neA hr.units0) (pv 1) pe_int (nomark _)) (@pss_one _ _ _ (@ps_par _ _ 0 1 _ _ _ _ _ _ _ _ _ _ _ rfl nd rfl rfl (by decide) rfl rfl (@pa_cons _ _ _ _ _ (pv 1) (@pa_cons _ _ _ _ _ (@pe_op _ _ _ _ _ _ _ _ op_modA (pv 0) (pv 1)) pa_nil (by rfl)) (by rfl)) rfl (by rfl)))) (@pss_one _ _ _ (@ps_ret _ _ _ _ (@pe_callB _ _ _ _ _ _ _ _ _ call_absI rfl B.abs PyProof.Rows.boot_abs (@pa_cons _ _ _ _ _ (pv 0) pa_nil (by rfl)) (by decide) (by decide) (by rfl) (by rfl))))), ?_⟩
  try dsimp only [cxOf, Cx.inH, Cx.tried]
  refine rd_start [some (.int a), some (.int b)] rfl ?_
  walk_at "rd"
  refine rd_while (fun m σ H' => H' = H ∧ ∃ x y : Int, m = y.natAbs ∧ σ = [some (.int x), some (.int y)] ∧ Int.gcd x y = Int.gcd a b) _ ⟨rfl, a, b, rfl, rfl, rfl⟩ ?_
  rintro m σ H' ⟨rfl, x, y, rfl, rfl, hg⟩
  walk_at "rd"
  walk_at "ite"
  · rename_i c
    walk_at "rd"
    exact ⟨_, Mth.natAbs_fmod_lt x y c, rfl, _, _, rfl, rfl, (Mth.gcd_fmod x y).trans hg⟩
  · rename_i c
    subst c
    walk_at "rd"
    rename_i j e
    rw [e, ← Int.gcd_zero_right x, hg]
    exact q
def spLw : Sp := fun vs H Q _ => ∃ t b : Int, vs = [.int t, .int b] ∧ b.natAbs < 10 ^ 600 ∧ b ≠ 0 ∧ ∀ r H', Same H H' → H r = none → H' r = some (.tup [.int (Mth.lowT t b), .int (Mth.lowB t b)]) → Q (.ref r) H'
theorem use_lw {t b : Int} {H : Hp} {Q : VK} {E : XK} (hB : b.natAbs < 10 ^ 600) (hb : b ≠ 0) (h2 : ∀ r H', Same H H' → H r = none → H' r = some (.tup [.int (Mth.lowT t b), .int (Mth.lowB t b)]) → Q (.ref r) H') : spLw [.int t, .int b] H Q E := ⟨t, b, rfl, hB, hb, h2⟩
theorem ok__law_lowest (F : Src K mg "_law_lowest" s__law_lowest ["_law_top", "_law_bottom"]) (B : Blt mg) (C : Cls K mg base) (R : Rel K mg base C) (Kc : Cst K mg) (D__law_shared : Def P w K mg base (CXE P w) 1 "_law_shared" ["_law_a", "_law_b"] spGcd) : Def P w K mg base (CXE P w) 2 "_law_lowest" ["_law_top", "_law_bottom"] spLw := by
  refine F.ok (CX := CXE P w) (k := 1) sc__law_lowest (fun vs H Q E h => ?_) (fun f cdv A outer s H vs Q E hr h => ?_)
  · obtain ⟨_, _, rfl, _⟩ := h
    rfl
  have nd := sc__law_lowest.nd
  obtain ⟨t, b, rfl, hB, hb, q⟩ := h
  have l1 := Mth.lowBy_ne (t := t) hb
  have l2 := Mth.lowBy_le (t := t) hb
  refine ⟨_, (@pss_cons _ _ _ _ _ (@ps_set _ _ 2 _ _ _ _ nd rfl (Or.inl rfl) (@pe_defS _ _ _ _ _ _ _ _ _ _ _ D__law_shared (hr.mono (by decide)) rfl xpass_nox (@pa_cons _ _ _ _ _ (pv 0) (@pa_cons _ _ _ _ _ (pv 1) pa_nil (by rfl)) (by rfl)) (by decide) (by rfl) (by rfl)) (by rfl) (by walk_at "lo")) (@pss_consE _ _ _ _ _ (@ps_if _ _ _ _ _ _ _ _ (@pt_cmpR _ _ _ _ _ _ _ _ op_ltI (pv 1) pe_int (nomark _)) (@pss_one _ _ _ (@ps_set _ _ 2 _ _ _ _ nd rfl (Or.inl rfl) (@pe_op _ _ _ _ _ _ _ _ op_subI pe_int (pv 2)) (by rfl) (by walk_at "lo"))) pss_nil) (@pss_one _ _ _ (@ps_ret _ _ _ _ (@pe_tup _ _ _ _ _ (@pa_cons _ _ _ _ _ (@pe_op _ _ _ _ _ _ _ _ op_divA (pv 0) (pv 2)) (@pa_cons _ _ _ _ _ (@pe_op _ _ _ _ _ _ _ _ op_divA (pv 1) (pv 2)) pa_nil (by rfl)) (by rfl))))))), ?_⟩
  try dsimp only [cxOf, Cx.inH, Cx.tried]
  refine rd_start [some (.int t), some (.int b), none] rfl ?_
  walk_at "rd"
  refine rd_join (fun σ H' => H = H' ∧ σ = [some (.int t), some (.int b), some (.int (Mth.lowBy t b))]) ?_ ?_
  · walk_at "rd"
    walk_at "ite"
    · rename_i c
      walk_at "rd"
      exact ⟨rfl, by rw [show Mth.lowBy t b = -(Int.gcd t b : Int) from if_neg (by omega), Int.zero_sub]⟩
    · rename_i c
      walk_at "rd"
      exact ⟨rfl, by rw [Mth.lowBy_pos (by omega)]⟩
  rintro σ _ ⟨rfl, rfl⟩
  walk_at "rd"
  rename_i r H1 s1 n1 e1
  exact q r H1 s1 n1 e1
def spWhole : Sp := fun vs H Q _ => ∃ c : Int, vs = [.int c] ∧ Q (.bl true) H
theorem use_whole {c : Int} {H : Hp} {Q : VK} {E : XK} (h : Q (.bl true) H) : spWhole [.int c] H Q E := ⟨c, rfl, h⟩
local macro_rules | `(tactic| walk_at "rdcall") => `(tactic| (with_reducible refine use_whole ?_))
theorem ok__law_whole (F : Src K mg "_law_whole" s__law_whole ["_law_found"]) (B : Blt mg) (C : Cls K mg base) (R : Rel K mg base C) (Kc : Cst K mg)  : Def P w K mg base (CXE P w) 1 "_law_whole" ["_law_found"] spWhole := by
  refine F.ok (CX := CXE P w) (k := 0) sc__law_whole (fun vs H Q E h => ?_) (fun f cdv A outer s H vs Q E hr h => ?_)
  · obtain ⟨_, rfl, _⟩ := h
    rfl
  have nd := sc__law_whole.nd
  obtain ⟨c, rfl, q⟩ := h
  refine ⟨_, (@pss_one _ _ _ (@ps_ret _ _ _ _ (@pe_and _ _ _ _ _ _ _ (@pe_callB _ _ _ _ _ _ _ _ _ call_isi rfl B.isinstance PyProof.Rows.boot_isinstance (@pa_cons _ _ _ _ _ (pv 0) (@pa_cons _ _ _ _ _ (@pe_bltn _ _ (.ty "int") _ _ rfl B.int PyProof.Rows.boot_int rfl (by decide) (by decide)) pa_nil (by rfl)) (by rfl)) (by decide) (by decide) (by rfl) (by rfl)) (@pe_one _ _ _ _ _ (@pe_not _ _ _ _ (@pe_callB _ _ _ _ _ _ _ _ _ call_isi rfl B.isinstance PyProof.Rows.boot_isinstance (@pa_cons _ _ _ _ _ (pv 0) (@pa_cons _ _ _ _ _ (@pe_bltn _ _ (.ty "bool") _ _ rfl B.bool PyProof.Rows.boot_bool rfl (by decide) (by decide)) pa_nil (by rfl)) (by rfl)) (by decide) (by decide) (by rfl) (by rfl))))))), ?_⟩
  try dsimp only [cxOf, Cx.inH, Cx.tried]
  refine rd_start [some (.int c)] rfl ?_
  walk_at "rd"
  exact q
def spRow : Sp := fun vs H Q _ => ∃ (a : Addr) (ns : List Int) (m : Int), vs = [.ref a, .int m] ∧ H a = some (.tup (ns.map V.int)) ∧ (ns.length : Int) = m ∧ ns.length ≤ 1000 ∧ ∀ H', Same H H' → Q (.bl true) H'
theorem use_row {a : Addr} {m : Int} (ns : List Int) {H : Hp} {Q : VK} {E : XK} (h1 : H a = some (.tup (ns.map V.int))) (h2 : (ns.length : Int) = m) (h3 : ns.length ≤ 1000) (h : ∀ H', Same H H' → Q (.bl true) H') : spRow [.ref a, .int m] H Q E := ⟨a, ns, m, rfl, h1, h2, h3, h⟩
theorem ok__law_row (F : Src K mg "_law_row" s__law_row ["_law_found", "_law_many"]) (B : Blt mg) (C : Cls K mg base) (R : Rel K mg base C) (Kc : Cst K mg) (D__law_whole : Def P w K mg base (CXE P w) 1 "_law_whole" ["_law_found"] spWhole) : Def P w K mg base (CXE P w) 2 "_law_row" ["_law_found", "_law_many"] spRow := by
  refine F.ok (CX := CXE P w) (k := 1) sc__law_row (fun vs H Q E h => ?_) (fun f cdv A outer s H vs Q E hr h => ?_)
  · obtain ⟨_, _, _, rfl, _⟩ := h
    rfl
  have nd := sc__law_row.nd
  obtain ⟨a, ns, m, rfl, ha, hl, hz, q⟩ := h
  have hm : (ns.map V.int).length = ns.length := List.length_map _
  refine ⟨_, (@pss_cons _ _ _ _ _ (@ps_if _ _ _ _ _ _ _ _ (@PW.pt _ _ _ (@pw_or _ _ _ _ _ _ _ (@pt_not _ _ _ _ (@pt_val _ _ _ (@pe_callB _ _ _ _ _ _ _ _ _ call_isi rfl B.isinstance PyProof.Rows.boot_isinstance (@pa_cons _ _ _ _ _ (pv 0) (@pa_cons _ _ _ _ _ (@pe_bltn _ _ (.ty "tuple") _ _ rfl B.tuple PyProof.Rows.boot_tuple rfl (by decide) (by decide)) pa_nil (by rfl)) (by rfl)) (by decide) (by decide) (by rfl) (by rfl)) (by intro _; rfl))) (@pw_or1 _ _ _ _ (@pt_cmpR _ _ _ _ _ _ _ _ (op_neA hr.units0) (@pe_callB _ _ _ _ _ _ _ _ _ call_lenA rfl B.len PySem.boot_len (@pa_cons _ _ _ _ _ (pv 0) pa_nil (by rfl)) (by decide) (by decide) (by rfl) (by rfl)) (pv 1) (nomark _))))) (@pss_one _ _ _ (@ps_ret _ _ _ _ pe_bl)) pss_nil) (@pss_one _ _ _ (@ps_ret _ _ _ _ (@pe_callB _ _ _ _ _ _ _ _ _ (call_allB rfl) rfl B.all PyProof.Rows.boot_all (@pa_cons _ _ _ _ _ (@pe_comp _ _ _ _ _ _ _ _ _ rfl (@PI.or _ _ _ _ _ (@pi_list _ _ _ _ (pv 0)) (@pi_tup _ _ _ _ (pv 0))) (fun pins ex s H => (@pe_defS _ _ _ _ _ _ _ _ _ _ _ D__law_whole (hr.mono (by decide)) rfl xpass_wn (@pa_cons _ _ _ _ _ (pv 0) pa_nil (by rfl)) (by decide) (by rfl) (by rfl))) (by decide +kernel) (by decide +kernel) rfl (by decide +kernel) rfl (by intro _; rfl)) pa_nil (by rfl)) (by decide) (by decide) (by rfl) (by rfl))))), ?_⟩
  try dsimp only [cxOf, Cx.inH, Cx.tried]
  refine rd_start [some (.ref a), some (.int m)] rfl ?_
  walk_at "rd"
  walk_at "ite"
  · exfalso; omega
  · walk_at "rd"
    refine rd_compT ?_
    walk_at "rd"
    refine rd_kCompT (fun _ => .bl true) (SqT.of ha) (by omega) ?_ ?_
    · intro x H' Q' hx hq
      obtain ⟨c, _, rfl⟩ := List.mem_map.mp hx
      walk_at "rd"
      exact hq
    · intro D H' s1 nD eD
      walk_at "rd"
      refine rd_allT (xs := ns.map V.int) eD ?_
      exact q _ s1
def spSpare : Sp := fun vs H Q _ => ∃ c w : Int, vs = [.int c, .int w] ∧ 0 < w ∧ w < 10 ^ 60 ∧ ∀ v : Int, Q (.int v) H
theorem use_spare {c w : Int} {H : Hp} {Q : VK} {E : XK} (h1 : 0 < w) (h2 : w < 10 ^ 60) (h : ∀ v : Int, Q (.int v) H) : spSpare [.int c, .int w] H Q E := ⟨c, w, rfl, h1, h2, h⟩
local macro_rules | `(tactic| walk_at "rdcall") => `(tactic| ((with_reducible refine use_spare ?a ?b ?_); (case a => omega); (case b => omega); intro _))
theorem ok__law_spare (F : Src K mg "_law_spare" s__law_spare ["_law_cell_here", "_law_width"]) (B : Blt mg) (C : Cls K mg base) (R : Rel K mg base C) (Kc : Cst K mg)  : Def P w K mg base (CXE P w) 1 "_law_spare" ["_law_cell_here", "_law_width"] spSpare := by
  refine F.ok (CX := CXE P w) (k := 0) sc__law_spare (fun vs H Q E h => ?_) (fun f cdv A outer s H vs Q E hr h => ?_)
  · obtain ⟨_, _, rfl, _⟩ := h
    rfl
  have nd := sc__law_spare.nd
  obtain ⟨c, w', rfl, h1, h2, q⟩ := h
  refine ⟨_, (@pss_cons _ _ _ _ _ (@ps_if _ _ _ _ _ _ _ _ (@pt_cmpR _ _ _ _ _ _ _ _ op_geI (pv 0) (@pe_powc _ _ 18 _ _ _ _ _ (by decide) (by decide)) (nomark _)) (@pss_one _ _ _ (@ps_ret _ _ _ _ (@pe_op _ _ _ _ _ _ _ _ op_addA (@pe_op _ _ _ _ _ _ _ _ op_divA (@pe_op _ _ _ _ _ _ _ _ op_subI (pv 0) (@pe_powc _ _ 18 _ _ _ _ _ (by decide) (by decide))) (pv 1)) (@pe_powc _ _ 18 _ _ _ _ _ (by decide) (by decide))))) pss_nil) (@pss_one _ _ _ (@ps_ret _ _ _ _ (@pe_op _ _ _ _ _ _ _ _ op_addA (pv 0) pe_int)))), ?_⟩
  try dsimp only [cxOf, Cx.inH, Cx.tried]
  refine rd_start [some (.int c), some (.int w')] rfl ?_
  walk_at "rd"
  walk_at "ite"
  · walk_at "rd"
    exact q _
  · walk_at "rd"
    exact q _
def spTN : Sp := fun vs H Q _ => ∃ c p : Int, vs = [.int c, .int p] ∧ 0 < p ∧ ∀ (v : Int) H', Same H H' → v.natAbs < 10 ^ 60 → Q (.int v) H'
theorem use_tn {c p : Int} {H : Hp} {Q : VK} {E : XK} (hp : 0 < p) (h : ∀ (v : Int) H', Same H H' → v.natAbs < 10 ^ 60 → Q (.int v) H') : spTN [.int c, .int p] H Q E := ⟨c, p, rfl, hp, h⟩
theorem ok__law_text_number (F : Src K mg "_law_text_number" s__law_text_number ["_law_cell_here", "_law_prime"]) (B : Blt mg) (C : Cls K mg base) (R : Rel K mg base C) (Kc : Cst K mg) (D__law_draws : Def P w K mg base (CXE P w) 2 "_law_draws" ["_law_cell_here", "_law_widths", "_law_prime"] (spDraws K)) (D__law_far : Def P w K mg base (CXE P w) 3 "_law_far" ["_law_cell_here", "_law_prime"] spFar) (D__law_spare : Def P w K mg base (CXE P w) 1 "_law_spare" ["_law_cell_here", "_law_width"] spSpare) : Def P w K mg base (CXE P w) 4 "_law_text_number" ["_law_cell_here", "_law_prime"] spTN := by
  refine F.ok (CX := CXE P w) (k := 3) sc__law_text_number (fun vs H Q E h => ?_) (fun f cdv A outer s H vs Q E hr h => ?_)
  · obtain ⟨_, _, rfl, _⟩ := h
    rfl
  have nd := sc__law_text_number.nd
  obtain ⟨c, p, rfl, hp, q⟩ := h
  refine ⟨_, (@pss_cons _ _ _ _ _ (@ps_set _ _ 2 _ _ _ _ nd rfl (Or.inl rfl) (@pe_defS _ _ _ _ _ _ _ _ _ _ _ D__law_draws (hr.mono (by decide)) rfl xpass_nox (@pa_cons _ _ _ _ _ (pv 0) (@pa_cons _ _ _ _ _ (@pe_lst _ _ _ _ (@pa_cons _ _ _ _ _ pe_int (@pa_cons _ _ _ _ _ pe_int (@pa_cons _ _ _ _ _ pe_int (@pa_cons _ _ _ _ _ pe_int pa_nil (by rfl)) (by rfl)) (by rfl)) (by rfl))) (@pa_cons _ _ _ _ _ (pv 1) pa_nil (by rfl)) (by rfl)) (by rfl)) (by decide) (by rfl) (by rfl)) (by rfl) (by walk_at "lo")) (@pss_cons _ _ _ _ _ (@ps_if _ _ _ _ _ _ _ _ (@pt_cmpR _ _ _ _ _ _ _ _ op_ltI (@pe_ix _ _ _ _ _ _ _ ix_A (pv 2) pe_int (fun _ _ => rfl)) pe_int (nomark _)) (@pss_one _ _ _ (@ps_ret _ _ _ _ (@pe_op _ _ _ _ _ _ _ _ op_subI (@pe_ix _ _ _ _ _ _ _ ix_A (pv 2) pe_int (fun _ _ => rfl)) pe_int))) pss_nil) (@pss_cons _ _ _ _ _ (@ps_if _ _ _ _ _ _ _ _ (@pt_cmpR _ _ _ _ _ _ _ _ (op_eqA hr.units0) (@pe_ix _ _ _ _ _ _ _ ix_A (pv 2) pe_int (fun _ _ => rfl)) pe_int (nomark _)) (@pss_one _ _ _ (@ps_ret _ _ _ _ (@pe_defS _ _ _ _ _ _ _ _ _ _ _ D__law_far (hr.mono (by decide)) rfl xpass_nox (@pa_cons _ _ _ _ _ (@pe_defS _ _ _ _ _ _ _ _ _ _ _ D__law_spare (hr.mono (by decide)) rfl xpass_nox (@pa_cons _ _ _ _ _ (pv 0) (@pa_cons _ _ _ _ _ pe_int pa_nil (by rfl)) (by rfl)) (by decide) (by rfl) (by rfl)) (@pa_cons _ _ _ _ _ (pv 1) pa_nil (by rfl)) (by rfl)) (by decide) (by rfl) (by rfl)))) pss_nil) (@pss_cons _ _ _ _ _ (@ps_set _ _ 3 _ _ _ _ nd rfl (Or.inl rfl) pe_int (by rfl) (by walk_at "lo")) (@pss_cons _ _ _ _ _ (@ps_for _ _ _ _ _ _ _ _ PassesOwn.never rfl (@pi_range1 _ _ _ _ _ _ rfl B.range (@pa_cons _ _ _ _ _ (@pe_ix _ _ _ _ _ _ _ ix_A (pv 2) pe_int (fun _ _ => rfl)) pa_nil (by rfl)) (by rfl)) (@pg_name _ _ 4 _ nd rfl (Or.inl rfl) (by walk_at "lo")) (@pss_one _ _ _ (@ps_set _ _ 3 _ _ _ _ nd rfl (Or.inl rfl) (@pe_op _ _ _ _ _ _ _ _ op_mulA (pv 3) pe_int) (by rfl) (by walk_at "lo"))) (by intro _; rfl)) (@pss_one _ _ _ (@ps_ret _ _ _ _ (@pe_op _ _ _ _ _ _ _ _ op_mulA (@pe_op _ _ _ _ _ _ _ _ op_subI (@pe_op _ _ _ _ _ _ _ _ op_addA (pv 3) (@pe_ix _ _ _ _ _ _ _ ix_A (pv 2) pe_int (fun _ _ => rfl))) pe_int) (@pe_op _ _ _ _ _ _ _ _ op_subI pe_int (@pe_op _ _ _ _ _ _ _ _ op_mulA pe_int (@pe_ix _ _ _ _ _ _ _ ix_A (pv 2) pe_int (fun _ _ => rfl)))))))))))), ?_⟩
  try dsimp only [cxOf, Cx.inH, Cx.tried]
  refine rd_start [some (.int c), some (.int p), none, none, none] rfl ?_
  walk_at "rd"
  refine use_draws [5, 41, 60, 3] (by walk_at "hp") (by decide) (by decide) hp ?_
  intro r1 H1 fs s1' n1 e1 hD
  have s1 : Same H H1 := by walk_at "sm"
  clear s1' n1
  obtain ⟨f0, f1, f2, f3, rfl⟩ : ∃ f0 f1 f2 f3, fs = [f0, f1, f2, f3] := by
    have hf : fs.length = 4 := hD.1
    match fs, hf with
    | [f0, f1, f2, f3], _ => exact ⟨f0, f1, f2, f3, rfl⟩
  have b0 := hD.2 0 f0 5 rfl rfl
  have b1 := hD.2 1 f1 41 rfl rfl
  have b2 := hD.2 2 f2 60 rfl rfl
  have b3 := hD.2 3 f3 3 rfl rfl
  walk_at "rd"
  walk_at "ite"
  · walk_at "rd"
    exact q _ _ s1 (by omega)
  walk_at "rd"
  walk_at "ite"
  · walk_at "rd"
    exact q _ _ (by walk_at "sm") (by omega)
  rename_i c0 c1
  walk_at "rd"
  refine for_range (n := f2.toNat) (fun i σ H' => H' = H1 ∧ i ≤ f2.toNat ∧ ∃ z : Option V, σ = [some (.int c), some (.int p), some (.ref r1), some (.int (10 ^ i)), z]) ⟨rfl, Nat.zero_le _, _, rfl⟩ ?_ ?_
  · rintro i σ H2 hi ⟨rfl, _, z, rfl⟩
    walk_at "rd"
    exact ⟨rfl, hi, _, by rw [Int.pow_succ]⟩
  · rintro σ H2 ⟨rfl, _, z, rfl⟩
    have lo : (1 : Int) ≤ 10 ^ f2.toNat := Mth.pow_pos1 (by decide) _
    have hi : (10 : Int) ^ f2.toNat ≤ 10 ^ 59 := by
      have := Nat.pow_le_pow_right (n := 10) (by decide) (show f2.toNat ≤ 59 by omega)
      exact_mod_cast this
    walk_at "rd"
    refine q _ _ s1 ?_
    rcases (show f0 = 3 ∨ f0 = 4 by omega) with z | z <;> (rw [z]; omega)
def spAT : Sp := fun vs H Q _ => ∃ c p : Int, vs = [.int c, .int p] ∧ 0 < p ∧ ∀ t H' a b c d, Same H H' → Tab H' t a b c d → a * d - b * c = 1 → (∀ n ∈ [a, b, c, d], n.natAbs < 10 ^ 60) → Q (.ref t) H'
theorem use_at {c p : Int} {H : Hp} {Q : VK} {E : XK} (hp : 0 < p) (h : ∀ t H' a b c d, Same H H' → Tab H' t a b c d → a * d - b * c = 1 → (∀ n ∈ [a, b, c, d], n.natAbs < 10 ^ 60) → Q (.ref t) H') : spAT [.int c, .int p] H Q E := ⟨c, p, rfl, hp, h⟩
theorem ok__law_any_table (F : Src K mg "_law_any_table" s__law_any_table ["_law_cell_here", "_law_prime"]) (B : Blt mg) (C : Cls K mg base) (R : Rel K mg base C) (Kc : Cst K mg) (D__law_draws : Def P w K mg base (CXE P w) 2 "_law_draws" ["_law_cell_here", "_law_widths", "_law_prime"] (spDraws K)) : Def P w K mg base (CXE P w) 3 "_law_any_table" ["_law_cell_here", "_law_prime"] spAT := by
  refine F.ok (CX := CXE P w) (k := 2) sc__law_any_table (fun vs H Q E h => ?_) (fun f cdv A outer s H vs Q E hr h => ?_)
  · obtain ⟨_, _, rfl, _⟩ := h
    rfl
  have nd := sc__law_any_table.nd
  obtain ⟨c, p, rfl, hp, q⟩ := h
  refine ⟨_, (@pss_cons _ _ _ _ _ (@ps_set _ _ 2 _ _ _ _ nd rfl (Or.inl rfl) (@pe_defS _ _ _ _ _ _ _ _ _ _ _ D__law_draws (hr.mono (by decide)) rfl xpass_nox (@pa_cons _ _ _ _ _ (pv 0) (@pa_cons _ _ _ _ _ (@pe_op _ _ _ _ _ _ _ _ op_addA (@pe_lst _ _ _ _ (@pa_cons _ _ _ _ _ pe_int (@pa_cons _ _ _ _ _ pe_int pa_nil (by rfl)) (by rfl))) (@pe_op _ _ _ _ _ _ _ _ op_mulA (@pe_lst _ _ _ _ (@pa_cons _ _ _ _ _ pe_int (@pa_cons _ _ _ _ _ (@pe_powc _ _ 8 _ _ _ _ _ (by decide) (by decide)) pa_nil (by rfl)) (by rfl))) pe_int)) (@pa_cons _ _ _ _ _ (pv 1) pa_nil (by rfl)) (by rfl)) (by rfl)) (by decide) (by rfl) (by rfl)) (by rfl) (by walk_at "lo")) (@pss_cons _ _ _ _ _ (@ps_asg _ _ _ _ _ _ (@pe_tup _ _ _ _ _ (@pa_cons _ _ _ _ _ pe_int (@pa_cons _ _ _ _ _ pe_int (@pa_cons _ _ _ _ _ pe_int (@pa_cons _ _ _ _ _ pe_int pa_nil (by rfl)) (by rfl)) (by rfl)) (by rfl))) (@pg_tup _ _ _ _ _ _ rfl (@pgs_cons _ _ _ _ _ (@pg_name _ _ 3 _ nd rfl (Or.inl rfl) (by walk_at "lo")) (@pgs_cons _ _ _ _ _ (@pg_name _ _ 4 _ nd rfl (Or.inl rfl) (by walk_at "lo")) (@pgs_cons _ _ _ _ _ (@pg_name _ _ 5 _ nd rfl (Or.inl rfl) (by walk_at "lo")) (@pgs_cons _ _ _ _ _ (@pg_name _ _ 6 _ nd rfl (Or.inl rfl) (by walk_at "lo")) pgs_nil (by rfl)) (by rfl)) (by rfl)) (by rfl)) (by rfl) (by rfl)) (by rfl) (by rfl) (by rfl)) (@pss_cons _ _ _ _ _ (@ps_for _ _ _ _ _ _ _ _ PassesOwn.never rfl (@pi_range1 _ _ _ _ _ _ rfl B.range (@pa_cons _ _ _ _ _ (@pe_ix _ _ _ _ _ _ _ ix_A (pv 2) pe_int (fun _ _ => rfl)) pa_nil (by rfl)) (by rfl)) (@pg_name _ _ 7 _ nd rfl (Or.inl rfl) (by walk_at "lo")) (@pss_cons _ _ _ _ _ (@ps_set _ _ 8 _ _ _ _ nd rfl (Or.inl rfl) (@pe_op _ _ _ _ _ _ _ _ op_modA (@pe_ix _ _ _ _ _ _ _ ix_A (pv 2) (@pe_op _ _ _ _ _ _ _ _ op_addA pe_int (@pe_op _ _ _ _ _ _ _ _ op_mulA pe_int (pv 7))) (fun _ _ => rfl)) (@pe_ix _ _ _ _ _ _ _ ix_A (@pe_lst _ _ _ _ (@pa_cons _ _ _ _ _ pe_int (@pa_cons _ _ _ _ _ pe_int (@pa_cons _ _ _ _ _ pe_int (@pa_cons _ _ _ _ _ (@pe_powc _ _ 8 _ _ _ _ _ (by decide) (by decide)) pa_nil (by rfl)) (by rfl)) (by rfl)) (by rfl))) (@pe_op _ _ _ _ _ _ _ _ op_modA (@pe_ix _ _ _ _ _ _ _ ix_A (pv 2) (@pe_op _ _ _ _ _ _ _ _ op_addA pe_int (@pe_op _ _ _ _ _ _ _ _ op_mulA pe_int (pv 7))) (fun _ _ => rfl)) pe_int) (fun _ _ => rfl))) (by rfl) (by walk_at "lo")) (@pss_consE _ _ _ _ _ (@ps_if _ _ _ _ _ _ _ _ (@pt_cmpR _ _ _ _ _ _ _ _ op_gtI (@pe_ix _ _ _ _ _ _ _ ix_A (pv 2) (@pe_op _ _ _ _ _ _ _ _ op_addA pe_int (@pe_op _ _ _ _ _ _ _ _ op_mulA pe_int (pv 7))) (fun _ _ => rfl)) pe_int (nomark _)) (@pss_one _ _ _ (@ps_set _ _ 8 _ _ _ _ nd rfl (Or.inl rfl) (@pe_op _ _ _ _ _ _ _ _ op_subI pe_int (pv 8)) (by rfl) (by walk_at "lo"))) pss_nil) (@pss_one _ _ _ (@ps_if _ _ _ _ _ _ _ _ (@pt_cmpR _ _ _ _ _ _ _ _ (op_eqA hr.units0) (@pe_op _ _ _ _ _ _ _ _ op_modA (pv 7) pe_int) (@pe_ix _ _ _ _ _ _ _ ix_A (pv 2) pe_int (fun _ _ => rfl)) (nomark _)) (@pss_one _ _ _ (@ps_par _ _ 3 5 _ _ _ _ _ _ _ _ _ _ _ rfl nd rfl rfl (by decide) rfl rfl (@pa_cons _ _ _ _ _ (@pe_op _ _ _ _ _ _ _ _ op_addA (pv 3) (@pe_op _ _ _ _ _ _ _ _ op_mulA (pv 8) (pv 4))) (@pa_cons _ _ _ _ _ (@pe_op _ _ _ _ _ _ _ _ op_addA (pv 5) (@pe_op _ _ _ _ _ _ _ _ op_mulA (pv 8) (pv 6))) pa_nil (by rfl)) (by rfl)) rfl (by rfl))) (@pss_one _ _ _ (@ps_par _ _ 4 6 _ _ _ _ _ _ _ _ _ _ _ rfl nd rfl rfl (by decide) rfl rfl (@pa_cons _ _ _ _ _ (@pe_op _ _ _ _ _ _ _ _ op_addA (pv 4) (@pe_op _ _ _ _ _ _ _ _ op_mulA (pv 8) (pv 3))) (@pa_cons _ _ _ _ _ (@pe_op _ _ _ _ _ _ _ _ op_addA (pv 6) (@pe_op _ _ _ _ _ _ _ _ op_mulA (pv 8) (pv 5))) pa_nil (by rfl)) (by rfl)) rfl (by rfl))))))) (by intro _; rfl)) (@pss_one _ _ _ (@ps_ret _ _ _ _ (@pe_tup _ _ _ _ _ (@pa_cons _ _ _ _ _ (@pe_tup _ _ _ _ _ (@pa_cons _ _ _ _ _ (pv 3) (@pa_cons _ _ _ _ _ (pv 4) pa_nil (by rfl)) (by rfl))) (@pa_cons _ _ _ _ _ (@pe_tup _ _ _ _ _ (@pa_cons _ _ _ _ _ (pv 5) (@pa_cons _ _ _ _ _ (pv 6) pa_nil (by rfl)) (by rfl))) pa_nil (by rfl)) (by rfl)))))))), ?_⟩
  try dsimp only [cxOf, Cx.inH, Cx.tried]
  refine rd_start [some (.int c), some (.int p), none, none, none, none, none, none, none] rfl ?_
  walk_at "rd"
  refine use_draws [7, 2, 8, 10 ^ 8, 8, 10 ^ 8, 8, 10 ^ 8, 8, 10 ^ 8, 8, 10 ^ 8, 8, 10 ^ 8] (by walk_at "hp") (by decide) (by decide) hp ?_
  intro r1 H1 fs s1' n1 e1 hD
  have s1 : Same H H1 := by walk_at "sm"
  clear s1' n1
  have hf : fs.length = 14 := hD.1
  have w8 : ∀ i, i < 6 → ([7, 2, 8, 10 ^ 8, 8, 10 ^ 8, 8, 10 ^ 8, 8, 10 ^ 8, 8, 10 ^ 8, 8, 10 ^ 8] : List Int)[2 + 2 * i]? = some 8 := by decide
  have w9 : ∀ i, i < 6 → ([7, 2, 8, 10 ^ 8, 8, 10 ^ 8, 8, 10 ^ 8, 8, 10 ^ 8, 8, 10 ^ 8, 8, 10 ^ 8] : List Int)[3 + 2 * i]? = some (10 ^ 8) := by decide
  walk_at "rd"
  rename_i tp H2 s2 ntp etp
  have er2 := s2.obj e1
  refine rd_ixM (ns := fs) (SqL.of er2) (by omega) (by omega) fun d0 _ h0 => ?_
  have b0 := hD.2 0 d0 7 h0 rfl
  walk_at "rd"
  refine for_range (n := d0.toNat) (fun i σ H' => Same H2 H' ∧ i ≤ d0.toNat ∧ ∃ (a b e d : Int) (z1 z2 : Option V), σ = [some (.int c), some (.int p), some (.ref r1), some (.int a), some (.int b), some (.int e), some (.int d), z1, z2] ∧ a * d - b * e = 1 ∧ ∀ n ∈ [a, b, e, d], n.natAbs ≤ (10 ^ 8 + 1) ^ i) ⟨Same.refl _, Nat.zero_le _, 1, 0, 0, 1, _, _, rfl, by decide, by decide⟩ ?_ ?_
  · rintro i σ Ha hi ⟨sa, _, a, b, e, d, z1, z2, rfl, det, bd⟩
    have era := sa.obj er2
    have i6 : i < 6 := by omega
    have B : (10 ^ 8 + 1) ^ i ≤ 10 ^ 50 := Nat.le_trans (Nat.pow_le_pow_right (by decide) (show i ≤ 6 by omega)) (by decide)
    have ba := bd a (by simp)
    have bb := bd b (by simp)
    have be := bd e (by simp)
    have bdd := bd d (by simp)
    have ca : a.natAbs ≤ 10 ^ 50 := by omega
    have cb : b.natAbs ≤ 10 ^ 50 := by omega
    have ce : e.natAbs ≤ 10 ^ 50 := by omega
    have cd : d.natAbs ≤ 10 ^ 50 := by omega
    walk_at "rd"
    refine rd_ixM (ns := fs) (SqL.of era) (by omega) (by omega) fun f3 _ h3 => ?_
    have b3 := hD.2 (3 + 2 * i) f3 (10 ^ 8) (by rw [← h3]; congr 1; omega) (w9 i i6)
    walk_at "rd"
    rename_i L Hb sb nb eb
    refine rd_ixM (ns := fs) (SqL.of (sb.obj era)) (by omega) (by omega) fun f2 _ h2 => ?_
    have b2 := hD.2 (2 + 2 * i) f2 8 (by rw [← h2]; congr 1; omega) (w8 i i6)
    walk_at "rd"
    have m0 := Int.emod_nonneg f2 (show (4 : Int) ≠ 0 by decide)
    have m4 := Int.emod_lt_of_pos f2 (show (0 : Int) < 4 by decide)
    refine rd_ixM (ns := [3, 12, 200, 10 ^ 8]) (SqL.of eb) m0 (by show f2 % 4 < ((4 : Nat) : Int); omega) fun w hw _ => ?_
    have w1 : 1 ≤ w ∧ w ≤ 10 ^ 8 := by
      simp only [List.mem_cons, List.not_mem_nil, or_false] at hw
      omega
    clear hw
    have g0 := Int.emod_nonneg f3 (show w ≠ 0 by omega)
    have g1 := Int.emod_lt_of_pos f3 (show 0 < w by omega)
    have erb := sb.obj era
    walk_at "rd"
    refine rd_join (fun σ H' => H' = Hb ∧ ∃ f : Int, σ = [some (.int c), some (.int p), some (.ref r1), some (.int a), some (.int b), some (.int e), some (.int d), some (.int (0 + (i : Int))), some (.int f)] ∧ f.natAbs ≤ 10 ^ 8) ?_ ?_
    · walk_at "rd"
      refine rd_ixM (ns := fs) (SqL.of erb) (by omega) (by omega) fun f2' _ _ => ?_
      walk_at "rd"
      walk_at "ite"
      · walk_at "rd"
        exact ⟨rfl, _, rfl, by omega⟩
      · walk_at "rd"
        exact ⟨rfl, _, rfl, by omega⟩
    rintro σ Hc ⟨rfl, f, rfl, hfb⟩
    have up : ∀ x y : Int, x.natAbs ≤ (10 ^ 8 + 1) ^ i → y.natAbs ≤ (10 ^ 8 + 1) ^ i → (x + f * y).natAbs ≤ (10 ^ 8 + 1) ^ (i + 1) := fun x y hx hy => by
      have k1 := Int.natAbs_add_le x (f * y)
      rw [Int.natAbs_mul] at k1
      have k2 := Nat.mul_le_mul hfb hy
      rw [Nat.pow_succ, Nat.mul_add, Nat.mul_one, Nat.mul_comm]
      omega
    have kp : ∀ x : Int, x.natAbs ≤ (10 ^ 8 + 1) ^ i → x.natAbs ≤ (10 ^ 8 + 1) ^ (i + 1) := fun x hx => Nat.le_trans hx (Nat.pow_le_pow_right (by decide) (by omega))
    walk_at "rd"
    refine rd_ixM (ns := fs) (SqL.of erb) (by omega) (by omega) fun f1 _ _ => ?_
    walk_at "rd"
    walk_at "ite"
    · walk_at "rd"
      refine ⟨sa.trans sb, by omega, _, _, _, _, _, _, rfl, by rw [← det]; grind, fun n hn => ?_⟩
      simp only [List.mem_cons, List.not_mem_nil, or_false] at hn
      rcases hn with rfl | rfl | rfl | rfl
      · exact up _ _ ba bb
      · exact kp _ bb
      · exact up _ _ be bdd
      · exact kp _ bdd
    · walk_at "rd"
      refine ⟨sa.trans sb, by omega, _, _, _, _, _, _, rfl, by rw [← det]; grind, fun n hn => ?_⟩
      simp only [List.mem_cons, List.not_mem_nil, or_false] at hn
      rcases hn with rfl | rfl | rfl | rfl
      · exact kp _ ba
      · exact up _ _ bb ba
      · exact kp _ be
      · exact up _ _ bdd be
  · rintro σ Ha ⟨sa, _, a, b, e, d, z1, z2, rfl, det, bd⟩
    walk_at "rd"
    rename_i p1 H3 s3 n3 e3 p2 H4 s4 n4 e4 p3 H5 s5 n5 e5
    refine q p3 H5 a b e d (s1.trans (s2.trans (sa.trans (s3.trans (s4.trans s5))))) ⟨p1, p2, e5, (s4.trans s5).obj e3, s5.obj e4⟩ det fun n hn => ?_
    exact Nat.lt_of_le_of_lt (Nat.le_trans (bd n hn) (Nat.pow_le_pow_right (by decide) (show d0.toNat ≤ 6 by omega))) (by decide)
def spAW : Sp := fun vs H Q _ => ∃ c p : Int, vs = [.int c, .int p] ∧ 0 < p ∧ ∀ D H' ws, Same H H' → WordL H' D ws → Mth.Alt ws → (∀ x ∈ ws, 1 ≤ x.2 ∧ x.2.natAbs < 10 ^ 60) → ws.length ≤ 6 → Q (.ref D) H'
theorem use_aw {c p : Int} {H : Hp} {Q : VK} {E : XK} (hp : 0 < p) (h : ∀ D H' ws, Same H H' → WordL H' D ws → Mth.Alt ws → (∀ x ∈ ws, 1 ≤ x.2 ∧ x.2.natAbs < 10 ^ 60) → ws.length ≤ 6 → Q (.ref D) H') : spAW [.int c, .int p] H Q E := ⟨c, p, rfl, hp, h⟩
theorem ok__law_any_word (F : Src K mg "_law_any_word" s__law_any_word ["_law_cell_here", "_law_prime"]) (B : Blt mg) (C : Cls K mg base) (R : Rel K mg base C) (Kc : Cst K mg) (D__law_draws : Def P w K mg base (CXE P w) 2 "_law_draws" ["_law_cell_here", "_law_widths", "_law_prime"] (spDraws K)) (D__law_text_number : Def P w K mg base (CXE P w) 4 "_law_text_number" ["_law_cell_here", "_law_prime"] spTN) : Def P w K mg base (CXE P w) 5 "_law_any_word" ["_law_cell_here", "_law_prime"] spAW := by
  refine F.ok (CX := CXE P w) (k := 4) sc__law_any_word (fun vs H Q E h => ?_) (fun f cdv A outer s H vs Q E hr h => ?_)
  · obtain ⟨_, _, rfl, _⟩ := h
    rfl
  have nd := sc__law_any_word.nd
  obtain ⟨c, p, rfl, hp, q⟩ := h
  refine ⟨_, (@pss_cons _ _ _ _ _ (@ps_set _ _ 2 _ _ _ _ nd rfl (Or.inl rfl) (@pe_defS _ _ _ _ _ _ _ _ _ _ _ D__law_draws (hr.mono (by decide)) rfl xpass_nox (@pa_cons _ _ _ _ _ (pv 0) (@pa_cons _ _ _ _ _ (@pe_op _ _ _ _ _ _ _ _ op_addA (@pe_lst _ _ _ _ (@pa_cons _ _ _ _ _ pe_int (@pa_cons _ _ _ _ _ pe_int pa_nil (by rfl)) (by rfl))) (@pe_op _ _ _ _ _ _ _ _ op_mulA (@pe_lst _ _ _ _ (@pa_cons _ _ _ _ _ pe_int pa_nil (by rfl))) pe_int)) (@pa_cons _ _ _ _ _ (pv 1) pa_nil (by rfl)) (by rfl)) (by rfl)) (by decide) (by rfl) (by rfl)) (by rfl) (by walk_at "lo")) (@pss_cons _ _ _ _ _ (@ps_set _ _ 3 _ _ _ _ nd rfl (Or.inl rfl) (@pe_lst _ _ _ _ pa_nil) (by rfl) (by walk_at "lo")) (@pss_cons _ _ _ _ _ (@ps_for _ _ _ _ _ _ _ _ PassesOwn.never rfl (@pi_range1 _ _ _ _ _ _ rfl B.range (@pa_cons _ _ _ _ _ (@pe_ix _ _ _ _ _ _ _ ix_A (pv 2) pe_int (fun _ _ => rfl)) pa_nil (by rfl)) (by rfl)) (@pg_name _ _ 4 _ nd rfl (Or.inl rfl) (by walk_at "lo")) (@pss_cons _ _ _ _ _ (@ps_set _ _ 5 _ _ _ _ nd rfl (Or.inl rfl) (@pe_callB _ _ _ _ _ _ _ _ _ (call_maxI rfl) rfl B.max PyProof.Rows.boot_max (@pa_cons _ _ _ _ _ pe_int (@pa_cons _ _ _ _ _ (@pe_callB _ _ _ _ _ _ _ _ _ call_absI rfl B.abs PyProof.Rows.boot_abs (@pa_cons _ _ _ _ _ (@pe_defS _ _ _ _ _ _ _ _ _ _ _ D__law_text_number (hr.mono (by decide)) rfl xpass_nox (@pa_cons _ _ _ _ _ (@pe_op _ _ _ _ _ _ _ _ op_addA (pv 0) (pv 4)) (@pa_cons _ _ _ _ _ (pv 1) pa_nil (by rfl)) (by rfl)) (by decide) (by rfl) (by rfl)) pa_nil (by rfl)) (by decide) (by decide) (by rfl) (by rfl)) pa_nil (by rfl)) (by rfl)) (by decide) (by decide) (by rfl) (by rfl)) (by rfl) (by walk_at "lo")) (@pss_consE _ _ _ _ _ (@ps_if _ _ _ _ _ _ _ _ (@pt_cmpR _ _ _ _ _ _ _ _ (op_eqA hr.units0) (@pe_ix _ _ _ _ _ _ _ ix_A (pv 2) (@pe_op _ _ _ _ _ _ _ _ op_addA pe_int (pv 4)) (fun _ _ => rfl)) pe_int (nomark _)) (@pss_one _ _ _ (@ps_set _ _ 5 _ _ _ _ nd rfl (Or.inl rfl) (@pe_op _ _ _ _ _ _ _ _ op_subI (@pe_powc _ _ 60 _ _ _ _ _ (by decide) (by decide)) pe_int) (by rfl) (by walk_at "lo"))) pss_nil) (@pss_one _ _ _ (@ps_expr _ _ _ _ (@pe_bm _ _ _ _ _ _ _ _ _ _ _ _ PySem.F.plainAttrs_list PySem.F.slot_list_append PySem.F.type_list_append mt_append (pv 3) (@pa_cons _ _ _ _ _ (@pe_tup _ _ _ _ _ (@pa_cons _ _ _ _ _ (@pe_ix _ _ _ _ _ _ _ ix_str pe_str (@pe_op _ _ _ _ _ _ _ _ op_modA (@pe_op _ _ _ _ _ _ _ _ op_addA (@pe_ix _ _ _ _ _ _ _ ix_A (pv 2) pe_int (fun _ _ => rfl)) (pv 4)) pe_int) (fun _ _ => rfl)) (@pa_cons _ _ _ _ _ (pv 5) pa_nil (by rfl)) (by rfl))) pa_nil (by rfl)) (by rfl) (by rfl) (by rfl) (by rfl) (by rfl)) (by rfl))))) (by intro _; rfl)) (@pss_one _ _ _ (@ps_ret _ _ _ _ (pv 3)))))), ?_⟩
  try dsimp only [cxOf, Cx.inH, Cx.tried]
  refine rd_start [some (.int c), some (.int p), none, none, none, none] rfl ?_
  walk_at "rd"
  refine use_draws [7, 2, 5, 5, 5, 5, 5, 5] (by walk_at "hp") (by decide) (by decide) hp ?_
  intro r1 H1 fs s1' n1 e1 hD
  have s1 : Same H H1 := by walk_at "sm"
  clear s1' n1
  have hf : fs.length = 8 := hD.1
  walk_at "rd"
  rename_i D H2 s2 nD eD
  have e12 := s2.obj e1
  refine rd_ixM (ns := fs) (SqL.of e12) (by omega) (by omega) fun d0 _ h0 => ?_
  have b0 := hD.2 0 d0 7 h0 rfl
  obtain ⟨d1, h1⟩ : ∃ d1, fs[1]? = some d1 := ⟨_, List.getElem?_eq_getElem (by omega)⟩
  have b1 := hD.2 1 d1 2 h1 rfl
  walk_at "rd"
  refine for_range (n := d0.toNat) (fun i σ H' => Same H1 H' ∧ i ≤ d0.toNat ∧ ∃ (z4 z5 : Option V) (ws : List (Bool × Int)), σ = [some (.int c), some (.int p), some (.ref r1), some (.ref D), z4, z5] ∧ WordL H' D ws ∧ ws.length = i ∧ ∀ (j : Nat) x, ws[j]? = some x → x.1 = decide ((d1 + (j : Int)) % 2 = 0) ∧ 1 ≤ x.2 ∧ x.2.natAbs < 10 ^ 60) ⟨s2, Nat.zero_le _, _, _, [], rfl, WordL.nil eD, rfl, fun j x hx => by simp at hx⟩ ?_ ?_
  · rintro i σ Ha hi ⟨sa, _, z4, z5, ws, rfl, ⟨as, eDa, la, T⟩, hl, hw⟩
    walk_at "rd"
    refine use_tn hp fun v Hb sb hv => ?_
    walk_at "rd"
    have erb := (sa.trans sb).obj e1
    have eDb := sb.obj eDa
    refine rd_join (fun σ H' => Same Hb H' ∧ ∃ o : Int, σ = [some (.int c), some (.int p), some (.ref r1), some (.ref D), some (.int (0 + (i : Int))), some (.int o)] ∧ 1 ≤ o ∧ o < 10 ^ 60) ?_ ?_
    · walk_at "rd"
      refine rd_ixM (ns := fs) (SqL.of erb) (by omega) (by omega) fun dk _ _ => ?_
      walk_at "rd"
      walk_at "ite"
      · walk_at "rd"
        exact ⟨Same.refl _, _, rfl, by decide, by decide⟩
      · walk_at "rd"
        exact ⟨Same.refl _, _, rfl, by omega, by omega⟩
    rintro σ Hc ⟨sc, o, rfl, o1, o2⟩
    walk_at "rd"
    refine rd_ixM (ns := fs) (SqL.of (sc.obj erb)) (by omega) (by omega) fun d1' _ h1' => ?_
    obtain rfl : d1 = d1' := Option.some.inj (h1.symm.trans h1')
    walk_at "rd"
    refine rd_uv (by omega) ?_
    walk_at "rd"
    rename_i t Hd sd nd2 ed
    have scd := sc.trans sd
    refine rd_append (xs := as.map V.ref) (scd.obj eDb) (by rw [List.length_map, la, hl]; exact small1000 (by omega)) ?_
    walk_at "rd"
    refine ⟨((sa.trans sb).trans scd).upd nD, by omega, _, _, ws ++ [(decide ((d1 + (0 + (i : Int))) % 2 = 0), o)], rfl, ?_, by rw [List.length_append, hl]; rfl, fun j x hx => ?_⟩
    · have := WordL.snoc (p := (decide ((d1 + (0 + (i : Int))) % 2 = 0), o)) (scd.obj eDb) la (fun i x p hx hp => scd.obj (sb.obj (T i x p hx hp))) ed
      rw [List.map_append] at this
      exact this
    · rcases Nat.lt_or_ge j ws.length with z | z
      · rw [List.getElem?_append_left z] at hx
        exact hw j x hx
      · rw [List.getElem?_append_right z] at hx
        have z0 : j - ws.length = 0 := by
          rcases Nat.eq_zero_or_pos (j - ws.length) with y | y
          · exact y
          · rw [List.getElem?_eq_none (by simp; omega)] at hx
            cases hx
        rw [z0] at hx
        cases hx
        refine ⟨?_, o1, by show o.natAbs < _; omega⟩
        rw [show j = i by omega, Int.zero_add]
  · rintro σ Ha ⟨sa, _, z4, z5, ws, rfl, W, hl, hw⟩
    walk_at "rd"
    refine q D Ha ws (s1.trans sa) W (fun j x y hx hy => ?_) (fun x hx => ?_) (by omega)
    · rw [(hw j x hx).1, (hw (j + 1) y hy).1]
      intro e
      have e := decide_eq_decide.mp e
      omega
    · obtain ⟨j, hj⟩ := List.getElem?_of_mem hx
      exact (hw j x hj).2
def spLTT : Sp := fun vs H Q _ => ∃ (t : Addr) (a b c d : Int), vs = [.ref t] ∧ Tab H t a b c d ∧ Small a ∧ Small b ∧ Small c ∧ Small d ∧ ∀ H', Same H H' → Q (.str (tabT a b c d)) H'
theorem use_ltt {t : Addr} {a b c d : Int} {H : Hp} {Q : VK} {E : XK} (T : Tab H t a b c d) (b1 : Small a) (b2 : Small b) (b3 : Small c) (b4 : Small d) (h : ∀ H', Same H H' → Q (.str (tabT a b c d)) H') : spLTT [.ref t] H Q E := ⟨t, a, b, c, d, rfl, T, b1, b2, b3, b4, h⟩
theorem ok__law_table_text (F : Src K mg "_law_table_text" s__law_table_text ["_law_table"]) (B : Blt mg) (C : Cls K mg base) (R : Rel K mg base C) (Kc : Cst K mg)  : Def P w K mg base (CXE P w) 1 "_law_table_text" ["_law_table"] spLTT := by
  refine F.ok (CX := CXE P w) (k := 0) sc__law_table_text (fun vs H Q E h => ?_) (fun f cdv A outer s H vs Q E hr h => ?_)
  · obtain ⟨_, _, _, _, _, rfl, _⟩ := h
    rfl
  have nd := sc__law_table_text.nd
  obtain ⟨t, a, b, c, d, rfl, T, b1, b2, b3, b4, q⟩ := h
  refine ⟨_, (@pss_one _ _ _ (@ps_ret _ _ _ _ (@pe_bm _ _ _ _ _ _ _ _ _ _ _ _ PySem.F.plainAttrs_str PySem.F.slot_str_join PySem.F.type_str_join mt_join pe_str (@pa_cons _ _ _ _ _ (@pe_comp _ _ _ _ _ _ _ _ _ rfl (@PI.or _ _ _ _ _ (@pi_list _ _ _ _ (@pe_op _ _ _ _ _ _ _ _ op_addU (@pe_ix _ _ _ _ _ _ _ ix_A (pv 0) pe_int (fun _ _ => rfl)) (@pe_ix _ _ _ _ _ _ _ ix_A (pv 0) pe_int (fun _ _ => rfl)))) (@pi_tup _ _ _ _ (@pe_op _ _ _ _ _ _ _ _ op_addU (@pe_ix _ _ _ _ _ _ _ ix_A (pv 0) pe_int (fun _ _ => rfl)) (@pe_ix _ _ _ _ _ _ _ ix_A (pv 0) pe_int (fun _ _ => rfl))))) (fun pins ex s H => (@pe_callTy _ _ _ _ _ _ _ _ _ call_strI rfl B.str PyProof.Rows.boot_str (@pa_cons _ _ _ _ _ (pv 0) pa_nil (by rfl)) (by decide) (by decide) (by rfl) (by rfl))) (by decide +kernel) (by decide +kernel) rfl (by decide +kernel) rfl (by intro _; rfl)) pa_nil (by rfl)) (by rfl) (by rfl) (by rfl) (by rfl) (by rfl)))), ?_⟩
  try dsimp only [cxOf, Cx.inH, Cx.tried]
  refine rd_start [some (.ref t)] rfl ?_
  obtain ⟨r, s', e1, e2, e3⟩ := T
  have sm : ∀ n ∈ [a, b, c, d], Small n := fun n hn => by
    simp only [List.mem_cons, List.not_mem_nil, or_false] at hn
    rcases hn with rfl | rfl | rfl | rfl <;> assumption
  walk_at "rd"
  refine rd_compT ?_
  walk_at "rd"
  refine rd_catU e2 e3 (show 2 + 2 ≤ 1000 by decide) fun u H1 s1 eu => ?_
  walk_at "rd"
  refine rd_kCompTL ([a, b, c, d].map fun n => V.str (numT n)) (SqT.of (xs := [a, b, c, d].map V.int) eu) rfl (by show 4 ≤ 1000; decide) (fun i x y H' Q' hx hy s2 hQ => ?_) fun D H2 s2 n2 e2 => ?_
  · rw [List.getElem?_map] at hx hy
    cases hw : [a, b, c, d][i]? with
    | none => rw [hw] at hx; cases hx
    | some n =>
    rw [hw] at hx hy
    cases hx
    cases hy
    have ln := (sm n (List.mem_of_getElem? hw)).log
    walk_at "rd"
    exact hQ _ (Same.refl _)
  walk_at "rd"
  refine rd_kJoin [numT a, numT b, numT c, numT d] (SqL.of e2) (join_ok (k := 571) (by decide) (by show 4 ≤ 1000; decide) (fun w hw => ?_) (by decide)) ?_
  · obtain ⟨n, hn, rfl⟩ := List.mem_map.mp (show w ∈ [a, b, c, d].map numT from hw)
    exact (sm n hn).len
  exact q _ (s1.trans s2)
def spLWT : Sp := fun vs H Q _ => ∃ (D : Addr) (ws : List (Bool × Int)), vs = [.ref D] ∧ WordL H D ws ∧ ws.length ≤ 900 ∧ (∀ p ∈ ws, Small p.2) ∧ ∀ H', Same H H' → Q (.str (wordT ws)) H'
theorem use_lwt {D : Addr} {ws : List (Bool × Int)} {H : Hp} {Q : VK} {E : XK} (h1 : WordL H D ws) (h0 : ws.length ≤ 900) (h2 : ∀ p ∈ ws, Small p.2) (h : ∀ H', Same H H' → Q (.str (wordT ws)) H') : spLWT [.ref D] H Q E := ⟨D, ws, rfl, h1, h0, h2, h⟩
theorem ok__law_word_text (F : Src K mg "_law_word_text" s__law_word_text ["_law_word"]) (B : Blt mg) (C : Cls K mg base) (R : Rel K mg base C) (Kc : Cst K mg)  : Def P w K mg base (CXE P w) 1 "_law_word_text" ["_law_word"] spLWT := by
  refine F.ok (CX := CXE P w) (k := 0) sc__law_word_text (fun vs H Q E h => ?_) (fun f cdv A outer s H vs Q E hr h => ?_)
  · obtain ⟨_, _, rfl, _⟩ := h
    rfl
  have nd := sc__law_word_text.nd
  obtain ⟨D, ws, rfl, ⟨as, e, l, T⟩, hl, sm, q⟩ := h
  refine ⟨_, (@pss_cons _ _ _ _ _ (@ps_if _ _ _ _ _ _ _ _ (@pt_cmpR _ _ _ _ _ _ _ _ (op_eqA hr.units0) (@pe_callB _ _ _ _ _ _ _ _ _ call_lenA rfl B.len PySem.boot_len (@pa_cons _ _ _ _ _ (pv 0) pa_nil (by rfl)) (by decide) (by decide) (by rfl) (by rfl)) pe_int (nomark _)) (@pss_one _ _ _ (@ps_ret _ _ _ _ pe_str)) pss_nil) (@pss_one _ _ _ (@ps_ret _ _ _ _ (@pe_bm _ _ _ _ _ _ _ _ _ _ _ _ PySem.F.plainAttrs_str PySem.F.slot_str_join PySem.F.type_str_join mt_join pe_str (@pa_cons _ _ _ _ _ (@pe_compG _ _ _ _ _ _ _ _ _ _ _ ["_law_letter", "_law_often"] rfl (@pi_list _ _ _ _ (pv 0)) (fun pins ex s H => (@pg_tupN _ _ _ _ _ _ _ _ _ _ 2 _ rfl (@pgs_cons _ _ _ _ _ (@pg_name _ _ 0 _ (show (["_law_letter", "_law_often"] : List Str).Nodup from by decide +kernel) rfl (Or.inl rfl) (by walk_at "lo")) (@pgs_cons _ _ _ _ _ (@pg_name _ _ 1 _ (show (["_law_letter", "_law_often"] : List Str).Nodup from by decide +kernel) rfl (Or.inl rfl) (by walk_at "lo")) pgs_nil (by rfl)) (by rfl)) rfl rfl)) (fun pins ex s H => (@pe_op _ _ _ _ _ _ _ _ op_addS (@pe_op _ _ _ _ _ _ _ _ op_addS (pv 0) pe_str) (@pe_callTy _ _ _ _ _ _ _ _ _ call_strI rfl B.str PyProof.Rows.boot_str (@pa_cons _ _ _ _ _ (pv 1) pa_nil (by rfl)) (by decide) (by decide) (by rfl) (by rfl)))) (by decide +kernel) (by decide +kernel) rfl (by decide +kernel) (by intro _; rfl)) pa_nil (by rfl)) (by rfl) (by rfl) (by rfl) (by rfl) (by rfl))))), ?_⟩
  try dsimp only [cxOf, Cx.inH, Cx.tried]
  refine rd_start [some (.ref D)] rfl ?_
  have la : (as.map V.ref).length = ws.length := by rw [List.length_map, l]
  walk_at "rd"
  walk_at "ite"
  · rename_i c
    obtain rfl : ws = [] := List.length_eq_zero_iff.mp (by omega)
    walk_at "rd"
    exact q _ (Same.refl _)
  · rename_i c
    have hw : ws ≠ [] := fun z => c (by rw [la, z]; rfl)
    walk_at "rd"
    refine rd_compGL ?_
    walk_at "rd"
    refine rd_kCompP ((ws.map runT).map V.str) (SqL.of e) (by rw [List.length_map, List.length_map, l]) (by omega) (fun i x y hx hy => ?_) fun D3 H3 s3 n3 e3 => ?_
    · rw [List.getElem?_map, List.getElem?_map] at hy
      obtain ⟨p, hp⟩ : ∃ p, ws[i]? = some p := ⟨_, List.getElem?_eq_getElem (by have := (List.getElem?_eq_some_iff.mp hx).1; omega)⟩
      rw [hp] at hy
      cases hy
      refine ⟨.str (ltr p.1), .int p.2, SqT.of (T i x p hx hp), fun H' R s' hR => ?_⟩
      have hs := sm p (List.mem_of_getElem? hp)
      have lp := hs.log
      have zp : (Str.ofString (toString p.2)).length ≤ 571 := hs.len
      have zl := ltr_len p.1
      walk_at "rd"
      exact hR _ (Same.refl _)
    walk_at "rd"
    refine rd_kJoin (ws.map runT) (SqL.of e3) (join_ok (k := 600) (by decide) (by rw [List.length_map]; omega) (fun w hw => ?_) (by decide)) ?_
    · obtain ⟨p, hp, rfl⟩ := List.mem_map.mp hw
      exact runT_len (sm p hp)
    have z := q _ s3
    rw [show wordT ws = Txt.join " " (ws.map runT) from if_neg hw] at z
    exact z
def spITO : Sp := fun vs H Q _ => ∃ (t u : Addr) (a b c d : Int), vs = [.ref t, .ref u] ∧ Tab H t a b c d ∧ Tab H u a b c d ∧ ∀ H', Same H H' → Q (.bl true) H'
theorem use_ito {t u : Addr} {a b c d : Int} {H : Hp} {Q : VK} {E : XK} (h1 : Tab H t a b c d) (h2 : Tab H u a b c d) (h : ∀ H', Same H H' → Q (.bl true) H') : spITO [.ref t, .ref u] H Q E := ⟨t, u, a, b, c, d, rfl, h1, h2, h⟩
theorem ok__law_is_table_of (F : Src K mg "_law_is_table_of" s__law_is_table_of ["_law_found", "_law_due"]) (B : Blt mg) (C : Cls K mg base) (R : Rel K mg base C) (Kc : Cst K mg) (D__law_row : Def P w K mg base (CXE P w) 2 "_law_row" ["_law_found", "_law_many"] spRow) : Def P w K mg base (CXE P w) 3 "_law_is_table_of" ["_law_found", "_law_due"] spITO := by
  refine F.ok (CX := CXE P w) (k := 2) sc__law_is_table_of (fun vs H Q E h => ?_) (fun f cdv A outer s H vs Q E hr h => ?_)
  · obtain ⟨_, _, _, _, _, _, rfl, _⟩ := h
    rfl
  have nd := sc__law_is_table_of.nd
  obtain ⟨t, u, a, b, c, d, rfl, ⟨r, s', e1, e2, e3⟩, ⟨r', s'', f1, f2, f3⟩, q⟩ := h
  refine ⟨_, (@pss_cons _ _ _ _ _ (@ps_if _ _ _ _ _ _ _ _ (@PW.pt _ _ _ (@pw_or _ _ _ _ _ _ _ (@pt_not _ _ _ _ (@pt_val _ _ _ (@pe_callB _ _ _ _ _ _ _ _ _ call_isi rfl B.isinstance PyProof.Rows.boot_isinstance (@pa_cons _ _ _ _ _ (pv 0) (@pa_cons _ _ _ _ _ (@pe_bltn _ _ (.ty "tuple") _ _ rfl B.tuple PyProof.Rows.boot_tuple rfl (by decide) (by decide)) pa_nil (by rfl)) (by rfl)) (by decide) (by decide) (by rfl) (by rfl)) (by intro _; rfl))) (@pw_or1 _ _ _ _ (@pt_cmpR _ _ _ _ _ _ _ _ (op_neF hr.units3) (@pe_callB _ _ _ _ _ _ _ _ _ call_lenA rfl B.len PySem.boot_len (@pa_cons _ _ _ _ _ (pv 0) pa_nil (by rfl)) (by decide) (by decide) (by rfl) (by rfl)) pe_int (nomark _))))) (@pss_one _ _ _ (@ps_ret _ _ _ _ pe_bl)) pss_nil) (@pss_one _ _ _ (@ps_ret _ _ _ _ (@pe_and _ _ _ _ _ _ _ (@pe_defS _ _ _ _ _ _ _ _ _ _ _ D__law_row (hr.mono (by decide)) rfl xpass_nox (@pa_cons _ _ _ _ _ (@pe_ix _ _ _ _ _ _ _ ix_A (pv 0) pe_int (fun _ _ => rfl)) (@pa_cons _ _ _ _ _ pe_int pa_nil (by rfl)) (by rfl)) (by decide) (by rfl) (by rfl)) (@pe_and _ _ _ _ _ _ _ (@pe_defS _ _ _ _ _ _ _ _ _ _ _ D__law_row (hr.mono (by decide)) rfl xpass_nox (@pa_cons _ _ _ _ _ (@pe_ix _ _ _ _ _ _ _ ix_A (pv 0) pe_int (fun _ _ => rfl)) (@pa_cons _ _ _ _ _ pe_int pa_nil (by rfl)) (by rfl)) (by decide) (by rfl) (by rfl)) (@pe_one _ _ _ _ _ (@pe_cmpR _ _ _ _ _ _ _ _ (op_eqF hr.units3) (pv 0) (pv 1) (nomark _)))))))), ?_⟩
  try dsimp only [cxOf, Cx.inH, Cx.tried]
  refine rd_start [some (.ref t), some (.ref u)] rfl ?_
  walk_at "rd"
  walk_at "ite"
  · rename_i c
    exact absurd rfl c
  walk_at "rd"
  refine use_row [a, b] e2 rfl (show 2 ≤ 1000 by decide) fun H1 s1 => ?_
  have e1 := s1.obj e1
  walk_at "rd"
  refine use_row [c, d] (s1.obj e3) rfl (show 2 ≤ 1000 by decide) fun H2 s2 => ?_
  have s12 := s1.trans s2
  walk_at "rd"
  refine rd_eqF ((Cmp.tabs (n := 2) (SqT.of (s2.obj e1)) (SqT.of (s12.obj f1)) (SqT.of (s12.obj e2)) (SqT.of (s12.obj e3)) (SqT.of (s12.obj f2)) (SqT.of (s12.obj f3))).to (b' := true) (by simp)) ?_
  exact q _ s12
def spIWO : Sp := fun vs H Q _ => ∃ (D F : Addr) (ws : List (Bool × Int)), vs = [.ref D, .ref F] ∧ WordL H D ws ∧ WordL H F ws ∧ ws.length ≤ 900 ∧ Q (.bl true) H
theorem use_iwo {D F : Addr} {ws : List (Bool × Int)} {H : Hp} {Q : VK} {E : XK} (h1 : WordL H D ws) (h2 : WordL H F ws) (h3 : ws.length ≤ 900) (h : Q (.bl true) H) : spIWO [.ref D, .ref F] H Q E := ⟨D, F, ws, rfl, h1, h2, h3, h⟩
theorem ok__law_is_word_of (F : Src K mg "_law_is_word_of" s__law_is_word_of ["_law_found", "_law_due"]) (B : Blt mg) (C : Cls K mg base) (R : Rel K mg base C) (Kc : Cst K mg) (D__law_whole : Def P w K mg base (CXE P w) 1 "_law_whole" ["_law_found"] spWhole) : Def P w K mg base (CXE P w) 2 "_law_is_word_of" ["_law_found", "_law_due"] spIWO := by
  refine F.ok (CX := CXE P w) (k := 1) sc__law_is_word_of (fun vs H Q E h => ?_) (fun f cdv A outer s H vs Q E hr h => ?_)
  · obtain ⟨_, _, _, rfl, _⟩ := h
    rfl
  have nd := sc__law_is_word_of.nd
  obtain ⟨D, F, ws, rfl, W1, W2, hl, q⟩ := h
  have W := W1
  obtain ⟨as, e, l, T⟩ := W1
  obtain ⟨bs, f, m, U⟩ := id W2
  refine ⟨_, (@pss_cons _ _ _ _ _ (@ps_if _ _ _ _ _ _ _ _ (@PW.pt _ _ _ (@pw_or _ _ _ _ _ _ _ (@pt_not _ _ _ _ (@pt_val _ _ _ (@pe_callB _ _ _ _ _ _ _ _ _ call_isi rfl B.isinstance PyProof.Rows.boot_isinstance (@pa_cons _ _ _ _ _ (pv 0) (@pa_cons _ _ _ _ _ (@pe_bltn _ _ (.ty "list") _ _ rfl B.list PyProof.Rows.boot_list rfl (by decide) (by decide)) pa_nil (by rfl)) (by rfl)) (by decide) (by decide) (by rfl) (by rfl)) (by intro _; rfl))) (@pw_or1 _ _ _ _ (@pt_cmpR _ _ _ _ _ _ _ _ (op_neF hr.units3) (@pe_callB _ _ _ _ _ _ _ _ _ call_lenA rfl B.len PySem.boot_len (@pa_cons _ _ _ _ _ (pv 0) pa_nil (by rfl)) (by decide) (by decide) (by rfl) (by rfl)) (@pe_callB _ _ _ _ _ _ _ _ _ call_lenA rfl B.len PySem.boot_len (@pa_cons _ _ _ _ _ (pv 1) pa_nil (by rfl)) (by decide) (by decide) (by rfl) (by rfl)) (nomark _))))) (@pss_one _ _ _ (@ps_ret _ _ _ _ pe_bl)) pss_nil) (@pss_cons _ _ _ _ _ (@ps_for _ _ _ _ _ _ _ _ PassesOwn.never rfl (@pi_list _ _ _ _ (pv 0)) (@pg_name _ _ 2 _ nd rfl (Or.inl rfl) (by walk_at "lo")) (@pss_one _ _ _ (@ps_if _ _ _ _ _ _ _ _ (@PW.pt _ _ _ (@pw_or _ _ _ _ _ _ _ (@pt_not _ _ _ _ (@pt_val _ _ _ (@pe_callB _ _ _ _ _ _ _ _ _ call_isi rfl B.isinstance PyProof.Rows.boot_isinstance (@pa_cons _ _ _ _ _ (pv 2) (@pa_cons _ _ _ _ _ (@pe_bltn _ _ (.ty "tuple") _ _ rfl B.tuple PyProof.Rows.boot_tuple rfl (by decide) (by decide)) pa_nil (by rfl)) (by rfl)) (by decide) (by decide) (by rfl) (by rfl)) (by intro _; rfl))) (@pw_or _ _ _ _ _ _ _ (@pt_cmpR _ _ _ _ _ _ _ _ (op_neF hr.units3) (@pe_callB _ _ _ _ _ _ _ _ _ call_lenA rfl B.len PySem.boot_len (@pa_cons _ _ _ _ _ (pv 2) pa_nil (by rfl)) (by decide) (by decide) (by rfl) (by rfl)) pe_int (nomark _)) (@pw_or _ _ _ _ _ _ _ (@pt_not _ _ _ _ (@pt_val _ _ _ (@pe_callB _ _ _ _ _ _ _ _ _ call_isi rfl B.isinstance PyProof.Rows.boot_isinstance (@pa_cons _ _ _ _ _ (@pe_ix _ _ _ _ _ _ _ ix_A (pv 2) pe_int (fun _ _ => rfl)) (@pa_cons _ _ _ _ _ (@pe_bltn _ _ (.ty "str") _ _ rfl B.str PyProof.Rows.boot_str rfl (by decide) (by decide)) pa_nil (by rfl)) (by rfl)) (by decide) (by decide) (by rfl) (by rfl)) (by intro _; rfl))) (@pw_or1 _ _ _ _ (@pt_not _ _ _ _ (@pt_val _ _ _ (@pe_defS _ _ _ _ _ _ _ _ _ _ _ D__law_whole (hr.mono (by decide)) rfl xpass_nox (@pa_cons _ _ _ _ _ (@pe_ix _ _ _ _ _ _ _ ix_A (pv 2) pe_int (fun _ _ => rfl)) pa_nil (by rfl)) (by decide) (by rfl) (by rfl)) (by intro _; rfl)))))))) (@pss_one _ _ _ (@ps_ret _ _ _ _ pe_bl)) pss_nil)) (by intro _; rfl)) (@pss_one _ _ _ (@ps_ret _ _ _ _ (@pe_cmpR _ _ _ _ _ _ _ _ (op_eqF hr.units3) (pv 0) (pv 1) (nomark _)))))), ?_⟩
  try dsimp only [cxOf, Cx.inH, Cx.tried]
  refine rd_start [some (.ref D), some (.ref F), none] rfl ?_
  have la : (as.map V.ref).length = ws.length := by rw [List.length_map, l]
  have lb : (bs.map V.ref).length = ws.length := by rw [List.length_map, m]
  walk_at "rd"
  walk_at "ite"
  · rename_i c
    exfalso
    omega
  walk_at "rd"
  refine for_list (xs := as.map V.ref) (fun i σ H' => H' = H ∧ ∃ z : Option V, σ = [some (.ref D), some (.ref F), z]) ⟨rfl, _, rfl⟩ (fun i σ H' _ h => by rw [h.1]; exact SqL.of e) ?_ ?_
  · rintro i v σ Ha hv ⟨rfl, z, rfl⟩
    rw [List.getElem?_map] at hv
    cases hu : as[i]? with
    | none => rw [hu] at hv; cases hv
    | some u =>
    rw [hu] at hv
    cases hv
    obtain ⟨p, hp⟩ : ∃ p, ws[i]? = some p := ⟨_, List.getElem?_eq_getElem (by have := (List.getElem?_eq_some_iff.mp hu).1; omega)⟩
    have eu := T i u p hu hp
    walk_at "rd"
    walk_at "ite"
    · rename_i c
      exact absurd rfl c
    walk_at "rd"
    exact ⟨rfl, _, rfl⟩
  · rintro σ Ha ⟨rfl, z, rfl⟩
    walk_at "rd"
    refine rd_eqF (Cmp.words (d := 2) W W2) ?_
    exact q
def numV (t : Str) : V := if isNum t = true then .int (numOf t) else .non
theorem both {A : Hp → Prop} {G : Prop} (P : Hp → Prop) (k : (∀ H', A H' → Hide (P H')) → G) (h : ∀ H', A H' → P H') : G := k fun H' x => ⟨h H' x⟩
theorem bothP {A G : Prop} (P : Prop) (k : (A → Hide P) → G) (h : A → P) : G := k fun x => ⟨h x⟩
def spNumOf : Sp := fun vs H Q _ => ∃ t : Str, vs = [.str t] ∧ Asc t ∧ t.length ≤ 10000 ∧ Q (numV t) H
theorem use_numof {t : Str} {H : Hp} {Q : VK} {E : XK} (h1 : Asc t) (h2 : t.length ≤ 10000) (h : Q (numV t) H) : spNumOf [.str t] H Q E := ⟨t, rfl, h1, h2, h⟩
theorem ok__law_number_of (F : Src K mg "_law_number_of" s__law_number_of ["_law_word"]) (B : Blt mg) (C : Cls K mg base) (R : Rel K mg base C) (Kc : Cst K mg)  : Def P w K mg base (CXE P w) 1 "_law_number_of" ["_law_word"] spNumOf := by
  refine F.ok (CX := CXE P w) (k := 0) sc__law_number_of (fun vs H Q E h => ?_) (fun f cdv A outer s H vs Q E hr h => ?_)
  · obtain ⟨_, rfl, _⟩ := h
    rfl
  have nd := sc__law_number_of.nd
  obtain ⟨t, rfl, ta, tl, q⟩ := h
  have tz : t.length ≤ sizeLine := Nat.le_trans tl (by decide)
  have fa : (figs t).cps.all (· < 128) = true := asc_figs ta
  have fl := len_figs t
  have fz : (figs t).length ≤ sizeLine := Nat.le_trans fl tz
  refine ⟨_, (@pss_cons _ _ _ _ _ (@ps_set _ _ 1 _ _ _ _ nd rfl (Or.inl rfl) (pv 0) (by rfl) (by walk_at "lo")) (@pss_consE _ _ _ _ _ (@ps_if _ _ _ _ _ _ _ _ (@pt_cmpR _ _ _ _ _ _ _ _ (op_eqA hr.units0) (@pe_slice _ _ _ _ _ _ _ _ _ _ sl_str (pv 0) po_none (@po_some _ _ _ pe_int)) pe_str (nomark _)) (@pss_one _ _ _ (@ps_set _ _ 1 _ _ _ _ nd rfl (Or.inl rfl) (@pe_slice _ _ _ _ _ _ _ _ _ _ sl_str (pv 0) (@po_some _ _ _ pe_int) po_none) (by rfl) (by walk_at "lo"))) pss_nil) (@pss_cons _ _ _ _ _ (@ps_if _ _ _ _ _ _ _ _ (@PW.pt _ _ _ (@pw_or _ _ _ _ _ _ _ (@pt_cmpR _ _ _ _ _ _ _ _ (op_eqA hr.units0) (@pe_callB _ _ _ _ _ _ _ _ _ call_lenS rfl B.len PySem.boot_len (@pa_cons _ _ _ _ _ (pv 1) pa_nil (by rfl)) (by decide) (by decide) (by rfl) (by rfl)) pe_int (nomark _)) (@pw_or _ _ _ _ _ _ _ (@pt_cmpR _ _ _ _ _ _ _ _ op_gtI (@pe_callB _ _ _ _ _ _ _ _ _ call_lenS rfl B.len PySem.boot_len (@pa_cons _ _ _ _ _ (pv 1) pa_nil (by rfl)) (by decide) (by decide) (by rfl) (by rfl)) pe_int (nomark _)) (@pw_or1 _ _ _ _ (@PW.pt _ _ _ (@pw_and _ _ _ _ _ _ _ (@pt_cmpR _ _ _ _ _ _ _ _ (op_eqA hr.units0) (@pe_ix _ _ _ _ _ _ _ ix_str (pv 1) pe_int (fun _ _ => rfl)) pe_str (nomark _)) (@pw_and1 _ _ _ _ (@pt_cmpR _ _ _ _ _ _ _ _ (op_neA hr.units0) (pv 0) pe_str (nomark _))))))))) (@pss_one _ _ _ (@ps_ret _ _ _ _ pe_non)) pss_nil) (@pss_cons _ _ _ _ _ (@ps_set _ _ 2 _ _ _ _ nd rfl (Or.inl rfl) pe_int (by rfl) (by walk_at "lo")) (@pss_cons _ _ _ _ _ (@ps_for _ _ _ _ _ _ _ _ PassesOwn.never rfl (@pi_str _ _ _ _ (pv 1)) (@pg_name _ _ 3 _ nd rfl (Or.inl rfl) (by walk_at "lo")) (@pss_cons _ _ _ _ _ (@ps_if _ _ _ _ _ _ _ _ (@pt_cmpR _ _ _ _ _ _ _ _ op_notInS (pv 3) pe_str rfl) (@pss_one _ _ _ (@ps_ret _ _ _ _ pe_non)) pss_nil) (@pss_one _ _ _ (@ps_set _ _ 2 _ _ _ _ nd rfl (Or.inl rfl) (@pe_op _ _ _ _ _ _ _ _ op_addA (@pe_op _ _ _ _ _ _ _ _ op_mulA (pv 2) pe_int) (@pe_bm _ _ _ _ _ _ _ _ _ _ _ _ PySem.F.plainAttrs_str PySem.F.slot_str_find PySem.F.type_str_find mt_find pe_str (@pa_cons _ _ _ _ _ (pv 3) pa_nil (by rfl)) (by rfl) (by rfl) (by rfl) (by rfl) (by rfl))) (by rfl) (by walk_at "lo")))) (by intro _; rfl)) (@pss_consE _ _ _ _ _ (@ps_if _ _ _ _ _ _ _ _ (@pt_cmpR _ _ _ _ _ _ _ _ (op_eqA hr.units0) (@pe_slice _ _ _ _ _ _ _ _ _ _ sl_str (pv 0) po_none (@po_some _ _ _ pe_int)) pe_str (nomark _)) (@pss_one _ _ _ (@ps_set _ _ 2 _ _ _ _ nd rfl (Or.inl rfl) (@pe_op _ _ _ _ _ _ _ _ op_subI pe_int (pv 2)) (by rfl) (by walk_at "lo"))) pss_nil) (@pss_one _ _ _ (@ps_ret _ _ _ _ (pv 2))))))))), ?_⟩
  try dsimp only [cxOf, Cx.inH, Cx.tried]
  refine rd_start [some (.str t), none, none, none] rfl ?_
  walk_at "rd"
  refine rd_join (fun σ H' => H' = H ∧ σ = [some (.str t), some (.str (figs t)), none, none]) ?_ ?_
  · walk_at "rd"
    walk_at "ite"
    · rename_i c
      rw [minus_eq, first_is, ← minus_eq] at c
      walk_at "rd"
      exact ⟨rfl, by rw [show figs t = Txt.slice t (some 1) none from if_pos c]⟩
    · rename_i c
      rw [minus_eq, first_is, ← minus_eq] at c
      walk_at "rd"
      exact ⟨rfl, by rw [show figs t = t from if_neg c]⟩
  rintro σ H' ⟨rfl, rfl⟩
  walk_at "rd"
  walk_at "ite"
  · rename_i c
    have e : figs t = "" := Str.ext' (Array.toList_inj.mp (List.length_eq_zero_iff.mp (by rw [← len_cps]; omega)))
    walk_at "rd"
    rw [show numV t = .non from if_neg (by unfold isNum; rw [decide_eq_true e]; simp)] at q
    exact q
  rename_i c0
  walk_at "rd"
  walk_at "ite"
  · rename_i c
    walk_at "rd"
    rw [show numV t = .non from if_neg (by unfold isNum; rw [decide_eq_false (show ¬ (figs t).length ≤ 60 by omega), Bool.and_false]; simp)] at q
    exact q
  rename_i c1
  obtain ⟨d, r, hd⟩ : ∃ d r, (figs t).cps.toList = d :: r := by
    cases hz : (figs t).cps.toList with
    | nil => exact absurd (by rw [len_cps, hz]; rfl) c0
    | cons d r => exact ⟨d, r, rfl⟩
  have st : Txt.startswith (figs t) "0" = decide (d = 48) := by
    rw [zero_eq]
    by_cases hq : d = 48
    · rw [decide_eq_true hq]
      exact starts_one.mpr ⟨r, by rw [hd, hq]⟩
    · rw [decide_eq_false hq]
      refine Bool.eq_false_iff.mpr fun z => ?_
      obtain ⟨r', h'⟩ := starts_one.mp z
      rw [hd] at h'
      exact hq (List.cons.inj h').1
  have ne : ¬ figs t = "" := fun z => by
    rw [z] at hd
    cases hd
  have l60 : (figs t).length ≤ 60 := by omega
  have ei : isNum t = (allFig (figs t) && (decide (t = "0") || !decide (d = 48))) := by
    unfold isNum
    rw [decide_eq_false ne, decide_eq_true l60, st]
    rfl
  refine bothP (A := t = "0" ∨ ¬ d = 48) ?P ?hXa ?hXb
  case hXa =>
    intro hX
    walk_at "rd"
    refine rd_ixS d fz (by rw [hd]; exact atI_nat (j := 0) rfl) ?_
    walk_at "rd"
    walk_at "ite"
    · rename_i c
      have c : d = 48 := by
        rw [zero_eq] at c
        have := congrArg (fun x : Str => x.cps.toList) c
        exact (List.cons.inj this).1
      walk_at "rd"
      walk_at "ite"
      · rename_i c2
        walk_at "rd"
        rw [show numV t = .non from if_neg (by rw [ei, decide_eq_false c2, decide_eq_true c]; simp)] at q
        exact q
      · rename_i c2
        walk_at "rd"
        exact (hX (.inl c2)).out
    · rename_i c
      walk_at "rd"
      exact (hX (.inr fun z => c (by rw [z, zero_eq]))).out
  intro ok
  have ei2 : isNum t = allFig (figs t) := by
    rw [ei]
    rcases ok with z | z
    · rw [decide_eq_true z, Bool.true_or, Bool.and_true]
    · rw [decide_eq_false z, Bool.not_false, Bool.or_true, Bool.and_true]
  walk_at "rd"
  refine for_str (fun i σ H2 => H2 = H' ∧ (∀ c ∈ (figs t).cps.toList.take i, 48 ≤ c ∧ c ≤ 57) ∧ ∃ z : Option V, σ = [some (.str t), some (.str (figs t)), some (.int ((NumText.digitsVal ((figs t).cps.toList.take i) : Nat) : Int)), z]) ⟨rfl, fun c hc => by simp at hc, _, rfl⟩ ?_ ?_
  · rintro i c σ H' hc ⟨rfl, al, z, rfl⟩
    have c128 := Asc.at fa hc
    have hc' : (figs t).cps.toList[i]? = some c := by rw [Array.getElem?_toList]; exact hc
    walk_at "rd"
    rw [inS_fig c128]
    by_cases hf : 48 ≤ c ∧ c ≤ 57
    · rw [show (decide (48 ≤ c) && decide (c ≤ 57)) = true by rw [decide_eq_true hf.1, decide_eq_true hf.2]; rfl]
      have bd := digits_lt _ 0 0 al (by decide)
      have lt : ((figs t).cps.toList.take i).length ≤ 60 := by rw [List.length_take]; rw [len_cps] at l60; omega
      have bd2 : NumText.digitsVal ((figs t).cps.toList.take i) < 10 ^ 60 := Nat.lt_of_lt_of_le bd (Nat.pow_le_pow_right (by decide) (by omega))
      walk_at "rd"
      refine ⟨rfl, fun x hx => ?_, some (.str ⟨#[c]⟩), ?_⟩
      · rw [List.take_add_one, hc'] at hx
        rcases List.mem_append.mp hx with h | h
        · exact al x h
        · simp at h
          rw [h]
          exact hf
      · rw [List.take_add_one, hc']
        unfold NumText.digitsVal
        rw [List.foldl_append]
        rw [find_fig hf.1 hf.2]
        have h1 := hf.1
        have e : ∀ n : Nat, (n : Int) * 10 + ((c : Int) - 48) = ((n * 10 + (c - 48) : Nat) : Int) := fun n => by omega
        rw [e]
        rfl
    · have e : (decide (48 ≤ c) && decide (c ≤ 57)) = false := by
        by_cases h1 : 48 ≤ c
        · rw [decide_eq_false (show ¬ c ≤ 57 from fun z => hf ⟨h1, z⟩), Bool.and_false]
        · rw [decide_eq_false h1]
          rfl
      rw [e]
      walk_at "rd"
      have : allFig (figs t) = false := by
        unfold allFig
        refine List.all_eq_false.mpr ⟨c, List.mem_of_getElem? hc', ?_⟩
        rw [e]
        decide
      rw [show numV t = .non from if_neg (by rw [ei2, this]; decide)] at q
      exact q
  · rintro σ H' ⟨rfl, al, z, rfl⟩
    rw [show (figs t).cps.size = (figs t).cps.toList.length from rfl, List.take_length] at al ⊢
    have af : allFig (figs t) = true := by
      unfold allFig
      refine List.all_eq_true.mpr fun c hc => ?_
      have := al c hc
      rw [decide_eq_true this.1, decide_eq_true this.2]
      rfl
    have it : isNum t = true := by rw [ei2, af]
    have ev := isNum_val it
    rw [show numV t = .int (numOf t) from if_pos it] at q
    walk_at "rd"
    refine rd_join (fun σ H2 => H2 = H' ∧ ∃ z : Option V, σ = [some (.str t), some (.str (figs t)), some (.int (numOf t)), z]) ?_ ?_
    · walk_at "rd"
      walk_at "ite"
      · rename_i c
        rw [minus_eq, first_is, ← minus_eq] at c
        rw [if_pos c] at ev
        walk_at "rd"
        exact ⟨rfl, _, by rw [ev, show (0 : Int) - ((NumText.digitsVal (figs t).cps.toList : Nat) : Int) = -((NumText.digitsVal (figs t).cps.toList : Nat) : Int) by omega]⟩
      · rename_i c
        rw [minus_eq, first_is, ← minus_eq] at c
        rw [if_neg c] at ev
        walk_at "rd"
        exact ⟨rfl, _, by rw [ev]⟩
    rintro σ H2 ⟨rfl, z, rfl⟩
    walk_at "rd"
    exact q
def FR (t : Str) (H : Hp) (Q : VK) : Prop := (∀ a b, FracIs t a b → ∀ D H', Same H H' → H' D = some (.tup [.int a, .int b]) → Q (.ref D) H') ∧ ((∀ a b, ¬ FracIs t a b) → ∀ H', Same H H' → Q (.str "text") H')
def TR (t : Str) (H : Hp) (Q : VK) : Prop := (∀ a b c d, Four t a b c d → a * d - b * c = 1 → ∀ D H', Same H H' → Tab H' D a b c d → Q (.ref D) H') ∧ (∀ a b c d, Four t a b c d → a * d - b * c ≠ 1 → ∀ H', Same H H' → Q (.str "table") H') ∧ ((∀ a b c d, ¬ Four t a b c d) → ∀ H', Same H H' → Q (.str "text") H')
def WR (t : Str) (H : Hp) (Q : VK) : Prop := (∀ ws, RW t ws → ws.length ≤ 460 → ∀ D H', Same H H' → WordL H' D ws → Q (.ref D) H') ∧ ((∀ ws, ¬ RW t ws) → ∀ H', Same H H' → Q (.str "text") H')
theorem nums_map {ws : List Str} (h : ws.all isNum = true) : ws.map numV = (ws.map numOf).map V.int := by
  rw [List.map_map]
  exact List.map_congr_left fun w hw => if_pos (List.all_eq_true.mp h w hw)
theorem any_none (ws : List Str) : (ws.map fun w => !isNum w).any id = !ws.all isNum := by
  induction ws with
  | nil => rfl
  | cons w ws ih =>
    rw [List.map_cons, List.any_cons, ih, List.all_cons]
    cases isNum w <;> rfl
def spFO : Sp := fun vs H Q _ => ∃ t : Str, vs = [.str t] ∧ Tx t ∧ FR t H Q
theorem use_fo {t : Str} {H : Hp} {Q : VK} {E : XK} (h : Tx t) (q : FR t H Q) : spFO [.str t] H Q E := ⟨t, rfl, h, q⟩
theorem ok__law_fraction_of (F : Src K mg "_law_fraction_of" s__law_fraction_of ["_law_text"]) (B : Blt mg) (C : Cls K mg base) (R : Rel K mg base C) (Kc : Cst K mg) (D__law_number_of : Def P w K mg base (CXE P w) 1 "_law_number_of" ["_law_word"] spNumOf) (D__law_lowest : Def P w K mg base (CXE P w) 2 "_law_lowest" ["_law_top", "_law_bottom"] spLw) : Def P w K mg base (CXE P w) 3 "_law_fraction_of" ["_law_text"] spFO := by
  refine F.ok (CX := CXE P w) (k := 2) sc__law_fraction_of (fun vs H Q E h => ?_) (fun f cdv A outer s H vs Q E hr h => ?_)
  · obtain ⟨_, rfl, _⟩ := h
    rfl
  have nd := sc__law_fraction_of.nd
  obtain ⟨t, rfl, tx, q1, q0⟩ := h
  have tz := tx.sz
  have ok := tx.ok 47
  rw [← sl_eq] at ok
  refine ⟨_, (@pss_cons _ _ _ _ _ (@ps_setC _ 1 _ _ _ _ _ _ _ _ _ _ _ [] [] rfl (@PI.or _ _ _ _ _ (@pi_list _ _ _ _ (@pe_bm _ _ _ _ _ _ _ _ _ _ _ _ PySem.F.plainAttrs_str PySem.F.slot_str_split PySem.F.type_str_split mt_split (pv 0) (@pa_cons _ _ _ _ _ pe_str pa_nil (by rfl)) (by rfl) (by rfl) (by rfl) (by rfl) (by rfl))) (@pi_tup _ _ _ _ (@pe_bm _ _ _ _ _ _ _ _ _ _ _ _ PySem.F.plainAttrs_str PySem.F.slot_str_split PySem.F.type_str_split mt_split (pv 0) (@pa_cons _ _ _ _ _ pe_str pa_nil (by rfl)) (by rfl) (by rfl) (by rfl) (by rfl) (by rfl)))) (fun pins cl ex s H => (@pe_defS _ _ _ _ _ _ _ _ _ _ _ D__law_number_of (hr.mono (by decide)) rfl xpass_wn (@pa_cons _ _ _ _ _ (pv 0) pa_nil (by rfl)) (by decide) (by rfl) (by rfl))) rfl rfl rfl (by decide +kernel) (by decide +kernel) rfl (by decide +kernel) rfl (by decide +kernel) nd rfl (Or.inl rfl) (by rfl) (by walk_at "lo") (by intro _; rfl)) (@pss_cons _ _ _ _ _ (@ps_if _ _ _ _ _ _ _ _ (@PW.pt _ _ _ (@pw_or _ _ _ _ _ _ _ (@pt_cmpR _ _ _ _ _ _ _ _ op_gtI (@pe_callB _ _ _ _ _ _ _ _ _ call_lenA rfl B.len PySem.boot_len (@pa_cons _ _ _ _ _ (pv 1) pa_nil (by rfl)) (by decide) (by decide) (by rfl) (by rfl)) pe_int (nomark _)) (@pw_or1 _ _ _ _ (@pt_val _ _ _ (@pe_callB _ _ _ _ _ _ _ _ _ (call_anyB rfl) rfl B.any PyProof.Rows.boot_any (@pa_cons _ _ _ _ _ (@pe_comp _ _ _ _ _ _ _ _ _ rfl (@PI.or _ _ _ _ _ (@pi_list _ _ _ _ (pv 1)) (@pi_tup _ _ _ _ (pv 1))) (fun pins ex s H => (@pe_cmpR _ _ _ _ _ _ _ _ op_isNn (pv 0) pe_non (nomark _))) (by decide +kernel) (by decide +kernel) rfl (by decide +kernel) rfl (by intro _; rfl)) pa_nil (by rfl)) (by decide) (by decide) (by rfl) (by rfl)) (by intro _; rfl))))) (@pss_one _ _ _ (@ps_ret _ _ _ _ pe_str)) pss_nil) (@pss_cons _ _ _ _ _ (@ps_if _ _ _ _ _ _ _ _ (@pt_cmpR _ _ _ _ _ _ _ _ (op_eqA hr.units0) (@pe_callB _ _ _ _ _ _ _ _ _ call_lenA rfl B.len PySem.boot_len (@pa_cons _ _ _ _ _ (pv 1) pa_nil (by rfl)) (by decide) (by decide) (by rfl) (by rfl)) pe_int (nomark _)) (@pss_one _ _ _ (@ps_ret _ _ _ _ (@pe_tup _ _ _ _ _ (@pa_cons _ _ _ _ _ (@pe_ix _ _ _ _ _ _ _ ix_A (pv 1) pe_int (fun _ _ => rfl)) (@pa_cons _ _ _ _ _ pe_int pa_nil (by rfl)) (by rfl))))) pss_nil) (@pss_cons _ _ _ _ _ (@ps_if _ _ _ _ _ _ _ _ (@pt_cmpR _ _ _ _ _ _ _ _ op_ltI (@pe_ix _ _ _ _ _ _ _ ix_A (pv 1) pe_int (fun _ _ => rfl)) pe_int (nomark _)) (@pss_one _ _ _ (@ps_ret _ _ _ _ pe_str)) pss_nil) (@pss_one _ _ _ (@ps_ret _ _ _ _ (@pe_defS _ _ _ _ _ _ _ _ _ _ _ D__law_lowest (hr.mono (by decide)) rfl xpass_nox (@pa_cons _ _ _ _ _ (@pe_ix _ _ _ _ _ _ _ ix_A (pv 1) pe_int (fun _ _ => rfl)) (@pa_cons _ _ _ _ _ (@pe_ix _ _ _ _ _ _ _ ix_A (pv 1) pe_int (fun _ _ => rfl)) pa_nil (by rfl)) (by rfl)) (by decide) (by rfl) (by rfl)))))))), ?_⟩
  try dsimp only [cxOf, Cx.inH, Cx.tried]
  refine rd_start [some (.str t), none] rfl ?_
  walk_at "rd"
  refine rd_compFL [] rfl ?_
  walk_at "rd"
  refine rd_split (by decide +kernel) tz _ rfl (Nat.le_trans ok.1 (by decide)) fun D H1 s1 n1 e1 => ?_
  generalize hps : Txt.split t "/" = ps at *
  walk_at "rd"
  refine rd_kCompFL (fun x => match x with | .str w => numV w | _ => .non) (SqL.of e1) (by rw [List.length_map]; exact ok.1) (fun x H' Q' hx s' hQ => ?_) fun D2 H2 s2 n2 e2 => ?_
  · obtain ⟨w, hw, rfl⟩ := List.mem_map.mp hx
    obtain ⟨a1, a2⟩ := ok.2 w hw
    walk_at "rd"
    exact use_numof a1 a2 (hQ _ (Same.refl _))
  have e2 : H2 D2 = some (.lst (ps.map numV)) := by
    rw [List.map_map] at e2
    exact e2
  have l2 : (ps.map numV).length = ps.length := List.length_map _
  have s12 := s1.trans s2
  walk_at "rd"
  walk_at "ite"
  · rename_i c
    walk_at "rd"
    refine q0 (fun a b f => ?_) _ s12
    obtain ⟨_, ⟨f, _⟩ | ⟨u, v, f, v1, _⟩⟩ := f
    · rw [hps] at f
      have := congrArg List.length f
      rw [List.length_map] at this
      simp at this
      omega
    · rw [hps] at f
      have := congrArg List.length f
      rw [List.length_map] at this
      simp at this
      omega
  rename_i c
  walk_at "rd"
  refine rd_compL ?_
  walk_at "rd"
  refine rd_kCompL (ps.map fun w => V.bl (!isNum w)) (SqL.of e2) (by rw [List.length_map, List.length_map]) (by rw [List.length_map]; exact ok.1) (fun i x y H' Q' hx hy s' hQ => ?_) fun D3 H3 s3 n3 e3 => ?_
  · rw [List.getElem?_map] at hx hy
    cases hw : ps[i]? with
    | none => rw [hw] at hx; cases hx
    | some w =>
    rw [hw] at hx hy
    cases hx
    cases hy
    cases hn : isNum w
    · rw [show numV w = .non from if_neg (by rw [hn]; decide)]
      have hQ := hQ _ (Same.refl _)
      dsimp only at hQ
      rw [hn] at hQ
      walk_at "rd"
      exact hQ
    · rw [show numV w = .int (numOf w) from if_pos hn]
      have hQ := hQ _ (Same.refl _)
      dsimp only at hQ
      rw [hn] at hQ
      walk_at "rd"
      exact hQ
  have s13 := s12.trans s3
  walk_at "rd"
  refine rd_anyL (bs := ps.map fun w => !isNum w) (SqL.of (by rw [List.map_map]; exact e3)) ?_
  rw [any_none]
  cases al : ps.all isNum
  · walk_at "rd"
    refine q0 (fun a b f => ?_) _ s13
    have := f.1
    rw [hps, al] at this
    cases this
  rw [nums_map al] at e2
  have nb := nums_lt al rfl
  generalize hns : ps.map numOf = ns at *
  have e3 := s3.obj e2
  have lns : ns.length = ps.length := by rw [← hns, List.length_map]
  have hl : (ns.map V.int).length = ns.length := List.length_map _
  walk_at "rd"
  walk_at "ite"
  · rename_i c1
    obtain ⟨a, rfl⟩ : ∃ a, ns = [a] := List.length_eq_one_iff.mp (by omega)
    walk_at "rd"
    rename_i t5 H5 s5 n5 e5
    exact q1 a 1 ⟨by rw [hps]; exact al, .inl ⟨by rw [hps]; exact hns, rfl⟩⟩ t5 H5 (s13.trans s5) e5
  rename_i c1
  have ne : ps ≠ [] := fun z => by
    rw [z, sl_eq] at hps
    exact absurd hps (split_ne t 47)
  have : 1 ≤ ps.length := by
    cases ps with
    | nil => exact absurd rfl ne
    | cons _ _ => simp
  obtain ⟨a, b, rfl⟩ : ∃ a b, ns = [a, b] := by
    match ns, (show ns.length = 2 by omega) with
    | [a, b], _ => exact ⟨a, b, rfl⟩
  have b6 := nb b (by simp)
  walk_at "rd"
  walk_at "ite"
  · rename_i c2
    walk_at "rd"
    refine q0 (fun x y f => ?_) _ s13
    obtain ⟨_, ⟨f, _⟩ | ⟨u, v, f, v1, _⟩⟩ := f
    · rw [hps, hns] at f
      cases f
    · rw [hps, hns] at f
      cases f
      omega
  rename_i c2
  walk_at "rd"
  refine use_lw (Nat.lt_trans b6 (by decide)) (by omega) fun r5 H5 s5 n5 e5 => ?_
  exact q1 _ _ ⟨by rw [hps]; exact al, .inr ⟨a, b, by rw [hps]; exact hns, by omega, rfl, rfl⟩⟩ r5 H5 (s13.trans s5) e5
def spTO : Sp := fun vs H Q _ => ∃ t : Str, vs = [.str t] ∧ Tx t ∧ TR t H Q
theorem use_to {t : Str} {H : Hp} {Q : VK} {E : XK} (h : Tx t) (q : TR t H Q) : spTO [.str t] H Q E := ⟨t, rfl, h, q⟩
theorem ok__law_table_of (F : Src K mg "_law_table_of" s__law_table_of ["_law_text"]) (B : Blt mg) (C : Cls K mg base) (R : Rel K mg base C) (Kc : Cst K mg) (D__law_number_of : Def P w K mg base (CXE P w) 1 "_law_number_of" ["_law_word"] spNumOf) : Def P w K mg base (CXE P w) 2 "_law_table_of" ["_law_text"] spTO := by
  refine F.ok (CX := CXE P w) (k := 1) sc__law_table_of (fun vs H Q E h => ?_) (fun f cdv A outer s H vs Q E hr h => ?_)
  · obtain ⟨_, rfl, _⟩ := h
    rfl
  have nd := sc__law_table_of.nd
  obtain ⟨t, rfl, tx, q1, q2, q0⟩ := h
  have tz := tx.sz
  have ok := tx.ok 32
  rw [← sp_eq] at ok
  refine ⟨_, (@pss_cons _ _ _ _ _ (@ps_setC _ 1 _ _ _ _ _ _ _ _ _ _ _ [] [] rfl (@PI.or _ _ _ _ _ (@pi_list _ _ _ _ (@pe_bm _ _ _ _ _ _ _ _ _ _ _ _ PySem.F.plainAttrs_str PySem.F.slot_str_split PySem.F.type_str_split mt_split (pv 0) (@pa_cons _ _ _ _ _ pe_str pa_nil (by rfl)) (by rfl) (by rfl) (by rfl) (by rfl) (by rfl))) (@pi_tup _ _ _ _ (@pe_bm _ _ _ _ _ _ _ _ _ _ _ _ PySem.F.plainAttrs_str PySem.F.slot_str_split PySem.F.type_str_split mt_split (pv 0) (@pa_cons _ _ _ _ _ pe_str pa_nil (by rfl)) (by rfl) (by rfl) (by rfl) (by rfl) (by rfl)))) (fun pins cl ex s H => (@pe_defS _ _ _ _ _ _ _ _ _ _ _ D__law_number_of (hr.mono (by decide)) rfl xpass_wn (@pa_cons _ _ _ _ _ (pv 0) pa_nil (by rfl)) (by decide) (by rfl) (by rfl))) rfl rfl rfl (by decide +kernel) (by decide +kernel) rfl (by decide +kernel) rfl (by decide +kernel) nd rfl (Or.inl rfl) (by rfl) (by walk_at "lo") (by intro _; rfl)) (@pss_cons _ _ _ _ _ (@ps_if _ _ _ _ _ _ _ _ (@PW.pt _ _ _ (@pw_or _ _ _ _ _ _ _ (@pt_cmpR _ _ _ _ _ _ _ _ (op_neA hr.units0) (@pe_callB _ _ _ _ _ _ _ _ _ call_lenA rfl B.len PySem.boot_len (@pa_cons _ _ _ _ _ (pv 1) pa_nil (by rfl)) (by decide) (by decide) (by rfl) (by rfl)) pe_int (nomark _)) (@pw_or1 _ _ _ _ (@pt_val _ _ _ (@pe_callB _ _ _ _ _ _ _ _ _ (call_anyB rfl) rfl B.any PyProof.Rows.boot_any (@pa_cons _ _ _ _ _ (@pe_comp _ _ _ _ _ _ _ _ _ rfl (@PI.or _ _ _ _ _ (@pi_list _ _ _ _ (pv 1)) (@pi_tup _ _ _ _ (pv 1))) (fun pins ex s H => (@pe_cmpR _ _ _ _ _ _ _ _ op_isNn (pv 0) pe_non (nomark _))) (by decide +kernel) (by decide +kernel) rfl (by decide +kernel) rfl (by intro _; rfl)) pa_nil (by rfl)) (by decide) (by decide) (by rfl) (by rfl)) (by intro _; rfl))))) (@pss_one _ _ _ (@ps_ret _ _ _ _ pe_str)) pss_nil) (@pss_cons _ _ _ _ _ (@ps_if _ _ _ _ _ _ _ _ (@pt_cmpR _ _ _ _ _ _ _ _ (op_neA hr.units0) (@pe_op _ _ _ _ _ _ _ _ op_subI (@pe_op _ _ _ _ _ _ _ _ op_mulA (@pe_ix _ _ _ _ _ _ _ ix_A (pv 1) pe_int (fun _ _ => rfl)) (@pe_ix _ _ _ _ _ _ _ ix_A (pv 1) pe_int (fun _ _ => rfl))) (@pe_op _ _ _ _ _ _ _ _ op_mulA (@pe_ix _ _ _ _ _ _ _ ix_A (pv 1) pe_int (fun _ _ => rfl)) (@pe_ix _ _ _ _ _ _ _ ix_A (pv 1) pe_int (fun _ _ => rfl)))) pe_int (nomark _)) (@pss_one _ _ _ (@ps_ret _ _ _ _ pe_str)) pss_nil) (@pss_one _ _ _ (@ps_ret _ _ _ _ (@pe_tup _ _ _ _ _ (@pa_cons _ _ _ _ _ (@pe_tup _ _ _ _ _ (@pa_cons _ _ _ _ _ (@pe_ix _ _ _ _ _ _ _ ix_A (pv 1) pe_int (fun _ _ => rfl)) (@pa_cons _ _ _ _ _ (@pe_ix _ _ _ _ _ _ _ ix_A (pv 1) pe_int (fun _ _ => rfl)) pa_nil (by rfl)) (by rfl))) (@pa_cons _ _ _ _ _ (@pe_tup _ _ _ _ _ (@pa_cons _ _ _ _ _ (@pe_ix _ _ _ _ _ _ _ ix_A (pv 1) pe_int (fun _ _ => rfl)) (@pa_cons _ _ _ _ _ (@pe_ix _ _ _ _ _ _ _ ix_A (pv 1) pe_int (fun _ _ => rfl)) pa_nil (by rfl)) (by rfl))) pa_nil (by rfl)) (by rfl)))))))), ?_⟩
  try dsimp only [cxOf, Cx.inH, Cx.tried]
  refine rd_start [some (.str t), none] rfl ?_
  walk_at "rd"
  refine rd_compFL [] rfl ?_
  walk_at "rd"
  refine rd_split (by decide +kernel) tz _ rfl (Nat.le_trans ok.1 (by decide)) fun D H1 s1 n1 e1 => ?_
  generalize hps : Txt.split t " " = ps at *
  walk_at "rd"
  refine rd_kCompFL (fun x => match x with | .str w => numV w | _ => .non) (SqL.of e1) (by rw [List.length_map]; exact ok.1) (fun x H' Q' hx s' hQ => ?_) fun D2 H2 s2 n2 e2 => ?_
  · obtain ⟨w, hw, rfl⟩ := List.mem_map.mp hx
    obtain ⟨a1, a2⟩ := ok.2 w hw
    walk_at "rd"
    exact use_numof a1 a2 (hQ _ (Same.refl _))
  have e2 : H2 D2 = some (.lst (ps.map numV)) := by
    rw [List.map_map] at e2
    exact e2
  have l2 : (ps.map numV).length = ps.length := List.length_map _
  have s12 := s1.trans s2
  walk_at "rd"
  walk_at "ite"
  · rename_i c
    walk_at "rd"
    refine q0 (fun a b c d f => ?_) _ s12
    have f := f.2
    rw [hps] at f
    have := congrArg List.length f
    rw [List.length_map] at this
    simp at this
    omega
  rename_i c
  walk_at "rd"
  refine rd_compL ?_
  walk_at "rd"
  refine rd_kCompL (ps.map fun w => V.bl (!isNum w)) (SqL.of e2) (by rw [List.length_map, List.length_map]) (by rw [List.length_map]; exact ok.1) (fun i x y H' Q' hx hy s' hQ => ?_) fun D3 H3 s3 n3 e3 => ?_
  · rw [List.getElem?_map] at hx hy
    cases hw : ps[i]? with
    | none => rw [hw] at hx; cases hx
    | some w =>
    rw [hw] at hx hy
    cases hx
    cases hy
    cases hn : isNum w
    · rw [show numV w = .non from if_neg (by rw [hn]; decide)]
      have hQ := hQ _ (Same.refl _)
      dsimp only at hQ
      rw [hn] at hQ
      walk_at "rd"
      exact hQ
    · rw [show numV w = .int (numOf w) from if_pos hn]
      have hQ := hQ _ (Same.refl _)
      dsimp only at hQ
      rw [hn] at hQ
      walk_at "rd"
      exact hQ
  have s13 := s12.trans s3
  walk_at "rd"
  refine rd_anyL (bs := ps.map fun w => !isNum w) (SqL.of (by rw [List.map_map]; exact e3)) ?_
  rw [any_none]
  cases al : ps.all isNum
  · walk_at "rd"
    refine q0 (fun a b c d f => ?_) _ s13
    have := f.1
    rw [hps, al] at this
    cases this
  rw [nums_map al] at e2
  generalize hns : ps.map numOf = ns at *
  have e3 := s3.obj e2
  have lns : ns.length = ps.length := by rw [← hns, List.length_map]
  obtain ⟨a, b, c', d, rfl⟩ : ∃ a b c d, ns = [a, b, c, d] := by
    match ns, (show ns.length = 4 by omega) with
    | [a, b, c, d], _ => exact ⟨a, b, c, d, rfl⟩
  have F : Four t a b c' d := ⟨by rw [hps]; exact al, by rw [hps]; exact hns⟩
  obtain ⟨k1, k2, k3, k4⟩ := F.lt
  walk_at "rd"
  walk_at "ite"
  · rename_i c2
    walk_at "rd"
    exact q2 a b c' d F c2 _ s13
  rename_i c2
  walk_at "rd"
  rename_i p1 H4 s4 n4 e4 p2 H5 s5 n5 e5 p3 H6 s6 n6 e6
  exact q1 a b c' d F c2 p3 H6 (s13.trans (s4.trans (s5.trans s6))) ⟨p1, p2, e6, (s5.trans s6).obj e4, s6.obj e5⟩
theorem RW.uniq {t : Str} {ws us : List (Bool × Int)} (h1 : RW t ws) (h2 : RW t us) : ws = us := by
  rcases h1 with ⟨e, rfl⟩ | ⟨n1, r1, _⟩
  · rcases h2 with ⟨_, rfl⟩ | ⟨n2, _⟩
    · rfl
    · exact absurd e n2
  · rcases h2 with ⟨e, _⟩ | ⟨_, r2, _⟩
    · exact absurd e n1
    · have l1 := r1.1
      have l2 := r2.1
      apply List.ext_getElem?
      intro i
      by_cases hi : i < ws.length
      · obtain ⟨p, hp⟩ : ∃ p, ws[i]? = some p := ⟨_, List.getElem?_eq_getElem hi⟩
        obtain ⟨q, hq⟩ : ∃ q, us[i]? = some q := ⟨_, List.getElem?_eq_getElem (by omega)⟩
        obtain ⟨a1, n, a2, _, a3, _⟩ := r1.2 i p hp
        obtain ⟨b1, m, b2, _, b3, _⟩ := r2.2 i q hq
        rw [a1] at b1
        rw [a2] at b2
        cases b2
        rw [hp, hq]
        obtain ⟨x, y⟩ := p
        obtain ⟨x', y'⟩ := q
        have ex : ltr x = ltr x' := Option.some.inj b1
        have e : x = x' := by cases x <;> cases x' <;> first | rfl | exact absurd ex (by decide)
        have e2 : y = y' := a3.symm.trans b3
        rw [e, e2]
      · rw [List.getElem?_eq_none (by omega), List.getElem?_eq_none (by omega)]
theorem ltr_mem {u : Str} : u ∈ ([Str.ofString "u", Str.ofString "v"] : List Str) ↔ ∃ b, u = ltr b := by
  constructor
  · intro h
    simp only [List.mem_cons, List.not_mem_nil, or_false] at h
    rcases h with rfl | rfl
    · exact ⟨true, rfl⟩
    · exact ⟨false, rfl⟩
  · rintro ⟨b, rfl⟩
    cases b <;> simp [ltr]
def spWO : Sp := fun vs H Q _ => ∃ t : Str, vs = [.str t] ∧ Tx t ∧ WR t H Q
theorem use_wo {t : Str} {H : Hp} {Q : VK} {E : XK} (h : Tx t) (q : WR t H Q) : spWO [.str t] H Q E := ⟨t, rfl, h, q⟩
theorem ok__law_word_of (F : Src K mg "_law_word_of" s__law_word_of ["_law_text"]) (B : Blt mg) (C : Cls K mg base) (R : Rel K mg base C) (Kc : Cst K mg) (D__law_number_of : Def P w K mg base (CXE P w) 1 "_law_number_of" ["_law_word"] spNumOf) : Def P w K mg base (CXE P w) 2 "_law_word_of" ["_law_text"] spWO := by
  refine F.ok (CX := CXE P w) (k := 1) sc__law_word_of (fun vs H Q E h => ?_) (fun f cdv A outer s H vs Q E hr h => ?_)
  · obtain ⟨_, rfl, _⟩ := h
    rfl
  have nd := sc__law_word_of.nd
  obtain ⟨t, rfl, tx, q1, q0⟩ := h
  have tz := tx.sz
  have ok := tx.ok 32
  have pl := split_len t 32
  rw [← sp_eq] at ok pl
  have tl := tx.2
  refine ⟨_, (@pss_cons _ _ _ _ _ (@ps_set _ _ 1 _ _ _ _ nd rfl (Or.inl rfl) (@pe_bm _ _ _ _ _ _ _ _ _ _ _ _ PySem.F.plainAttrs_str PySem.F.slot_str_split PySem.F.type_str_split mt_split (pv 0) (@pa_cons _ _ _ _ _ pe_str pa_nil (by rfl)) (by rfl) (by rfl) (by rfl) (by rfl) (by rfl)) (by rfl) (by walk_at "lo")) (@pss_cons _ _ _ _ _ (@ps_set _ _ 2 _ _ _ _ nd rfl (Or.inl rfl) (@pe_lst _ _ _ _ pa_nil) (by rfl) (by walk_at "lo")) (@pss_cons _ _ _ _ _ (@ps_if _ _ _ _ _ _ _ _ (@pt_cmpR _ _ _ _ _ _ _ _ (op_eqA hr.units0) (pv 0) pe_str (nomark _)) (@pss_one _ _ _ (@ps_ret _ _ _ _ (pv 2))) pss_nil) (@pss_cons _ _ _ _ _ (@ps_if _ _ _ _ _ _ _ _ (@pt_cmpR _ _ _ _ _ _ _ _ (op_eqA hr.units0) (@pe_op _ _ _ _ _ _ _ _ op_modA (@pe_callB _ _ _ _ _ _ _ _ _ call_lenA rfl B.len PySem.boot_len (@pa_cons _ _ _ _ _ (pv 1) pa_nil (by rfl)) (by decide) (by decide) (by rfl) (by rfl)) pe_int) pe_int (nomark _)) (@pss_one _ _ _ (@ps_ret _ _ _ _ pe_str)) pss_nil) (@pss_cons _ _ _ _ _ (@ps_for _ _ _ _ _ _ _ _ PassesOwn.never rfl (@pi_range1 _ _ _ _ _ _ rfl B.range (@pa_cons _ _ _ _ _ (@pe_op _ _ _ _ _ _ _ _ op_divA (@pe_callB _ _ _ _ _ _ _ _ _ call_lenA rfl B.len PySem.boot_len (@pa_cons _ _ _ _ _ (pv 1) pa_nil (by rfl)) (by decide) (by decide) (by rfl) (by rfl)) pe_int) pa_nil (by rfl)) (by rfl)) (@pg_name _ _ 3 _ nd rfl (Or.inl rfl) (by walk_at "lo")) (@pss_cons _ _ _ _ _ (@ps_set _ _ 4 _ _ _ _ nd rfl (Or.inl rfl) (@pe_defS _ _ _ _ _ _ _ _ _ _ _ D__law_number_of (hr.mono (by decide)) rfl xpass_nox (@pa_cons _ _ _ _ _ (@pe_ix _ _ _ _ _ _ _ ix_A (pv 1) (@pe_op _ _ _ _ _ _ _ _ op_addA (@pe_op _ _ _ _ _ _ _ _ op_mulA pe_int (pv 3)) pe_int) (fun _ _ => rfl)) pa_nil (by rfl)) (by decide) (by rfl) (by rfl)) (by rfl) (by walk_at "lo")) (@pss_cons _ _ _ _ _ (@ps_if _ _ _ _ _ _ _ _ (@PW.pt _ _ _ (@pw_or _ _ _ _ _ _ _ (@pt_cmpR _ _ _ _ _ _ _ _ op_notIn_seq (@pe_ix _ _ _ _ _ _ _ ix_A (pv 1) (@pe_op _ _ _ _ _ _ _ _ op_mulA pe_int (pv 3)) (fun _ _ => rfl)) (@pe_tup _ _ _ _ _ (@pa_cons _ _ _ _ _ pe_str (@pa_cons _ _ _ _ _ pe_str pa_nil (by rfl)) (by rfl))) rfl) (@pw_or _ _ _ _ _ _ _ (@pt_cmpR _ _ _ _ _ _ _ _ op_isNn (pv 4) pe_non (nomark _)) (@pw_or1 _ _ _ _ (@pt_cmpR _ _ _ _ _ _ _ _ op_ltI (pv 4) pe_int (nomark _)))))) (@pss_one _ _ _ (@ps_ret _ _ _ _ pe_str)) pss_nil) (@pss_cons _ _ _ _ _ (@ps_if _ _ _ _ _ _ _ _ (@PW.pt _ _ _ (@pw_and _ _ _ _ _ _ _ (@pt_cmpR _ _ _ _ _ _ _ _ op_gtI (pv 3) pe_int (nomark _)) (@pw_and1 _ _ _ _ (@pt_cmpR _ _ _ _ _ _ _ _ (op_eqA hr.units0) (@pe_ix _ _ _ _ _ _ _ ix_A (pv 1) (@pe_op _ _ _ _ _ _ _ _ op_mulA pe_int (pv 3)) (fun _ _ => rfl)) (@pe_ix _ _ _ _ _ _ _ ix_A (pv 1) (@pe_op _ _ _ _ _ _ _ _ op_subI (@pe_op _ _ _ _ _ _ _ _ op_mulA pe_int (pv 3)) pe_int) (fun _ _ => rfl)) (nomark _))))) (@pss_one _ _ _ (@ps_ret _ _ _ _ pe_str)) pss_nil) (@pss_one _ _ _ (@ps_expr _ _ _ _ (@pe_bm _ _ _ _ _ _ _ _ _ _ _ _ PySem.F.plainAttrs_list PySem.F.slot_list_append PySem.F.type_list_append mt_append (pv 2) (@pa_cons _ _ _ _ _ (@pe_tup _ _ _ _ _ (@pa_cons _ _ _ _ _ (@pe_ix _ _ _ _ _ _ _ ix_A (pv 1) (@pe_op _ _ _ _ _ _ _ _ op_mulA pe_int (pv 3)) (fun _ _ => rfl)) (@pa_cons _ _ _ _ _ (pv 4) pa_nil (by rfl)) (by rfl))) pa_nil (by rfl)) (by rfl) (by rfl) (by rfl) (by rfl) (by rfl)) (by rfl)))))) (by intro _; rfl)) (@pss_one _ _ _ (@ps_ret _ _ _ _ (pv 2)))))))), ?_⟩
  try dsimp only [cxOf, Cx.inH, Cx.tried]
  refine rd_start [some (.str t), none, none, none, none] rfl ?_
  walk_at "rd"
  refine rd_split (by decide +kernel) tz _ rfl (Nat.le_trans ok.1 (by decide)) fun D H1 s1 n1 e1 => ?_
  generalize hps : Txt.split t " " = ps at *
  have lps : (ps.map V.str).length = ps.length := List.length_map _
  walk_at "rd"
  rename_i F H2 s2 nF eF
  walk_at "ite"
  · rename_i c
    walk_at "rd"
    exact q1 [] (.inl ⟨c, rfl⟩) (by decide) F H2 (s1.trans s2) (WordL.nil eF)
  rename_i cn
  have e12 := s2.obj e1
  walk_at "rd"
  walk_at "ite"
  · rename_i c
    walk_at "rd"
    refine q0 (fun ws r => ?_) H2 (s1.trans s2)
    rcases r with ⟨r, _⟩ | ⟨_, r, _⟩
    · exact cn r
    · rw [hps] at r
      have := r.1
      omega
  rename_i c2
  obtain ⟨m, hm⟩ : ∃ m, ps.length = 2 * m := ⟨ps.length / 2, by omega⟩
  walk_at "rd"
  refine for_range (n := (((ps.map V.str).length : Int) / 2).toNat) (fun i σ H' => Same H1 H' ∧ i ≤ m ∧ ∃ (z1 z2 : Option V) (ws : List (Bool × Int)), σ = [some (.str t), some (.ref D), some (.ref F), z1, z2] ∧ WordL H' F ws ∧ ws.length = i ∧ Mth.Alt ws ∧ ∀ (j : Nat) p, ws[j]? = some p → ps[2 * j]? = some (ltr p.1) ∧ ∃ n, ps[2 * j + 1]? = some n ∧ isNum n = true ∧ numOf n = p.2 ∧ 1 ≤ p.2) ⟨s2, Nat.zero_le _, _, _, [], rfl, WordL.nil eF, rfl, fun j x y h => by simp at h, fun j p h => by simp at h⟩ ?_ ?_
  · rintro i σ Ha hi ⟨sa, _, z1, z2, ws, rfl, ⟨as, eFa, la, T⟩, hl, alt, hw⟩
    have him : i < m := by omega
    have e1a := sa.obj e1
    have bad : ∀ G : Prop, (∀ us, Runs ps us → Mth.Alt us → ∀ p, us[i]? = some p → ps[2 * i]? = some (ltr p.1) → ∀ n, ps[2 * i + 1]? = some n → isNum n = true → numOf n = p.2 → 1 ≤ p.2 → False) → ∀ us, ¬ RW t us := fun G h us r => by
      rcases r with ⟨r, _⟩ | ⟨_, r, al⟩
      · exact cn r
      · rw [hps] at r
        have := r.1
        obtain ⟨p, hp⟩ : ∃ p, us[i]? = some p := ⟨_, List.getElem?_eq_getElem (by omega)⟩
        obtain ⟨x1, n, x2, x3, x4, x5⟩ := r.2 i p hp
        exact h us r al p hp x1 n x2 x3 x4 x5
    walk_at "rd"
    refine rd_ixStr (SqL.of e1a) (by omega) (by omega) fun v hv => ?_
    rw [show (2 * (0 + (i : Int)) + 1).toNat = 2 * i + 1 by omega] at hv
    obtain ⟨a1, a2⟩ := ok.2 v (List.mem_of_getElem? hv)
    walk_at "rd"
    refine use_numof a1 a2 ?_
    walk_at "rd"
    refine rd_ixStr (SqL.of e1a) (by omega) (by omega) fun u hu => ?_
    rw [show (2 * (0 + (i : Int))).toNat = 2 * i by omega] at hu
    walk_at "rd"
    rename_i T1 Hb sb nT1 eT1
    refine rd_ninTs ["u", "v"] (SqT.of eT1) ?_
    by_cases hu1 : u ∈ ([Str.ofString "u", Str.ofString "v"] : List Str)
    rotate_left
    · rw [decide_eq_false hu1]
      walk_at "rd"
      refine q0 (bad True fun us r al p hp x1 n x2 x3 x4 x5 => hu1 ?_) Hb (s1.trans (sa.trans sb))
      rw [hu] at x1
      cases x1
      exact ltr_mem.mpr ⟨_, rfl⟩
    rw [decide_eq_true hu1]
    obtain ⟨b, rfl⟩ := ltr_mem.mp hu1
    cases hn : isNum v
    · rw [show numV v = .non from if_neg (by rw [hn]; decide)]
      walk_at "rd"
      refine q0 (bad True fun us r al p hp x1 n x2 x3 x4 x5 => ?_) Hb (s1.trans (sa.trans sb))
      rw [hv] at x2
      cases x2
      rw [hn] at x3
      cases x3
    rw [show numV v = .int (numOf v) from if_pos hn]
    walk_at "rd"
    walk_at "ite"
    · rename_i c3
      walk_at "rd"
      refine q0 (bad True fun us r al p hp x1 n x2 x3 x4 x5 => ?_) Hb (s1.trans (sa.trans sb))
      rw [hv] at x2
      cases x2
      omega
    rename_i c3
    have e1b := sb.obj e1a
    refine bothP (A := ∀ p, ws[i - 1]? = some p → 0 < i → p.1 ≠ b) ?P ?hXa ?hXb
    case hXa =>
      intro hX
      walk_at "rd"
      walk_at "ite"
      · rename_i c4
        have i1 : 1 ≤ i := by omega
        walk_at "rd"
        refine rd_ixStr (SqL.of e1b) (by omega) (by omega) fun u1 hu1' => ?_
        rw [show (2 * (0 + (i : Int))).toNat = 2 * i by omega, hu] at hu1'
        cases hu1'
        walk_at "rd"
        refine rd_ixStr (SqL.of e1b) (by omega) (by omega) fun u2 hu2 => ?_
        rw [show (2 * (0 + (i : Int)) - 2).toNat = 2 * (i - 1) by omega] at hu2
        obtain ⟨p, hp⟩ : ∃ p, ws[i - 1]? = some p := ⟨_, List.getElem?_eq_getElem (by omega)⟩
        obtain ⟨y1, _⟩ := hw (i - 1) p hp
        rw [hu2] at y1
        cases y1
        walk_at "rd"
        walk_at "ite"
        · rename_i c5
          walk_at "rd"
          refine q0 (bad True fun us r al p' hp' x1 n x2 x3 x4 x5 => ?_) Hb (s1.trans (sa.trans sb))
          have := r.1
          obtain ⟨p0, hp0⟩ : ∃ p0, us[i - 1]? = some p0 := ⟨_, List.getElem?_eq_getElem (by omega)⟩
          obtain ⟨w1, _⟩ := r.2 (i - 1) p0 hp0
          rw [hu2, ← c5, ← hu, x1] at w1
          refine al (i - 1) p0 p' hp0 (by rw [show i - 1 + 1 = i by omega]; exact hp') ?_
          have ex : ltr p'.1 = ltr p0.1 := Option.some.inj w1
          cases h1 : p'.1 <;> cases h2 : p0.1 <;> rw [h1, h2] at ex <;> first | rfl | exact absurd ex (by decide)
        · rename_i c5
          walk_at "rd"
          refine (hX fun p2 hp2 _ e => c5 ?_).out
          rw [hp] at hp2
          cases hp2
          rw [e]
      · rename_i c4
        walk_at "rd"
        exact (hX fun p2 hp2 h0 => absurd h0 (by omega)).out
    intro hne
    walk_at "rd"
    refine rd_ixStr (SqL.of e1b) (by omega) (by omega) fun u1 hu1' => ?_
    rw [show (2 * (0 + (i : Int))).toNat = 2 * i by omega, hu] at hu1'
    cases hu1'
    walk_at "rd"
    rename_i tp Hc sc ntp etp
    have sbc := sb.trans sc
    refine rd_append (xs := as.map V.ref) (sbc.obj eFa) (by rw [List.length_map, la, hl]; exact small1000 (by omega)) ?_
    walk_at "rd"
    refine ⟨(sa.trans sbc).upd nF, by omega, _, _, ws ++ [(b, numOf v)], rfl, ?_, by rw [List.length_append, hl]; rfl, ?_, ?_⟩
    · have := WordL.snoc (p := (b, numOf v)) (sbc.obj eFa) la (fun i x p hx hp => sbc.obj (T i x p hx hp)) etp
      rw [List.map_append] at this
      exact this
    · intro j x y hx hy
      have hj := (List.getElem?_eq_some_iff.mp hy).1
      rw [List.length_append] at hj
      simp only [List.length_cons, List.length_nil] at hj
      rw [List.getElem?_append_left (by omega)] at hx
      rcases Nat.lt_or_ge (j + 1) ws.length with z | z
      · rw [List.getElem?_append_left z] at hy
        exact alt j x y hx hy
      · rw [List.getElem?_append_right z, show j + 1 - ws.length = 0 by omega] at hy
        cases hy
        exact hne x (by rw [show i - 1 = j by omega]; exact hx) (by omega)
    · intro j p hp
      rcases Nat.lt_or_ge j ws.length with z | z
      · rw [List.getElem?_append_left z] at hp
        exact hw j p hp
      · have hj := (List.getElem?_eq_some_iff.mp hp).1
        rw [List.length_append] at hj
        simp only [List.length_cons, List.length_nil] at hj
        rw [List.getElem?_append_right z, show j - ws.length = 0 by omega] at hp
        cases hp
        rw [show j = i by omega]
        exact ⟨hu, v, hv, hn, rfl, by show 1 ≤ numOf v; omega⟩
  · rintro σ Ha ⟨sa, _, z1, z2, ws, rfl, W, hl, alt, hw⟩
    walk_at "rd"
    exact q1 ws (.inr ⟨cn, by rw [hps]; exact ⟨by omega, hw⟩, alt⟩) (by omega) F Ha (s1.trans sa) W
def spTold : Sp := fun vs H Q _ => ∃ (w : Int) (t : Str), vs = [.int w, .str t] ∧ Tx t ∧ ((w = 0 ∧ FR t H Q) ∨ (w = 1 ∧ TR t H Q) ∨ (w = 2 ∧ WR t H Q))
theorem use_told {w : Int} {t : Str} {H : Hp} {Q : VK} {E : XK} (h : Tx t) (q : (w = 0 ∧ FR t H Q) ∨ (w = 1 ∧ TR t H Q) ∨ (w = 2 ∧ WR t H Q)) : spTold [.int w, .str t] H Q E := ⟨w, t, rfl, h, q⟩
theorem ok__law_told (F : Src K mg "_law_told" s__law_told ["_law_way", "_law_text"]) (B : Blt mg) (C : Cls K mg base) (R : Rel K mg base C) (Kc : Cst K mg) (D_read_fraction : Def P w K mg base (CXE P w) 3 "read_fraction" ["text"] (spRdF C.NoText.addr)) (D_read_table : Def P w K mg base (CXE P w) 5 "read_table" ["text"] (spRdT C.NoText.addr C.NoTable.addr)) (D_read_word : Def P w K mg base (CXE P w) 4 "read_word" ["text"] (spRdW C.NoText.addr)) : Def P w K mg base (CXE P w) 6 "_law_told" ["_law_way", "_law_text"] spTold := by
  refine F.ok (CX := CXE P w) (k := 5) sc__law_told (fun vs H Q E h => ?_) (fun f cdv A outer s H vs Q E hr h => ?_)
  · obtain ⟨_, _, rfl, _⟩ := h
    rfl
  have nd := sc__law_told.nd
  obtain ⟨w, t, rfl, tx, qq⟩ := h
  obtain ⟨r_NoText_sw, r_NoText_ve, r_NoText_NoCount, r_NoText_NotOdd, r_NoText_TooMany, r_NoText_NotApart, r_NoText_NoTable, r_NoText_NoText, r_NoText_NoShuffle, r_NoText_NoWord, r_NoText_NoRow, r_NoText_NoPaper, r_NoText_NoFraction, r_NoText_NoPrime, r_NoText_NoLine, r_NoText_NoName, r_NoText_NoDeed, r_NoTable_sw, r_NoTable_ve, r_NoTable_NoCount, r_NoTable_NotOdd, r_NoTable_TooMany, r_NoTable_NotApart, r_NoTable_NoTable, r_NoTable_NoText, r_NoTable_NoShuffle, r_NoTable_NoWord, r_NoTable_NoRow, r_NoTable_NoPaper, r_NoTable_NoFraction, r_NoTable_NoPrime, r_NoTable_NoLine, r_NoTable_NoName, r_NoTable_NoDeed⟩ := R
  refine ⟨_, (@pss_cons _ _ _ _ _ (@ps_set _ _ 2 _ _ _ _ nd rfl (Or.inl rfl) pe_str (by rfl) (by walk_at "lo")) (@pss_cons _ _ _ _ _ (@ps_try _ _ _ _ _ _ _ rfl rfl (fun pins W => (@pss_consE _ _ _ _ _ (@ps_if _ _ _ _ _ _ _ _ (@pt_cmpR _ _ _ _ _ _ _ _ op_eq (pv 0) pe_int (nomark _)) (@pss_one _ _ _ (@ps_set _ _ 2 _ _ _ _ nd rfl (Or.inl rfl) (@pe_defS _ _ _ _ _ _ _ _ _ _ _ D_read_fraction (hr.mono (by decide)) rfl xpass_try (@pa_cons _ _ _ _ _ (pv 1) pa_nil (by rfl)) (by decide) (by rfl) (by rfl)) (by rfl) (by walk_at "lo"))) pss_nil) (@pss_consE _ _ _ _ _ (@ps_if _ _ _ _ _ _ _ _ (@pt_cmpR _ _ _ _ _ _ _ _ op_eq (pv 0) pe_int (nomark _)) (@pss_one _ _ _ (@ps_set _ _ 2 _ _ _ _ nd rfl (Or.inl rfl) (@pe_defS _ _ _ _ _ _ _ _ _ _ _ D_read_table (hr.mono (by decide)) rfl xpass_try (@pa_cons _ _ _ _ _ (pv 1) pa_nil (by rfl)) (by decide) (by rfl) (by rfl)) (by rfl) (by walk_at "lo"))) pss_nil) (@pss_one _ _ _ (@ps_if _ _ _ _ _ _ _ _ (@pt_cmpR _ _ _ _ _ _ _ _ op_eq (pv 0) pe_int (nomark _)) (@pss_one _ _ _ (@ps_set _ _ 2 _ _ _ _ nd rfl (Or.inl rfl) (@pe_defS _ _ _ _ _ _ _ _ _ _ _ D_read_word (hr.mono (by decide)) rfl xpass_try (@pa_cons _ _ _ _ _ (pv 1) pa_nil (by rfl)) (by decide) (by rfl) (by rfl)) (by rfl) (by walk_at "lo"))) pss_nil))))) (@ph_cons _ _ _ _ _ _ 3 _ _ _ _ _ rfl C.SawError.gl C.SawError.cat nd rfl rfl (fun pins a oe cls dx hcls hxo => (@pss_cons _ _ _ _ _ (@ps_set _ _ 4 _ _ _ _ nd rfl (Or.inl rfl) (@pe_lst _ _ _ _ (@pa_cons _ _ _ _ _ (@pe_callB _ _ _ _ _ _ _ _ _ (call_isiX hcls) rfl B.isinstance PyProof.Rows.boot_isinstance (@pa_cons _ _ _ _ _ (pv 3) (@pa_cons _ _ _ _ _ (@pe_glob _ _ (.ref C.NoCount.addr) _ _ rfl C.NoCount.gl rfl (by decide)) pa_nil (by rfl)) (by rfl)) (by decide) (by decide) (by rfl) (by rfl)) (@pa_cons _ _ _ _ _ (@pe_callB _ _ _ _ _ _ _ _ _ (call_isiX hcls) rfl B.isinstance PyProof.Rows.boot_isinstance (@pa_cons _ _ _ _ _ (pv 3) (@pa_cons _ _ _ _ _ (@pe_glob _ _ (.ref C.NotOdd.addr) _ _ rfl C.NotOdd.gl rfl (by decide)) pa_nil (by rfl)) (by rfl)) (by decide) (by decide) (by rfl) (by rfl)) (@pa_cons _ _ _ _ _ (@pe_callB _ _ _ _ _ _ _ _ _ (call_isiX hcls) rfl B.isinstance PyProof.Rows.boot_isinstance (@pa_cons _ _ _ _ _ (pv 3) (@pa_cons _ _ _ _ _ (@pe_glob _ _ (.ref C.TooMany.addr) _ _ rfl C.TooMany.gl rfl (by decide)) pa_nil (by rfl)) (by rfl)) (by decide) (by decide) (by rfl) (by rfl)) (@pa_cons _ _ _ _ _ (@pe_callB _ _ _ _ _ _ _ _ _ (call_isiX hcls) rfl B.isinstance PyProof.Rows.boot_isinstance (@pa_cons _ _ _ _ _ (pv 3) (@pa_cons _ _ _ _ _ (@pe_glob _ _ (.ref C.NotApart.addr) _ _ rfl C.NotApart.gl rfl (by decide)) pa_nil (by rfl)) (by rfl)) (by decide) (by decide) (by rfl) (by rfl)) pa_nil (by rfl)) (by rfl)) (by rfl)) (by rfl))) (by rfl) (by walk_at "lo")) (@pss_cons _ _ _ _ _ (@ps_set _ _ 4 _ _ _ _ nd rfl (Or.inl rfl) (@pe_op _ _ _ _ _ _ _ _ op_addA (pv 4) (@pe_lst _ _ _ _ (@pa_cons _ _ _ _ _ (@pe_callB _ _ _ _ _ _ _ _ _ (call_isiX hcls) rfl B.isinstance PyProof.Rows.boot_isinstance (@pa_cons _ _ _ _ _ (pv 3) (@pa_cons _ _ _ _ _ (@pe_glob _ _ (.ref C.NoTable.addr) _ _ rfl C.NoTable.gl rfl (by decide)) pa_nil (by rfl)) (by rfl)) (by decide) (by decide) (by rfl) (by rfl)) (@pa_cons _ _ _ _ _ (@pe_callB _ _ _ _ _ _ _ _ _ (call_isiX hcls) rfl B.isinstance PyProof.Rows.boot_isinstance (@pa_cons _ _ _ _ _ (pv 3) (@pa_cons _ _ _ _ _ (@pe_glob _ _ (.ref C.NoText.addr) _ _ rfl C.NoText.gl rfl (by decide)) pa_nil (by rfl)) (by rfl)) (by decide) (by decide) (by rfl) (by rfl)) (@pa_cons _ _ _ _ _ (@pe_callB _ _ _ _ _ _ _ _ _ (call_isiX hcls) rfl B.isinstance PyProof.Rows.boot_isinstance (@pa_cons _ _ _ _ _ (pv 3) (@pa_cons _ _ _ _ _ (@pe_glob _ _ (.ref C.NoShuffle.addr) _ _ rfl C.NoShuffle.gl rfl (by decide)) pa_nil (by rfl)) (by rfl)) (by decide) (by decide) (by rfl) (by rfl)) pa_nil (by rfl)) (by rfl)) (by rfl)))) (by rfl) (by walk_at "lo")) (@pss_cons _ _ _ _ _ (@ps_set _ _ 4 _ _ _ _ nd rfl (Or.inl rfl) (@pe_op _ _ _ _ _ _ _ _ op_addA (pv 4) (@pe_lst _ _ _ _ (@pa_cons _ _ _ _ _ (@pe_callB _ _ _ _ _ _ _ _ _ (call_isiX hcls) rfl B.isinstance PyProof.Rows.boot_isinstance (@pa_cons _ _ _ _ _ (pv 3) (@pa_cons _ _ _ _ _ (@pe_glob _ _ (.ref C.NoWord.addr) _ _ rfl C.NoWord.gl rfl (by decide)) pa_nil (by rfl)) (by rfl)) (by decide) (by decide) (by rfl) (by rfl)) (@pa_cons _ _ _ _ _ (@pe_callB _ _ _ _ _ _ _ _ _ (call_isiX hcls) rfl B.isinstance PyProof.Rows.boot_isinstance (@pa_cons _ _ _ _ _ (pv 3) (@pa_cons _ _ _ _ _ (@pe_glob _ _ (.ref C.NoRow.addr) _ _ rfl C.NoRow.gl rfl (by decide)) pa_nil (by rfl)) (by rfl)) (by decide) (by decide) (by rfl) (by rfl)) (@pa_cons _ _ _ _ _ (@pe_callB _ _ _ _ _ _ _ _ _ (call_isiX hcls) rfl B.isinstance PyProof.Rows.boot_isinstance (@pa_cons _ _ _ _ _ (pv 3) (@pa_cons _ _ _ _ _ (@pe_glob _ _ (.ref C.NoPaper.addr) _ _ rfl C.NoPaper.gl rfl (by decide)) pa_nil (by rfl)) (by rfl)) (by decide) (by decide) (by rfl) (by rfl)) pa_nil (by rfl)) (by rfl)) (by rfl)))) (by rfl) (by walk_at "lo")) (@pss_cons _ _ _ _ _ (@ps_set _ _ 4 _ _ _ _ nd rfl (Or.inl rfl) (@pe_op _ _ _ _ _ _ _ _ op_addA (pv 4) (@pe_lst _ _ _ _ (@pa_cons _ _ _ _ _ (@pe_callB _ _ _ _ _ _ _ _ _ (call_isiX hcls) rfl B.isinstance PyProof.Rows.boot_isinstance (@pa_cons _ _ _ _ _ (pv 3) (@pa_cons _ _ _ _ _ (@pe_glob _ _ (.ref C.NoFraction.addr) _ _ rfl C.NoFraction.gl rfl (by decide)) pa_nil (by rfl)) (by rfl)) (by decide) (by decide) (by rfl) (by rfl)) (@pa_cons _ _ _ _ _ (@pe_callB _ _ _ _ _ _ _ _ _ (call_isiX hcls) rfl B.isinstance PyProof.Rows.boot_isinstance (@pa_cons _ _ _ _ _ (pv 3) (@pa_cons _ _ _ _ _ (@pe_glob _ _ (.ref C.NoPrime.addr) _ _ rfl C.NoPrime.gl rfl (by decide)) pa_nil (by rfl)) (by rfl)) (by decide) (by decide) (by rfl) (by rfl)) (@pa_cons _ _ _ _ _ (@pe_callB _ _ _ _ _ _ _ _ _ (call_isiX hcls) rfl B.isinstance PyProof.Rows.boot_isinstance (@pa_cons _ _ _ _ _ (pv 3) (@pa_cons _ _ _ _ _ (@pe_glob _ _ (.ref C.NoLine.addr) _ _ rfl C.NoLine.gl rfl (by decide)) pa_nil (by rfl)) (by rfl)) (by decide) (by decide) (by rfl) (by rfl)) pa_nil (by rfl)) (by rfl)) (by rfl)))) (by rfl) (by walk_at "lo")) (@pss_cons _ _ _ _ _ (@ps_set _ _ 4 _ _ _ _ nd rfl (Or.inl rfl) (@pe_op _ _ _ _ _ _ _ _ op_addA (pv 4) (@pe_lst _ _ _ _ (@pa_cons _ _ _ _ _ (@pe_callB _ _ _ _ _ _ _ _ _ (call_isiX hcls) rfl B.isinstance PyProof.Rows.boot_isinstance (@pa_cons _ _ _ _ _ (pv 3) (@pa_cons _ _ _ _ _ (@pe_glob _ _ (.ref C.NoName.addr) _ _ rfl C.NoName.gl rfl (by decide)) pa_nil (by rfl)) (by rfl)) (by decide) (by decide) (by rfl) (by rfl)) (@pa_cons _ _ _ _ _ (@pe_callB _ _ _ _ _ _ _ _ _ (call_isiX hcls) rfl B.isinstance PyProof.Rows.boot_isinstance (@pa_cons _ _ _ _ _ (pv 3) (@pa_cons _ _ _ _ _ (@pe_glob _ _ (.ref C.NoDeed.addr) _ _ rfl C.NoDeed.gl rfl (by decide)) pa_nil (by rfl)) (by rfl)) (by decide) (by decide) (by rfl) (by rfl)) pa_nil (by rfl)) (by rfl)))) (by rfl) (by walk_at "lo")) (@pss_one _ _ _ (@ps_if _ _ _ _ _ _ _ _ (@PW.pt _ _ _ (@pw_and _ _ _ _ _ _ _ (@pt_cmpR _ _ _ _ _ _ _ _ op_eq (@pe_bmH _ _ _ _ _ _ _ _ _ _ _ _ _ _ _ PySem.F.plainAttrs_list PySem.F.slot_list_count PySem.F.type_list_count mt_countB (pv 4) (@pa_cons _ _ _ _ _ pe_bl pa_nil (by rfl)) (by rfl) (by rfl) (by rfl) (by rfl) (by rfl)) pe_int (nomark _)) (@pw_and _ _ _ _ _ _ _ (@pt_val _ _ _ (@pe_callB _ _ _ _ _ _ _ _ _ (call_isiX hcls) rfl B.isinstance PyProof.Rows.boot_isinstance (@pa_cons _ _ _ _ _ (pv 3) (@pa_cons _ _ _ _ _ (@pe_bltn _ _ (.ty "ValueError") _ _ rfl B.ValueError PyProof.Rows.Boot.«ValueError» rfl (by decide) (by decide)) pa_nil (by rfl)) (by rfl)) (by decide) (by decide) (by rfl) (by rfl)) (by intro _; rfl)) (@pw_and1 _ _ _ _ (@pt_cmpR _ _ _ _ _ _ _ _ op_ltI (@pe_bmH _ _ _ _ _ _ _ _ _ _ _ _ _ _ _ PySem.F.plainAttrs_list PySem.F.slot_list_index PySem.F.type_list_index mt_indexB (pv 4) (@pa_cons _ _ _ _ _ pe_bl pa_nil (by rfl)) (by rfl) (by rfl) (by rfl) (by rfl) (by rfl)) pe_int (nomark _)))))) (@pss_one _ _ _ (@ps_set _ _ 2 _ _ _ _ nd rfl (Or.inl rfl) (@pe_ix _ _ _ _ _ _ _ ix_AH (@pe_lst _ _ _ _ (@pa_cons _ _ _ _ _ pe_str (@pa_cons _ _ _ _ _ pe_str (@pa_cons _ _ _ _ _ pe_str (@pa_cons _ _ _ _ _ pe_str (@pa_cons _ _ _ _ _ pe_str (@pa_cons _ _ _ _ _ pe_str pa_nil (by rfl)) (by rfl)) (by rfl)) (by rfl)) (by rfl)) (by rfl))) (@pe_bmH _ _ _ _ _ _ _ _ _ _ _ _ _ _ _ PySem.F.plainAttrs_list PySem.F.slot_list_index PySem.F.type_list_index mt_indexB (pv 4) (@pa_cons _ _ _ _ _ pe_bl pa_nil (by rfl)) (by rfl) (by rfl) (by rfl) (by rfl) (by rfl)) (fun _ _ => rfl)) (by rfl) (by walk_at "lo"))) pss_nil)))))))) ph_nil (by decide))) (@pss_one _ _ _ (@ps_ret _ _ _ _ (pv 2))))), ?_⟩
  try dsimp only [cxOf, Cx.inH, Cx.tried]
  refine rd_start [some (.int w), some (.str t), none, none, none] rfl ?_
  walk_at "rd"
  refine rd_try (fun cls dx σ' H' => Same H H' ∧ σ' = [some (.int w), some (.str t), some (.str ""), none, none] ∧ ((cls = .ref C.NoText.addr ∧ ∀ H2, Same H H2 → Q (.str "text") H2) ∨ (cls = .ref C.NoTable.addr ∧ ∀ H2, Same H H2 → Q (.str "table") H2))) ?_ ?_
  · rcases qq with ⟨rfl, q1, q0⟩ | ⟨rfl, q1, q2, q0⟩ | ⟨rfl, q1, q0⟩
    · walk_at "rd"
      refine rd_join (fun σ H' => Same H H' ∧ ∃ v, σ = [some (.int 0), some (.str t), some v, none, none] ∧ ∀ H2, Same H' H2 → Q v H2) ?_ ?_
      · walk_at "rdi"
        refine use_rdf tx (fun a b f D H1 s1 e1 => ?_) (fun n H1 s1 => ⟨s1, rfl, .inl ⟨rfl, q0 n⟩⟩)
        walk_at "rd"
        exact ⟨s1, _, rfl, fun H2 s2 => q1 a b f D H2 (s1.trans s2) (s2.obj e1)⟩
      rintro σ H1 ⟨s1, v, rfl, hv⟩
      walk_at "rd"
      refine rd_join (fun σ H' => H' = H1 ∧ σ = [some (.int 0), some (.str t), some v, none, none]) ?_ ?_
      · walk_at "rdi"
        exact ⟨rfl, rfl⟩
      rintro σ H2 ⟨rfl, rfl⟩
      walk_at "rdi"
      exact hv _ (Same.refl _)
    · walk_at "rd"
      refine rd_join (fun σ H' => H' = H ∧ σ = [some (.int 1), some (.str t), some (.str ""), none, none]) ?_ ?_
      · walk_at "rdi"
        exact ⟨rfl, rfl⟩
      rintro σ H0 ⟨rfl, rfl⟩
      walk_at "rd"
      refine rd_join (fun σ H' => Same H0 H' ∧ ∃ v, σ = [some (.int 1), some (.str t), some v, none, none] ∧ ∀ H2, Same H' H2 → Q v H2) ?_ ?_
      · walk_at "rdi"
        refine use_rdt tx (fun a b c d f det D H1 s1 e1 => ?_) (fun a b c d f det H1 s1 => ⟨s1, rfl, .inr ⟨rfl, q2 a b c d f det⟩⟩) (fun n H1 s1 => ⟨s1, rfl, .inl ⟨rfl, q0 n⟩⟩)
        walk_at "rd"
        exact ⟨s1, _, rfl, fun H2 s2 => q1 a b c d f det D H2 (s1.trans s2) (e1.same s2)⟩
      rintro σ H1 ⟨s1, v, rfl, hv⟩
      walk_at "rdi"
      exact hv _ (Same.refl _)
    · walk_at "rd"
      refine rd_join (fun σ H' => H' = H ∧ σ = [some (.int 2), some (.str t), some (.str ""), none, none]) ?_ ?_
      · walk_at "rdi"
        exact ⟨rfl, rfl⟩
      rintro σ H0 ⟨rfl, rfl⟩
      walk_at "rd"
      refine rd_join (fun σ H' => H' = H0 ∧ σ = [some (.int 2), some (.str t), some (.str ""), none, none]) ?_ ?_
      · walk_at "rdi"
        exact ⟨rfl, rfl⟩
      rintro σ H1 ⟨rfl, rfl⟩
      walk_at "rdi"
      refine use_rdw tx (fun ws r lw D H1 s1 n1 e1 => ?_) (fun n H1 s1 => ⟨s1, rfl, .inl ⟨rfl, q0 n⟩⟩)
      obtain ⟨D', eD, W, _⟩ := e1
      cases eD
      walk_at "rd"
      exact q1 ws r lw D H1 s1 W
  · rintro cls dx ad σ' H' ⟨s', rfl, ⟨hcls, q⟩ | ⟨hcls, q⟩⟩
    · obtain rfl := hcls
      have z1 := C.NoText.exc
      walk_at "rd"
      refine rd_countB (k := 1) [false, false, false, false, false, true, false, false, false, false, false, false, false, false, false] (by walk_at "hp") rfl ?_
      walk_at "rd"
      walk_at "ite"
      rotate_left
      · rename_i c; exact absurd rfl c
      walk_at "rd"
      refine rd_indexB [false, false, false, false, false, true, false, false, false, false, false, false, false, false, false] 5 (by walk_at "hp") rfl (by decide) ?_
      walk_at "rd"
      walk_at "ite"
      rotate_left
      · rename_i c; exact absurd (by decide) c
      walk_at "rd"
      refine rd_indexB [false, false, false, false, false, true, false, false, false, false, false, false, false, false, false] 5 (by walk_at "hp") rfl (by decide) ?_
      walk_at "rd"
      exact q _ (by walk_at "sm")
    · obtain rfl := hcls
      have z1 := C.NoTable.exc
      walk_at "rd"
      refine rd_countB (k := 1) [false, false, false, false, true, false, false, false, false, false, false, false, false, false, false] (by walk_at "hp") rfl ?_
      walk_at "rd"
      walk_at "ite"
      rotate_left
      · rename_i c; exact absurd rfl c
      walk_at "rd"
      refine rd_indexB [false, false, false, false, true, false, false, false, false, false, false, false, false, false, false] 4 (by walk_at "hp") rfl (by decide) ?_
      walk_at "rd"
      walk_at "ite"
      rotate_left
      · rename_i c; exact absurd (by decide) c
      walk_at "rd"
      refine rd_indexB [false, false, false, false, true, false, false, false, false, false, false, false, false, false, false] 4 (by walk_at "hp") rfl (by decide) ?_
      walk_at "rd"
      exact q _ (by walk_at "sm")
theorem FracIs.uniq {t : Str} {a b a' b' : Int} (h1 : FracIs t a b) (h2 : FracIs t a' b') : a = a' ∧ b = b' := by
  obtain ⟨_, ⟨e1, rfl⟩ | ⟨x, y, e1, _, rfl, rfl⟩⟩ := h1 <;> obtain ⟨_, ⟨e2, rfl⟩ | ⟨x', y', e2, _, rfl, rfl⟩⟩ := h2
  · rw [e1] at e2
    cases e2
    exact ⟨rfl, rfl⟩
  · rw [e1] at e2
    cases e2
  · rw [e1] at e2
    cases e2
  · rw [e1] at e2
    cases e2
    exact ⟨rfl, rfl⟩
theorem Four.uniq {t : Str} {a b c d a' b' c' d' : Int} (h1 : Four t a b c d) (h2 : Four t a' b' c' d') : a = a' ∧ b = b' ∧ c = c' ∧ d = d' := by
  have e := h1.2
  rw [h2.2] at e
  cases e
  exact ⟨rfl, rfl, rfl, rfl⟩
theorem four_cases (t : Str) : (∃ a b c d, Four t a b c d ∧ a * d - b * c = 1) ∨ (∃ a b c d, Four t a b c d ∧ a * d - b * c ≠ 1) ∨ ¬ ∃ a b c d, Four t a b c d := by
  by_cases hf : ∃ a b c d, Four t a b c d
  · obtain ⟨a, b, c, d, f⟩ := hf
    by_cases det : a * d - b * c = 1
    · exact .inl ⟨a, b, c, d, f, det⟩
    · exact .inr (.inl ⟨a, b, c, d, f, det⟩)
  · exact .inr (.inr hf)
def spWell : Sp := fun vs H Q _ => ∃ t : Str, vs = [.str t] ∧ Tx t ∧ ∀ H', Same H H' → Q (.bl true) H'
theorem use_well {t : Str} {H : Hp} {Q : VK} {E : XK} (h : Tx t) (q : ∀ H', Same H H' → Q (.bl true) H') : spWell [.str t] H Q E := ⟨t, rfl, h, q⟩
theorem ok__law_well_read (F : Src K mg "_law_well_read" s__law_well_read ["_law_text"]) (B : Blt mg) (C : Cls K mg base) (R : Rel K mg base C) (Kc : Cst K mg) (D__law_fraction_of : Def P w K mg base (CXE P w) 3 "_law_fraction_of" ["_law_text"] spFO) (D__law_table_of : Def P w K mg base (CXE P w) 2 "_law_table_of" ["_law_text"] spTO) (D__law_word_of : Def P w K mg base (CXE P w) 2 "_law_word_of" ["_law_text"] spWO) (D__law_told : Def P w K mg base (CXE P w) 6 "_law_told" ["_law_way", "_law_text"] spTold) (D__law_row : Def P w K mg base (CXE P w) 2 "_law_row" ["_law_found", "_law_many"] spRow) (D__law_is_table_of : Def P w K mg base (CXE P w) 3 "_law_is_table_of" ["_law_found", "_law_due"] spITO) (D__law_is_word_of : Def P w K mg base (CXE P w) 2 "_law_is_word_of" ["_law_found", "_law_due"] spIWO) : Def P w K mg base (CXE P w) 7 "_law_well_read" ["_law_text"] spWell := by
  refine F.ok (CX := CXE P w) (k := 6) sc__law_well_read (fun vs H Q E h => ?_) (fun f cdv A outer s H vs Q E hr h => ?_)
  · obtain ⟨_, rfl, _⟩ := h
    rfl
  have nd := sc__law_well_read.nd
  obtain ⟨t, rfl, tx, q⟩ := h
  refine ⟨_, (@pss_cons _ _ _ _ _ (@ps_set _ _ 1 _ _ _ _ nd rfl (Or.inl rfl) (@pe_defS _ _ _ _ _ _ _ _ _ _ _ D__law_fraction_of (hr.mono (by decide)) rfl xpass_nox (@pa_cons _ _ _ _ _ (pv 0) pa_nil (by rfl)) (by decide) (by rfl) (by rfl)) (by rfl) (by walk_at "lo")) (@pss_cons _ _ _ _ _ (@ps_set _ _ 2 _ _ _ _ nd rfl (Or.inl rfl) (@pe_defS _ _ _ _ _ _ _ _ _ _ _ D__law_told (hr.mono (by decide)) rfl xpass_nox (@pa_cons _ _ _ _ _ pe_int (@pa_cons _ _ _ _ _ (pv 0) pa_nil (by rfl)) (by rfl)) (by decide) (by rfl) (by rfl)) (by rfl) (by walk_at "lo")) (@pss_cons _ _ _ _ _ (@ps_if _ _ _ _ _ _ _ _ (@PW.pt _ _ _ (@pw_or _ _ _ _ _ _ _ (@pt_cmpR _ _ _ _ _ _ _ _ (op_neG hr.units3) (pv 2) (pv 1) (nomark _)) (@pw_or1 _ _ _ _ (@PW.pt _ _ _ (@pw_and _ _ _ _ _ _ _ (@pt_cmpR _ _ _ _ _ _ _ _ (op_neG hr.units3) (pv 1) pe_str (nomark _)) (@pw_and1 _ _ _ _ (@pt_not _ _ _ _ (@pt_val _ _ _ (@pe_defS _ _ _ _ _ _ _ _ _ _ _ D__law_row (hr.mono (by decide)) rfl xpass_nox (@pa_cons _ _ _ _ _ (pv 2) (@pa_cons _ _ _ _ _ pe_int pa_nil (by rfl)) (by rfl)) (by decide) (by rfl) (by rfl)) (by intro _; rfl))))))))) (@pss_one _ _ _ (@ps_ret _ _ _ _ pe_bl)) pss_nil) (@pss_cons _ _ _ _ _ (@ps_set _ _ 1 _ _ _ _ nd rfl (Or.inl rfl) (@pe_defS _ _ _ _ _ _ _ _ _ _ _ D__law_table_of (hr.mono (by decide)) rfl xpass_nox (@pa_cons _ _ _ _ _ (pv 0) pa_nil (by rfl)) (by decide) (by rfl) (by rfl)) (by rfl) (by walk_at "lo")) (@pss_cons _ _ _ _ _ (@ps_set _ _ 2 _ _ _ _ nd rfl (Or.inl rfl) (@pe_defS _ _ _ _ _ _ _ _ _ _ _ D__law_told (hr.mono (by decide)) rfl xpass_nox (@pa_cons _ _ _ _ _ pe_int (@pa_cons _ _ _ _ _ (pv 0) pa_nil (by rfl)) (by rfl)) (by decide) (by rfl) (by rfl)) (by rfl) (by walk_at "lo")) (@pss_cons _ _ _ _ _ (@ps_if _ _ _ _ _ _ _ _ (@PW.pt _ _ _ (@pw_or _ _ _ _ _ _ _ (@pt_cmpR _ _ _ _ _ _ _ _ (op_neG hr.units3) (pv 2) (pv 1) (nomark _)) (@pw_or1 _ _ _ _ (@PW.pt _ _ _ (@pw_and _ _ _ _ _ _ _ (@pt_val _ _ _ (@pe_callB _ _ _ _ _ _ _ _ _ call_isi rfl B.isinstance PyProof.Rows.boot_isinstance (@pa_cons _ _ _ _ _ (pv 1) (@pa_cons _ _ _ _ _ (@pe_bltn _ _ (.ty "tuple") _ _ rfl B.tuple PyProof.Rows.boot_tuple rfl (by decide) (by decide)) pa_nil (by rfl)) (by rfl)) (by decide) (by decide) (by rfl) (by rfl)) (by intro _; rfl)) (@pw_and1 _ _ _ _ (@pt_not _ _ _ _ (@pt_val _ _ _ (@pe_defS _ _ _ _ _ _ _ _ _ _ _ D__law_is_table_of (hr.mono (by decide)) rfl xpass_nox (@pa_cons _ _ _ _ _ (pv 2) (@pa_cons _ _ _ _ _ (pv 1) pa_nil (by rfl)) (by rfl)) (by decide) (by rfl) (by rfl)) (by intro _; rfl))))))))) (@pss_one _ _ _ (@ps_ret _ _ _ _ pe_bl)) pss_nil) (@pss_cons _ _ _ _ _ (@ps_set _ _ 1 _ _ _ _ nd rfl (Or.inl rfl) (@pe_defS _ _ _ _ _ _ _ _ _ _ _ D__law_word_of (hr.mono (by decide)) rfl xpass_nox (@pa_cons _ _ _ _ _ (pv 0) pa_nil (by rfl)) (by decide) (by rfl) (by rfl)) (by rfl) (by walk_at "lo")) (@pss_cons _ _ _ _ _ (@ps_set _ _ 2 _ _ _ _ nd rfl (Or.inl rfl) (@pe_defS _ _ _ _ _ _ _ _ _ _ _ D__law_told (hr.mono (by decide)) rfl xpass_nox (@pa_cons _ _ _ _ _ pe_int (@pa_cons _ _ _ _ _ (pv 0) pa_nil (by rfl)) (by rfl)) (by decide) (by rfl) (by rfl)) (by rfl) (by walk_at "lo")) (@pss_one _ _ _ (@ps_ret _ _ _ _ (@pe_and _ _ _ _ _ _ _ (@pe_cmpR _ _ _ _ _ _ _ _ (op_eqG hr.units3) (pv 2) (pv 1) (nomark _)) (@pe_one _ _ _ _ _ (@pe_or _ _ _ _ _ _ _ (@pe_cmpR _ _ _ _ _ _ _ _ (op_eqG hr.units3) (pv 1) pe_str (nomark _)) (@pe_one _ _ _ _ _ (@pe_defS _ _ _ _ _ _ _ _ _ _ _ D__law_is_word_of (hr.mono (by decide)) rfl xpass_nox (@pa_cons _ _ _ _ _ (pv 2) (@pa_cons _ _ _ _ _ (pv 1) pa_nil (by rfl)) (by rfl)) (by decide) (by rfl) (by rfl)))))))))))))))), ?_⟩
  try dsimp only [cxOf, Cx.inH, Cx.tried]
  refine rd_start [some (.str t), none, none] rfl ?_
  walk_at "rd"
  by_cases hf : ∃ a b, FracIs t a b
  case' pos =>
    obtain ⟨a, b, f⟩ := hf
    refine use_fo tx ⟨fun a' b' f' D H1 s1 e1 => ?_, fun n => absurd f (n a b)⟩
    obtain ⟨rfl, rfl⟩ := f.uniq f'
    walk_at "rd"
    refine use_told tx (.inl ⟨rfl, fun a' b' f' D2 H2 s2 e2 => ?_, fun n => absurd f (n a b)⟩)
    obtain ⟨rfl, rfl⟩ := f.uniq f'
    have e12 := s2.obj e1
    walk_at "rd"
    refine rd_neGR ((Cmp.ints (d := 3) (ns := [a, b]) (ms := [a, b]) (SqT.of e2) (SqT.of e12) rfl).to (b' := true) (by simp)) ?_
    walk_at "rd"
    refine rd_neGT (SqT.of e12) ?_
    walk_at "rd"
    refine use_row [a, b] e2 rfl (show 2 ≤ 1000 by decide) fun H3 s3 => ?_
    walk_at "rd"
    have sA := s1.trans (s2.trans s3)
    clear s1 s2 s3 e1 e2 e12 f f'
  case' neg =>
    refine use_fo tx ⟨fun a' b' f' D H1 s1 e1 => absurd ⟨a', b', f'⟩ hf, fun n H1 s1 => ?_⟩
    walk_at "rd"
    refine use_told tx (.inl ⟨rfl, fun a' b' f' D2 H2 s2 e2 => absurd ⟨a', b', f'⟩ hf, fun n H3 s2 => ?_⟩)
    walk_at "rd"
    walk_at "ite"
    · rename_i c
      exact absurd rfl c
    walk_at "rd"
    walk_at "ite"
    · rename_i c
      exact absurd rfl c
    walk_at "rd"
    have sA := s1.trans s2
    clear s1 s2 hf n
  all_goals
    rcases four_cases t with ⟨a, b, c, d, f, det⟩ | ⟨a, b, c, d, f, det⟩ | hf
    case' inl =>
      refine use_to tx ⟨fun a' b' c' d' f' det' D H4 s4 e4 => ?_, fun a' b' c' d' f' det' => absurd det (by obtain ⟨rfl, rfl, rfl, rfl⟩ := f.uniq f'; exact det'), fun n => absurd f (n a b c d)⟩
      obtain ⟨rfl, rfl, rfl, rfl⟩ := f.uniq f'
      walk_at "rd"
      refine use_told tx (.inr (.inl ⟨rfl, fun a' b' c' d' f' det' D2 H5 s5 e5 => ?_, fun a' b' c' d' f' det' => absurd det (by obtain ⟨rfl, rfl, rfl, rfl⟩ := f.uniq f'; exact det'), fun n => absurd f (n a b c d)⟩))
      obtain ⟨rfl, rfl, rfl, rfl⟩ := f.uniq f'
      have e45 := e4.same s5
      obtain ⟨r, s', k1, k2, k3⟩ := id e45
      obtain ⟨r2, s2', k4, k5, k6⟩ := id e5
      walk_at "rd"
      refine rd_neGR ((Cmp.tabs (n := 2) (SqT.of k4) (SqT.of k1) (SqT.of k5) (SqT.of k6) (SqT.of k2) (SqT.of k3)).to (b' := true) (by simp)) ?_
      walk_at "rd"
      refine use_ito e5 e45 fun H6 s6 => ?_
      walk_at "rd"
      have sB := sA.trans (s4.trans (s5.trans s6))
      clear sA s4 s5 s6 e4 e5 e45 k1 k2 k3 k4 k5 k6 f f'
    case' inr.inl =>
      refine use_to tx ⟨fun a' b' c' d' f' det' D H4 s4 e4 => absurd det' (by obtain ⟨rfl, rfl, rfl, rfl⟩ := f.uniq f'; exact det), fun a' b' c' d' f' det' H4 s4 => ?_, fun n => absurd f (n a b c d)⟩
      walk_at "rd"
      refine use_told tx (.inr (.inl ⟨rfl, fun a' b' c' d' f' det' D2 H5 s5 e5 => absurd det' (by obtain ⟨rfl, rfl, rfl, rfl⟩ := f.uniq f'; exact det), fun a' b' c' d' f' det' H6 s6 => ?_, fun n => absurd f (n a b c d)⟩))
      walk_at "rd"
      walk_at "ite"
      · rename_i c
        exact absurd rfl c
      walk_at "rd"
      rw [if_neg (by decide)]
      walk_at "rd"
      have sB := sA.trans (s4.trans s6)
      clear sA s4 s6 f f'
    case' inr.inr =>
      refine use_to tx ⟨fun a' b' c' d' f' => absurd ⟨a', b', c', d', f'⟩ hf, fun a' b' c' d' f' => absurd ⟨a', b', c', d', f'⟩ hf, fun n H4 s4 => ?_⟩
      walk_at "rd"
      refine use_told tx (.inr (.inl ⟨rfl, fun a' b' c' d' f' => absurd ⟨a', b', c', d', f'⟩ hf, fun a' b' c' d' f' => absurd ⟨a', b', c', d', f'⟩ hf, fun n H6 s6 => ?_⟩))
      walk_at "rd"
      walk_at "ite"
      · rename_i c
        exact absurd rfl c
      walk_at "rd"
      rw [if_neg (by decide)]
      walk_at "rd"
      have sB := sA.trans (s4.trans s6)
      clear sA s4 s6 hf n
  all_goals
    by_cases hf : ∃ ws, RW t ws
    · obtain ⟨ws, f⟩ := hf
      refine use_wo tx ⟨fun ws' f' lw D H7 s7 e7 => ?_, fun n => absurd f (n ws)⟩
      obtain rfl := f.uniq f'
      walk_at "rd"
      refine use_told tx (.inr (.inr ⟨rfl, fun ws' f' lw' D2 H8 s8 e8 => ?_, fun n => absurd f (n ws)⟩))
      obtain rfl := f.uniq f'
      have e78 := e7.same s8
      obtain ⟨as, ea, _⟩ := id e78
      walk_at "rd"
      refine rd_eqGR (Cmp.words (d := 2) e8 e78) ?_
      walk_at "rd"
      refine rd_eqGL (SqL.of ea) ?_
      walk_at "rd"
      refine use_iwo e8 e78 (by omega) ?_
      exact q _ (sB.trans (s7.trans s8))
    · refine use_wo tx ⟨fun ws' f' => absurd ⟨ws', f'⟩ hf, fun n H7 s7 => ?_⟩
      walk_at "rd"
      refine use_told tx (.inr (.inr ⟨rfl, fun ws' f' => absurd ⟨ws', f'⟩ hf, fun n H8 s8 => ?_⟩))
      walk_at "rd"
      rw [decide_eq_true rfl]
      walk_at "rd"
      rw [decide_eq_true rfl]
      walk_at "rd"
      exact q _ (sB.trans (s7.trans s8))
theorem lit_at {z : Str} {i : Int} (ha : z.cps.all (· < 128) = true) (h0 : 0 ≤ i) (h1 : i < z.length) : ∃ c, c < 128 ∧ atI z.cps.toList i = some c := by
  obtain ⟨c, hc⟩ : ∃ c, z.cps.toList[i.toNat]? = some c := ⟨_, List.getElem?_eq_getElem (by rw [← len_cps]; omega)⟩
  refine ⟨c, Asc.iff.mp ha c (List.mem_of_getElem? hc), ?_⟩
  have e := atI_nat (xs := z.cps.toList) (j := i.toNat) (v := c) hc
  rw [show ((i.toNat : Nat) : Int) = i by omega] at e
  exact e
def spSign (K : PySem.W.Frag) : Sp := fun vs H Q _ => ∃ (l : Addr) (a b c d e : Int), vs = [.ref l] ∧ SqL K H l ([a, b, c, d, e].map V.int) ∧ 0 ≤ d ∧ d < 21 ∧ 0 ≤ e ∧ e < 94 ∧ ∀ c, c < 128 → Q (.str ⟨#[c]⟩) H
theorem use_sign {K : PySem.W.Frag} {l : Addr} {a b c d e : Int} {H : Hp} {Q : VK} {E : XK} (h : SqL K H l ([a, b, c, d, e].map V.int)) (d0 : 0 ≤ d) (d1 : d < 21) (e0 : 0 ≤ e) (e1 : e < 94) (q : ∀ c, c < 128 → Q (.str ⟨#[c]⟩) H) : spSign K [.ref l] H Q E := ⟨l, a, b, c, d, e, rfl, h, d0, d1, e0, e1, q⟩
theorem ok__law_sign (F : Src K mg "_law_sign" s__law_sign ["_law_way"]) (B : Blt mg) (C : Cls K mg base) (R : Rel K mg base C) (Kc : Cst K mg)  : Def P w K mg base (CXE P w) 1 "_law_sign" ["_law_way"] (spSign K) := by
  refine F.ok (CX := CXE P w) (k := 0) sc__law_sign (fun vs H Q E h => ?_) (fun f cdv A outer s H vs Q E hr h => ?_)
  · obtain ⟨_, _, _, _, _, _, rfl, _⟩ := h
    rfl
  have nd := sc__law_sign.nd
  obtain ⟨l, a, b, c, d, e, rfl, hl, d0, d1, e0, e1, q⟩ := h
  refine ⟨_, (@pss_cons _ _ _ _ _ (@ps_if _ _ _ _ _ _ _ _ (@pt_cmpR _ _ _ _ _ _ _ _ (op_eqA hr.units0) (@pe_ix _ _ _ _ _ _ _ ix_A (pv 0) pe_int (fun _ _ => rfl)) pe_int (nomark _)) (@pss_one _ _ _ (@ps_ret _ _ _ _ (@pe_ix _ _ _ _ _ _ _ ix_str pe_str (@pe_ix _ _ _ _ _ _ _ ix_A (pv 0) pe_int (fun _ _ => rfl)) (fun _ _ => rfl)))) pss_nil) (@pss_cons _ _ _ _ _ (@ps_set _ _ 1 _ _ _ _ nd rfl (Or.inl rfl) pe_str (by rfl) (by walk_at "lo")) (@pss_one _ _ _ (@ps_ret _ _ _ _ (@pe_ix _ _ _ _ _ _ _ ix_str (@pe_op _ _ _ _ _ _ _ _ op_addS (pv 1) pe_str) (@pe_ix _ _ _ _ _ _ _ ix_A (pv 0) pe_int (fun _ _ => rfl)) (fun _ _ => rfl)))))), ?_⟩
  try dsimp only [cxOf, Cx.inH, Cx.tried]
  refine rd_start [some (.ref l), none] rfl ?_
  walk_at "rd"
  walk_at "ite"
  · walk_at "rd"
    obtain ⟨x, x1, x2⟩ := lit_at (z := Str.ofString " -+0123456789/uvUwe_.") (i := d) (by decide +kernel) d0 (by rw [show (Str.ofString " -+0123456789/uvUwe_.").length = 21 by decide +kernel]; exact d1)
    exact rd_ixS x (by decide +kernel) x2 (q x x1)
  · walk_at "rd"
    obtain ⟨x, x1, x2⟩ := lit_at (i := e) (z := (Str.ofString " !\"#$&'()*+,-./0123456789:;<=>?@") ++ (Str.ofString "ABCDEFGHIJKLMNOPQRSTUVWXYZ[\\]^_`abcdefghijklmnopqrstuvwxyz{|}~")) (by decide +kernel) e0 (by rw [show ((Str.ofString " !\"#$&'()*+,-./0123456789:;<=>?@") ++ (Str.ofString "ABCDEFGHIJKLMNOPQRSTUVWXYZ[\\]^_`abcdefghijklmnopqrstuvwxyz{|}~")).length = 94 by decide +kernel]; exact e1)
    exact rd_ixS x (by decide +kernel) x2 (q x x1)
def cutT (ws : List Str) (lo hi : Option Int) : List Str := (ws.drop (HT.sIx ws.length 0 lo)).take (HT.sIx ws.length ws.length hi - HT.sIx ws.length 0 lo)
theorem cut_strs (ws : List Str) (lo hi : Option Int) : cutV (ws.map V.str) lo hi = (cutT ws lo hi).map V.str := by
  unfold cutV cutT
  rw [List.length_map, ← List.map_drop, ← List.map_take]
def lens (ws : List Str) : Nat := (ws.map fun x => x.length).sum + ws.length
theorem lens_take (ws : List Str) (n : Nat) : lens (ws.take n) ≤ lens ws := by
  have e : lens (ws.take n ++ ws.drop n) = lens (ws.take n) + lens (ws.drop n) := by
    unfold lens
    rw [List.map_append, List.sum_append_nat, List.length_append]
    omega
  rw [List.take_append_drop] at e
  omega
theorem lens_drop (ws : List Str) (n : Nat) : lens (ws.drop n) ≤ lens ws := by
  have e : lens (ws.take n ++ ws.drop n) = lens (ws.take n) + lens (ws.drop n) := by
    unfold lens
    rw [List.map_append, List.sum_append_nat, List.length_append]
    omega
  rw [List.take_append_drop] at e
  omega
theorem lens_cut (ws : List Str) (lo hi : Option Int) : lens (cutT ws lo hi) ≤ lens ws := Nat.le_trans (lens_take _ _) (lens_drop _ _)
theorem lens_snoc (ws : List Str) (x : Str) : lens (ws ++ [x]) = lens ws + x.length + 1 := by
  unfold lens
  rw [List.map_append, List.sum_append_nat, List.length_append]
  simp
  omega
theorem lens_rev (ws : List Str) : lens ws.reverse = lens ws := by
  unfold lens
  rw [List.map_reverse, List.length_reverse]
  congr 1
  induction ws with
  | nil => rfl
  | cons w ws ih =>
    rw [List.map_cons, List.reverse_cons, List.sum_append_nat, ih, List.sum_cons]
    simp
    omega
theorem lens_join (ws : List Str) : (Txt.join " " ws).length ≤ lens ws := by
  rw [show Txt.join " " ws = Str.join " " ws from StrLaws.glued_eq_join _ _]
  have := StrLaws.join_length_le (Str.ofString " ") ws
  rw [show (Str.ofString " ").length = 1 by decide +kernel] at this
  unfold lens
  omega
theorem cut_mem {ws : List Str} {lo hi : Option Int} {w : Str} (h : w ∈ cutT ws lo hi) : w ∈ ws := List.mem_of_mem_drop (List.mem_of_mem_take h)
def chg (t g : Str) (i : Int) (ws : List Str) : List Str := [t, Txt.slice t none (some i) ++ g ++ Txt.slice t (some i) none, Txt.slice t none (some i) ++ Txt.slice t (some (i + 1)) none, Txt.slice t none (some i) ++ g ++ Txt.slice t (some (i + 1)) none,
  t ++ " ", " " ++ t, Txt.replace t " " "  ", "+" ++ t, "0" ++ t, "-" ++ t,
  t ++ Txt.mul "0" 60, t ++ "/1", Txt.replace t " " "/", Txt.replace t "/" " ", t ++ " " ++ t,
  Txt.join " " ws.reverse, Txt.join " " (cutT ws none (some (-1))), Txt.join " " (cutT ws (some 1) none), Txt.replace t "u" "v",
  Txt.join " " (cutT ws none (some (-1)) ++ [Str.ofString "0"]), g ++ t, t ++ g]
theorem chg_tx {t g : Str} {i : Int} {ws : List Str} (ta : Asc t) (tl : t.length ≤ 400) (ga : Asc g) (gl : g.length ≤ 1) (wa : ∀ w ∈ ws, Asc w) (wl : lens ws ≤ 401) : ∀ x ∈ chg t g i ws, Tx x := by
  have s1 := Txt.slice_le t none (some i)
  have s2 := Txt.slice_le t (some i) none
  have s3 := Txt.slice_le t (some (i + 1)) none
  have a1 := ta.slice none (some i)
  have a2 := ta.slice (some i) none
  have a3 := ta.slice (some (i + 1)) none
  have u1 : Asc (Str.ofString "+") := ascii_of (by decide +kernel)
  have u2 : Asc (Str.ofString "0") := ascii_of (by decide +kernel)
  have u3 : Asc (Str.ofString "-") := ascii_of (by decide +kernel)
  have u4 : Asc (Txt.mul "0" 60) := ascii_of (by decide +kernel)
  have u5 : Asc (Str.ofString "/1") := ascii_of (by decide +kernel)
  have u6 : Asc (Str.ofString "  ") := ascii_of (by decide +kernel)
  have u7 : Asc (Str.ofString "/") := ascii_of (by decide +kernel)
  have u8 : Asc (Str.ofString "v") := ascii_of (by decide +kernel)
  have l1 : (Str.ofString "+").length = 1 := by decide +kernel
  have l2 : (Str.ofString "0").length = 1 := by decide +kernel
  have l3 : (Str.ofString "-").length = 1 := by decide +kernel
  have l4 : (Txt.mul "0" 60).length = 60 := by decide +kernel
  have l5 : (Str.ofString "/1").length = 2 := by decide +kernel
  have l6 : (Str.ofString "  ").length = 2 := by decide +kernel
  have l7 : (Str.ofString "/").length = 1 := by decide +kernel
  have l8 : (Str.ofString "v").length = 1 := by decide +kernel
  have l9 : (Str.ofString " ").length = 1 := by decide +kernel
  have eu : Str.ofString "u" = ⟨#[117]⟩ := by decide +kernel
  have k1 : ∀ vs : List Str, (∀ w ∈ vs, Asc w) → lens vs ≤ 900 → Tx (Txt.join " " vs) := fun vs h1 h2 => ⟨Asc.join sp_asc h1, Nat.le_trans (lens_join vs) h2⟩
  have k2 : ∀ z : Str, Asc z → z.length ≤ 2 → Tx (Txt.replace t " " z) := fun z h1 h2 => by
    rw [sp_eq]
    exact ⟨ta.repl h1, Nat.le_trans (repl_len h2) (by omega)⟩
  have cw := lens_cut ws none (some (-1))
  have cw2 := lens_cut ws (some 1) none
  intro x hx
  unfold chg at hx
  simp only [List.mem_cons, List.not_mem_nil, or_false] at hx
  rcases hx with rfl | rfl | rfl | rfl | rfl | rfl | rfl | rfl | rfl | rfl | rfl | rfl | rfl | rfl | rfl | rfl | rfl | rfl | rfl | rfl | rfl | rfl
  · exact ⟨ta, by omega⟩
  · exact ⟨(a1.app ga).app a2, by rw [Str.length_append, Str.length_append]; omega⟩
  · exact ⟨a1.app a3, by rw [Str.length_append]; omega⟩
  · exact ⟨(a1.app ga).app a3, by rw [Str.length_append, Str.length_append]; omega⟩
  · exact ⟨ta.app sp_asc, by rw [Str.length_append]; omega⟩
  · exact ⟨sp_asc.app ta, by rw [Str.length_append]; omega⟩
  · exact k2 _ u6 (by omega)
  · exact ⟨u1.app ta, by rw [Str.length_append]; omega⟩
  · exact ⟨u2.app ta, by rw [Str.length_append]; omega⟩
  · exact ⟨u3.app ta, by rw [Str.length_append]; omega⟩
  · exact ⟨ta.app u4, by rw [Str.length_append]; omega⟩
  · exact ⟨ta.app u5, by rw [Str.length_append]; omega⟩
  · exact k2 _ u7 (by omega)
  · rw [sl_eq]
    exact ⟨ta.repl sp_asc, Nat.le_trans (repl_len (by omega)) (by omega)⟩
  · exact ⟨(ta.app sp_asc).app ta, by rw [Str.length_append, Str.length_append]; omega⟩
  · exact k1 _ (fun w hw => wa w (List.mem_reverse.mp hw)) (by rw [lens_rev]; omega)
  · exact k1 _ (fun w hw => wa w (cut_mem hw)) (by omega)
  · exact k1 _ (fun w hw => wa w (cut_mem hw)) (by omega)
  · rw [eu]
    exact ⟨ta.repl u8, Nat.le_trans (repl_len (by omega)) (by omega)⟩
  · refine k1 _ (fun w hw => ?_) ?_
    · rcases List.mem_append.mp hw with h | h
      · exact wa w (cut_mem h)
      · rw [List.mem_singleton.mp h]
        exact u2
    · rw [lens_snoc]
      omega
  · exact ⟨ga.app ta, by rw [Str.length_append]; omega⟩
  · exact ⟨ta.app ga, by rw [Str.length_append]; omega⟩
def spChg (K : PySem.W.Frag) : Sp := fun vs H Q _ => ∃ (t : Str) (l : Addr) (a b c d e : Int), vs = [.str t, .ref l] ∧ Asc t ∧ t.length ≤ 400 ∧ SqL K H l ([a, b, c, d, e].map V.int) ∧ 0 ≤ a ∧ a < 22 ∧ 0 ≤ d ∧ d < 21 ∧ 0 ≤ e ∧ e < 94 ∧ ∀ x H', Same H H' → Tx x → Q (.str x) H'
theorem use_chg {K : PySem.W.Frag} {t : Str} {l : Addr} {a b c d e : Int} {H : Hp} {Q : VK} {E : XK} (ta : Asc t) (tl : t.length ≤ 400) (h : SqL K H l ([a, b, c, d, e].map V.int)) (a0 : 0 ≤ a) (a1 : a < 22) (d0 : 0 ≤ d) (d1 : d < 21) (e0 : 0 ≤ e) (e1 : e < 94) (q : ∀ x H', Same H H' → Tx x → Q (.str x) H') : spChg K [.str t, .ref l] H Q E := ⟨t, l, a, b, c, d, e, rfl, ta, tl, h, a0, a1, d0, d1, e0, e1, q⟩
theorem ok__law_changed (F : Src K mg "_law_changed" s__law_changed ["_law_text", "_law_way"]) (B : Blt mg) (C : Cls K mg base) (R : Rel K mg base C) (Kc : Cst K mg) (D__law_sign : Def P w K mg base (CXE P w) 1 "_law_sign" ["_law_way"] (spSign K)) : Def P w K mg base (CXE P w) 2 "_law_changed" ["_law_text", "_law_way"] (spChg K) := by
  refine F.ok (CX := CXE P w) (k := 1) sc__law_changed (fun vs H Q E h => ?_) (fun f cdv A outer s H vs Q E hr h => ?_)
  · obtain ⟨_, _, _, _, _, _, _, rfl, _⟩ := h
    rfl
  have nd := sc__law_changed.nd
  obtain ⟨t, l, a, b, c, d, e, rfl, ta, tl, hl, a0, a1, d0, d1, e0, e1, q⟩ := h
  have tz : t.length ≤ sizeLine := Nat.le_trans tl (by decide)
  refine ⟨_, (@pss_cons _ _ _ _ _ (@ps_set _ _ 2 _ _ _ _ nd rfl (Or.inl rfl) (@pe_op _ _ _ _ _ _ _ _ op_modA (@pe_ix _ _ _ _ _ _ _ ix_A (pv 1) pe_int (fun _ _ => rfl)) (@pe_op _ _ _ _ _ _ _ _ op_addA (@pe_callB _ _ _ _ _ _ _ _ _ call_lenS rfl B.len PySem.boot_len (@pa_cons _ _ _ _ _ (pv 0) pa_nil (by rfl)) (by decide) (by decide) (by rfl) (by rfl)) pe_int)) (by rfl) (by walk_at "lo")) (@pss_cons _ _ _ _ _ (@ps_set _ _ 3 _ _ _ _ nd rfl (Or.inl rfl) (@pe_defS _ _ _ _ _ _ _ _ _ _ _ D__law_sign (hr.mono (by decide)) rfl xpass_nox (@pa_cons _ _ _ _ _ (pv 1) pa_nil (by rfl)) (by decide) (by rfl) (by rfl)) (by rfl) (by walk_at "lo")) (@pss_cons _ _ _ _ _ (@ps_set _ _ 4 _ _ _ _ nd rfl (Or.inl rfl) (@pe_bm _ _ _ _ _ _ _ _ _ _ _ _ PySem.F.plainAttrs_str PySem.F.slot_str_split PySem.F.type_str_split mt_split (pv 0) (@pa_cons _ _ _ _ _ pe_str pa_nil (by rfl)) (by rfl) (by rfl) (by rfl) (by rfl) (by rfl)) (by rfl) (by walk_at "lo")) (@pss_cons _ _ _ _ _ (@ps_set _ _ 5 _ _ _ _ nd rfl (Or.inl rfl) (@pe_lst _ _ _ _ (@pa_cons _ _ _ _ _ (pv 0) (@pa_cons _ _ _ _ _ (@pe_op _ _ _ _ _ _ _ _ op_addS (@pe_op _ _ _ _ _ _ _ _ op_addS (@pe_slice _ _ _ _ _ _ _ _ _ _ sl_str (pv 0) po_none (@po_some _ _ _ (pv 2))) (pv 3)) (@pe_slice _ _ _ _ _ _ _ _ _ _ sl_str (pv 0) (@po_some _ _ _ (pv 2)) po_none)) (@pa_cons _ _ _ _ _ (@pe_op _ _ _ _ _ _ _ _ op_addS (@pe_slice _ _ _ _ _ _ _ _ _ _ sl_str (pv 0) po_none (@po_some _ _ _ (pv 2))) (@pe_slice _ _ _ _ _ _ _ _ _ _ sl_str (pv 0) (@po_some _ _ _ (@pe_op _ _ _ _ _ _ _ _ op_addA (pv 2) pe_int)) po_none)) (@pa_cons _ _ _ _ _ (@pe_op _ _ _ _ _ _ _ _ op_addS (@pe_op _ _ _ _ _ _ _ _ op_addS (@pe_slice _ _ _ _ _ _ _ _ _ _ sl_str (pv 0) po_none (@po_some _ _ _ (pv 2))) (pv 3)) (@pe_slice _ _ _ _ _ _ _ _ _ _ sl_str (pv 0) (@po_some _ _ _ (@pe_op _ _ _ _ _ _ _ _ op_addA (pv 2) pe_int)) po_none)) pa_nil (by rfl)) (by rfl)) (by rfl)) (by rfl))) (by rfl) (by walk_at "lo")) (@pss_cons _ _ _ _ _ (@ps_set _ _ 5 _ _ _ _ nd rfl (Or.inl rfl) (@pe_op _ _ _ _ _ _ _ _ op_addA (pv 5) (@pe_lst _ _ _ _ (@pa_consP _ _ _ _ _ (pep_op op_addS (pv 0) pep_str) (pa_cons1 (pe1_of (@pe_op _ _ _ _ _ _ _ _ op_addS pe_str (pv 0))) (pa_cons1 (pe_repl (by decide +kernel) (pv 0)) (pa_cons1 (pe1_of (@pe_op _ _ _ _ _ _ _ _ op_addS pe_str (pv 0))) (pa_cons1 (pe1_of (@pe_op _ _ _ _ _ _ _ _ op_addS pe_str (pv 0))) (pa_cons1 (pe1_of (@pe_op _ _ _ _ _ _ _ _ op_addS pe_str (pv 0))) pa_nil1))))) (by rfl)))) (by rfl) (by walk_at "lo")) (@pss_cons _ _ _ _ _ (@ps_set _ _ 5 _ _ _ _ nd rfl (Or.inl rfl) (@pe_op _ _ _ _ _ _ _ _ op_addA (pv 5) (@pe_lst _ _ _ _ (@pa_consP _ _ _ _ _ (pep_op op_addS (pv 0) (pep_opL op_mulS pep_str pe_int)) (pa_cons1 (pe1_of (@pe_op _ _ _ _ _ _ _ _ op_addS (pv 0) pe_str)) (pa_cons1 (pe_repl (by decide +kernel) (pv 0)) (pa_cons1 (pe_repl (by decide +kernel) (pv 0)) (pa_cons1 (pe1_of (@pe_op _ _ _ _ _ _ _ _ op_addS (@pe_op _ _ _ _ _ _ _ _ op_addS (pv 0) pe_str) (pv 0))) pa_nil1)))) (by rfl)))) (by rfl) (by walk_at "lo")) (@pss_cons _ _ _ _ _ (@ps_set _ _ 5 _ _ _ _ nd rfl (Or.inl rfl) (@pe_op _ _ _ _ _ _ _ _ op_addA (pv 5) (@pe_lst _ _ _ _ (@pa_consP _ _ _ _ _ (pep_bm PySem.F.plainAttrs_str PySem.F.slot_str_join PySem.F.type_str_join mt_join pep_str (@pa_cons _ _ _ _ _ (@pe_sliceRv _ _ _ _ _ _ _ (pv 4) (@po_some _ _ _ (@pe_un _ _ _ _ _ _ un_neg pe_int))) pa_nil (by rfl))) (pa_cons1 (pe1_of (@pe_bm _ _ _ _ _ _ _ _ _ _ _ _ PySem.F.plainAttrs_str PySem.F.slot_str_join PySem.F.type_str_join mt_join pe_str (@pa_cons _ _ _ _ _ (@pe_slice _ _ _ _ _ _ _ _ _ _ sl_A (pv 4) po_none (@po_some _ _ _ (@pe_un _ _ _ _ _ _ un_neg pe_int))) pa_nil (by rfl)) (by rfl) (by rfl) (by rfl) (by rfl) (by rfl))) (pa_cons1 (pe1_of (@pe_bm _ _ _ _ _ _ _ _ _ _ _ _ PySem.F.plainAttrs_str PySem.F.slot_str_join PySem.F.type_str_join mt_join pe_str (@pa_cons _ _ _ _ _ (@pe_slice _ _ _ _ _ _ _ _ _ _ sl_A (pv 4) (@po_some _ _ _ pe_int) po_none) pa_nil (by rfl)) (by rfl) (by rfl) (by rfl) (by rfl) (by rfl))) (pa_cons1 (pe_repl (by decide +kernel) (pv 0)) pa_nil1))) (by rfl)))) (by rfl) (by walk_at "lo")) (@pss_cons _ _ _ _ _ (@ps_set _ _ 5 _ _ _ _ nd rfl (Or.inl rfl) (@pe_op _ _ _ _ _ _ _ _ op_addA (pv 5) (@pe_lst _ _ _ _ (@pa_cons _ _ _ _ _ (@pe_bm _ _ _ _ _ _ _ _ _ _ _ _ PySem.F.plainAttrs_str PySem.F.slot_str_join PySem.F.type_str_join mt_join pe_str (@pa_cons _ _ _ _ _ (@pe_op _ _ _ _ _ _ _ _ op_addA (@pe_slice _ _ _ _ _ _ _ _ _ _ sl_A (pv 4) po_none (@po_some _ _ _ (@pe_un _ _ _ _ _ _ un_neg pe_int))) (@pe_lst _ _ _ _ (@pa_cons _ _ _ _ _ pe_str pa_nil (by rfl)))) pa_nil (by rfl)) (by rfl) (by rfl) (by rfl) (by rfl) (by rfl)) (@pa_cons _ _ _ _ _ (@pe_op _ _ _ _ _ _ _ _ op_addS (pv 3) (pv 0)) (@pa_cons _ _ _ _ _ (@pe_op _ _ _ _ _ _ _ _ op_addS (pv 0) (pv 3)) pa_nil (by rfl)) (by rfl)) (by rfl)))) (by rfl) (by walk_at "lo")) (@pss_one _ _ _ (@ps_ret _ _ _ _ (@pe_ix _ _ _ _ _ _ _ ix_A (pv 5) (@pe_ix _ _ _ _ _ _ _ ix_A (pv 1) pe_int (fun _ _ => rfl)) (fun _ _ => rfl)))))))))))), ?_⟩
  try dsimp only [cxOf, Cx.inH, Cx.tried]
  refine rd_start [some (.str t), some (.ref l), none, none, none, none] rfl ?_
  walk_at "rd"
  refine use_sign hl d0 d1 e0 e1 fun g g1 => ?_
  walk_at "rd"
  have ok : TxtOk (Txt.split t " ") := by
    rw [sp_eq]
    exact Tx.ok ⟨ta, by omega⟩ 32
  have lw : lens (Txt.split t " ") ≤ 401 := by
    rw [sp_eq]
    unfold lens
    rw [split_sum]
    omega
  refine rd_split (by decide +kernel) tz _ rfl (Nat.le_trans ok.1 (by decide)) fun D H1 s1 n1 e1' => ?_
  generalize Txt.split t " " = ws at *
  clear tz
  generalize hi : b % ((t.length : Int) + 1) = i
  have z1 : (Txt.slice t none (some i)).length ≤ 400 := Nat.le_trans (Txt.slice_le _ _ _) tl
  have z2 : (Txt.slice t (some i) none).length ≤ 400 := Nat.le_trans (Txt.slice_le _ _ _) tl
  have z3 : (Txt.slice t (some (i + 1)) none).length ≤ 400 := Nat.le_trans (Txt.slice_le _ _ _) tl
  have z4 : (⟨#[g]⟩ : Str).length ≤ 1 := Nat.le_refl _
  have hl1 := s1.seq hl
  walk_at "rd"
  refine rd_kRepl (by rw [show (Str.ofString "  ").length = 2 by decide +kernel]; omega) ?_
  walk_at "rd"
  refine rd_mulS ⟨by decide, fun _ _ => by decide +kernel, fun _ _ => by decide +kernel⟩ ?_
  have z5 : (Txt.mul "0" 60).length ≤ 60 := by decide +kernel
  walk_at "rd"
  refine rd_kRepl (by rw [show (Str.ofString "/").length = 1 by decide +kernel]; omega) ?_
  walk_at "rd"
  refine rd_kRepl (by rw [show (Str.ofString " ").length = 1 by decide +kernel]; omega) ?_
  walk_at "rd"
  have jk : ∀ vs : List Str, vs.length ≤ ws.length + 1 → (∀ w ∈ vs, w ∈ ws ∨ w = Str.ofString "0") → JoinOk " " vs = true := fun vs h1 h2 => join_ok (k := 10000) (by decide +kernel) (by have := lw; unfold lens at this; omega) (fun w hw => by
    rcases h2 w hw with h | h
    · exact (ok.2 w h).2
    · rw [h]
      decide +kernel) (Nat.le_refl _)
  have cl : ∀ lo hi, (cutT ws lo hi).length ≤ ws.length := fun lo hi => by
    have := cutV_length (ws.map V.str) lo hi
    rw [cut_strs, List.length_map, List.length_map] at this
    exact this
  refine rd_kJoin ws.reverse (SqL.of (by rw [List.map_reverse]; assumption)) (jk _ (by rw [List.length_reverse]; omega) fun w hw => .inl (List.mem_reverse.mp hw)) ?_
  walk_at "rd"
  refine rd_kJoin (cutT ws none (some (-1))) (SqL.of (by rw [← cut_strs]; assumption)) (jk _ (by have := cl none (some (-1)); omega) fun w hw => .inl (cut_mem hw)) ?_
  walk_at "rd"
  refine rd_kJoin (cutT ws (some 1) none) (SqL.of (by rw [← cut_strs]; assumption)) (jk _ (by have := cl (some 1) none; omega) fun w hw => .inl (cut_mem hw)) ?_
  walk_at "rd"
  refine rd_kRepl (by rw [show (Str.ofString "v").length = 1 by decide +kernel]; omega) ?_
  walk_at "rd"
  rename_i p1 Hx sx nx ex p0 Hy sy ny ey
  have lw' := lw
  unfold lens at lw'
  refine rd_cat (sy.obj ex) ey (by
    rw [cut_strs, List.length_map]
    have h1 := cl none (some (-1))
    have h2 : sizeLine = 16777216 := rfl
    show _ + 1 ≤ sizeLine
    omega) fun p2 Hz sz nz ez => ?_
  walk_at "rd"
  refine rd_kJoin (cutT ws none (some (-1)) ++ [Str.ofString "0"]) (SqL.of (by rw [List.map_append, ← cut_strs]; exact ez)) (jk _ (by rw [List.length_append]; have := cl none (some (-1)); show _ + 1 ≤ _; omega) fun w hw => by
    rcases List.mem_append.mp hw with h | h
    · exact .inl (cut_mem h)
    · exact .inr (List.mem_singleton.mp h)) ?_
  walk_at "rd"
  rename_i p3 Hu su nu eu p4 Hv sv nv ev
  refine rd_ixStr (ts := chg t ⟨#[g]⟩ i ws) (SqL.of ev) a0 (by show a < ((22 : Nat) : Int); omega) fun x hx => ?_
  have key := chg_tx (g := ⟨#[g]⟩) (i := i) ta tl (ascii_of (by show (#[g].all fun x => decide (x < 128)) = true; simp [g1])) (Nat.le_refl _) (fun w hw => (ok.2 w hw).1) lw
  exact q x _ (by walk_at "sm") (key x (List.mem_of_getElem? hx))
def spOdd : Sp := fun vs H Q _ => vs = [] ∧ ∀ D H' (ts : List Str), Same H H' → H' D = some (.lst (ts.map V.str)) → (∀ x ∈ ts, Tx x) → ts.length ≤ 100 → Q (.ref D) H'
def oddT : List Str := [Str.ofString "", Str.ofString " ", Str.ofString "none", Str.ofString "None", Str.ofString "none ", Str.ofString "1", Str.ofString "-1", Str.ofString "0", Str.ofString "-0", Str.ofString "00", Str.ofString "1/2", Str.ofString "2/1", Str.ofString "0/5", Str.ofString "-1/2", Str.ofString "1/-2", Str.ofString "1/0", Str.ofString "1/00", Str.ofString "1/02", Str.ofString "/2", Str.ofString "1/", Str.ofString "1/2/3", Str.ofString "1 /2", Str.ofString "1 0 0 1", Str.ofString "1 0 0 -1", Str.ofString "1 2 3 4", Str.ofString "0 -1 1 0", Str.ofString "1 0 0", Str.ofString "1 0 0 1 0", Str.ofString "u 1", Str.ofString "u 1 v 2", Str.ofString "u 1 u 2", Str.ofString "u 0", Str.ofString "u -1", Str.ofString "u", Str.ofString "v 01", Str.ofString "U 1", Str.ofString "u1", Str.ofString "w 1", Str.ofString "u 1 v", Str.ofString "1 u", Str.ofString "none 1", Str.ofString "+1", Str.ofString "1_0", Str.ofString "0x1"]
theorem odd_tx : ∀ x ∈ oddT, Tx x := by
  have key : oddT.all (fun x => x.cps.all (· < 128) && decide (x.length ≤ 900)) = true := by decide +kernel
  intro x hx
  have := Bool.and_eq_true_iff.mp (List.all_eq_true.mp key x hx)
  exact ⟨this.1, of_decide_eq_true this.2⟩
theorem ok__law_odd_texts (F : Src K mg "_law_odd_texts" s__law_odd_texts []) (B : Blt mg) (C : Cls K mg base) (R : Rel K mg base C) (Kc : Cst K mg)  : Def P w K mg base (CXE P w) 1 "_law_odd_texts" [] spOdd := by
  refine F.ok (CX := CXE P w) (k := 0) sc__law_odd_texts (fun vs H Q E h => ?_) (fun f cdv A outer s H vs Q E hr h => ?_)
  · obtain ⟨rfl, _⟩ := h
    rfl
  have nd := sc__law_odd_texts.nd
  obtain ⟨rfl, q⟩ := h
  refine ⟨_, (@pss_cons _ _ _ _ _ (@ps_set _ _ 0 _ _ _ _ nd rfl (Or.inl rfl) (@pe_lst _ _ _ _ (@pa_cons _ _ _ _ _ pe_str (@pa_cons _ _ _ _ _ pe_str (@pa_cons _ _ _ _ _ pe_str (@pa_cons _ _ _ _ _ pe_str (@pa_cons _ _ _ _ _ pe_str (@pa_cons _ _ _ _ _ pe_str (@pa_cons _ _ _ _ _ pe_str (@pa_cons _ _ _ _ _ pe_str (@pa_cons _ _ _ _ _ pe_str (@pa_cons _ _ _ _ _ pe_str (@pa_cons _ _ _ _ _ pe_str (@pa_cons _ _ _ _ _ pe_str (@pa_cons _ _ _ _ _ pe_str (@pa_cons _ _ _ _ _ pe_str (@pa_cons _ _ _ _ _ pe_str (@pa_cons _ _ _ _ _ pe_str pa_nil (by rfl)) (by rfl)) (by rfl)) (by rfl)) (by rfl)) (by rfl)) (by rfl)) (by rfl)) (by rfl)) (by rfl)) (by rfl)) (by rfl)) (by rfl)) (by rfl)) (by rfl)) (by rfl))) (by rfl) (by walk_at "lo")) (@pss_cons _ _ _ _ _ (@ps_set _ _ 0 _ _ _ _ nd rfl (Or.inl rfl) (@pe_op _ _ _ _ _ _ _ _ op_addA (pv 0) (@pe_lst _ _ _ _ (@pa_cons _ _ _ _ _ pe_str (@pa_cons _ _ _ _ _ pe_str (@pa_cons _ _ _ _ _ pe_str (@pa_cons _ _ _ _ _ pe_str (@pa_cons _ _ _ _ _ pe_str (@pa_cons _ _ _ _ _ pe_str (@pa_cons _ _ _ _ _ pe_str (@pa_cons _ _ _ _ _ pe_str (@pa_cons _ _ _ _ _ pe_str (@pa_cons _ _ _ _ _ pe_str (@pa_cons _ _ _ _ _ pe_str pa_nil (by rfl)) (by rfl)) (by rfl)) (by rfl)) (by rfl)) (by rfl)) (by rfl)) (by rfl)) (by rfl)) (by rfl)) (by rfl)))) (by rfl) (by walk_at "lo")) (@pss_cons _ _ _ _ _ (@ps_set _ _ 0 _ _ _ _ nd rfl (Or.inl rfl) (@pe_op _ _ _ _ _ _ _ _ op_addA (pv 0) (@pe_lst _ _ _ _ (@pa_cons _ _ _ _ _ pe_str (@pa_cons _ _ _ _ _ pe_str (@pa_cons _ _ _ _ _ pe_str (@pa_cons _ _ _ _ _ pe_str (@pa_cons _ _ _ _ _ pe_str (@pa_cons _ _ _ _ _ pe_str (@pa_cons _ _ _ _ _ pe_str (@pa_cons _ _ _ _ _ pe_str (@pa_cons _ _ _ _ _ pe_str (@pa_cons _ _ _ _ _ pe_str (@pa_cons _ _ _ _ _ pe_str (@pa_cons _ _ _ _ _ pe_str pa_nil (by rfl)) (by rfl)) (by rfl)) (by rfl)) (by rfl)) (by rfl)) (by rfl)) (by rfl)) (by rfl)) (by rfl)) (by rfl)) (by rfl)))) (by rfl) (by walk_at "lo")) (@pss_one _ _ _ (@ps_ret _ _ _ _ (@pe_op _ _ _ _ _ _ _ _ op_addA (pv 0) (@pe_lst _ _ _ _ (@pa_cons _ _ _ _ _ pe_str (@pa_cons _ _ _ _ _ pe_str (@pa_cons _ _ _ _ _ pe_str (@pa_cons _ _ _ _ _ pe_str (@pa_cons _ _ _ _ _ pe_str pa_nil (by rfl)) (by rfl)) (by rfl)) (by rfl)) (by rfl))))))))), ?_⟩
  try dsimp only [cxOf, Cx.inH, Cx.tried]
  refine rd_start [none] rfl ?_
  walk_at "rd"
  rename_i p3 Hu su nu eu p4 Hv sv nv ev
  exact q p4 Hv oddT (by walk_at "sm") ev odd_tx (by decide)
theorem two_asc (a b : Int) : Asc (numT a ++ "/" ++ numT b) := ((num_asc a).app (ascii_of (by decide +kernel))).app (num_asc b)
theorem ok_law (F : Src K mg "law" s_law ["_law_script"]) (B : Blt mg) (C : Cls K mg base) (R : Rel K mg base C) (Kc : Cst K mg) (D__law_cell : Def P w K mg base (CXE P w) 1 "_law_cell" ["_law_script", "_law_k"] (spCell K)) (D__law_draws : Def P w K mg base (CXE P w) 2 "_law_draws" ["_law_cell_here", "_law_widths", "_law_prime"] (spDraws K)) (D__law_any_table : Def P w K mg base (CXE P w) 3 "_law_any_table" ["_law_cell_here", "_law_prime"] spAT) (D__law_table_text : Def P w K mg base (CXE P w) 1 "_law_table_text" ["_law_table"] spLTT) (D__law_any_word : Def P w K mg base (CXE P w) 5 "_law_any_word" ["_law_cell_here", "_law_prime"] spAW) (D__law_word_text : Def P w K mg base (CXE P w) 1 "_law_word_text" ["_law_word"] spLWT) (D__law_text_number : Def P w K mg base (CXE P w) 4 "_law_text_number" ["_law_cell_here", "_law_prime"] spTN) (D__law_changed : Def P w K mg base (CXE P w) 2 "_law_changed" ["_law_text", "_law_way"] (spChg K)) (D__law_well_read : Def P w K mg base (CXE P w) 7 "_law_well_read" ["_law_text"] spWell) (D__law_odd_texts : Def P w K mg base (CXE P w) 1 "_law_odd_texts" [] spOdd) : Def P w K mg base (CXE P w) 8 "law" ["_law_script"] (spLaw K) := by
  refine F.ok (CX := CXE P w) (k := 7) sc_law (fun vs H Q E h => ?_) (fun f cdv A outer s H vs Q E hr h => ?_)
  · obtain ⟨_, _, rfl, _⟩ := h
    rfl
  have nd := sc_law.nd
  obtain ⟨a, ns, rfl, hS, h63, q⟩ := h
  refine ⟨_, (@pss_cons _ _ _ _ _ (@ps_set _ _ 1 _ _ _ _ nd rfl (Or.inl rfl) (@pe_ix _ _ _ _ _ _ _ ix_A (@pe_defS _ _ _ _ _ _ _ _ _ _ _ D__law_draws (hr.mono (by decide)) rfl xpass_nox (@pa_cons _ _ _ _ _ (@pe_defS _ _ _ _ _ _ _ _ _ _ _ D__law_cell (hr.mono (by decide)) rfl xpass_nox (@pa_cons _ _ _ _ _ (pv 0) (@pa_cons _ _ _ _ _ pe_int pa_nil (by rfl)) (by rfl)) (by decide) (by rfl) (by rfl)) (@pa_cons _ _ _ _ _ (@pe_lst _ _ _ _ (@pa_cons _ _ _ _ _ pe_int pa_nil (by rfl))) (@pa_cons _ _ _ _ _ pe_int pa_nil (by rfl)) (by rfl)) (by rfl)) (by decide) (by rfl) (by rfl)) pe_int (fun _ _ => rfl)) (by rfl) (by walk_at "lo")) (@pss_cons _ _ _ _ _ (@ps_set _ _ 2 _ _ _ _ nd rfl (Or.inl rfl) (@pe_defS _ _ _ _ _ _ _ _ _ _ _ D__law_table_text (hr.mono (by decide)) rfl xpass_nox (@pa_cons _ _ _ _ _ (@pe_defS _ _ _ _ _ _ _ _ _ _ _ D__law_any_table (hr.mono (by decide)) rfl xpass_nox (@pa_cons _ _ _ _ _ (@pe_defS _ _ _ _ _ _ _ _ _ _ _ D__law_cell (hr.mono (by decide)) rfl xpass_nox (@pa_cons _ _ _ _ _ (pv 0) (@pa_cons _ _ _ _ _ pe_int pa_nil (by rfl)) (by rfl)) (by decide) (by rfl) (by rfl)) (@pa_cons _ _ _ _ _ pe_int pa_nil (by rfl)) (by rfl)) (by decide) (by rfl) (by rfl)) pa_nil (by rfl)) (by decide) (by rfl) (by rfl)) (by rfl) (by walk_at "lo")) (@pss_consE _ _ _ _ _ (@ps_if _ _ _ _ _ _ _ _ (@pt_cmpR _ _ _ _ _ _ _ _ (op_eqA hr.units0) (pv 1) pe_int (nomark _)) (@pss_one _ _ _ (@ps_set _ _ 2 _ _ _ _ nd rfl (Or.inl rfl) (@pe_defS _ _ _ _ _ _ _ _ _ _ _ D__law_word_text (hr.mono (by decide)) rfl xpass_nox (@pa_cons _ _ _ _ _ (@pe_defS _ _ _ _ _ _ _ _ _ _ _ D__law_any_word (hr.mono (by decide)) rfl xpass_nox (@pa_cons _ _ _ _ _ (@pe_defS _ _ _ _ _ _ _ _ _ _ _ D__law_cell (hr.mono (by decide)) rfl xpass_nox (@pa_cons _ _ _ _ _ (pv 0) (@pa_cons _ _ _ _ _ pe_int pa_nil (by rfl)) (by rfl)) (by decide) (by rfl) (by rfl)) (@pa_cons _ _ _ _ _ pe_int pa_nil (by rfl)) (by rfl)) (by decide) (by rfl) (by rfl)) pa_nil (by rfl)) (by decide) (by rfl) (by rfl)) (by rfl) (by walk_at "lo"))) pss_nil) (@pss_consE _ _ _ _ _ (@ps_if _ _ _ _ _ _ _ _ (@pt_cmpR _ _ _ _ _ _ _ _ (op_eqA hr.units0) (pv 1) pe_int (nomark _)) (@pss_cons _ _ _ _ _ (@ps_set _ _ 3 _ _ _ _ nd rfl (Or.inl rfl) (@pe_defS _ _ _ _ _ _ _ _ _ _ _ D__law_text_number (hr.mono (by decide)) rfl xpass_nox (@pa_cons _ _ _ _ _ (@pe_defS _ _ _ _ _ _ _ _ _ _ _ D__law_cell (hr.mono (by decide)) rfl xpass_nox (@pa_cons _ _ _ _ _ (pv 0) (@pa_cons _ _ _ _ _ pe_int pa_nil (by rfl)) (by rfl)) (by decide) (by rfl) (by rfl)) (@pa_cons _ _ _ _ _ pe_int pa_nil (by rfl)) (by rfl)) (by decide) (by rfl) (by rfl)) (by rfl) (by walk_at "lo")) (@pss_one _ _ _ (@ps_set _ _ 2 _ _ _ _ nd rfl (Or.inl rfl) (@pe_op _ _ _ _ _ _ _ _ op_addS (@pe_op _ _ _ _ _ _ _ _ op_addS (@pe_callTy _ _ _ _ _ _ _ _ _ call_strI rfl B.str PyProof.Rows.boot_str (@pa_cons _ _ _ _ _ (pv 3) pa_nil (by rfl)) (by decide) (by decide) (by rfl) (by rfl)) pe_str) (@pe_callTy _ _ _ _ _ _ _ _ _ call_strI rfl B.str PyProof.Rows.boot_str (@pa_cons _ _ _ _ _ (@pe_callB _ _ _ _ _ _ _ _ _ (call_maxI rfl) rfl B.max PyProof.Rows.boot_max (@pa_cons _ _ _ _ _ pe_int (@pa_cons _ _ _ _ _ (@pe_callB _ _ _ _ _ _ _ _ _ call_absI rfl B.abs PyProof.Rows.boot_abs (@pa_cons _ _ _ _ _ (@pe_defS _ _ _ _ _ _ _ _ _ _ _ D__law_text_number (hr.mono (by decide)) rfl xpass_nox (@pa_cons _ _ _ _ _ (@pe_defS _ _ _ _ _ _ _ _ _ _ _ D__law_cell (hr.mono (by decide)) rfl xpass_nox (@pa_cons _ _ _ _ _ (pv 0) (@pa_cons _ _ _ _ _ pe_int pa_nil (by rfl)) (by rfl)) (by decide) (by rfl) (by rfl)) (@pa_cons _ _ _ _ _ pe_int pa_nil (by rfl)) (by rfl)) (by decide) (by rfl) (by rfl)) pa_nil (by rfl)) (by decide) (by decide) (by rfl) (by rfl)) pa_nil (by rfl)) (by rfl)) (by decide) (by decide) (by rfl) (by rfl)) pa_nil (by rfl)) (by decide) (by decide) (by rfl) (by rfl))) (by rfl) (by walk_at "lo")))) pss_nil) (@pss_cons _ _ _ _ _ (@ps_set _ _ 2 _ _ _ _ nd rfl (Or.inl rfl) (@pe_defS _ _ _ _ _ _ _ _ _ _ _ D__law_changed (hr.mono (by decide)) rfl xpass_nox (@pa_cons _ _ _ _ _ (pv 2) (@pa_cons _ _ _ _ _ (@pe_defS _ _ _ _ _ _ _ _ _ _ _ D__law_draws (hr.mono (by decide)) rfl xpass_nox (@pa_cons _ _ _ _ _ (@pe_defS _ _ _ _ _ _ _ _ _ _ _ D__law_cell (hr.mono (by decide)) rfl xpass_nox (@pa_cons _ _ _ _ _ (pv 0) (@pa_cons _ _ _ _ _ pe_int pa_nil (by rfl)) (by rfl)) (by decide) (by rfl) (by rfl)) (@pa_cons _ _ _ _ _ (@pe_lst _ _ _ _ (@pa_cons _ _ _ _ _ pe_int (@pa_cons _ _ _ _ _ pe_int (@pa_cons _ _ _ _ _ pe_int (@pa_cons _ _ _ _ _ pe_int (@pa_cons _ _ _ _ _ pe_int pa_nil (by rfl)) (by rfl)) (by rfl)) (by rfl)) (by rfl))) (@pa_cons _ _ _ _ _ pe_int pa_nil (by rfl)) (by rfl)) (by rfl)) (by decide) (by rfl) (by rfl)) pa_nil (by rfl)) (by rfl)) (by decide) (by rfl) (by rfl)) (by rfl) (by walk_at "lo")) (@pss_one _ _ _ (@ps_ret _ _ _ _ (@pe_and _ _ _ _ _ _ _ (@pe_defS _ _ _ _ _ _ _ _ _ _ _ D__law_well_read (hr.mono (by decide)) rfl xpass_nox (@pa_cons _ _ _ _ _ (pv 2) pa_nil (by rfl)) (by decide) (by rfl) (by rfl)) (@pe_one _ _ _ _ _ (@pe_callB _ _ _ _ _ _ _ _ _ (call_allB rfl) rfl B.all PyProof.Rows.boot_all (@pa_cons _ _ _ _ _ (@pe_comp _ _ _ _ _ _ _ _ _ rfl (@PI.or _ _ _ _ _ (@pi_list _ _ _ _ (@pe_defS0 _ _ _ _ _ _ _ _ D__law_odd_texts (hr.mono (by decide)) rfl xpass_nox (by decide))) (@pi_tup _ _ _ _ (@pe_defS0 _ _ _ _ _ _ _ _ D__law_odd_texts (hr.mono (by decide)) rfl xpass_nox (by decide)))) (fun pins ex s H => (@pe_defS _ _ _ _ _ _ _ _ _ _ _ D__law_well_read (hr.mono (by decide)) rfl xpass_wn (@pa_cons _ _ _ _ _ (pv 0) pa_nil (by rfl)) (by decide) (by rfl) (by rfl))) (by decide +kernel) (by decide +kernel) rfl (by decide +kernel) rfl (by intro _; rfl)) pa_nil (by rfl)) (by decide) (by decide) (by rfl) (by rfl))))))))))), ?_⟩
  try dsimp only [cxOf, Cx.inH, Cx.tried]
  refine rd_start [some (.ref a), none, none, none] rfl ?_
  walk_at "rd"
  refine use_draws [3] (by walk_at "hp") (by decide) (by decide) (by decide) ?_
  intro r1 H1 fs s1' n1 e1 hD
  have s1 : Same H H1 := by walk_at "sm"
  clear s1' n1
  obtain ⟨f0, rfl⟩ : ∃ f0, fs = [f0] := List.length_eq_one_iff.mp hD.1
  have hS1 := s1.seq hS
  walk_at "rd"
  refine use_at (by decide) fun tb H2 a' b' c' d' s2 T det bd => ?_
  have up : ∀ n : Int, n.natAbs < 10 ^ 60 → Small n := fun n h => Nat.lt_trans h (by decide)
  have hS2 := s2.seq hS1
  walk_at "rd"
  refine use_ltt T (up _ (bd _ (by simp))) (up _ (bd _ (by simp))) (up _ (bd _ (by simp))) (up _ (bd _ (by simp))) fun H3 s3 => ?_
  have hS3 := s3.seq hS2
  have x1 : Asc (tabT a' b' c' d') := tab_asc _ _ _ _
  have x2 : (tabT a' b' c' d').length ≤ 400 := Nat.le_trans (tab_len (k := 61) fun n hn => num_len60 (bd n hn)) (by decide)
  generalize tabT a' b' c' d' = t0 at *
  clear T det bd
  walk_at "rd"
  refine rd_join (fun σ H' => SqL K H' a (ns.map V.int) ∧ ∃ t, σ = [some (.ref a), some (.int f0), some (.str t), none] ∧ Asc t ∧ t.length ≤ 400) ?_ ?_
  · walk_at "rd"
    walk_at "ite"
    · walk_at "rd"
      refine use_aw (by decide) fun D4 H4 ws s4 W alt bd hl => ?_
      walk_at "rd"
      refine use_lwt W (by omega) (fun p hp => up _ (bd p hp).2) fun H5 s5 => ?_
      walk_at "rd"
      exact ⟨(s4.trans s5).seq hS3, _, rfl, word_asc ws, Nat.le_trans (word_len (k := 61) (n := 6) hl fun p hp => num_len60 (bd p hp).2) (by decide)⟩
    · walk_at "rd"
      exact ⟨hS3, _, rfl, x1, x2⟩
  rintro σ H4 ⟨hS4, t, rfl, y1, y2⟩
  walk_at "rd"
  refine rd_join (fun σ H' => SqL K H' a (ns.map V.int) ∧ ∃ t z, σ = [some (.ref a), some (.int f0), some (.str t), z] ∧ Asc t ∧ t.length ≤ 400) ?_ ?_
  · walk_at "rd"
    walk_at "ite"
    · walk_at "rd"
      refine use_tn (by decide) fun v5 H5 s5 b5 => ?_
      have hS5 := s5.seq hS4
      have l5 := (up v5 b5).log
      have z5 := num_len60 b5
      walk_at "rd"
      refine use_tn (by decide) fun v6 H6 s6 b6 => ?_
      have hS6 := s6.seq hS5
      walk_at "rd"
      rename_i j6 hj6 m6 hm6
      have b7 : m6.natAbs < 10 ^ 60 := by omega
      have l7 := (up m6 b7).log
      have z7 := num_len60 b7
      unfold numT at z5 z7
      walk_at "rd"
      refine ⟨hS6, _, _, rfl, two_asc v5 m6, ?_⟩
      have z8 : (Str.ofString "/").length = 1 := by decide +kernel
      rw [Str.length_append, Str.length_append]
      omega
    · walk_at "rd"
      exact ⟨hS4, _, _, rfl, y1, y2⟩
  rintro σ H7 ⟨hS7, t2, z, rfl, w1, w2⟩
  walk_at "rd"
  refine use_draws [22, 4000, 2, 21, 94] (by walk_at "hp") (by decide) (by decide) (by decide) ?_
  intro r8 H8 fs s8' n8 e8 hD8
  obtain ⟨g0, g1, g2, g3, g4, rfl⟩ : ∃ g0 g1 g2 g3 g4, fs = [g0, g1, g2, g3, g4] := by
    match fs, hD8.1 with
    | [g0, g1, g2, g3, g4], _ => exact ⟨g0, g1, g2, g3, g4, rfl⟩
  have c0 := hD8.2 0 g0 22 rfl rfl
  have c3 := hD8.2 3 g3 21 rfl rfl
  have c4 := hD8.2 4 g4 94 rfl rfl
  walk_at "rd"
  refine use_chg w1 w2 (SqL.of e8) c0.1 c0.2 c3.1 c3.2 c4.1 c4.2 fun x H9 s9 hx => ?_
  walk_at "rd"
  refine use_well hx fun H10 s10 => ?_
  walk_at "rd"
  refine rd_compL ?_
  walk_at "rd"
  refine ⟨rfl, fun D H11 ts s11 e11 htx hlen => ?_⟩
  walk_at "rd"
  refine rd_kCompL (ts.map fun _ => V.bl true) (SqL.of e11) (by rw [List.length_map, List.length_map]) (by rw [List.length_map]; omega) (fun i x y H' Q' hx hy s' hQ => ?_) fun D2 H12 s12 n12 e12 => ?_
  · rw [List.getElem?_map] at hx hy
    cases hw : ts[i]? with
    | none => rw [hw] at hx; cases hx
    | some w =>
    rw [hw] at hx hy
    cases hx
    cases hy
    walk_at "rd"
    exact use_well (htx w (List.mem_of_getElem? hw)) fun H2 s2 => hQ _ s2
  walk_at "rd"
  refine rd_allT (xs := ts.map V.str) (by rw [List.map_map]; exact e12) ?_
  exact q _
end
theorem all_mk {l : PySem.W.OpenLaw} {w : World} {K : PySem.W.Frag} {h : Heap} {mg : Str → Option Value} {fa f1 f2 f3 f4 f5 f6 f7 f8 f9 f10 f11 f12 f13 f14 f15 f16 f17 f18 f19 f20 f21 f22 f23 f24 f25 f26 f27 f28 f29 f30 f31 f32 f33 f34 f35 f36 f37 f38 f39 f40 f41 C0 C1 C2 C3 C4 C5 C6 C7 C8 C9 C10 C11 C12 C13 C14 C15 : Addr} (X : K.In h) (G : h.Ns mainGlobals mg) (hfa : mg "law" = some (.ref fa))
    {tu0 tu1 : Tok}
    {tk0 : Tok}
    {od1 an1 od2 an2 od3 an3 od4 an4 od5 an5 od6 an6 od7 an7 od8 an8 od9 an9 od10 an10 od11 an11 od12 an12 od13 an13 od14 an14 od15 an15 od16 an16 od17 an17 od18 an18 od19 an19 od20 an20 od21 an21 od22 an22 od23 an23 od24 an24 od25 an25 od26 an26 od27 an27 od28 an28 od29 an29 od30 an30 od31 an31 od32 an32 od33 an33 od34 an34 od35 an35 od36 an36 od37 an37 od38 an38 od39 an39 od40 an40 od41 an41 : Option Addr} {sl1 sl2 sl3 sl4 sl5 sl6 sl7 sl8 sl9 sl10 sl11 sl12 sl13 sl14 sl15 sl16 sl17 sl18 sl19 sl20 sl21 sl22 sl23 sl24 sl25 sl26 sl27 sl28 sl29 sl30 sl31 sl32 sl33 sl34 sl35 sl36 sl37 sl38 sl39 sl40 sl41 : Array (Option Value)} {oc1 kV1 dc1 pm1 cd1 ct1 oc2 kV2 dc2 pm2 cd2 ct2 oc3 kV3 dc3 pm3 cd3 ct3 oc4 kV4 dc4 pm4 cd4 ct4 oc5 kV5 dc5 pm5 cd5 ct5 oc6 kV6 dc6 pm6 cd6 ct6 oc7 kV7 dc7 pm7 cd7 ct7 oc8 kV8 dc8 pm8 cd8 ct8 oc9 kV9 dc9 pm9 cd9 ct9 oc10 kV10 dc10 pm10 cd10 ct10 oc11 kV11 dc11 pm11 cd11 ct11 oc12 kV12 dc12 pm12 cd12 ct12 oc13 kV13 dc13 pm13 cd13 ct13 oc14 kV14 dc14 pm14 cd14 ct14 oc15 kV15 dc15 pm15 cd15 ct15 oc16 kV16 dc16 pm16 cd16 ct16 oc17 kV17 dc17 pm17 cd17 ct17 oc18 kV18 dc18 pm18 cd18 ct18 oc19 kV19 dc19 pm19 cd19 ct19 oc20 kV20 dc20 pm20 cd20 ct20 oc21 kV21 dc21 pm21 cd21 ct21 oc22 kV22 dc22 pm22 cd22 ct22 oc23 kV23 dc23 pm23 cd23 ct23 oc24 kV24 dc24 pm24 cd24 ct24 oc25 kV25 dc25 pm25 cd25 ct25 oc26 kV26 dc26 pm26 cd26 ct26 oc27 kV27 dc27 pm27 cd27 ct27 oc28 kV28 dc28 pm28 cd28 ct28 oc29 kV29 dc29 pm29 cd29 ct29 oc30 kV30 dc30 pm30 cd30 ct30 oc31 kV31 dc31 pm31 cd31 ct31 oc32 kV32 dc32 pm32 cd32 ct32 oc33 kV33 dc33 pm33 cd33 ct33 oc34 kV34 dc34 pm34 cd34 ct34 oc35 kV35 dc35 pm35 cd35 ct35 oc36 kV36 dc36 pm36 cd36 ct36 oc37 kV37 dc37 pm37 cd37 ct37 oc38 kV38 dc38 pm38 cd38 ct38 oc39 kV39 dc39 pm39 cd39 ct39 oc40 kV40 dc40 pm40 cd40 ct40 oc41 kV41 dc41 pm41 cd41 ct41 : Value}
    (a1 : PySem.W.nsIn K mainGlobals "is_whole" = some (some (.ref f1))) (l1 : K.lookup f1 = some ⟨oc1, od1, .func (PySem.W.fnOf "is_whole" "is_whole" (defArgs s_is_whole) (defBody s_is_whole) (defScope s_is_whole) .none kV1 dc1 pm1 an1 cd1 ct1), sl1⟩) (c1 : PySem.W.codeIn K cd1 "is_whole" = true) (k1 : PySem.W.keepIn K (.ref f1) = true)
    (a2 : PySem.W.nsIn K mainGlobals "is_pair_of_wholes" = some (some (.ref f2))) (l2 : K.lookup f2 = some ⟨oc2, od2, .func (PySem.W.fnOf "is_pair_of_wholes" "is_pair_of_wholes" (defArgs s_is_pair_of_wholes) (defBody s_is_pair_of_wholes) (defScope s_is_pair_of_wholes) .none kV2 dc2 pm2 an2 cd2 ct2), sl2⟩) (c2 : PySem.W.codeIn K cd2 "is_pair_of_wholes" = true) (k2 : PySem.W.keepIn K (.ref f2) = true)
    (a3 : PySem.W.nsIn K mainGlobals "shared" = some (some (.ref f3))) (l3 : K.lookup f3 = some ⟨oc3, od3, .func (PySem.W.fnOf "shared" "shared" (defArgs s_shared) (defBody s_shared) (defScope s_shared) .none kV3 dc3 pm3 an3 cd3 ct3), sl3⟩) (c3 : PySem.W.codeIn K cd3 "shared" = true) (k3 : PySem.W.keepIn K (.ref f3) = true)
    (a4 : PySem.W.nsIn K mainGlobals "need_bottom" = some (some (.ref f4))) (l4 : K.lookup f4 = some ⟨oc4, od4, .func (PySem.W.fnOf "need_bottom" "need_bottom" (defArgs s_need_bottom) (defBody s_need_bottom) (defScope s_need_bottom) .none kV4 dc4 pm4 an4 cd4 ct4), sl4⟩) (c4 : PySem.W.codeIn K cd4 "need_bottom" = true) (k4 : PySem.W.keepIn K (.ref f4) = true)
    (a5 : PySem.W.nsIn K mainGlobals "fraction" = some (some (.ref f5))) (l5 : K.lookup f5 = some ⟨oc5, od5, .func (PySem.W.fnOf "fraction" "fraction" (defArgs s_fraction) (defBody s_fraction) (defScope s_fraction) .none kV5 dc5 pm5 an5 cd5 ct5), sl5⟩) (c5 : PySem.W.codeIn K cd5 "fraction" = true) (k5 : PySem.W.keepIn K (.ref f5) = true)
    (a6 : PySem.W.nsIn K mainGlobals "is_table" = some (some (.ref f6))) (l6 : K.lookup f6 = some ⟨oc6, od6, .func (PySem.W.fnOf "is_table" "is_table" (defArgs s_is_table) (defBody s_is_table) (defScope s_is_table) .none kV6 dc6 pm6 an6 cd6 ct6), sl6⟩) (c6 : PySem.W.codeIn K cd6 "is_table" = true) (k6 : PySem.W.keepIn K (.ref f6) = true)
    (a7 : PySem.W.nsIn K mainGlobals "need_table" = some (some (.ref f7))) (l7 : K.lookup f7 = some ⟨oc7, od7, .func (PySem.W.fnOf "need_table" "need_table" (defArgs s_need_table) (defBody s_need_table) (defScope s_need_table) .none kV7 dc7 pm7 an7 cd7 ct7), sl7⟩) (c7 : PySem.W.codeIn K cd7 "need_table" = true) (k7 : PySem.W.keepIn K (.ref f7) = true)
    (a8 : PySem.W.nsIn K mainGlobals "is_run" = some (some (.ref f8))) (l8 : K.lookup f8 = some ⟨oc8, od8, .func (PySem.W.fnOf "is_run" "is_run" (defArgs s_is_run) (defBody s_is_run) (defScope s_is_run) .none kV8 dc8 pm8 an8 cd8 ct8), sl8⟩) (c8 : PySem.W.codeIn K cd8 "is_run" = true) (k8 : PySem.W.keepIn K (.ref f8) = true)
    (a9 : PySem.W.nsIn K mainGlobals "is_word" = some (some (.ref f9))) (l9 : K.lookup f9 = some ⟨oc9, od9, .func (PySem.W.fnOf "is_word" "is_word" (defArgs s_is_word) (defBody s_is_word) (defScope s_is_word) .none kV9 dc9 pm9 an9 cd9 ct9), sl9⟩) (c9 : PySem.W.codeIn K cd9 "is_word" = true) (k9 : PySem.W.keepIn K (.ref f9) = true)
    (a10 : PySem.W.nsIn K mainGlobals "is_number" = some (some (.ref f10))) (l10 : K.lookup f10 = some ⟨oc10, od10, .func (PySem.W.fnOf "is_number" "is_number" (defArgs s_is_number) (defBody s_is_number) (defScope s_is_number) .none kV10 dc10 pm10 an10 cd10 ct10), sl10⟩) (c10 : PySem.W.codeIn K cd10 "is_number" = true) (k10 : PySem.W.keepIn K (.ref f10) = true)
    (a11 : PySem.W.nsIn K mainGlobals "need_text" = some (some (.ref f11))) (l11 : K.lookup f11 = some ⟨oc11, od11, .func (PySem.W.fnOf "need_text" "need_text" (defArgs s_need_text) (defBody s_need_text) (defScope s_need_text) .none kV11 dc11 pm11 an11 cd11 ct11), sl11⟩) (c11 : PySem.W.codeIn K cd11 "need_text" = true) (k11 : PySem.W.keepIn K (.ref f11) = true)
    (a12 : PySem.W.nsIn K mainGlobals "read_numbers" = some (some (.ref f12))) (l12 : K.lookup f12 = some ⟨oc12, od12, .func (PySem.W.fnOf "read_numbers" "read_numbers" (defArgs s_read_numbers) (defBody s_read_numbers) (defScope s_read_numbers) .none kV12 dc12 pm12 an12 cd12 ct12), sl12⟩) (c12 : PySem.W.codeIn K cd12 "read_numbers" = true) (k12 : PySem.W.keepIn K (.ref f12) = true)
    (a13 : PySem.W.nsIn K mainGlobals "read_fraction" = some (some (.ref f13))) (l13 : K.lookup f13 = some ⟨oc13, od13, .func (PySem.W.fnOf "read_fraction" "read_fraction" (defArgs s_read_fraction) (defBody s_read_fraction) (defScope s_read_fraction) .none kV13 dc13 pm13 an13 cd13 ct13), sl13⟩) (c13 : PySem.W.codeIn K cd13 "read_fraction" = true) (k13 : PySem.W.keepIn K (.ref f13) = true)
    (a14 : PySem.W.nsIn K mainGlobals "read_table" = some (some (.ref f14))) (l14 : K.lookup f14 = some ⟨oc14, od14, .func (PySem.W.fnOf "read_table" "read_table" (defArgs s_read_table) (defBody s_read_table) (defScope s_read_table) .none kV14 dc14 pm14 an14 cd14 ct14), sl14⟩) (c14 : PySem.W.codeIn K cd14 "read_table" = true) (k14 : PySem.W.keepIn K (.ref f14) = true)
    (a15 : PySem.W.nsIn K mainGlobals "read_word" = some (some (.ref f15))) (l15 : K.lookup f15 = some ⟨oc15, od15, .func (PySem.W.fnOf "read_word" "read_word" (defArgs s_read_word) (defBody s_read_word) (defScope s_read_word) .none kV15 dc15 pm15 an15 cd15 ct15), sl15⟩) (c15 : PySem.W.codeIn K cd15 "read_word" = true) (k15 : PySem.W.keepIn K (.ref f15) = true)
    (a16 : PySem.W.nsIn K mainGlobals "_law_cell" = some (some (.ref f16))) (l16 : K.lookup f16 = some ⟨oc16, od16, .func (PySem.W.fnOf "_law_cell" "_law_cell" (defArgs s__law_cell) (defBody s__law_cell) (defScope s__law_cell) .none kV16 dc16 pm16 an16 cd16 ct16), sl16⟩) (c16 : PySem.W.codeIn K cd16 "_law_cell" = true) (k16 : PySem.W.keepIn K (.ref f16) = true)
    (a17 : PySem.W.nsIn K mainGlobals "_law_mixed" = some (some (.ref f17))) (l17 : K.lookup f17 = some ⟨oc17, od17, .func (PySem.W.fnOf "_law_mixed" "_law_mixed" (defArgs s__law_mixed) (defBody s__law_mixed) (defScope s__law_mixed) .none kV17 dc17 pm17 an17 cd17 ct17), sl17⟩) (c17 : PySem.W.codeIn K cd17 "_law_mixed" = true) (k17 : PySem.W.keepIn K (.ref f17) = true)
    (a18 : PySem.W.nsIn K mainGlobals "_law_draws" = some (some (.ref f18))) (l18 : K.lookup f18 = some ⟨oc18, od18, .func (PySem.W.fnOf "_law_draws" "_law_draws" (defArgs s__law_draws) (defBody s__law_draws) (defScope s__law_draws) .none kV18 dc18 pm18 an18 cd18 ct18), sl18⟩) (c18 : PySem.W.codeIn K cd18 "_law_draws" = true) (k18 : PySem.W.keepIn K (.ref f18) = true)
    (a19 : PySem.W.nsIn K mainGlobals "_law_far" = some (some (.ref f19))) (l19 : K.lookup f19 = some ⟨oc19, od19, .func (PySem.W.fnOf "_law_far" "_law_far" (defArgs s__law_far) (defBody s__law_far) (defScope s__law_far) .none kV19 dc19 pm19 an19 cd19 ct19), sl19⟩) (c19 : PySem.W.codeIn K cd19 "_law_far" = true) (k19 : PySem.W.keepIn K (.ref f19) = true)
    (a20 : PySem.W.nsIn K mainGlobals "_law_shared" = some (some (.ref f20))) (l20 : K.lookup f20 = some ⟨oc20, od20, .func (PySem.W.fnOf "_law_shared" "_law_shared" (defArgs s__law_shared) (defBody s__law_shared) (defScope s__law_shared) .none kV20 dc20 pm20 an20 cd20 ct20), sl20⟩) (c20 : PySem.W.codeIn K cd20 "_law_shared" = true) (k20 : PySem.W.keepIn K (.ref f20) = true)
    (a21 : PySem.W.nsIn K mainGlobals "_law_lowest" = some (some (.ref f21))) (l21 : K.lookup f21 = some ⟨oc21, od21, .func (PySem.W.fnOf "_law_lowest" "_law_lowest" (defArgs s__law_lowest) (defBody s__law_lowest) (defScope s__law_lowest) .none kV21 dc21 pm21 an21 cd21 ct21), sl21⟩) (c21 : PySem.W.codeIn K cd21 "_law_lowest" = true) (k21 : PySem.W.keepIn K (.ref f21) = true)
    (a22 : PySem.W.nsIn K mainGlobals "_law_whole" = some (some (.ref f22))) (l22 : K.lookup f22 = some ⟨oc22, od22, .func (PySem.W.fnOf "_law_whole" "_law_whole" (defArgs s__law_whole) (defBody s__law_whole) (defScope s__law_whole) .none kV22 dc22 pm22 an22 cd22 ct22), sl22⟩) (c22 : PySem.W.codeIn K cd22 "_law_whole" = true) (k22 : PySem.W.keepIn K (.ref f22) = true)
    (a23 : PySem.W.nsIn K mainGlobals "_law_row" = some (some (.ref f23))) (l23 : K.lookup f23 = some ⟨oc23, od23, .func (PySem.W.fnOf "_law_row" "_law_row" (defArgs s__law_row) (defBody s__law_row) (defScope s__law_row) .none kV23 dc23 pm23 an23 cd23 ct23), sl23⟩) (c23 : PySem.W.codeIn K cd23 "_law_row" = true) (k23 : PySem.W.keepIn K (.ref f23) = true)
    (a24 : PySem.W.nsIn K mainGlobals "_law_spare" = some (some (.ref f24))) (l24 : K.lookup f24 = some ⟨oc24, od24, .func (PySem.W.fnOf "_law_spare" "_law_spare" (defArgs s__law_spare) (defBody s__law_spare) (defScope s__law_spare) .none kV24 dc24 pm24 an24 cd24 ct24), sl24⟩) (c24 : PySem.W.codeIn K cd24 "_law_spare" = true) (k24 : PySem.W.keepIn K (.ref f24) = true)
    (a25 : PySem.W.nsIn K mainGlobals "_law_text_number" = some (some (.ref f25))) (l25 : K.lookup f25 = some ⟨oc25, od25, .func (PySem.W.fnOf "_law_text_number" "_law_text_number" (defArgs s__law_text_number) (defBody s__law_text_number) (defScope s__law_text_number) .none kV25 dc25 pm25 an25 cd25 ct25), sl25⟩) (c25 : PySem.W.codeIn K cd25 "_law_text_number" = true) (k25 : PySem.W.keepIn K (.ref f25) = true)
    (a26 : PySem.W.nsIn K mainGlobals "_law_any_table" = some (some (.ref f26))) (l26 : K.lookup f26 = some ⟨oc26, od26, .func (PySem.W.fnOf "_law_any_table" "_law_any_table" (defArgs s__law_any_table) (defBody s__law_any_table) (defScope s__law_any_table) .none kV26 dc26 pm26 an26 cd26 ct26), sl26⟩) (c26 : PySem.W.codeIn K cd26 "_law_any_table" = true) (k26 : PySem.W.keepIn K (.ref f26) = true)
    (a27 : PySem.W.nsIn K mainGlobals "_law_any_word" = some (some (.ref f27))) (l27 : K.lookup f27 = some ⟨oc27, od27, .func (PySem.W.fnOf "_law_any_word" "_law_any_word" (defArgs s__law_any_word) (defBody s__law_any_word) (defScope s__law_any_word) .none kV27 dc27 pm27 an27 cd27 ct27), sl27⟩) (c27 : PySem.W.codeIn K cd27 "_law_any_word" = true) (k27 : PySem.W.keepIn K (.ref f27) = true)
    (a28 : PySem.W.nsIn K mainGlobals "_law_table_text" = some (some (.ref f28))) (l28 : K.lookup f28 = some ⟨oc28, od28, .func (PySem.W.fnOf "_law_table_text" "_law_table_text" (defArgs s__law_table_text) (defBody s__law_table_text) (defScope s__law_table_text) .none kV28 dc28 pm28 an28 cd28 ct28), sl28⟩) (c28 : PySem.W.codeIn K cd28 "_law_table_text" = true) (k28 : PySem.W.keepIn K (.ref f28) = true)
    (a29 : PySem.W.nsIn K mainGlobals "_law_word_text" = some (some (.ref f29))) (l29 : K.lookup f29 = some ⟨oc29, od29, .func (PySem.W.fnOf "_law_word_text" "_law_word_text" (defArgs s__law_word_text) (defBody s__law_word_text) (defScope s__law_word_text) .none kV29 dc29 pm29 an29 cd29 ct29), sl29⟩) (c29 : PySem.W.codeIn K cd29 "_law_word_text" = true) (k29 : PySem.W.keepIn K (.ref f29) = true)
    (a30 : PySem.W.nsIn K mainGlobals "_law_is_table_of" = some (some (.ref f30))) (l30 : K.lookup f30 = some ⟨oc30, od30, .func (PySem.W.fnOf "_law_is_table_of" "_law_is_table_of" (defArgs s__law_is_table_of) (defBody s__law_is_table_of) (defScope s__law_is_table_of) .none kV30 dc30 pm30 an30 cd30 ct30), sl30⟩) (c30 : PySem.W.codeIn K cd30 "_law_is_table_of" = true) (k30 : PySem.W.keepIn K (.ref f30) = true)
    (a31 : PySem.W.nsIn K mainGlobals "_law_is_word_of" = some (some (.ref f31))) (l31 : K.lookup f31 = some ⟨oc31, od31, .func (PySem.W.fnOf "_law_is_word_of" "_law_is_word_of" (defArgs s__law_is_word_of) (defBody s__law_is_word_of) (defScope s__law_is_word_of) .none kV31 dc31 pm31 an31 cd31 ct31), sl31⟩) (c31 : PySem.W.codeIn K cd31 "_law_is_word_of" = true) (k31 : PySem.W.keepIn K (.ref f31) = true)
    (a32 : PySem.W.nsIn K mainGlobals "_law_number_of" = some (some (.ref f32))) (l32 : K.lookup f32 = some ⟨oc32, od32, .func (PySem.W.fnOf "_law_number_of" "_law_number_of" (defArgs s__law_number_of) (defBody s__law_number_of) (defScope s__law_number_of) .none kV32 dc32 pm32 an32 cd32 ct32), sl32⟩) (c32 : PySem.W.codeIn K cd32 "_law_number_of" = true) (k32 : PySem.W.keepIn K (.ref f32) = true)
    (a33 : PySem.W.nsIn K mainGlobals "_law_fraction_of" = some (some (.ref f33))) (l33 : K.lookup f33 = some ⟨oc33, od33, .func (PySem.W.fnOf "_law_fraction_of" "_law_fraction_of" (defArgs s__law_fraction_of) (defBody s__law_fraction_of) (defScope s__law_fraction_of) .none kV33 dc33 pm33 an33 cd33 ct33), sl33⟩) (c33 : PySem.W.codeIn K cd33 "_law_fraction_of" = true) (k33 : PySem.W.keepIn K (.ref f33) = true)
    (a34 : PySem.W.nsIn K mainGlobals "_law_table_of" = some (some (.ref f34))) (l34 : K.lookup f34 = some ⟨oc34, od34, .func (PySem.W.fnOf "_law_table_of" "_law_table_of" (defArgs s__law_table_of) (defBody s__law_table_of) (defScope s__law_table_of) .none kV34 dc34 pm34 an34 cd34 ct34), sl34⟩) (c34 : PySem.W.codeIn K cd34 "_law_table_of" = true) (k34 : PySem.W.keepIn K (.ref f34) = true)
    (a35 : PySem.W.nsIn K mainGlobals "_law_word_of" = some (some (.ref f35))) (l35 : K.lookup f35 = some ⟨oc35, od35, .func (PySem.W.fnOf "_law_word_of" "_law_word_of" (defArgs s__law_word_of) (defBody s__law_word_of) (defScope s__law_word_of) .none kV35 dc35 pm35 an35 cd35 ct35), sl35⟩) (c35 : PySem.W.codeIn K cd35 "_law_word_of" = true) (k35 : PySem.W.keepIn K (.ref f35) = true)
    (a36 : PySem.W.nsIn K mainGlobals "_law_told" = some (some (.ref f36))) (l36 : K.lookup f36 = some ⟨oc36, od36, .func (PySem.W.fnOf "_law_told" "_law_told" (defArgs s__law_told) (defBody s__law_told) (defScope s__law_told) .none kV36 dc36 pm36 an36 cd36 ct36), sl36⟩) (c36 : PySem.W.codeIn K cd36 "_law_told" = true) (k36 : PySem.W.keepIn K (.ref f36) = true)
    (a37 : PySem.W.nsIn K mainGlobals "_law_well_read" = some (some (.ref f37))) (l37 : K.lookup f37 = some ⟨oc37, od37, .func (PySem.W.fnOf "_law_well_read" "_law_well_read" (defArgs s__law_well_read) (defBody s__law_well_read) (defScope s__law_well_read) .none kV37 dc37 pm37 an37 cd37 ct37), sl37⟩) (c37 : PySem.W.codeIn K cd37 "_law_well_read" = true) (k37 : PySem.W.keepIn K (.ref f37) = true)
    (a38 : PySem.W.nsIn K mainGlobals "_law_sign" = some (some (.ref f38))) (l38 : K.lookup f38 = some ⟨oc38, od38, .func (PySem.W.fnOf "_law_sign" "_law_sign" (defArgs s__law_sign) (defBody s__law_sign) (defScope s__law_sign) .none kV38 dc38 pm38 an38 cd38 ct38), sl38⟩) (c38 : PySem.W.codeIn K cd38 "_law_sign" = true) (k38 : PySem.W.keepIn K (.ref f38) = true)
    (a39 : PySem.W.nsIn K mainGlobals "_law_changed" = some (some (.ref f39))) (l39 : K.lookup f39 = some ⟨oc39, od39, .func (PySem.W.fnOf "_law_changed" "_law_changed" (defArgs s__law_changed) (defBody s__law_changed) (defScope s__law_changed) .none kV39 dc39 pm39 an39 cd39 ct39), sl39⟩) (c39 : PySem.W.codeIn K cd39 "_law_changed" = true) (k39 : PySem.W.keepIn K (.ref f39) = true)
    (a40 : PySem.W.nsIn K mainGlobals "_law_odd_texts" = some (some (.ref f40))) (l40 : K.lookup f40 = some ⟨oc40, od40, .func (PySem.W.fnOf "_law_odd_texts" "_law_odd_texts" (defArgs s__law_odd_texts) (defBody s__law_odd_texts) (defScope s__law_odd_texts) .none kV40 dc40 pm40 an40 cd40 ct40), sl40⟩) (c40 : PySem.W.codeIn K cd40 "_law_odd_texts" = true) (k40 : PySem.W.keepIn K (.ref f40) = true)
    (a41 : PySem.W.nsIn K mainGlobals "law" = some (some (.ref f41))) (l41 : K.lookup f41 = some ⟨oc41, od41, .func (PySem.W.fnOf "law" "law" (defArgs s_law) (defBody s_law) (defScope s_law) .none kV41 dc41 pm41 an41 cd41 ct41), sl41⟩) (c41 : PySem.W.codeIn K cd41 "law" = true) (k41 : PySem.W.keepIn K (.ref f41) = true)
    (z0 : PySem.W.nsIn K mainGlobals "ValueError" = some none)
    (z1 : PySem.W.nsIn K mainGlobals "abs" = some none)
    (z2 : PySem.W.nsIn K mainGlobals "all" = some none)
    (z3 : PySem.W.nsIn K mainGlobals "any" = some none)
    (z4 : PySem.W.nsIn K mainGlobals "bool" = some none)
    (z5 : PySem.W.nsIn K mainGlobals "int" = some none)
    (z6 : PySem.W.nsIn K mainGlobals "isinstance" = some none)
    (z7 : PySem.W.nsIn K mainGlobals "len" = some none)
    (z8 : PySem.W.nsIn K mainGlobals "list" = some none)
    (z9 : PySem.W.nsIn K mainGlobals "max" = some none)
    (z10 : PySem.W.nsIn K mainGlobals "range" = some none)
    (z11 : PySem.W.nsIn K mainGlobals "str" = some none)
    (z12 : PySem.W.nsIn K mainGlobals "tuple" = some none)
    (y0 : PySem.W.nsIn K mainGlobals "MOST_FIGURES" = some (some (.int 60 tk0)))
    (u0T : PySem.W.nsIn K mainGlobals "FIGURES" = some (some (.str "0123456789" tu0)))
    (u1T : PySem.W.nsIn K mainGlobals "EMPTY_WORD" = some (some (.str "none" tu1)))
    (b0x : PySem.W.nsIn K mainGlobals "SawError" = some (some (.ref C0))) (e0x : PySem.W.excIn K C0 [.type "ValueError", .type "Exception", .type "BaseException", .type "object"] "ValueError.__new__" = true) (g0x : PySem.W.findIn K (.ref C0) "__getattribute__" = some (some (.builtin "BaseException.__getattribute__"))) (h0x : PySem.W.findIn K (.ref C0) "__getattr__" = some none)
    (fx0 : PySem.W.findIn K (.ref C0) "__class__" = some (some (.builtin "object.__class__"))) (o0x : PySem.W.mroIn K C0 (.type "object") = some true) (v0x : PySem.W.mroIn K C0 (.type "BaseException") = some true) (s0x : PySem.W.mroIn K C0 (.ref C0) = some true) (t0x : PySem.W.typeIn K (.ref C0) = some (.type "type"))
    (b1x : PySem.W.nsIn K mainGlobals "NoCount" = some (some (.ref C1)))
    (b2x : PySem.W.nsIn K mainGlobals "NotOdd" = some (some (.ref C2)))
    (b3x : PySem.W.nsIn K mainGlobals "TooMany" = some (some (.ref C3)))
    (b4x : PySem.W.nsIn K mainGlobals "NotApart" = some (some (.ref C4)))
    (b5x : PySem.W.nsIn K mainGlobals "NoShuffle" = some (some (.ref C5)))
    (b6x : PySem.W.nsIn K mainGlobals "NoPaper" = some (some (.ref C6)))
    (b7x : PySem.W.nsIn K mainGlobals "NoPrime" = some (some (.ref C7)))
    (b8x : PySem.W.nsIn K mainGlobals "NoFraction" = some (some (.ref C8))) (e8x : PySem.W.excIn K C8 [.type "ValueError", .type "Exception", .type "BaseException", .type "object"] "ValueError.__new__" = true) (g8x : PySem.W.findIn K (.ref C8) "__getattribute__" = some (some (.builtin "BaseException.__getattribute__"))) (h8x : PySem.W.findIn K (.ref C8) "__getattr__" = some none)
    (fx8 : PySem.W.findIn K (.ref C8) "__class__" = some (some (.builtin "object.__class__"))) (o8x : PySem.W.mroIn K C8 (.type "object") = some true) (v8x : PySem.W.mroIn K C8 (.type "BaseException") = some true) (s8x : PySem.W.mroIn K C8 (.ref C8) = some true) (t8x : PySem.W.typeIn K (.ref C8) = some (.type "type"))
    (b9x : PySem.W.nsIn K mainGlobals "NoTable" = some (some (.ref C9))) (e9x : PySem.W.excIn K C9 [.type "ValueError", .type "Exception", .type "BaseException", .type "object"] "ValueError.__new__" = true) (g9x : PySem.W.findIn K (.ref C9) "__getattribute__" = some (some (.builtin "BaseException.__getattribute__"))) (h9x : PySem.W.findIn K (.ref C9) "__getattr__" = some none)
    (fx9 : PySem.W.findIn K (.ref C9) "__class__" = some (some (.builtin "object.__class__"))) (o9x : PySem.W.mroIn K C9 (.type "object") = some true) (v9x : PySem.W.mroIn K C9 (.type "BaseException") = some true) (s9x : PySem.W.mroIn K C9 (.ref C9) = some true) (t9x : PySem.W.typeIn K (.ref C9) = some (.type "type"))
    (b10x : PySem.W.nsIn K mainGlobals "NoWord" = some (some (.ref C10)))
    (b11x : PySem.W.nsIn K mainGlobals "NoRow" = some (some (.ref C11)))
    (b12x : PySem.W.nsIn K mainGlobals "NoText" = some (some (.ref C12))) (e12x : PySem.W.excIn K C12 [.type "ValueError", .type "Exception", .type "BaseException", .type "object"] "ValueError.__new__" = true) (g12x : PySem.W.findIn K (.ref C12) "__getattribute__" = some (some (.builtin "BaseException.__getattribute__"))) (h12x : PySem.W.findIn K (.ref C12) "__getattr__" = some none)
    (fx12 : PySem.W.findIn K (.ref C12) "__class__" = some (some (.builtin "object.__class__"))) (o12x : PySem.W.mroIn K C12 (.type "object") = some true) (v12x : PySem.W.mroIn K C12 (.type "BaseException") = some true) (s12x : PySem.W.mroIn K C12 (.ref C12) = some true) (t12x : PySem.W.typeIn K (.ref C12) = some (.type "type"))
    (b13x : PySem.W.nsIn K mainGlobals "NoLine" = some (some (.ref C13)))
    (b14x : PySem.W.nsIn K mainGlobals "NoName" = some (some (.ref C14)))
    (b15x : PySem.W.nsIn K mainGlobals "NoDeed" = some (some (.ref C15)))
    (r0 : PySem.W.kitOne K (.ref C12) (.ref C0) = some true)
    (r1 : PySem.W.kitOne K (.ref C12) (.type "ValueError") = some true)
    (r2 : PySem.W.kitOne K (.ref C12) (.ref C1) = some false)
    (r3 : PySem.W.kitOne K (.ref C12) (.ref C2) = some false)
    (r4 : PySem.W.kitOne K (.ref C12) (.ref C3) = some false)
    (r5 : PySem.W.kitOne K (.ref C12) (.ref C4) = some false)
    (r6 : PySem.W.kitOne K (.ref C12) (.ref C9) = some false)
    (r7 : PySem.W.kitOne K (.ref C12) (.ref C12) = some true)
    (r8 : PySem.W.kitOne K (.ref C12) (.ref C5) = some false)
    (r9 : PySem.W.kitOne K (.ref C12) (.ref C10) = some false)
    (r10 : PySem.W.kitOne K (.ref C12) (.ref C11) = some false)
    (r11 : PySem.W.kitOne K (.ref C12) (.ref C6) = some false)
    (r12 : PySem.W.kitOne K (.ref C12) (.ref C8) = some false)
    (r13 : PySem.W.kitOne K (.ref C12) (.ref C7) = some false)
    (r14 : PySem.W.kitOne K (.ref C12) (.ref C13) = some false)
    (r15 : PySem.W.kitOne K (.ref C12) (.ref C14) = some false)
    (r16 : PySem.W.kitOne K (.ref C12) (.ref C15) = some false)
    (r17 : PySem.W.kitOne K (.ref C9) (.ref C0) = some true)
    (r18 : PySem.W.kitOne K (.ref C9) (.type "ValueError") = some true)
    (r19 : PySem.W.kitOne K (.ref C9) (.ref C1) = some false)
    (r20 : PySem.W.kitOne K (.ref C9) (.ref C2) = some false)
    (r21 : PySem.W.kitOne K (.ref C9) (.ref C3) = some false)
    (r22 : PySem.W.kitOne K (.ref C9) (.ref C4) = some false)
    (r23 : PySem.W.kitOne K (.ref C9) (.ref C9) = some true)
    (r24 : PySem.W.kitOne K (.ref C9) (.ref C12) = some false)
    (r25 : PySem.W.kitOne K (.ref C9) (.ref C5) = some false)
    (r26 : PySem.W.kitOne K (.ref C9) (.ref C10) = some false)
    (r27 : PySem.W.kitOne K (.ref C9) (.ref C11) = some false)
    (r28 : PySem.W.kitOne K (.ref C9) (.ref C6) = some false)
    (r29 : PySem.W.kitOne K (.ref C9) (.ref C8) = some false)
    (r30 : PySem.W.kitOne K (.ref C9) (.ref C7) = some false)
    (r31 : PySem.W.kitOne K (.ref C9) (.ref C13) = some false)
    (r32 : PySem.W.kitOne K (.ref C9) (.ref C14) = some false)
    (r33 : PySem.W.kitOne K (.ref C9) (.ref C15) = some false) :
    ∃ fd : FuncData, (∀ (s : Shared) (v : Value), BindsTo s fd ⟨[v], []⟩ [("_law_script", v)]) ∧ ∀ base : Heap, K.In base → base.Ns mainGlobals mg → FnOk l.prog w K mg base (CXE l.prog w) 8 fa fd ["_law_script"] (spLaw K) := by
  have F1 := src_mk (x := "is_whole") (st := s_is_whole) (ps := ["thing"]) X G a1 l1 c1 k1 fun _ _ _ _ _ _ us hl => match us, hl with | [_], _ => rfl
  have F2 := src_mk (x := "is_pair_of_wholes") (st := s_is_pair_of_wholes) (ps := ["thing"]) X G a2 l2 c2 k2 fun _ _ _ _ _ _ us hl => match us, hl with | [_], _ => rfl
  have F3 := src_mk (x := "shared") (st := s_shared) (ps := ["a", "b"]) X G a3 l3 c3 k3 fun _ _ _ _ _ _ us hl => match us, hl with | [_, _], _ => rfl
  have F4 := src_mk (x := "need_bottom") (st := s_need_bottom) (ps := ["bottom"]) X G a4 l4 c4 k4 fun _ _ _ _ _ _ us hl => match us, hl with | [_], _ => rfl
  have F5 := src_mk (x := "fraction") (st := s_fraction) (ps := ["top", "bottom"]) X G a5 l5 c5 k5 fun _ _ _ _ _ _ us hl => match us, hl with | [_, _], _ => rfl
  have F6 := src_mk (x := "is_table") (st := s_is_table) (ps := ["table"]) X G a6 l6 c6 k6 fun _ _ _ _ _ _ us hl => match us, hl with | [_], _ => rfl
  have F7 := src_mk (x := "need_table") (st := s_need_table) (ps := ["table"]) X G a7 l7 c7 k7 fun _ _ _ _ _ _ us hl => match us, hl with | [_], _ => rfl
  have F8 := src_mk (x := "is_run") (st := s_is_run) (ps := ["thing"]) X G a8 l8 c8 k8 fun _ _ _ _ _ _ us hl => match us, hl with | [_], _ => rfl
  have F9 := src_mk (x := "is_word") (st := s_is_word) (ps := ["word"]) X G a9 l9 c9 k9 fun _ _ _ _ _ _ us hl => match us, hl with | [_], _ => rfl
  have F10 := src_mk (x := "is_number") (st := s_is_number) (ps := ["text"]) X G a10 l10 c10 k10 fun _ _ _ _ _ _ us hl => match us, hl with | [_], _ => rfl
  have F11 := src_mk (x := "need_text") (st := s_need_text) (ps := ["holds"]) X G a11 l11 c11 k11 fun _ _ _ _ _ _ us hl => match us, hl with | [_], _ => rfl
  have F12 := src_mk (x := "read_numbers") (st := s_read_numbers) (ps := ["pieces"]) X G a12 l12 c12 k12 fun _ _ _ _ _ _ us hl => match us, hl with | [_], _ => rfl
  have F13 := src_mk (x := "read_fraction") (st := s_read_fraction) (ps := ["text"]) X G a13 l13 c13 k13 fun _ _ _ _ _ _ us hl => match us, hl with | [_], _ => rfl
  have F14 := src_mk (x := "read_table") (st := s_read_table) (ps := ["text"]) X G a14 l14 c14 k14 fun _ _ _ _ _ _ us hl => match us, hl with | [_], _ => rfl
  have F15 := src_mk (x := "read_word") (st := s_read_word) (ps := ["text"]) X G a15 l15 c15 k15 fun _ _ _ _ _ _ us hl => match us, hl with | [_], _ => rfl
  have F16 := src_mk (x := "_law_cell") (st := s__law_cell) (ps := ["_law_script", "_law_k"]) X G a16 l16 c16 k16 fun _ _ _ _ _ _ us hl => match us, hl with | [_, _], _ => rfl
  have F17 := src_mk (x := "_law_mixed") (st := s__law_mixed) (ps := ["_law_cell_here", "_law_k", "_law_prime"]) X G a17 l17 c17 k17 fun _ _ _ _ _ _ us hl => match us, hl with | [_, _, _], _ => rfl
  have F18 := src_mk (x := "_law_draws") (st := s__law_draws) (ps := ["_law_cell_here", "_law_widths", "_law_prime"]) X G a18 l18 c18 k18 fun _ _ _ _ _ _ us hl => match us, hl with | [_, _, _], _ => rfl
  have F19 := src_mk (x := "_law_far") (st := s__law_far) (ps := ["_law_cell_here", "_law_prime"]) X G a19 l19 c19 k19 fun _ _ _ _ _ _ us hl => match us, hl with | [_, _], _ => rfl
  have F20 := src_mk (x := "_law_shared") (st := s__law_shared) (ps := ["_law_a", "_law_b"]) X G a20 l20 c20 k20 fun _ _ _ _ _ _ us hl => match us, hl with | [_, _], _ => rfl
  have F21 := src_mk (x := "_law_lowest") (st := s__law_lowest) (ps := ["_law_top", "_law_bottom"]) X G a21 l21 c21 k21 fun _ _ _ _ _ _ us hl => match us, hl with | [_, _], _ => rfl
  have F22 := src_mk (x := "_law_whole") (st := s__law_whole) (ps := ["_law_found"]) X G a22 l22 c22 k22 fun _ _ _ _ _ _ us hl => match us, hl with | [_], _ => rfl
  have F23 := src_mk (x := "_law_row") (st := s__law_row) (ps := ["_law_found", "_law_many"]) X G a23 l23 c23 k23 fun _ _ _ _ _ _ us hl => match us, hl with | [_, _], _ => rfl
  have F24 := src_mk (x := "_law_spare") (st := s__law_spare) (ps := ["_law_cell_here", "_law_width"]) X G a24 l24 c24 k24 fun _ _ _ _ _ _ us hl => match us, hl with | [_, _], _ => rfl
  have F25 := src_mk (x := "_law_text_number") (st := s__law_text_number) (ps := ["_law_cell_here", "_law_prime"]) X G a25 l25 c25 k25 fun _ _ _ _ _ _ us hl => match us, hl with | [_, _], _ => rfl
  have F26 := src_mk (x := "_law_any_table") (st := s__law_any_table) (ps := ["_law_cell_here", "_law_prime"]) X G a26 l26 c26 k26 fun _ _ _ _ _ _ us hl => match us, hl with | [_, _], _ => rfl
  have F27 := src_mk (x := "_law_any_word") (st := s__law_any_word) (ps := ["_law_cell_here", "_law_prime"]) X G a27 l27 c27 k27 fun _ _ _ _ _ _ us hl => match us, hl with | [_, _], _ => rfl
  have F28 := src_mk (x := "_law_table_text") (st := s__law_table_text) (ps := ["_law_table"]) X G a28 l28 c28 k28 fun _ _ _ _ _ _ us hl => match us, hl with | [_], _ => rfl
  have F29 := src_mk (x := "_law_word_text") (st := s__law_word_text) (ps := ["_law_word"]) X G a29 l29 c29 k29 fun _ _ _ _ _ _ us hl => match us, hl with | [_], _ => rfl
  have F30 := src_mk (x := "_law_is_table_of") (st := s__law_is_table_of) (ps := ["_law_found", "_law_due"]) X G a30 l30 c30 k30 fun _ _ _ _ _ _ us hl => match us, hl with | [_, _], _ => rfl
  have F31 := src_mk (x := "_law_is_word_of") (st := s__law_is_word_of) (ps := ["_law_found", "_law_due"]) X G a31 l31 c31 k31 fun _ _ _ _ _ _ us hl => match us, hl with | [_, _], _ => rfl
  have F32 := src_mk (x := "_law_number_of") (st := s__law_number_of) (ps := ["_law_word"]) X G a32 l32 c32 k32 fun _ _ _ _ _ _ us hl => match us, hl with | [_], _ => rfl
  have F33 := src_mk (x := "_law_fraction_of") (st := s__law_fraction_of) (ps := ["_law_text"]) X G a33 l33 c33 k33 fun _ _ _ _ _ _ us hl => match us, hl with | [_], _ => rfl
  have F34 := src_mk (x := "_law_table_of") (st := s__law_table_of) (ps := ["_law_text"]) X G a34 l34 c34 k34 fun _ _ _ _ _ _ us hl => match us, hl with | [_], _ => rfl
  have F35 := src_mk (x := "_law_word_of") (st := s__law_word_of) (ps := ["_law_text"]) X G a35 l35 c35 k35 fun _ _ _ _ _ _ us hl => match us, hl with | [_], _ => rfl
  have F36 := src_mk (x := "_law_told") (st := s__law_told) (ps := ["_law_way", "_law_text"]) X G a36 l36 c36 k36 fun _ _ _ _ _ _ us hl => match us, hl with | [_, _], _ => rfl
  have F37 := src_mk (x := "_law_well_read") (st := s__law_well_read) (ps := ["_law_text"]) X G a37 l37 c37 k37 fun _ _ _ _ _ _ us hl => match us, hl with | [_], _ => rfl
  have F38 := src_mk (x := "_law_sign") (st := s__law_sign) (ps := ["_law_way"]) X G a38 l38 c38 k38 fun _ _ _ _ _ _ us hl => match us, hl with | [_], _ => rfl
  have F39 := src_mk (x := "_law_changed") (st := s__law_changed) (ps := ["_law_text", "_law_way"]) X G a39 l39 c39 k39 fun _ _ _ _ _ _ us hl => match us, hl with | [_, _], _ => rfl
  have F40 := src_mk (x := "_law_odd_texts") (st := s__law_odd_texts) (ps := []) X G a40 l40 c40 k40 fun _ _ _ _ _ _ us hl => match us, hl with | [], _ => rfl
  have F41 := src_mk (x := "law") (st := s_law) (ps := ["_law_script"]) X G a41 l41 c41 k41 fun _ _ _ _ _ _ us hl => match us, hl with | [_], _ => rfl
  have Kc : Cst K mg := ⟨⟨_, PySem.W.mg_of X G y0⟩, ⟨_, PySem.W.mg_of X G u0T⟩, ⟨_, PySem.W.mg_of X G u1T⟩⟩
  have B : Blt mg := ⟨PySem.W.mg_none_of X G z0, PySem.W.mg_none_of X G z1, PySem.W.mg_none_of X G z2, PySem.W.mg_none_of X G z3, PySem.W.mg_none_of X G z4, PySem.W.mg_none_of X G z5, PySem.W.mg_none_of X G z6, PySem.W.mg_none_of X G z7, PySem.W.mg_none_of X G z8, PySem.W.mg_none_of X G z9, PySem.W.mg_none_of X G z10, PySem.W.mg_none_of X G z11, PySem.W.mg_none_of X G z12⟩
  have e := hfa.symm.trans (PySem.W.mg_of X G a41)
  cases e
  refine ⟨PySem.W.fnOf "law" "law" (defArgs s_law) (defBody s_law) (defScope s_law) .none kV41 dc41 pm41 an41 cd41 ct41, fun s v => .of_eq rfl, fun base hK hG => ?_⟩
  let C : Cls K mg base := ⟨ck_mk hK (PySem.W.mg_of X G b0x) e0x g0x h0x fx0 o0x v0x s0x t0x, ⟨C1, PySem.W.mg_of X G b1x⟩, ⟨C2, PySem.W.mg_of X G b2x⟩, ⟨C3, PySem.W.mg_of X G b3x⟩, ⟨C4, PySem.W.mg_of X G b4x⟩, ⟨C5, PySem.W.mg_of X G b5x⟩, ⟨C6, PySem.W.mg_of X G b6x⟩, ⟨C7, PySem.W.mg_of X G b7x⟩, ck_mk hK (PySem.W.mg_of X G b8x) e8x g8x h8x fx8 o8x v8x s8x t8x, ck_mk hK (PySem.W.mg_of X G b9x) e9x g9x h9x fx9 o9x v9x s9x t9x, ⟨C10, PySem.W.mg_of X G b10x⟩, ⟨C11, PySem.W.mg_of X G b11x⟩, ck_mk hK (PySem.W.mg_of X G b12x) e12x g12x h12x fx12 o12x v12x s12x t12x, ⟨C13, PySem.W.mg_of X G b13x⟩, ⟨C14, PySem.W.mg_of X G b14x⟩, ⟨C15, PySem.W.mg_of X G b15x⟩⟩
  have R : Rel K mg base C := ⟨r0, r1, r2, r3, r4, r5, r6, r7, r8, r9, r10, r11, r12, r13, r14, r15, r16, r17, r18, r19, r20, r21, r22, r23, r24, r25, r26, r27, r28, r29, r30, r31, r32, r33⟩
  have D_is_whole := ok_is_whole (P := l.prog) (w := w) (base := base) F1 B C R Kc 
  have D_is_pair_of_wholes := ok_is_pair_of_wholes (P := l.prog) (w := w) (base := base) F2 B C R Kc D_is_whole
  have D_shared := ok_shared (P := l.prog) (w := w) (base := base) F3 B C R Kc 
  have D_need_bottom := ok_need_bottom (P := l.prog) (w := w) (base := base) F4 B C R Kc 
  have D_fraction := ok_fraction (P := l.prog) (w := w) (base := base) F5 B C R Kc D_need_bottom D_shared
  have D_is_table := ok_is_table (P := l.prog) (w := w) (base := base) F6 B C R Kc D_is_pair_of_wholes
  have D_need_table := ok_need_table (P := l.prog) (w := w) (base := base) F7 B C R Kc D_is_table
  have D_is_run := ok_is_run (P := l.prog) (w := w) (base := base) F8 B C R Kc D_is_whole
  have D_is_word := ok_is_word (P := l.prog) (w := w) (base := base) F9 B C R Kc D_is_run
  have D_is_number := ok_is_number (P := l.prog) (w := w) (base := base) F10 B C R Kc 
  have D_need_text := ok_need_text (P := l.prog) (w := w) (base := base) F11 B C R Kc 
  have D_read_numbers := ok_read_numbers (P := l.prog) (w := w) (base := base) F12 B C R Kc D_is_number D_need_text
  have D_read_fraction := ok_read_fraction (P := l.prog) (w := w) (base := base) F13 B C R Kc D_need_text D_read_numbers D_fraction
  have D_read_table := ok_read_table (P := l.prog) (w := w) (base := base) F14 B C R Kc D_need_text D_read_numbers D_need_table
  have D_read_word := ok_read_word (P := l.prog) (w := w) (base := base) F15 B C R Kc D_need_text D_read_numbers D_is_word
  have D__law_cell := ok__law_cell (P := l.prog) (w := w) (base := base) F16 B C R Kc 
  have D__law_mixed := ok__law_mixed (P := l.prog) (w := w) (base := base) F17 B C R Kc 
  have D__law_draws := ok__law_draws (P := l.prog) (w := w) (base := base) F18 B C R Kc D__law_mixed
  have D__law_far := ok__law_far (P := l.prog) (w := w) (base := base) F19 B C R Kc D__law_draws
  have D__law_shared := ok__law_shared (P := l.prog) (w := w) (base := base) F20 B C R Kc 
  have D__law_lowest := ok__law_lowest (P := l.prog) (w := w) (base := base) F21 B C R Kc D__law_shared
  have D__law_whole := ok__law_whole (P := l.prog) (w := w) (base := base) F22 B C R Kc 
  have D__law_row := ok__law_row (P := l.prog) (w := w) (base := base) F23 B C R Kc D__law_whole
  have D__law_spare := ok__law_spare (P := l.prog) (w := w) (base := base) F24 B C R Kc 
  have D__law_text_number := ok__law_text_number (P := l.prog) (w := w) (base := base) F25 B C R Kc D__law_draws D__law_far D__law_spare
  have D__law_any_table := ok__law_any_table (P := l.prog) (w := w) (base := base) F26 B C R Kc D__law_draws
  have D__law_any_word := ok__law_any_word (P := l.prog) (w := w) (base := base) F27 B C R Kc D__law_draws D__law_text_number
  have D__law_table_text := ok__law_table_text (P := l.prog) (w := w) (base := base) F28 B C R Kc 
  have D__law_word_text := ok__law_word_text (P := l.prog) (w := w) (base := base) F29 B C R Kc 
  have D__law_is_table_of := ok__law_is_table_of (P := l.prog) (w := w) (base := base) F30 B C R Kc D__law_row
  have D__law_is_word_of := ok__law_is_word_of (P := l.prog) (w := w) (base := base) F31 B C R Kc D__law_whole
  have D__law_number_of := ok__law_number_of (P := l.prog) (w := w) (base := base) F32 B C R Kc 
  have D__law_fraction_of := ok__law_fraction_of (P := l.prog) (w := w) (base := base) F33 B C R Kc D__law_number_of D__law_lowest
  have D__law_table_of := ok__law_table_of (P := l.prog) (w := w) (base := base) F34 B C R Kc D__law_number_of
  have D__law_word_of := ok__law_word_of (P := l.prog) (w := w) (base := base) F35 B C R Kc D__law_number_of
  have D__law_told := ok__law_told (P := l.prog) (w := w) (base := base) F36 B C R Kc D_read_fraction D_read_table D_read_word
  have D__law_well_read := ok__law_well_read (P := l.prog) (w := w) (base := base) F37 B C R Kc D__law_fraction_of D__law_table_of D__law_word_of D__law_told D__law_row D__law_is_table_of D__law_is_word_of
  have D__law_sign := ok__law_sign (P := l.prog) (w := w) (base := base) F38 B C R Kc 
  have D__law_changed := ok__law_changed (P := l.prog) (w := w) (base := base) F39 B C R Kc D__law_sign
  have D__law_odd_texts := ok__law_odd_texts (P := l.prog) (w := w) (base := base) F40 B C R Kc 
  have D_law := ok_law (P := l.prog) (w := w) (base := base) F41 B C R Kc D__law_cell D__law_draws D__law_any_table D__law_table_text D__law_any_word D__law_word_text D__law_text_number D__law_changed D__law_well_read D__law_odd_texts
  exact D_law.fn (PySem.W.mg_of X G a41) l41
theorem walk {l : PySem.W.OpenLaw} {q : Program} {loose : List Str} {XP : (Str → Option Value) → Heap → Prop} {YP : World → Heap → Prop} {d : DefRec} {K : Params → PySem.W.Frag} (hn : l.most = some 63) (hdf : d.params.defaults = [])
    (hY : ∀ (w : World) (h : Heap), YP w h → (K w.params).In h)
    (F : ∀ (w : World) (mg : Str → Option Value) (fa : Addr) (h : Heap), (K w.params).In h → h.Ns mainGlobals mg → mg d.name = some (.ref fa) →
      ∃ fd : FuncData, (∀ (s : Shared) (u : Value), BindsTo s fd ⟨[u], []⟩ [("_law_script", u)]) ∧ ∀ base : Heap, (K w.params).In base → base.Ns mainGlobals mg → FnOk l.prog w (K w.params) mg base (CXE l.prog w) 8 fa fd ["_law_script"] (spLaw (K w.params))) :
    PySem.W.WalkO q loose XP YP l.row.toRowW d [] (fun f vs => PySem.call f vs) :=
  L2.walk_of (n := 63) (k := 8) (x := "_law_script") (CX := fun w => CXE l.prog w) (sp := fun w => spLaw (K w.params)) hn (by decide) hdf ⟨rfl, by decide, by decide⟩ hY F (fun _ _ a ns hl _ hS => ⟨a, ns, rfl, hS, hl, fun _ => rfl⟩) fun _ _ _ _ _ z => by
    obtain ⟨_, _, _, _, _, _, _, y, _⟩ := z
    exact y.elim
end My
open PySem PySem.W PyProof.Rows
set_option maxRecDepth 100000 in
set_option maxHeartbeats 0 in
theorem PySem.Challenge.cw_sawsign_k64_read_or_refused_holds : PySem.Challenge.rw_sawsign_k64_read_or_refused.Holds := by
  refine hd ?_
  k_fill
  refine My.walk (l := PySem.Challenge.rw_sawsign_k64_read_or_refused) rfl rfl (fun w h Y => PySem.W.kIn_of Y) ?F
  case F =>
    intro w mg fa h KX G hmg
    refine' My.all_mk KX G hmg ?a1 ?l1 ?c1 ?k1 ?a2 ?l2 ?c2 ?k2 ?a3 ?l3 ?c3 ?k3 ?a4 ?l4 ?c4 ?k4 ?a5 ?l5 ?c5 ?k5 ?a6 ?l6 ?c6 ?k6 ?a7 ?l7 ?c7 ?k7 ?a8 ?l8 ?c8 ?k8 ?a9 ?l9 ?c9 ?k9 ?a10 ?l10 ?c10 ?k10 ?a11 ?l11 ?c11 ?k11 ?a12 ?l12 ?c12 ?k12 ?a13 ?l13 ?c13 ?k13 ?a14 ?l14 ?c14 ?k14 ?a15 ?l15 ?c15 ?k15 ?a16 ?l16 ?c16 ?k16 ?a17 ?l17 ?c17 ?k17 ?a18 ?l18 ?c18 ?k18 ?a19 ?l19 ?c19 ?k19 ?a20 ?l20 ?c20 ?k20 ?a21 ?l21 ?c21 ?k21 ?a22 ?l22 ?c22 ?k22 ?a23 ?l23 ?c23 ?k23 ?a24 ?l24 ?c24 ?k24 ?a25 ?l25 ?c25 ?k25 ?a26 ?l26 ?c26 ?k26 ?a27 ?l27 ?c27 ?k27 ?a28 ?l28 ?c28 ?k28 ?a29 ?l29 ?c29 ?k29 ?a30 ?l30 ?c30 ?k30 ?a31 ?l31 ?c31 ?k31 ?a32 ?l32 ?c32 ?k32 ?a33 ?l33 ?c33 ?k33 ?a34 ?l34 ?c34 ?k34 ?a35 ?l35 ?c35 ?k35 ?a36 ?l36 ?c36 ?k36 ?a37 ?l37 ?c37 ?k37 ?a38 ?l38 ?c38 ?k38 ?a39 ?l39 ?c39 ?k39 ?a40 ?l40 ?c40 ?k40 ?a41 ?l41 ?c41 ?k41 ?z0 ?z1 ?z2 ?z3 ?z4 ?z5 ?z6 ?z7 ?z8 ?z9 ?z10 ?z11 ?z12 ?y0 ?u0T ?u1T ?b0x ?e0x ?g0x ?h0x ?fx0 ?o0x ?v0x ?s0x ?t0x ?b1x ?b2x ?b3x ?b4x ?b5x ?b6x ?b7x ?b8x ?e8x ?g8x ?h8x ?fx8 ?o8x ?v8x ?s8x ?t8x ?b9x ?e9x ?g9x ?h9x ?fx9 ?o9x ?v9x ?s9x ?t9x ?b10x ?b11x ?b12x ?e12x ?g12x ?h12x ?fx12 ?o12x ?v12x ?s12x ?t12x ?b13x ?b14x ?b15x ?r0 ?r1 ?r2 ?r3 ?r4 ?r5 ?r6 ?r7 ?r8 ?r9 ?r10 ?r11 ?r12 ?r13 ?r14 ?r15 ?r16 ?r17 ?r18 ?r19 ?r20 ?r21 ?r22 ?r23 ?r24 ?r25 ?r26 ?r27 ?r28 ?r29 ?r30 ?r31 ?r32 ?r33
    (case a1 => k_is)
    (case l1 => k_is)
    (case c1 => k_is)
    (case k1 => k_is)
    (case a2 => k_is)
    (case l2 => k_is)
    (case c2 => k_is)
    (case k2 => k_is)
    (case a3 => k_is)
    (case l3 => k_is)
    (case c3 => k_is)
    (case k3 => k_is)
    (case a4 => k_is)
    (case l4 => k_is)
    (case c4 => k_is)
    (case k4 => k_is)
    (case a5 => k_is)
    (case l5 => k_is)
    (case c5 => k_is)
    (case k5 => k_is)
    (case a6 => k_is)
    (case l6 => k_is)
    (case c6 => k_is)
    (case k6 => k_is)
    (case a7 => k_is)
    (case l7 => k_is)
    (case c7 => k_is)
    (case k7 => k_is)
    (case a8 => k_is)
    (case l8 => k_is)
    (case c8 => k_is)
    (case k8 => k_is)
    (case a9 => k_is)
    (case l9 => k_is)
    (case c9 => k_is)
    (case k9 => k_is)
    (case a10 => k_is)
    (case l10 => k_is)
    (case c10 => k_is)
    (case k10 => k_is)
    (case a11 => k_is)
    (case l11 => k_is)
    (case c11 => k_is)
    (case k11 => k_is)
    (case a12 => k_is)
    (case l12 => k_is)
    (case c12 => k_is)
    (case k12 => k_is)
    (case a13 => k_is)
    (case l13 => k_is)
    (case c13 => k_is)
    (case k13 => k_is)
    (case a14 => k_is)
    (case l14 => k_is)
    (case c14 => k_is)
    (case k14 => k_is)
    (case a15 => k_is)
    (case l15 => k_is)
    (case c15 => k_is)
    (case k15 => k_is)
    (case a16 => k_is)
    (case l16 => k_is)
    (case c16 => k_is)
    (case k16 => k_is)
    (case a17 => k_is)
    (case l17 => k_is)
    (case c17 => k_is)
    (case k17 => k_is)
    (case a18 => k_is)
    (case l18 => k_is)
    (case c18 => k_is)
    (case k18 => k_is)
    (case a19 => k_is)
    (case l19 => k_is)
    (case c19 => k_is)
    (case k19 => k_is)
    (case a20 => k_is)
    (case l20 => k_is)
    (case c20 => k_is)
    (case k20 => k_is)
    (case a21 => k_is)
    (case l21 => k_is)
    (case c21 => k_is)
    (case k21 => k_is)
    (case a22 => k_is)
    (case l22 => k_is)
    (case c22 => k_is)
    (case k22 => k_is)
    (case a23 => k_is)
    (case l23 => k_is)
    (case c23 => k_is)
    (case k23 => k_is)
    (case a24 => k_is)
    (case l24 => k_is)
    (case c24 => k_is)
    (case k24 => k_is)
    (case a25 => k_is)
    (case l25 => k_is)
    (case c25 => k_is)
    (case k25 => k_is)
    (case a26 => k_is)
    (case l26 => k_is)
    (case c26 => k_is)
    (case k26 => k_is)
    (case a27 => k_is)
    (case l27 => k_is)
    (case c27 => k_is)
    (case k27 => k_is)
    (case a28 => k_is)
    (case l28 => k_is)
    (case c28 => k_is)
    (case k28 => k_is)
    (case a29 => k_is)
    (case l29 => k_is)
    (case c29 => k_is)
    (case k29 => k_is)
    (case a30 => k_is)
    (case l30 => k_is)
    (case c30 => k_is)
    (case k30 => k_is)
    (case a31 => k_is)
    (case l31 => k_is)
    (case c31 => k_is)
    (case k31 => k_is)
    (case a32 => k_is)
    (case l32 => k_is)
    (case c32 => k_is)
    (case k32 => k_is)
    (case a33 => k_is)
    (case l33 => k_is)
    (case c33 => k_is)
    (case k33 => k_is)
    (case a34 => k_is)
    (case l34 => k_is)
    (case c34 => k_is)
    (case k34 => k_is)
    (case a35 => k_is)
    (case l35 => k_is)
    (case c35 => k_is)
    (case k35 => k_is)
    (case a36 => k_is)
    (case l36 => k_is)
    (case c36 => k_is)
    (case k36 => k_is)
    (case a37 => k_is)
    (case l37 => k_is)
    (case c37 => k_is)
    (case k37 => k_is)
    (case a38 => k_is)
    (case l38 => k_is)
    (case c38 => k_is)
    (case k38 => k_is)
    (case a39 => k_is)
    (case l39 => k_is)
    (case c39 => k_is)
    (case k39 => k_is)
    (case a40 => k_is)
    (case l40 => k_is)
    (case c40 => k_is)
    (case k40 => k_is)
    (case a41 => k_is)
    (case l41 => k_is)
    (case c41 => k_is)
    (case k41 => k_is)
    (case z0 => k_is)
    (case z1 => k_is)
    (case z2 => k_is)
    (case z3 => k_is)
    (case z4 => k_is)
    (case z5 => k_is)
    (case z6 => k_is)
    (case z7 => k_is)
    (case z8 => k_is)
    (case z9 => k_is)
    (case z10 => k_is)
    (case z11 => k_is)
    (case z12 => k_is)
    (case y0 => k_is)
    (case u0T => k_is)
    (case u1T => k_is)
    (case b0x => k_is)
    (case e0x => k_exc)
    (case g0x => k_is)
    (case h0x => k_is)
    (case fx0 => k_is)
    (case o0x => k_is)
    (case v0x => k_is)
    (case s0x => k_is)
    (case t0x => k_is)
    (case b1x => k_is)
    (case b2x => k_is)
    (case b3x => k_is)
    (case b4x => k_is)
    (case b5x => k_is)
    (case b6x => k_is)
    (case b7x => k_is)
    (case b8x => k_is)
    (case e8x => k_exc)
    (case g8x => k_is)
    (case h8x => k_is)
    (case fx8 => k_is)
    (case o8x => k_is)
    (case v8x => k_is)
    (case s8x => k_is)
    (case t8x => k_is)
    (case b9x => k_is)
    (case e9x => k_exc)
    (case g9x => k_is)
    (case h9x => k_is)
    (case fx9 => k_is)
    (case o9x => k_is)
    (case v9x => k_is)
    (case s9x => k_is)
    (case t9x => k_is)
    (case b10x => k_is)
    (case b11x => k_is)
    (case b12x => k_is)
    (case e12x => k_exc)
    (case g12x => k_is)
    (case h12x => k_is)
    (case fx12 => k_is)
    (case o12x => k_is)
    (case v12x => k_is)
    (case s12x => k_is)
    (case t12x => k_is)
    (case b13x => k_is)
    (case b14x => k_is)
    (case b15x => k_is)
    (case r0 => kit_is)
    (case r1 => kit_is)
    (case r2 => kit_is)
    (case r3 => kit_is)
    (case r4 => kit_is)
    (case r5 => kit_is)
    (case r6 => kit_is)
    (case r7 => kit_is)
    (case r8 => kit_is)
    (case r9 => kit_is)
    (case r10 => kit_is)
    (case r11 => kit_is)
    (case r12 => kit_is)
    (case r13 => kit_is)
    (case r14 => kit_is)
    (case r15 => kit_is)
    (case r16 => kit_is)
    (case r17 => kit_is)
    (case r18 => kit_is)
    (case r19 => kit_is)
    (case r20 => kit_is)
    (case r21 => kit_is)
    (case r22 => kit_is)
    (case r23 => kit_is)
    (case r24 => kit_is)
    (case r25 => kit_is)
    (case r26 => kit_is)
    (case r27 => kit_is)
    (case r28 => kit_is)
    (case r29 => kit_is)
    (case r30 => kit_is)
    (case r31 => kit_is)
    (case r32 => kit_is)
    (case r33 => kit_is)
