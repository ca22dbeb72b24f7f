import PyProof.Rows.All
import KE.KTurns
import KE.KLcPair
import KE.KRevIter
import OpenK.KOwn
import KE.RegKIsAll
import KE.KItem
import KE.KxBytes
import PyProof.EqAt
import PyProof.EqKinds
import PyProof.TupleCall
import PyProof.NeKinds
import PyProof.SumAny
import PyProof.LongRange
import PyProof.ZipIter
import PyProof.Rows.Range3
import KE.KStateDown
import PyProof.DictWalks
import PyProof.ListRange
import PyProof.ListNew
import KE.KIntText
import PySem.Challenge.RW_sawsign_k21_half_rows
set_option Elab.async false
set_option linter.all false
set_option maxRecDepth 100000
namespace Hd
open PySem PySem.W
noncomputable def s0 (w : World) (os : OsState) : Shared := ⟨boot_heap w.params, #[], boot_drawn, boot_toks, os⟩
abbrev ann : Option Value := some (.ref 6)
abbrev P0 : Pos := ⟨0, 0, 0, 0⟩
abbrev BB : List Frame := [topFrame P0]
def env (p : Program) : Env := { scope := p.main.scope, locals := mainNs, globals := mainNs, cells := [], code := .ref 13, frame := some 14 }
def cE (p : Program) : Code := .body (behindTheImports p) (env p)
noncomputable def preR (p : Program) (w : World) (os : OsState) := topGo treeTable p w 11 ann 12 (s0 w os) (topStub p)
noncomputable def SA (p : Program) (w : World) (os : OsState) : Shared := ((preR p w os).map Prod.fst).getD (s0 w os)
noncomputable def T0 (p : Program) (w : World) (os : OsState) : SharedT := ⟨((SA p w os).heap.objs.toList.foldl (fun (x : BT × Nat) o => (x.1.ins x.2 o, x.2 + 1)) (BT.nil, 0)).1, (SA p w os).heap.objs.size, (SA p w os).heap.life, (SA p w os).gens, (SA p w os).drawn, (SA p w os).toks, os⟩
noncomputable def runT (p : Program) (w : World) (os : OsState) (n : Nat) := segRunT treeTable p w 11 ann 1 n (T0 p w os) (piecesOf (behindTheImports p) (env p) (cE p) P0 BB)
noncomputable def S3 (p : Program) (w : World) (os : OsState) (n : Nat) : SharedT := ((runT p w os n).map fun x => x.2.1).getD (T0 p w os)
noncomputable def finR (p : Program) (w : World) (os : OsState) (n : Nat) (pos : Pos) : Option Shared := (runT p w os n).bind fun x => topRun treeTable p w 11 ann 2 x.2.1.abs ⟨doneF .next, cE p, pos, BB⟩
theorem size0 : ∀ w : World, ((boot_heap w.params).isNs mainGlobals && (#[] : Array GenState).size == 0, (boot_heap w.params).objs.size, (boot_heap w.params).nsMap mainGlobals "__annotations__") = (true, 11, ann) := fun w => by kernel_rfl
theorem left_tree {p q : Program} {loose : List Str} {Xt : Shared → Bool} {α : Type} {Yf : Shared → α} {Ya : World → α} {N n : Nat} {pos : Pos}
    (e : opening p = plainProg p.main.scope.names) (hN : Nat.ble 600 N = true) (f : ∀ s, fenceModules? p s = some s) (le : Nat.ble (12 + (1 + (n + 2))) N = true)
    (h1 : ∀ w os, preR p w os = some (SA p w os, ⟨denote treeTable (cE p), cE p, P0, BB⟩))
    (h2 : ∀ w os, segRun treeTable p w 11 ann 1 1 (SA p w os) (blockOf (behindTheImports p) (env p) (cE p) P0 BB) = some (.next, (T0 p w os).abs, cE p, P0))
    (h3 : ∀ w os, (runT p w os n, (finR p w os n pos).map fun s => (staticsOk (importedModules p.main.body) (boot_heap w.params) s.heap && namesBound p s.heap && gensDone s && laidKept (boot_heap w.params) s.heap, openSeen q loose (importedModules p.main.body) Xt true s, Yf s)) = (some (.next, S3 p w os n, cE p, pos), some (true, openGood q loose, Ya w))) :
    LeftO p q loose Xt Yf Ya N := fun w => by
  obtain ⟨⟨h, gs, d, k, os⟩, e0, e'⟩ := Option.map_eq_some_iff.mp (boot_open e hN f w)
  obtain ⟨rfl, rfl, rfl, rfl⟩ : h = boot_heap w.params ∧ gs = Array.mk [] ∧ d = boot_drawn ∧ k = boot_toks := by simpa using e'
  obtain ⟨z1, z2, z3⟩ : _ ∧ _ ∧ _ := by simpa only [Prod.mk.injEq] using size0 w
  have p3 := congrArg Prod.fst (h3 w os)
  have l3 := congrArg Prod.snd (h3 w os)
  dsimp only at p3 l3
  obtain ⟨s, hs, hl⟩ := Option.map_eq_some_iff.mp l3
  obtain ⟨l1, l2, l4⟩ : _ ∧ _ ∧ _ := by simpa only [Prod.mk.injEq] using hl
  unfold finR at hs
  rw [p3] at hs
  have run0 := go_top (h1 w os) (piece_block (h2 w os) (r := s) (N := n + 2) (by
    have := piece_app (env := env p) (rest := []) (segRun_of p3) (piece_nil hs)
    rwa [List.append_nil] at this))
  have r := topRun_mono (N - (12 + (1 + (n + 2)))) _ _ _ _ run0
  rw [show 12 + (1 + (n + 2)) + (N - (12 + (1 + (n + 2)))) = N by have := Nat.le_of_ble_eq_true le; omega] at r
  have t : topFrom treeTable p w N ⟨boot_heap w.params, Array.mk [], boot_drawn, boot_toks, os⟩ = some s := by
    unfold topFrom
    dsimp only
    rw [z1, z2, z3]
    have r' : topRun treeTable p w 11 ann N ⟨boot_heap w.params, Array.mk [], boot_drawn, boot_toks, os⟩ (topStub p) = some s := r
    rw [r']
    show (match staticsOk (importedModules p.main.body) (boot_heap w.params) s.heap && namesBound p s.heap && gensDone s && laidKept (boot_heap w.params) s.heap with | true => some s | false => none) = _
    rw [l1]
  unfold openEnds
  rw [e0]
  show (topFrom treeTable p w N ⟨boot_heap w.params, Array.mk [], boot_drawn, boot_toks, os⟩).map _ = _
  rw [t]
  show some (_, _) = _
  rw [l2, l4]
end Hd
section
namespace My
open PySem
def top (i : Nat) : Stmt := PySem.Challenge.pw_sawsign_k21_half_rows.main.body.getD i (.Pass ⟨0, 0, 0, 0⟩)
end My
def My.view : PySem.Program := { PySem.Challenge.pw_sawsign_k21_half_rows with main := { PySem.Challenge.pw_sawsign_k21_half_rows.main with body := [My.top 1, My.top 2, My.top 3, My.top 4, My.top 5, My.top 6, My.top 7, My.top 8, My.top 9, My.top 10, My.top 11, My.top 12, My.top 13, My.top 14, My.top 15, My.top 16, My.top 18, My.top 19, My.top 20, My.top 22, My.top 23, My.top 25, My.top 26, My.top 27, My.top 29, My.top 30, My.top 31, My.top 32, My.top 33, My.top 34, My.top 35, My.top 36, My.top 37, My.top 38, My.top 39, My.top 40, My.top 41] } }
open PySem PySem.W PyProof.Rows
local macro_rules | `(tactic| o_head $H:term) => `(tactic| (
  refine holds_open (q := My.view) (loose := []) (Xt := fun s => xlAt My.view [] s && recOk (RowW.records (OpenRow.toRowW (OpenLaw.row PySem.Challenge.rw_sawsign_k21_half_rows))) s) (XP := XL My.view []) (Yf := Hook.obs $H) (Ya := Hook.val $H) (YP := Hook.says $H) (N := 13000) ?hl (Hook.of $H) (Hook.keeps $H) (fun s e => xl_of s (Bool.and_eq_true_iff.mp e).1) XL.keeps (by rfl) (by rfl) (by rfl) (fun s e => recFacts_of (Bool.and_eq_true_iff.mp e).2) (by rfl) (by first | assumption | decide +kernel) (by decide +kernel) ⟨rfl, rfl, rfl, rfl, rfl, by decide +kernel⟩ ?hw ?hc
  (case hl => exact Hd.left_tree (n := 12000) (pos := ⟨156, 0, 185, 89⟩) (by kernel_rfl) (by decide) (fun _ => by kernel_rfl) (by decide) (fun _ _ => by kernel_rfl) (fun _ _ => by kernel_rfl) (fun _ _ => by kernel_rfl))))
set_option maxHeartbeats 0 in
open_top hd for PySem.Challenge.rw_sawsign_k21_half_rows
end
set_option maxRecDepth 100000
namespace L2
open PySem PySem.Spec PyProof.Rows
abbrev Key := Sum Int Str
def keyIs : Key → Value → Bool
  | .inl k, v => Value.isInt k v
  | .inr x, v => Value.isStrOf x v
def keyH (w : World) : Key → Int
  | .inl k => hashInt k
  | .inr x => hashStr w x
theorem keyIs_shape : ∀ {k : Key} {v : Value}, keyIs k v = true → (∃ i t, k = Sum.inl i ∧ v = Value.int i t) ∨ (∃ x t, k = Sum.inr x ∧ v = Value.str x t)
  | .inl i, v, h => by
    obtain ⟨t, e⟩ := Value.isInt_shape (k := i) (v := v) h
    exact .inl ⟨i, t, rfl, e⟩
  | .inr x, v, h => by
    obtain ⟨t, e⟩ := Value.isStrOf_shape (x := x) (v := v) h
    exact .inr ⟨x, t, rfl, e⟩
theorem key_ll (a b : Int) : decide ((Sum.inl a : Key) = Sum.inl b) = (a == b) := by
  by_cases e : a = b
  · subst e; simp
  · have h : ¬ (Sum.inl a : Key) = Sum.inl b := fun q => e (Sum.inl.inj q)
    rw [decide_eq_false h]
    exact (beq_eq_false_iff_ne.mpr e).symm
theorem key_rr (a b : Str) : decide ((Sum.inr a : Key) = Sum.inr b) = decide (a = b) := by
  by_cases e : a = b
  · subst e; simp
  · have h : ¬ (Sum.inr a : Key) = Sum.inr b := fun q => e (Sum.inr.inj q)
    rw [decide_eq_false h, decide_eq_false e]
theorem key_lr (a : Int) (b : Str) : decide ((Sum.inl a : Key) = Sum.inr b) = false := decide_eq_false (fun q => nomatch q)
theorem key_rl (a : Str) (b : Int) : decide ((Sum.inr a : Key) = Sum.inl b) = false := decide_eq_false (fun q => nomatch q)
def mixKind (prog : Program) (w : World) : PySem.KeyKind prog w Key where
  is := keyIs
  hash := keyH w
  inj := fun v a b ha hb => by
    rcases keyIs_shape ha with ⟨i, t, rfl, rfl⟩ | ⟨x, t, rfl, rfl⟩
    · rcases keyIs_shape hb with ⟨j, u, rfl, e⟩ | ⟨y, u, rfl, e⟩
      · injection e with e1 _; rw [e1]
      · exact nomatch e
    · rcases keyIs_shape hb with ⟨j, u, rfl, e⟩ | ⟨y, u, rfl, e⟩
      · exact nomatch e
      · injection e with e1 _; rw [e1]
  byValue := fun k v h => by
    rcases keyIs_shape h with ⟨i, t, rfl, rfl⟩ | ⟨x, t, rfl, rfl⟩ <;> rfl
  pyHash := fun hv h => by
    rcases keyIs_shape hv with ⟨i, t, rfl, rfl⟩ | ⟨x, t, rfl, rfl⟩
    · exact wpAny_pyHash_int h
    · exact wpAny_pyHash_str h
  eqBool := fun hu hv h => by
    rcases keyIs_shape hu with ⟨i, t, rfl, rfl⟩ | ⟨x, t, rfl, rfl⟩
    · rcases keyIs_shape hv with ⟨j, u, rfl, rfl⟩ | ⟨y, u, rfl, rfl⟩
      · rw [key_ll] at h; exact wpAny_eqBool_int h
      · rw [key_lr] at h; exact SeqAt.EqAt.int_str i t y u _ _ _ _ h
    · rcases keyIs_shape hv with ⟨j, u, rfl, rfl⟩ | ⟨y, u, rfl, rfl⟩
      · rw [key_rl] at h; exact SeqAt.EqAt.str_int x t j u _ _ _ _ h
      · rw [key_rr] at h; exact wpAny_eqBool_str h
  «strs» := fun k x t v h => by
    rcases keyIs_shape h with ⟨i, u, rfl, e⟩ | ⟨y, u, rfl, e⟩
    · exact nomatch e
    · injection e with e1 _
      subst e1
      cases v <;> rfl
end L2
namespace L2
open PySem PySem.Spec PyProof.Rows
inductive V where
  | non | bl (b : Bool) | int (i : Int) | str (x : Str) | byt (b : Array UInt8) | flt (b : UInt64) | ref (a : Addr) | ty (n : String)
  deriving DecidableEq
def RelV : V → Value → Prop
  | .non, u => u = Value.none
  | .bl b, u => u = Value.bool b
  | .int i, u => ∃ t, u = Value.int i t
  | .str x, u => ∃ t, u = Value.str x t
  | .byt b, u => ∃ t, u = Value.bytes b t
  | .flt b, u => ∃ t, u = Value.float b t
  | .ref a, u => u = Value.ref a
  | .ty n, u => u = Value.type n
abbrev Vals : List V → List Value → Prop := Paired RelV
theorem Vals.length {xs : List V} {us : List Value} (r : Vals xs us) : xs.length = us.length := Paired.length r
theorem Vals.get : ∀ {xs : List V} {us : List Value} {i : Nat} {x : V}, Vals xs us → xs[i]? = some x → ∃ u, us[i]? = some u ∧ RelV x u
  | _, _, _, _, .nil, e => by simp at e
  | _, _, 0, _, .cons r _, e => by simp at e; subst e; exact ⟨_, rfl, r⟩
  | _, _, i + 1, x, .cons _ t, e => by
    obtain ⟨u, h1, h2⟩ := Vals.get (i := i) (x := x) t (by simpa using e)
    exact ⟨u, by simpa using h1, h2⟩
theorem Vals.append : ∀ {xs ys : List V} {us ws : List Value}, Vals xs us → Vals ys ws → Vals (xs ++ ys) (us ++ ws)
  | _, _, _, _, .nil, s => s
  | _, _, _, _, .cons r t, s => .cons r (Vals.append t s)
theorem Vals.take : ∀ {xs : List V} {us : List Value} (n : Nat), Vals xs us → Vals (xs.take n) (us.take n)
  | _, _, 0, _ => .nil
  | _, _, _ + 1, .nil => .nil
  | _, _, n + 1, .cons r t => .cons r (Vals.take n t)
theorem Vals.drop : ∀ {xs : List V} {us : List Value} (n : Nat), Vals xs us → Vals (xs.drop n) (us.drop n)
  | _, _, 0, r => r
  | _, _, _ + 1, .nil => .nil
  | _, _, n + 1, .cons _ t => Vals.drop n t
def RelO : Option V → Option Value → Prop
  | some v, some u => RelV v u
  | none, none => True
  | _, _ => False
def KV {κ : Type} : List (κ × V) → List (κ × Value) → Prop := Paired fun (p : κ × V) (q : κ × Value) => p.1 = q.1 ∧ RelV p.2 q.2
def kV : Key → V
  | .inl i => .int i
  | .inr x => .str x
inductive HO where
  | lst (xs : List V)
  | tup (xs : List V)
  | dK (kvs : List (Key × V)) | dT (kvs : List (List Key × V))
  | set (S : Int → Bool) (n : Nat)
  | ins (C dx : Addr) (fs : List (Str × V))
  | own (x : Addr)
  | xd (fs : List (Str × V))
  | met (f x : Addr)
  | rng (lo hi : Int)
  | frz (o : Obj) (u : HO)
  | tbl (ps : Array Value)
  | ext (φ : Heap → Prop)
abbrev Hp := Addr → Option HO
def upd (H : Hp) (a : Addr) (o : HO) : Hp := fun b => if b = a then some o else H b
theorem upd_same {H : Hp} {a : Addr} {o : HO} : upd H a o a = some o := by unfold upd; rw [if_pos rfl]
theorem upd_ne {H : Hp} {a b : Addr} {o : HO} (h : b ≠ a) : upd H a o b = H b := by unfold upd; rw [if_neg h]
theorem ne_of_none {H : Hp} {a b : Addr} {o : HO} (h : H a = some o) (h' : H b = none) : a ≠ b := by
  intro e; subst e; rw [h] at h'; cases h'
section
variable (P : Program) (w : World)
def ObjOk (H : Hp) (h : Heap) (a : Addr) : HO → Prop
  | .lst xs => xs.length ≤ sizeLine ∧ ∃ (its : List Value) (n : Nat), Vals xs its ∧ h.get? a = some { cls := .type "list", data := .seq its.toArray n }
  | .tup xs => xs.length ≤ sizeLine ∧ ∃ its : List Value, Vals xs its ∧ IsTup h a its.toArray
  | .dK kvs => kvs.length ≤ sizeLine ∧ (a == sysModules) = false ∧ ∃ vs, KV kvs vs ∧ h.DictOf (mixKind P w) a vs
  | .dT kvs => kvs.length ≤ sizeLine ∧ (a == sysModules) = false ∧ ∃ xs : List (List Key × Addr × Value),
      Paired (fun (p : List Key × V) (q : List Key × Addr × Value) => p.1 = q.1 ∧ H q.2.1 = some (.tup (p.1.map kV)) ∧ RelV p.2 q.2.2) kvs xs ∧
      ∃ o es ep, h.get? a = some o ∧ o.ExactDict ∧ o.data = .dict es ep ∧ es.toList = xs.map (entryOfKey (tupleKind (mixKind P w))) ∧ (xs.map (·.1)).Nodup
  | .set S n => h.SetOf (intKind P w) a S n
  | .ins C dx fs => H dx = some (.own a) ∧ fs.length ≤ 1000 ∧ dx ≠ a ∧ h.get? a = some (PySem.W.instObj C dx) ∧
      ∃ mA, h.Ns1 dx mA ∧ (∀ f, RelO (fs.lookup f) (mA f)) ∧ PySem.Within mA (fs.map (·.1))
  | .own _ => ∃ o, h.get? a = some o
  | .xd fs => ∃ mA, h.Ns1 a mA ∧ ∀ f, RelO (fs.lookup f) (mA f)
  | .rng lo hi => ∃ t u v, h.get? a = some { cls := .type "range", data := .fields #[.int lo t, .int hi u, .int 1 v] }
  | .frz o u => h.get? a = some o ∧ ObjOk H h a u
  | .tbl ps => h.get? a = some { cls := .none, data := .fields ps }
  | .met f x => h.get? a = some (PySem.W.methodObj (.ref f) (.ref x))
  | .ext φ => φ h ∧ (∃ o, h.get? a = some o) ∧ ∀ h1 h2 : Heap, φ h1 → (∀ o, h1.get? a = some o → h2.get? a = some o) → φ h2
def HOk (H : Hp) (h : Heap) : Prop := ∀ a o, H a = some o → ObjOk P w H h a o
end
section
variable {P : Program} {w : World} {H H' : Hp} {h h' : Heap} {a : Addr} {o : HO}
theorem ObjOk.lt (x : ObjOk P w H h a o) : a < h.objs.size := by
  cases o with
  | lst xs => obtain ⟨_, _, _, _, e⟩ := x; exact Heap.lt_size e
  | tup xs => obtain ⟨_, _, _, p⟩ := x; exact p.lt
  | dK kvs => obtain ⟨_, _, _, _, o, _, _, e, _⟩ := x; exact Heap.lt_size e
  | dT kvs => obtain ⟨_, _, _, _, o, _, _, e, _⟩ := x; exact Heap.lt_size e
  | set S n => obtain ⟨o, _, _, _, e, _⟩ := x; exact Heap.lt_size e
  | ins C dx fs => obtain ⟨_, _, _, e, _⟩ := x; exact Heap.lt_size e
  | own y => obtain ⟨_, e⟩ := x; exact Heap.lt_size e
  | xd fs => obtain ⟨_, ⟨_, _, _, e, _⟩, _⟩ := x; exact Heap.lt_size e
  | rng lo hi => obtain ⟨_, _, _, e⟩ := x; exact Heap.lt_size e
  | frz ob u => obtain ⟨e, _⟩ := x; exact Heap.lt_size e
  | tbl ps => exact Heap.lt_size (show h.get? a = some _ from x)
  | met f y => exact Heap.lt_size (show h.get? a = some _ from x)
  | ext φ => obtain ⟨_, ⟨_, e⟩, _⟩ := x; exact Heap.lt_size e
theorem Paired.mapP {α β : Type} {F G : α → β → Prop} : ∀ {l₁ : List α} {l₂ : List β}, Paired F l₁ l₂ → (∀ a b, F a b → G a b) → Paired G l₁ l₂
  | _, _, .nil, _ => .nil
  | _, _, .cons r t, f => .cons (f _ _ r) (Paired.mapP t f)
theorem ObjOk.stay (x : ObjOk P w H h a o) (k : ∀ b u, (b = a ∨ H b = some (.own a)) → h.get? b = some u → h'.get? b = some u)
    (ho : ∀ b, H b = some (.own a) → H' b = some (.own a)) (ht : ∀ b xs, H b = some (.tup xs) → H' b = some (.tup xs)) : ObjOk P w H' h' a o := by
  induction o with
  | lst xs => obtain ⟨z, its, n, r, e⟩ := x; exact ⟨z, its, n, r, k _ _ (.inl rfl) e⟩
  | tup xs => obtain ⟨z, its, r, ob, e, c⟩ := x; exact ⟨z, its, r, ob, k _ _ (.inl rfl) e, c⟩
  | dK kvs => obtain ⟨z, y, vs, r, ob, es, ep, e, c⟩ := x; exact ⟨z, y, vs, r, ob, es, ep, k _ _ (.inl rfl) e, c⟩
  | dT kvs =>
    obtain ⟨z, y, xs, r, ob, es, ep, e, c⟩ := x
    exact ⟨z, y, xs, Paired.mapP r fun p q z => ⟨z.1, ht _ _ z.2.1, z.2.2⟩, ob, es, ep, k _ _ (.inl rfl) e, c⟩
  | set S n => obtain ⟨ob, es, ep, t, e, c⟩ := x; exact ⟨ob, es, ep, t, k _ _ (.inl rfl) e, c⟩
  | ins C dx fs =>
    obtain ⟨d, z, ne, e, mA, ⟨od, es, ep, e2, c⟩, r⟩ := x
    exact ⟨ho _ d, z, ne, k _ _ (.inl rfl) e, mA, ⟨od, es, ep, k _ _ (.inr d) e2, c⟩, r⟩
  | own y => obtain ⟨ob, e⟩ := x; exact ⟨ob, k _ _ (.inl rfl) e⟩
  | xd fs => obtain ⟨mA, ⟨od, es, ep, e, c⟩, r⟩ := x; exact ⟨mA, ⟨od, es, ep, k _ _ (.inl rfl) e, c⟩, r⟩
  | rng lo hi => obtain ⟨t, u, v, e⟩ := x; exact ⟨t, u, v, k _ _ (.inl rfl) e⟩
  | frz ob u ih => obtain ⟨e, q⟩ := x; exact ⟨k _ _ (.inl rfl) e, ih q⟩
  | tbl ps =>
    have e : h.get? a = some { cls := .none, data := .fields ps } := x
    show h'.get? a = some { cls := .none, data := .fields ps }
    exact k a _ (.inl rfl) e
  | met f y =>
    have e : h.get? a = some (PySem.W.methodObj (.ref f) (.ref y)) := x
    show h'.get? a = some (PySem.W.methodObj (.ref f) (.ref y))
    exact k a _ (.inl rfl) e
  | ext φ => obtain ⟨p, ⟨o, e⟩, st⟩ := x; exact ⟨st _ _ p fun o q => k _ _ (.inl rfl) q, ⟨o, k _ _ (.inl rfl) e⟩, st⟩
theorem HOk.lt (x : HOk P w H h) (e : H a = some o) : a < h.objs.size := (x a o e).lt
theorem HOk.fresh (x : HOk P w H h) (e : h.objs.size ≤ a) : H a = none := by
  cases q : H a with
  | none => rfl
  | some u => exact absurd (Nat.lt_of_lt_of_le (x.lt q) e) (Nat.lt_irrefl _)
theorem HOk.kept (x : HOk P w H h) (k : ∀ b u, h.get? b = some u → h'.get? b = some u) : HOk P w H h' := fun a o e =>
  (x a o e).stay (fun b u _ q => k b u q) (fun _ q => q) fun _ _ q => q
theorem HOk.laid (x : HOk P w H h) (k : ∀ b u, h.get? b = some u → h'.get? b = some u) (hp : h.objs.size ≤ a) (new : ObjOk P w (upd H a o) h' a o) : HOk P w (upd H a o) h' := fun b u e => by
  have hn := x.fresh hp
  by_cases hb : b = a
  · subst hb; rw [upd_same] at e; cases e; exact new
  · rw [upd_ne hb] at e
    exact (x b u e).stay (fun c v _ q => k c v q) (fun c q => by rw [upd_ne (ne_of_none q hn)]; exact q) fun c xs q => by rw [upd_ne (ne_of_none q hn)]; exact q
end
def Rd (H : Hp) (a : Addr) (u : HO) : Prop := H a = some u ∨ ∃ o, H a = some (.frz o u)
theorem Rd.ok {P : Program} {w : World} {H : Hp} {h : Heap} {a : Addr} {u : HO} (r : Rd H a u) (x : HOk P w H h) : ObjOk P w H h a u := by
  rcases r with r | ⟨o, r⟩
  · exact x a u r
  · obtain ⟨_, q⟩ := x a _ r
    exact q
def Mut : Option HO → Prop
  | some (.lst _) => True
  | some (.dK _) => True
  | some (.dT _) => True
  | some (.set _ _) => True
  | some (.ins _ _ _) => True
  | some (.ext _) => True
  | _ => False
section
variable {P : Program} {w : World} {H : Hp} {h h' : Heap} {x e : Addr} {o' : HO}
theorem HOk.write (ok : HOk P w H h) (mu : Mut (H x)) (he : e = x ∨ H e = some (.own x)) (k : ∀ b u, b ≠ e → h.get? b = some u → h'.get? b = some u) (heo : ∃ u, h'.get? e = some u)
    (new : ObjOk P w (upd H x o') h' x o') : HOk P w (upd H x o') h' := fun b u q => by
  have nown : ∀ c y, H c = some (.own y) → c ≠ x := fun c y r z => by subst z; rw [r] at mu; exact mu
  have ntup : ∀ c xs, H c = some (.tup xs) → c ≠ x := fun c xs r z => by subst z; rw [r] at mu; exact mu
  by_cases hb : b = x
  · subst hb; rw [upd_same] at q; cases q; exact new
  · rw [upd_ne hb] at q
    by_cases hbe : b = e
    · have q' : H b = some (.own x) := by
        rcases he with z | z
        · exact absurd (hbe.trans z) hb
        · rw [hbe]; exact z
      rw [q] at q'; cases q'
      obtain ⟨v, hv⟩ := heo
      exact ⟨v, by rw [hbe]; exact hv⟩
    · refine (ok b u q).stay (fun c v hc r => k c v ?_ r) (fun c r => by rw [upd_ne (nown c b r)]; exact r) fun c xs r => by rw [upd_ne (ntup c xs r)]; exact r
      rcases hc with rfl | hc
      · exact hbe
      · rintro rfl
        rcases he with z | z
        · exact nown c b hc z
        · rw [hc] at z; cases z; exact hb rfl
end
structure Un (fs ex : List Addr) (H H' : Hp) (h h' : Heap) : Prop where
  keep : ∀ b o, h.get? b = some o → H b = none → b ∉ fs → b ∉ ex → h'.get? b = some o
  slot : ∀ b o, h.get? b = some o → H b = none → b ∈ fs → b ∉ ex → ∃ sl, h'.get? b = some { o with slots := sl }
  free : ∀ b o, h.get? b = some o → H b = none → b ∉ ex → H' b = none
  there : ∀ b o, h.get? b = some o → b ∉ ex → ∃ o', h'.get? b = some o'
  tups : ∀ b xs, H b = some (.tup xs) → H' b = some (.tup xs)
  frzs : ∀ b o u, H b = some (.frz o u) → H' b = some (.frz o u)
  tbls : ∀ b ps, H b = some (.tbl ps) → ∃ more, H' b = some (.tbl (ps ++ more))
section
variable {fs fs' ex ex' : List Addr} {H H1 H2 : Hp} {h h1 h2 h' : Heap} {a x e : Addr} {o : HO}
theorem Un.any (u : Un fs ex H H1 h h1) {b : Addr} {ob : Obj} (q : h.get? b = some ob) (n : H b = none) (hx : b ∉ ex) : ∃ sl, h1.get? b = some { ob with slots := sl } := by
  by_cases hb : b ∈ fs
  · exact u.slot b ob q n hb hx
  · exact ⟨ob.slots, u.keep b ob q n hb hx⟩
theorem Un.kept (k : ∀ b u, h.get? b = some u → h'.get? b = some u) : Un fs ex H H h h' :=
  ⟨fun b ob q _ _ _ => k b ob q, fun b ob q _ _ _ => ⟨ob.slots, k b ob q⟩, fun _ _ _ n _ => n, fun b ob q _ => ⟨ob, k b ob q⟩, fun _ _ q => q, fun _ _ _ q => q, fun _ ps q => ⟨#[], by rw [q]; simp⟩⟩
theorem Un.refl : Un fs ex H H h h := Un.kept fun _ _ q => q
theorem Un.laid (k : ∀ b u, h.get? b = some u → h'.get? b = some u) (hp : h.objs.size ≤ a) (hn : H a = none) : Un fs ex H (upd H a o) h h' where
  keep := fun b u q _ _ _ => k b u q
  slot := fun b u q _ _ _ => ⟨u.slots, k b u q⟩
  free := fun b u q n _ => by rw [upd_ne (Nat.ne_of_lt (Nat.lt_of_lt_of_le (Heap.lt_size q) hp))]; exact n
  there := fun b u q _ => ⟨u, k b u q⟩
  tups := fun b xs q => by rw [upd_ne (ne_of_none q hn)]; exact q
  frzs := fun b u xs q => by rw [upd_ne (ne_of_none q hn)]; exact q
  tbls := fun b ps q => ⟨#[], by rw [upd_ne (ne_of_none q hn), q]; simp⟩
theorem Un.write (mu : Mut (H x)) (he : e = x ∨ H e = some (.own x)) (k : ∀ b u, b ≠ e → h.get? b = some u → h'.get? b = some u) (heo : ∃ u, h'.get? e = some u) : Un fs ex H (upd H x o) h h' := by
  have hx : ∀ b, H b = none → b ≠ x := fun b n z => by subst z; rw [n] at mu; exact mu
  have hb : ∀ b, H b = none → b ≠ e := fun b n z => by
    subst z
    rcases he with r | r
    · exact hx b n r
    · rw [n] at r; cases r
  have hm : ∀ b u, H b = some u → ¬ Mut (some u) → b ≠ x := fun b u q nm z => by subst z; rw [q] at mu; exact nm mu
  refine ⟨fun b u q n _ _ => k b u (hb b n) q, fun b u q n _ _ => ⟨u.slots, k b u (hb b n) q⟩, fun b u q n _ => by rw [upd_ne (hx b n)]; exact n, fun b u q _ => ?_,
    fun b xs q => by rw [upd_ne (hm b _ q fun z => z)]; exact q, fun b u xs q => by rw [upd_ne (hm b _ q fun z => z)]; exact q, fun b ps q => ⟨#[], by rw [upd_ne (hm b _ q fun z => z), q]; simp⟩⟩
  by_cases hbe : b = e
  · subst hbe; exact heo
  · exact ⟨u, k b u hbe q⟩
end
def trk (h : Heap) (H : Hp) : List Addr := (List.range h.objs.size).filter fun a => (H a).isSome
def hidT (h : Heap) (H : Hp) : Heap := PySem.W.hideAll h (trk h H)
theorem hidT_size (h : Heap) (H : Hp) : (hidT h H).objs.size = h.objs.size := PySem.W.hideAll_size _ _
theorem hidT_get {h : Heap} {H : Hp} {b : Addr} {o : Obj} (e : h.get? b = some o) (n : H b = none) : (hidT h H).get? b = some o :=
  PySem.W.hideAll_get _ e fun hm => by
    have q : (H b).isSome = true := (List.mem_filter.mp hm).2
    rw [n] at q; simp at q
theorem of_hidT {h : Heap} {H : Hp} {b : Addr} {o : Obj} (e : (hidT h H).get? b = some o) : h.get? b = some o ∧ H b = none := by
  have e' : h.get? b = some o := PySem.W.of_hideAll (trk h H) e
  refine ⟨e', ?_⟩
  cases q : H b with
  | none => rfl
  | some x =>
    have hm : b ∈ trk h H := List.mem_filter.mpr ⟨List.mem_range.mpr (Heap.lt_size e'), by simp [q]⟩
    have z : (hidT h H).get? b = none := PySem.W.hideAll_none (trk h H) hm
    rw [z] at e; cases e
def allNews (g h : Heap) (L : Addr) : List (Addr × Obj) := (List.range h.objs.size).filterMap fun a => if a = L ∨ (g.get? a).isSome = true then none else (h.get? a).map fun o => (a, o)
def rest (g h : Heap) (L d : Addr) : List (Addr × Obj) := (allNews g h L).filter fun p => decide (p.1 ≠ d)
end L2
namespace L2
open PySem PySem.Spec PyProof.Rows
structure Mod (K : PySem.W.Frag) (mg : Str → Option Value) (base : Heap) : Prop where
  kin : K.In base
  glob : base.Ns mainGlobals mg
  blt : ∃ mb, base.Ns builtinsNs mb ∧ ∀ x : Str, x ≠ "__name__" → mb x = bootBuiltins x
  nolimit : base.NoLimit
structure Cx where
  prog : Program
  w : World
  K : PySem.W.Frag
  mg : Str → Option Value
  base : Heap
  A : Around
  N : List Str
  s₀ : Shared
  H₀ : Hp
  env : Env
  outer : List Env
  stack : List Env
  ex : List Addr
  fn : Str → Bool
  calm : Bool
  pn : List (Addr × Obj)
  xe : Value → Shared → Prop
def frs (l : List Env) : List Addr := l.filterMap (·.frame)
abbrev Cx.fs (X : Cx) : List Addr := frs X.outer
def Vis (sc : Scope) (x : Str) : Prop := sc.names.lookup x = some .local ∨ sc.names.lookup x = some .cell ∨ sc.names.lookup x = some .free
def Loc (sc : Scope) (x : Str) : Prop := sc.names.lookup x = some .local ∨ sc.names.lookup x = some .cell
def Look (env : Env) (h : Heap) (m : Str → Option Value) (x : Str) (u : Value) : Prop :=
  (env.kindOf x = some .local ∧ m x = some u) ∨ ((env.kindOf x = some .cell ∨ env.kindOf x = some .free) ∧ ∃ c, env.cells.lookup x = some c ∧ h.IsCell c (some u))
structure Cx.Ok (X : Cx) : Prop where
  mod : Mod X.K X.mg X.base
  kind : X.env.scope.kind = .function
  glob : X.env.globals = mainGlobals
  blt : X.env.builtins = builtinsNs
  above : X.s₀.heap.objs.size ≤ X.env.locals
  inj : ∀ x y c, X.env.cells.lookup x = some c → X.env.cells.lookup y = some c → x = y
  has : ∀ x, (X.env.kindOf x = some .cell ∨ X.env.kindOf x = some .free) → ∃ c, X.env.cells.lookup x = some c
  cab : ∀ x c, X.fn x = true → X.env.cells.lookup x = some c → X.s₀.heap.objs.size ≤ c
  hd : X.calm = true → X.A.handled = none
  frames : X.A.frames = some X.stack
  stk : X.stack = X.outer ∨ (X.stack = X.env :: X.outer ∧ X.env.frame = some X.env.locals)
  exf : ∀ b ∈ X.ex, b ≠ X.env.locals ∧ ∀ x c, X.env.cells.lookup x = some c → c ≠ b
  bs : ∀ b o, X.base.get? b = some o → X.s₀.heap.get? b = some o ∧ X.H₀ b = none
  bsz : X.base.objs.size ≤ X.s₀.heap.objs.size
  noex : ∀ b o, X.base.get? b = some o → b ∉ X.ex
  exfs : ∀ b ∈ X.ex, b ∉ X.fs
  funs : X.s₀.heap.FunFrames X.base X.outer
  frf : ∀ b ∈ X.fs, X.H₀ b = none
structure Inv (X : Cx) (pins : List (Addr × Obj)) (σ : List (Option V)) (H : Hp) (s : Shared) : Prop where
  ok : X.Ok
  os : s.os = X.s₀.os
  bare : AllBare s.gens
  base : Un X.fs X.ex X.H₀ H X.s₀.heap s.heap
  loc : ∃ m, s.heap.Ns X.env.locals m ∧ ∀ (i : Nat) (x : Str) (v : V), X.N[i]? = some x → σ[i]? = some (some v) → Vis X.env.scope x → ∃ u, RelV v u ∧ Look X.env s.heap m x u
  cell : ∀ x c, X.env.cells.lookup x = some c → ∃ v, s.heap.IsCell c v
  free : H X.env.locals = none
  freeC : ∀ x c, X.env.cells.lookup x = some c → H c = none
  pin : ∀ p ∈ X.pn ++ pins, s.heap.get? p.1 = some p.2 ∧ H p.1 = none ∧ p.1 ≠ X.env.locals ∧ p.1 ∉ X.fs ∧ ∀ v, p.2.data ≠ .cell v
  hok : HOk X.prog X.w H s.heap
  len : σ.length = X.N.length
section
variable {X : Cx} {pins : List (Addr × Obj)} {σ : List (Option V)} {H H' : Hp} {s : Shared} {h' : Heap}
theorem Cx.Ok.nofr (ok : X.Ok) {b : Addr} {o : Obj} (e : X.base.get? b = some o) : b ∉ X.fs := fun hb => by
  have := (ok.funs.mem hb).1
  rw [e] at this; cases this
theorem Inv.bs (I : Inv X pins σ H s) : ∀ b o, X.base.get? b = some o → s.heap.get? b = some o ∧ H b = none := fun b o e =>
  ⟨I.base.keep b o (I.ok.bs b o e).1 (I.ok.bs b o e).2 (I.ok.nofr e) (I.ok.noex b o e), I.base.free b o (I.ok.bs b o e).1 (I.ok.bs b o e).2 (I.ok.noex b o e)⟩
theorem Inv.bk (I : Inv X pins σ H s) : ∀ b o, X.base.get? b = some o → s.heap.get? b = some o := fun b o e => (I.bs b o e).1
theorem Inv.mod (I : Inv X pins σ H s) : Mod X.K X.mg X.base := I.ok.mod
theorem Inv.kIn (I : Inv X pins σ H s) : X.K.In s.heap := I.ok.mod.kin.keeps I.bk
theorem Inv.fr (I : Inv X pins σ H s) : ∃ m, Fr X.base X.env.locals s.heap m :=
  let ⟨m, hn, _⟩ := I.loc
  ⟨m, hn, I.bk, Nat.le_trans I.ok.bsz I.ok.above⟩
theorem Inv.lt (I : Inv X pins σ H s) : X.env.locals < s.heap.objs.size := let ⟨_, hn, _⟩ := I.loc; hn.lt
theorem Inv.sz (I : Inv X pins σ H s) : X.s₀.heap.objs.size ≤ s.heap.objs.size := Nat.le_trans I.ok.above (Nat.le_of_lt I.lt)
theorem Inv.nofs (I : Inv X pins σ H s) {a : Addr} (h : s.heap.objs.size ≤ a) : a ∉ X.fs := fun hb => by
  obtain ⟨_, o, ho, _⟩ := I.ok.funs.mem hb
  exact absurd (Nat.lt_of_lt_of_le (Heap.lt_size ho) (Nat.le_trans I.sz h)) (Nat.lt_irrefl _)
theorem Inv.cne (I : Inv X pins σ H s) : ∀ x c, X.env.cells.lookup x = some c → c ≠ X.env.locals := fun x c e z => by
  obtain ⟨v, o, ho, hd⟩ := I.cell x c e
  obtain ⟨m, ⟨o', es, ep, ho', hd', _⟩, _⟩ := I.loc
  rw [z, ho'] at ho; cases ho; rw [hd'] at hd; cases hd
theorem Inv.funs (I : Inv X pins σ H s) : s.heap.FunFrames X.base X.outer := by
  have all : ∀ (l : List Env), (∀ b ∈ frs l, b ∈ X.fs) → X.s₀.heap.FunFrames X.base l → s.heap.FunFrames X.base l := by
    intro l
    induction l with
    | nil => intro _ _; trivial
    | cons env r ih =>
      intro hs hl
      obtain ⟨hk, ⟨L, o, hf, hn, ho, hd⟩, hr⟩ := hl
      have hL : L ∈ X.fs := hs L (by unfold frs; rw [List.filterMap_cons, hf]; exact List.mem_cons_self)
      obtain ⟨sl, e⟩ := I.base.slot L o ho (I.ok.frf L hL) hL fun z => I.ok.exfs L z hL
      exact ⟨hk, ⟨L, _, hf, hn, e, hd⟩, ih (fun b hb => hs b (by unfold frs; rw [List.filterMap_cons, hf]; exact List.mem_cons_of_mem _ hb)) hr⟩
  exact all X.outer (fun _ hb => hb) I.ok.funs
theorem Inv.stack (I : Inv X pins σ H s) : s.heap.FunFrames X.base X.stack := by
  rcases I.ok.stk with e | ⟨e, hf⟩
  · rw [e]; exact I.funs
  · rw [e]
    obtain ⟨m, hn, _⟩ := I.loc
    refine .cons (by rw [I.ok.kind]; decide) hf hn ?_ I.funs
    exact Heap.get?_none_of_le (Nat.le_trans I.ok.bsz I.ok.above)
theorem Inv.stkSub (I : Inv X pins σ H s) : ∀ b ∈ frs X.stack, b ∈ X.env.locals :: X.fs := fun b hb => by
  rcases I.ok.stk with e | ⟨e, hf⟩
  · rw [e] at hb; exact List.mem_cons_of_mem _ hb
  · rw [e] at hb
    unfold frs at hb
    rw [List.filterMap_cons, hf] at hb
    exact hb
theorem Inv.stkFree (I : Inv X pins σ H s) : ∀ b ∈ frs X.stack, H b = none := fun b hb => by
  rcases List.mem_cons.mp (I.stkSub b hb) with e | hb
  · rw [e]; exact I.free
  · obtain ⟨_, o, ho, _⟩ := I.ok.funs.mem hb
    exact I.base.free b o ho (I.ok.frf b hb) fun z => I.ok.exfs b z hb
theorem Inv.step {g' : Array GenState} {t' : Nat} {d' : Drawn} {ch : List Addr} (I : Inv X pins σ H s)
    (hch : ∀ b ∈ ch, (b ∈ X.ex ∨ X.s₀.heap.objs.size ≤ b) ∧ b ≠ X.env.locals ∧ (∀ x c, X.env.cells.lookup x = some c → c ≠ b) ∧ ∀ p ∈ X.pn ++ pins, p.1 ≠ b)
    (keep : ∀ b o, b ≠ X.env.locals → b ∉ X.fs → b ∉ ch → s.heap.get? b = some o → H b = none → h'.get? b = some o)
    (slot : ∀ b o, b ≠ X.env.locals → b ∈ X.fs → b ∉ ch → s.heap.get? b = some o → H b = none → ∃ sl, h'.get? b = some { o with slots := sl }) (free : ∀ b o, b ∉ ch → s.heap.get? b = some o → H b = none → H' b = none)
    (there : ∀ b o, b ∉ ch → s.heap.get? b = some o → ∃ o', h'.get? b = some o')
    (tups : ∀ b xs, H b = some (.tup xs) → H' b = some (.tup xs)) (frzs : ∀ b o u, H b = some (.frz o u) → H' b = some (.frz o u)) (tbls : ∀ b ps, H b = some (.tbl ps) → ∃ more, H' b = some (.tbl (ps ++ more)))
    (ns : ∀ m, s.heap.Ns X.env.locals m → h'.Ns X.env.locals m) (hok : HOk X.prog X.w H' h') (hg : AllBare g') :
    Inv X pins σ H' { s with heap := h', gens := g', drawn := d', toks := t' } := by
  have neL : ∀ b o, X.s₀.heap.get? b = some o → b ≠ X.env.locals := fun b o e => Nat.ne_of_lt (Nat.lt_of_lt_of_le (Heap.lt_size e) I.ok.above)
  have neC : ∀ b o, X.s₀.heap.get? b = some o → b ∉ X.ex → b ∉ ch := fun b o e hx hb => by
    rcases (hch b hb).1 with z | z
    · exact hx z
    · exact absurd (Nat.lt_of_lt_of_le (Heap.lt_size e) z) (Nat.lt_irrefl _)
  have cellK : ∀ x c, X.env.cells.lookup x = some c → ∀ v, s.heap.IsCell c v → h'.IsCell c v := fun x c e v ⟨o, ho, hd⟩ => by
    have nch : c ∉ ch := fun z => (hch c z).2.2.1 x c e rfl
    by_cases hc : c ∈ X.fs
    · obtain ⟨sl, q⟩ := slot c o (I.cne x c e) hc nch ho (I.freeC x c e)
      exact ⟨_, q, hd⟩
    · exact ⟨o, keep c o (I.cne x c e) hc nch ho (I.freeC x c e), hd⟩
  refine ⟨I.ok, I.os, hg, ⟨fun b o e n hb hx => ?_, fun b o e n hb hx => ?_, fun b o e n hx => ?_, fun b o e hx => ?_, fun b xs e => tups b xs (I.base.tups b xs e), fun b o xs e => frzs b o xs (I.base.frzs b o xs e), fun b ps e => ?_⟩, ?_, fun x c e => ?_, ?_, fun x c e => ?_, fun p hp => ?_, hok, I.len⟩
  · exact keep b o (neL b o e) hb (neC b o e hx) (I.base.keep b o e n hb hx) (I.base.free b o e n hx)
  · obtain ⟨sl, e1⟩ := I.base.slot b o e n hb hx
    obtain ⟨sl', e2⟩ := slot b _ (neL b o e) hb (neC b o e hx) e1 (I.base.free b o e n hx)
    exact ⟨sl', e2⟩
  · obtain ⟨o', e1⟩ := I.base.there b o e hx
    exact free b o' (neC b o e hx) e1 (I.base.free b o e n hx)
  · obtain ⟨o', e1⟩ := I.base.there b o e hx
    exact there b o' (neC b o e hx) e1
  · obtain ⟨m1, e1⟩ := I.base.tbls b ps e
    obtain ⟨m2, e2⟩ := tbls b _ e1
    exact ⟨m1 ++ m2, by rw [e2, Array.append_assoc]⟩
  · obtain ⟨m, hn, hl⟩ := I.loc
    refine ⟨m, ns m hn, fun i x v e1 e2 e3 => ?_⟩
    obtain ⟨u, r, l⟩ := hl i x v e1 e2 e3
    refine ⟨u, r, ?_⟩
    rcases l with l | ⟨k, c, e, z⟩
    · exact .inl l
    · exact .inr ⟨k, c, e, cellK x c e _ z⟩
  · obtain ⟨v, z⟩ := I.cell x c e
    exact ⟨v, cellK x c e v z⟩
  · obtain ⟨m, ⟨o, _, _, ho, _⟩, _⟩ := I.loc
    exact free _ o (fun z => (hch _ z).2.1 rfl) ho I.free
  · obtain ⟨v, o, ho, hd⟩ := I.cell x c e
    exact free c o (fun z => (hch c z).2.2.1 x c e rfl) ho (I.freeC x c e)
  · obtain ⟨e, n, ne, nf, d⟩ := I.pin p hp
    have nch : p.1 ∉ ch := fun z => (hch p.1 z).2.2.2 p hp rfl
    exact ⟨keep p.1 p.2 ne nf nch e n, free p.1 p.2 nch e n, ne, nf, d⟩
theorem Inv.un {t' : Nat} (I : Inv X pins σ H s) (u : Un X.fs [] H H' s.heap h') (hok : HOk X.prog X.w H' h') : Inv X pins σ H' { s with heap := h', toks := t' } := by
  obtain ⟨m, ⟨o, es, ep, ho, r⟩, _⟩ := id I.loc
  obtain ⟨sl, hL⟩ := u.any ho I.free (by simp)
  exact I.step (g' := s.gens) (d' := s.drawn) (ch := []) (fun _ z => nomatch z) (fun b o _ hb _ e n => u.keep b o e n hb (by simp)) (fun b o _ hb _ e n => u.slot b o e n hb (by simp)) (fun b o _ e n => u.free b o e n (by simp)) (fun b o _ e => u.there b o e (by simp)) u.tups u.frzs u.tbls (fun m' hm => by
    obtain ⟨o', es', ep', ho', r'⟩ := hm
    rw [ho] at ho'; cases ho'
    exact ⟨_, es', ep', hL, r'⟩) hok I.bare
theorem Inv.call {g' : Array GenState} {t' : Nat} {d' : Drawn} {ch : List Addr} (I : Inv X pins σ H s) (u : Un (frs X.stack) ch H H' s.heap h') (hok : HOk X.prog X.w H' h') (hg : AllBare g')
    (hch : ∀ b ∈ ch, (b ∈ X.ex ∨ X.s₀.heap.objs.size ≤ b) ∧ b ≠ X.env.locals ∧ (∀ x c, X.env.cells.lookup x = some c → c ≠ b) ∧ ∀ p ∈ X.pn ++ pins, p.1 ≠ b) :
    Inv X pins σ H' { s with heap := h', gens := g', drawn := d', toks := t' } := by
  obtain ⟨m, ⟨o, es, ep, ho, r⟩, _⟩ := id I.loc
  obtain ⟨sl, hL⟩ := u.any ho I.free fun z => (hch _ z).2.1 rfl
  exact I.step (ch := ch) hch (fun b o hL hb hc e n => u.keep b o e n (fun z => (List.mem_cons.mp (I.stkSub b z)).elim hL hb) hc) (fun b o _ _ hc e n => u.any e n hc) (fun b o hc e n => u.free b o e n hc) (fun b o hc e => u.there b o e hc) u.tups u.frzs u.tbls (fun m' hm => by
    obtain ⟨o', es', ep', ho', r'⟩ := hm
    rw [ho] at ho'; cases ho'
    exact ⟨_, es', ep', hL, r'⟩) hok hg
theorem Inv.turned {t' : Nat} {it : Addr} (I : Inv X pins σ H s) (k : ∀ b o, b ≠ it → s.heap.get? b = some o → h'.get? b = some o) (hn : H it = none) (hL : it ≠ X.env.locals)
    (h1 : it ∈ X.ex ∨ X.s₀.heap.objs.size ≤ it) (h2 : ∀ x c, X.env.cells.lookup x = some c → c ≠ it) (h3 : ∀ p ∈ X.pn ++ pins, p.1 ≠ it) : Inv X pins σ H { s with heap := h', toks := t' } := by
  have nit : ∀ b u, H b = some u → b ≠ it := fun b u e z => by rw [z, hn] at e; cases e
  refine I.step (g' := s.gens) (d' := s.drawn) (ch := [it]) (fun b hb => ?_) (fun b o _ _ hc e _ => k b o (fun z => hc (by simp [z])) e) (fun b o _ _ hc e _ => ⟨o.slots, k b o (fun z => hc (by simp [z])) e⟩) (fun _ _ _ _ n => n)
    (fun b o hc e => ⟨o, k b o (fun z => hc (by simp [z])) e⟩) (fun _ _ e => e) (fun _ _ _ e => e) (fun b ps e => ⟨#[], by rw [e]; simp⟩) (fun m hm => ?_) (fun b u e => ?_) I.bare
  · have e : b = it := by simpa using hb
    subst e
    exact ⟨h1, hL, h2, h3⟩
  · obtain ⟨o, es, ep, ho, r⟩ := hm
    exact ⟨o, es, ep, k _ o (Ne.symm hL) ho, r⟩
  · refine (I.hok b u e).stay (fun c v hc q => k c v ?_ q) (fun _ q => q) fun _ _ q => q
    rcases hc with z | z
    · rw [z]; exact nit b u e
    · exact nit c _ z
theorem Inv.tok (I : Inv X pins σ H s) (t : Nat) : Inv X pins σ H { s with toks := t } := I.un (h' := s.heap) (t' := t) Un.refl I.hok
theorem Inv.kept {t' : Nat} (I : Inv X pins σ H s) (k : ∀ b u, s.heap.get? b = some u → h'.get? b = some u) : Inv X pins σ H { s with heap := h', toks := t' } := I.un (Un.kept k) (I.hok.kept k)
theorem Inv.laid {a : Addr} {o : HO} {t' : Nat} (I : Inv X pins σ H s) (k : ∀ b u, s.heap.get? b = some u → h'.get? b = some u) (hp : s.heap.objs.size ≤ a) (new : ObjOk X.prog X.w (upd H a o) h' a o) :
    Inv X pins σ (upd H a o) { s with heap := h', toks := t' } := I.un (Un.laid k hp (I.hok.fresh hp)) (I.hok.laid k hp new)
theorem Inv.write {x e : Addr} {o : HO} {t' : Nat} (I : Inv X pins σ H s) (mu : Mut (H x)) (he : e = x ∨ H e = some (.own x)) (k : ∀ b u, b ≠ e → s.heap.get? b = some u → h'.get? b = some u) (heo : ∃ u, h'.get? e = some u)
    (new : ObjOk X.prog X.w (upd H x o) h' x o) : Inv X pins σ (upd H x o) { s with heap := h', toks := t' } := I.un (Un.write mu he k heo) (I.hok.write mu he k heo new)
theorem Inv.pins_of {pins' : List (Addr × Obj)} (I : Inv X pins σ H s) (h : ∀ p ∈ pins', s.heap.get? p.1 = some p.2 ∧ H p.1 = none ∧ p.1 ≠ X.env.locals ∧ p.1 ∉ X.fs ∧ ∀ v, p.2.data ≠ .cell v) : Inv X pins' σ H s :=
  ⟨I.ok, I.os, I.bare, I.base, I.loc, I.cell, I.free, I.freeC, fun p hp => (List.mem_append.mp hp).elim (fun z => I.pin p (List.mem_append_left _ z)) (h p), I.hok, I.len⟩
theorem nodup_ix {N : List Str} (hN : N.Nodup) {i j : Nat} {x : Str} (a : N[i]? = some x) (b : N[j]? = some x) : i = j := by
  obtain ⟨h1, e1⟩ := List.getElem?_eq_some_iff.mp a
  obtain ⟨h2, e2⟩ := List.getElem?_eq_some_iff.mp b
  exact (List.getElem_inj hN).mp (e1.trans e2.symm)
theorem store_ok2 {M : Model} {A : Around} {E : Value → Shared → Prop} {i : Nat} {x : Str} {v : V} {u : Value} {Q : Unit → Shared → Prop} (I : Inv X pins σ H s) (hN : X.N.Nodup) (hi : X.N[i]? = some x) (hx : Loc X.env.scope x) (r : RelV v u)
    (h : ∀ s', Inv X pins (σ.set i (some v)) H s' → (∃ a, Heap.SameBut a s.heap s'.heap ∧ (a = X.env.locals ∨ X.env.cells.lookup x = some a)) → Q () s') (hf : X.fn x = true ∨ X.env.scope.names.lookup x = some .local := by first | exact .inl rfl | exact .inr rfl | assumption) : wpAny M A (storeName X.env x u) Q E s := by
  obtain ⟨m, hn, hl⟩ := id I.loc
  have hcls : (X.env.scope.kind == .class || (X.env.scope.kind == .module && X.env.locals != X.env.globals)) = false := by rw [I.ok.kind]; rfl
  have hiσ : i < σ.length := by rw [I.len]; exact (List.getElem?_eq_some_iff.mp hi).1
  have cne := I.cne
  have tracked : ∀ {a : Addr} {h' : Heap}, (∃ o, s.heap.get? a = some o ∧ H a = none) → Heap.SameBut a s.heap h' → HOk X.prog X.w H h' := fun {a h'} ha hs b ob e => by
    obtain ⟨_, _, hfree⟩ := ha
    refine (I.hok b ob e).stay (fun c w' hc q => (hs.2 c ?_).trans q) (fun _ q => q) fun _ _ q => q
    rintro rfl
    rcases hc with rfl | hc
    · rw [hfree] at e; cases e
    · rw [hfree] at hc; cases hc
  rcases hx with hk | hk
  · refine wpAny_storeName_local hk hn (fun h' hn' hs => ?_) hcls
    obtain ⟨oL, _, _, hoL, _⟩ := id hn
    refine h _ ⟨I.ok, I.os, I.bare, ⟨fun b o e n hb hx => ?_, fun b o e n hb hx => ?_, I.base.free, fun b o e hx => ?_, I.base.tups, I.base.frzs, I.base.tbls⟩, ⟨_, hn', fun j y v' e1 e2 e3 => ?_⟩, fun y c e => ?_, I.free, I.freeC, fun p hp => ?_, tracked ⟨oL, hoL, I.free⟩ hs, by simpa using I.len⟩ ⟨_, hs, .inl rfl⟩
    · exact (hs.2 b (Nat.ne_of_lt (Nat.lt_of_lt_of_le (Heap.lt_size e) I.ok.above))).trans (I.base.keep b o e n hb hx)
    · obtain ⟨sl, e1⟩ := I.base.slot b o e n hb hx
      exact ⟨sl, (hs.2 b (Nat.ne_of_lt (Nat.lt_of_lt_of_le (Heap.lt_size e) I.ok.above))).trans e1⟩
    · obtain ⟨o', e1⟩ := I.base.there b o e hx
      exact ⟨o', (hs.2 b (Nat.ne_of_lt (Nat.lt_of_lt_of_le (Heap.lt_size e) I.ok.above))).trans e1⟩
    · by_cases hj : j = i
      · subst hj
        rw [hi] at e1; cases e1
        rw [List.getElem?_set_self hiσ] at e2
        cases e2
        exact ⟨u, r, .inl ⟨hk, by simp⟩⟩
      · rw [List.getElem?_set_ne (Ne.symm hj)] at e2
        obtain ⟨u', r', q⟩ := hl j y v' e1 e2 e3
        refine ⟨u', r', ?_⟩
        rcases q with ⟨k, e⟩ | ⟨k, c, e, z⟩
        · refine .inl ⟨k, ?_⟩
          have : y ≠ x := fun e => hj (nodup_ix hN e1 (e ▸ hi))
          simp [this, e]
        · exact .inr ⟨k, c, e, z.sameBut hs (cne y c e)⟩
    · obtain ⟨w', z⟩ := I.cell y c e
      exact ⟨w', z.sameBut hs (cne y c e)⟩
    · obtain ⟨e, n, ne, nf, d⟩ := I.pin p hp
      exact ⟨(hs.2 p.1 ne).trans e, n, ne, nf, d⟩
  · have hfn : X.fn x = true := by
      rcases hf with z | z
      · exact z
      · rw [z] at hk; cases hk
    obtain ⟨c, hc⟩ := I.ok.has x (.inl hk)
    obtain ⟨w', z⟩ := I.cell x c hc
    refine wpAny_storeName_cell I.ok.kind hk hc z (fun h' hc' hs => ?_)
    obtain ⟨oc, hoc, hocd⟩ := id z
    refine h { s with heap := h' } ⟨I.ok, I.os, I.bare, ⟨fun b o e n hb hx => ?_, fun b o e n hb hx => ?_, I.base.free, fun b o e hx => ?_, I.base.tups, I.base.frzs, I.base.tbls⟩, ⟨m, hn.sameBut hs (Ne.symm (cne x c hc)), fun j y v' e1 e2 e3 => ?_⟩, fun y c' e => ?_, I.free, I.freeC, fun p hp => ?_, tracked ⟨oc, hoc, I.freeC x c hc⟩ hs, by simpa using I.len⟩ ⟨c, hs, .inr hc⟩
    · exact (hs.2 b (Nat.ne_of_lt (Nat.lt_of_lt_of_le (Heap.lt_size e) (I.ok.cab x c hfn hc)))).trans (I.base.keep b o e n hb hx)
    · obtain ⟨sl, e1⟩ := I.base.slot b o e n hb hx
      exact ⟨sl, (hs.2 b (Nat.ne_of_lt (Nat.lt_of_lt_of_le (Heap.lt_size e) (I.ok.cab x c hfn hc)))).trans e1⟩
    · obtain ⟨o', e1⟩ := I.base.there b o e hx
      exact ⟨o', (hs.2 b (Nat.ne_of_lt (Nat.lt_of_lt_of_le (Heap.lt_size e) (I.ok.cab x c hfn hc)))).trans e1⟩
    · by_cases hj : j = i
      · subst hj
        rw [hi] at e1; cases e1
        rw [List.getElem?_set_self hiσ] at e2
        cases e2
        exact ⟨u, r, .inr ⟨.inl hk, c, hc, hc'⟩⟩
      · rw [List.getElem?_set_ne (Ne.symm hj)] at e2
        obtain ⟨u', r', q⟩ := hl j y v' e1 e2 e3
        refine ⟨u', r', ?_⟩
        rcases q with q | ⟨k, c', e, z'⟩
        · exact .inl q
        · refine .inr ⟨k, c', e, z'.sameBut hs ?_⟩
          rintro rfl
          exact hj (nodup_ix hN e1 (I.ok.inj _ _ _ e hc ▸ hi))
    · by_cases hcc : c' = c
      · subst hcc; exact ⟨_, hc'⟩
      · obtain ⟨w2, z2⟩ := I.cell y c' e
        exact ⟨w2, z2.sameBut hs hcc⟩
    · obtain ⟨e, n, ne, nf, d⟩ := I.pin p hp
      refine ⟨(hs.2 p.1 ?_).trans e, n, ne, nf, d⟩
      intro q
      rw [q, hoc] at e
      have q' : oc = p.2 := Option.some.inj e
      exact d w' (by rw [← q']; exact hocd)
theorem store_ok {M : Model} {A : Around} {E : Value → Shared → Prop} {i : Nat} {x : Str} {v : V} {u : Value} {Q : Unit → Shared → Prop} (I : Inv X pins σ H s) (hN : X.N.Nodup) (hi : X.N[i]? = some x) (hx : Loc X.env.scope x) (r : RelV v u)
    (h : ∀ s', Inv X pins (σ.set i (some v)) H s' → Q () s') (hf : X.fn x = true ∨ X.env.scope.names.lookup x = some .local := by first | exact .inl rfl | exact .inr rfl | assumption) : wpAny M A (storeName X.env x u) Q E s :=
  store_ok2 I hN hi hx r (fun s' I' _ => h s' I') hf
theorem Inv.call' {s' : Shared} {ch : List Addr} (I : Inv X pins σ H s) (ho : s'.os = s.os) (u : Un (frs X.stack) ch H H' s.heap s'.heap) (hok : HOk X.prog X.w H' s'.heap) (hg : AllBare s'.gens)
    (hch : ∀ b ∈ ch, (b ∈ X.ex ∨ X.s₀.heap.objs.size ≤ b) ∧ b ≠ X.env.locals ∧ (∀ x c, X.env.cells.lookup x = some c → c ≠ b) ∧ ∀ p ∈ X.pn ++ pins, p.1 ≠ b) : Inv X pins σ H' s' := by
  obtain ⟨h', g', d', t', o'⟩ := s'
  have e : o' = s.os := ho
  subst e
  exact I.call (g' := g') (t' := t') (d' := d') u hok hg hch
end
abbrev XK := Value → Option Addr → Hp → Prop
abbrev St := List (Option V)
abbrev VK := V → Hp → Prop
abbrev TE := St → Hp → VK → Prop
abbrev TT := St → Hp → (Bool → Hp → Prop) → Prop
abbrev TA := St → Hp → (List V → Hp → Prop) → Prop
structure Ends where
  nx : St → Hp → Prop
  rt : VK
  bk : St → Hp → Prop := fun _ _ => False
  ct : St → Hp → Prop := fun _ _ => False
abbrev TS := Ends → St → Hp → Prop
def EP (X : Cx) (pins : List (Addr × Obj)) (σ : St) (Q : VK) (u : Value) (s' : Shared) : Prop := ∃ v H', Inv X pins σ H' s' ∧ RelV v u ∧ Q v H'
def TP (X : Cx) (pins : List (Addr × Obj)) (σ : St) (Q : Bool → Hp → Prop) (b : Bool) (s' : Shared) : Prop := ∃ H', Inv X pins σ H' s' ∧ Q b H'
def AP (X : Cx) (pins : List (Addr × Obj)) (σ : St) (Q : List V → Hp → Prop) (us : List Value) (s' : Shared) : Prop := ∃ vs H', Inv X pins σ H' s' ∧ Vals vs us ∧ Q vs H'
def SP (X : Cx) (pins : List (Addr × Obj)) (D : Ends) (f : Flow) (s' : Shared) : Prop :=
  match f with
  | .next => ∃ σ' H', Inv X pins σ' H' s' ∧ D.nx σ' H'
  | .brk => ∃ σ' H', Inv X pins σ' H' s' ∧ D.bk σ' H'
  | .cont => ∃ σ' H', Inv X pins σ' H' s' ∧ D.ct σ' H'
  | .ret u => ∃ v σ' H', Inv X pins σ' H' s' ∧ RelV v u ∧ D.rt v H'
def PE (X : Cx) (e : Expr) (t : TE) : Prop :=
  ∀ (pins : List (Addr × Obj)) (s : Shared) (σ : St) (H : Hp) (Q : VK), Inv X pins σ H s → t σ H Q → wpAny (model X.prog X.w) X.A (eval e X.env) (EP X pins σ Q) X.xe s
def PT (X : Cx) (e : Expr) (t : TT) : Prop :=
  ∀ (pins : List (Addr × Obj)) (s : Shared) (σ : St) (H : Hp) (Q : Bool → Hp → Prop), Inv X pins σ H s → t σ H Q → wpAny (model X.prog X.w) X.A (isTrue e X.env (eval e X.env)) (TP X pins σ Q) X.xe s
def PW (X : Cx) (e : Expr) (t : TT) : Prop :=
  ∀ (whole : Sem Value) (pins : List (Addr × Obj)) (s : Shared) (σ : St) (H : Hp) (Q : Bool → Hp → Prop), Inv X pins σ H s → t σ H Q → wpAny (model X.prog X.w) X.A (isTrue e X.env whole) (TP X pins σ Q) X.xe s
theorem PW.pt {X : Cx} {e : Expr} {t : TT} (h : PW X e t) : PT X e t := h _
def PA (X : Cx) (es : List Expr) (t : TA) : Prop :=
  ∀ (pos : Pos) (pins : List (Addr × Obj)) (s : Shared) (σ : St) (H : Hp) (Q : List V → Hp → Prop), Inv X pins σ H s → t σ H Q → wpAny (model X.prog X.w) X.A (spliced (backTo pos (starEach es X.env))) (AP X pins σ Q) X.xe s
def PS (X : Cx) (st : Stmt) (t : TS) : Prop :=
  ∀ (pins : List (Addr × Obj)) (s : Shared) (σ : St) (H : Hp) (D : Ends), Inv X pins σ H s → t D σ H → wpAny (model X.prog X.w) X.A (exec st X.env) (SP X pins D) X.xe s
def PSs (X : Cx) (st : List Stmt) (t : TS) : Prop :=
  ∀ (pins : List (Addr × Obj)) (s : Shared) (σ : St) (H : Hp) (D : Ends), Inv X pins σ H s → t D σ H → wpAny (model X.prog X.w) X.A (execs st X.env) (SP X pins D) X.xe s
theorem thn {α : Type} {t : Sem α} {Q Q' : α → Shared → Prop} {M : Model} {A : Around} {E : Value → Shared → Prop} {s : Shared} (h : wpAny M A t Q E s) (hQ : ∀ a s, Q a s → Q' a s) : wpAny M A t Q' E s := wpAny_mono h hQ fun _ _ x => x
end L2
namespace L2
open PySem PySem.Spec PyProof.Rows
section
variable {X : Cx}
def tVar (i : Nat) : TE := fun σ H Q => ∃ v, σ[i]? = some (some v) ∧ Q v H
def tC (v : V) : TE := fun _ H Q => Q v H
theorem pe_var {i : Nat} {x : Str} {pos : Pos} (hN : X.N[i]? = some x) (hv : Vis X.env.scope x) (hd : (x == ("__debug__" : Str)) = false := by decide) (hcd : (x == ("__classdict__" : Str)) = false := by decide) : PE X (.Name x pos) (tVar i) := by
  intro pins s σ H Q I h
  obtain ⟨v, e, h⟩ := h
  obtain ⟨m, hn, hl⟩ := I.loc
  obtain ⟨u, r, l⟩ := hl i x v hN e hv
  have fin : EP X pins σ Q u s := ⟨v, H, I, r, h⟩
  rcases l with ⟨hk, hm⟩ | ⟨hk, c, hc, hcell⟩
  · exact wpAny_Name (wpAny_loadName_local I.ok.kind hk hn hm fin) hd
  · rcases hk with hk | hk
    · exact wpAny_Name (wpAny_loadName_cell I.ok.kind hk hc hcell fin) hd
    · exact wpAny_Name (wpAny_loadName_free I.ok.kind hk hc hcell fin hcd) hd
theorem pe_int {i j pos} : PE X (.Constant (.int i) j pos) (tC (.int i)) := fun _ _ _ H _ I h => wpAny_Constant_int ⟨.int i, H, I.tok _, ⟨_, rfl⟩, h⟩
theorem pe_bl {b j pos} : PE X (.Constant (.bool b) j pos) (tC (.bl b)) := fun _ _ _ H _ I h => Constant_bool ⟨.bl b, H, I, rfl, h⟩
theorem pe_str {x j pos} : PE X (.Constant (.str x) j pos) (tC (.str x)) := fun _ _ _ H _ I h => Calls.Constant_str ⟨.str x, H, I.tok _, ⟨_, rfl⟩, h⟩
def Gl (X : Cx) (x : Str) : Prop := X.env.kindOf x = some .globalImplicit
theorem ld_glob {E : Value → Shared → Prop} {pins : List (Addr × Obj)} {s : Shared} {σ : St} {H : Hp} {x : Str} {u : Value} {pos : Pos} {Q : Value → Shared → Prop} (I : Inv X pins σ H s) (hg : Gl X x) (hm : X.mg x = some u) (h : Q u s)
    (hd : (x == ("__debug__" : Str)) = false := by decide) : wpAny (model X.prog X.w) X.A (eval (.Name x pos) X.env) Q E s :=
  Calls.Name_function_global I.ok.kind hg (Calls.loadGlobal_global (by rw [I.ok.glob]; exact I.mod.glob.keeps I.bk) hm h) hd
theorem ld_blt {E : Value → Shared → Prop} {pins : List (Addr × Obj)} {s : Shared} {σ : St} {H : Hp} {x : Str} {u : Value} {pos : Pos} {Q : Value → Shared → Prop} (I : Inv X pins σ H s) (hg : Gl X x) (hm : X.mg x = none) (hv : bootBuiltins x = some u) (h : Q u s)
    (hn : x ≠ "__name__" := by decide) (hd : (x == ("__debug__" : Str)) = false := by decide) : wpAny (model X.prog X.w) X.A (eval (.Name x pos) X.env) Q E s := by
  obtain ⟨mb, h1, h2⟩ := I.mod.blt
  exact Calls.Name_function_global I.ok.kind hg (Calls.loadGlobal_builtin (by rw [I.ok.glob]; exact I.mod.glob.keeps I.bk) hm (by rw [I.ok.blt]; exact h1.keeps I.bk) ((h2 x hn).trans hv) h) hd
theorem pe_glob {x : Str} {v : V} {u : Value} {pos : Pos} (hg : Gl X x) (hm : X.mg x = some u) (r : RelV v u) (hd : (x == ("__debug__" : Str)) = false := by decide) : PE X (.Name x pos) (tC v) :=
  fun _ _ _ H _ I h => ld_glob I hg hm ⟨v, H, I, r, h⟩ hd
theorem pe_bltn {x : Str} {v : V} {u : Value} {pos : Pos} (hg : Gl X x) (hm : X.mg x = none) (hv : bootBuiltins x = some u) (r : RelV v u) (hn : x ≠ "__name__" := by decide) (hd : (x == ("__debug__" : Str)) = false := by decide) : PE X (.Name x pos) (tC v) :=
  fun _ _ _ H _ I h => ld_blt I hg hm hv ⟨v, H, I, r, h⟩ hn hd
variable {a b : Expr} {ta tb : TE} {pos : Pos}
def tB (t : TE) : TT := fun σ H Q => t σ H fun x H1 => ∃ c, x = .bl c ∧ Q c H1
theorem pt_val {e : Expr} {t : TE} (h : PE X e t) (he : ∀ whole, isTrue e X.env whole = (do let v ← whole; standAt e.pos; holding [v] (truthy v)) := by intro _; rfl) : PT X e (tB t) := by
  intro pins s σ H Q I hw
  refine isTrue_plain (thn (h pins s σ H _ I hw) fun v s1 ⟨x, H1, I1, r1, q1⟩ => ?_) (he _)
  obtain ⟨d, rfl, q⟩ := q1
  cases r1
  exact wpAny_truthy_bool ⟨H1, I1, q⟩
variable {tA tB' : TT} {rest : List Expr}
def tAnd (t u : TT) : TT := fun σ H Q => t σ H fun c H1 => if c = true then u σ H1 Q else Q false H1
def tOr (t u : TT) : TT := fun σ H Q => t σ H fun c H1 => if c = true then Q true H1 else u σ H1 Q
def tNot (t : TT) : TT := fun σ H Q => t σ H fun c H1 => Q (!c) H1
theorem pw_and1 (ha : PT X a tA) : PW X (.BoolOp .And [a] pos) tA := by
  intro wh pins s σ H Q I h
  refine isTrue_and (thn (ha pins s σ H Q I h) fun c s1 e => ?_)
  cases c with
  | true => exact isTrue_and_nil e
  | false => exact e
theorem pw_or1 (ha : PT X a tA) : PW X (.BoolOp .Or [a] pos) tA := by
  intro wh pins s σ H Q I h
  refine isTrue_or (thn (ha pins s σ H Q I h) fun c s1 e => ?_)
  cases c with
  | false => exact isTrue_or_nil e
  | true => exact e
theorem pw_and (ha : PT X a tA) (hb : PW X (.BoolOp .And (b :: rest) pos) tB') : PW X (.BoolOp .And (a :: b :: rest) pos) (tAnd tA tB') := by
  intro wh pins s σ H Q I h
  refine isTrue_and (thn (ha pins s σ H _ I h) fun c s1 ⟨H1, I1, q1⟩ => ?_)
  cases c with
  | true => exact hb wh pins s1 σ H1 Q I1 q1
  | false => exact ⟨H1, I1, q1⟩
theorem pw_or (ha : PT X a tA) (hb : PW X (.BoolOp .Or (b :: rest) pos) tB') : PW X (.BoolOp .Or (a :: b :: rest) pos) (tOr tA tB') := by
  intro wh pins s σ H Q I h
  refine isTrue_or (thn (ha pins s σ H _ I h) fun c s1 ⟨H1, I1, q1⟩ => ?_)
  cases c with
  | true => exact ⟨H1, I1, q1⟩
  | false => exact hb wh pins s1 σ H1 Q I1 q1
theorem pt_not (ha : PT X a tA) : PT X (.UnaryOp .Not a pos) (tNot tA) := by
  intro pins s σ H Q I h
  exact isTrue_not (ha pins s σ H (fun c H1 => Q (!c) H1) I h)
def tAndV (ta tb : TE) : TE := fun σ H Q => ta σ H fun x H1 => ∃ c, x = .bl c ∧ if c = true then tb σ H1 Q else Q (.bl false) H1
def tNotV (ta : TE) : TE := fun σ H Q => ta σ H fun x H1 => ∃ c, x = .bl c ∧ Q (.bl (!c)) H1
theorem pe_one {op} {t : TE} (h : PE X a t) : PE X (.BoolOp op [a] pos) t := fun pins s σ H Q I hw => BoolOp_one (h pins s σ H Q I hw)
theorem pe_and (ha : PE X a ta) (hb : PE X (.BoolOp .And (b :: rest) pos) tb) : PE X (.BoolOp .And (a :: b :: rest) pos) (tAndV ta tb) := by
  intro pins s σ H Q I h
  refine BoolOp_and (thn (ha pins s σ H _ I h) fun v s1 ⟨x, H1, I1, r1, q1⟩ => ?_)
  obtain ⟨c, rfl, q1⟩ := q1
  cases r1
  refine wpAny_truthy_bool ?_
  cases c with
  | true => exact hb pins s1 σ H1 Q I1 q1
  | false => exact ⟨.bl false, H1, I1, rfl, q1⟩
theorem pe_not (ha : PE X a ta) : PE X (.UnaryOp .Not a pos) (tNotV ta) := by
  intro pins s σ H Q I h
  refine UnaryOp_ (thn (ha pins s σ H _ I h) fun v s1 ⟨x, H1, I1, r1, q1⟩ => ?_)
  obtain ⟨c, rfl, q1⟩ := q1
  cases r1
  exact not_of (wpAny_truthy_bool ⟨.bl (!c), H1, I1, rfl, q1⟩)
end
end L2
namespace L2
open PySem PySem.Spec PyProof.Rows
def SqL (K : PySem.W.Frag) (H : Hp) (a : Addr) (xs : List V) : Prop :=
  Rd H a (.lst xs) ∨
    ∃ (o : Obj) (its : Array Value) (n : Nat), K.lookup a = some o ∧ o.cls = .type "list" ∧ o.dict = none ∧ o.data = .seq its n ∧ its.size ≤ sizeLine ∧ Vals xs its.toList
def SqT (K : PySem.W.Frag) (H : Hp) (a : Addr) (xs : List V) : Prop :=
  Rd H a (.tup xs) ∨
    ∃ (o : Obj) (its : Array Value) (n : Nat), K.lookup a = some o ∧ o.cls = .type "tuple" ∧ o.data = .seq its n ∧ its.size ≤ sizeLine ∧ Vals xs its.toList
def absV : Value → Option V
  | .none => some .non
  | .bool b => some (.bl b)
  | .int i _ => some (.int i)
  | .str x _ => some (.str x)
  | .bytes b _ => some (.byt b)
  | .float b _ => some (.flt b)
  | .ref a => some (.ref a)
  | .type n => some (.ty n)
  | _ => none
theorem RelV.abs {x : V} {u : Value} (r : RelV x u) : absV u = some x := by
  cases x with
  | non => cases r; rfl
  | bl _ => cases r; rfl
  | int _ => obtain ⟨t, rfl⟩ := r; rfl
  | str _ => obtain ⟨t, rfl⟩ := r; rfl
  | byt _ => obtain ⟨t, rfl⟩ := r; rfl
  | flt _ => obtain ⟨t, rfl⟩ := r; rfl
  | ref _ => cases r; rfl
  | ty _ => cases r; rfl
theorem RelV.inj {x y : V} {u : Value} (r : RelV x u) (q : RelV y u) : x = y := Option.some.inj (r.abs.symm.trans q.abs)
theorem Vals.inj : ∀ {xs ys : List V} {us : List Value}, Vals xs us → Vals ys us → xs = ys
  | _, _, _, .nil, .nil => rfl
  | _, _, _, .cons r t, .cons r' t' => by rw [r.inj r', Vals.inj t t']
section
variable {X : Cx} {pins : List (Addr × Obj)} {σ : St} {H : Hp} {s : Shared} {a : Addr} {xs ys : List V}
theorem SqL.of {K : PySem.W.Frag} (h : H a = some (.lst xs)) : SqL K H a xs := .inl (.inl h)
theorem SqT.of {K : PySem.W.Frag} (h : H a = some (.tup xs)) : SqT K H a xs := .inl (.inl h)
theorem Inv.list (I : Inv X pins σ H s) (h : SqL X.K H a xs) : ∃ its : List Value, Vals xs its ∧ PlainL s.heap a its.toArray ∧ xs.length ≤ sizeLine := by
  rcases h with h | ⟨o, its, n, hk, hc, hd, hs, hz, r⟩
  · obtain ⟨z, its, n, r, e⟩ := h.ok I.hok
    exact ⟨its, r, ⟨_, n, e, rfl, rfl, rfl⟩, z⟩
  · refine ⟨its.toList, r, ⟨o, n, I.kIn a o hk, hc, hd, by simpa using hs⟩, ?_⟩
    have e := r.length
    simp only [Array.length_toList] at e
    omega
theorem Inv.tuple (I : Inv X pins σ H s) (h : SqT X.K H a xs) : ∃ its : List Value, Vals xs its ∧ IsTup s.heap a its.toArray ∧ xs.length ≤ sizeLine := by
  rcases h with h | ⟨o, its, n, hk, hc, hs, hz, r⟩
  · obtain ⟨z, its, r, p⟩ := h.ok I.hok
    exact ⟨its, r, p, z⟩
  · refine ⟨its.toList, r, ⟨o, I.kIn a o hk, hc, n, by simpa using hs⟩, ?_⟩
    have e := r.length
    simp only [Array.length_toList] at e
    omega
theorem Inv.list_inj (I : Inv X pins σ H s) (h : SqL X.K H a xs) (h' : SqL X.K H a ys) : xs = ys := by
  obtain ⟨its, r, ⟨o, n, e, _, _, d⟩, _⟩ := I.list h
  obtain ⟨its', r', ⟨o', n', e', _, _, d'⟩, _⟩ := I.list h'
  rw [e] at e'; cases e'
  rw [d] at d'
  injection d' with d1 _
  have : its = its' := by simpa using congrArg Array.toList d1
  subst this
  exact r.inj r'
theorem Inv.tuple_inj (I : Inv X pins σ H s) (h : SqT X.K H a xs) (h' : SqT X.K H a ys) : xs = ys := by
  obtain ⟨its, r, ⟨o, e, _, n, d⟩, _⟩ := I.tuple h
  obtain ⟨its', r', ⟨o', e', _, n', d'⟩, _⟩ := I.tuple h'
  rw [e] at e'; cases e'
  rw [d] at d'
  injection d' with d1 _
  have : its = its' := by simpa using congrArg Array.toList d1
  subst this
  exact r.inj r'
end
abbrev Cx.wish (X : Cx) (E : Value → Shared → Prop) : Cx := { X with xe := E }
abbrev Cx.nox (X : Cx) : Cx := X.wish fun _ _ => False
theorem Cx.Ok.wish {X : Cx} (ok : X.Ok) (E : Value → Shared → Prop) : (X.wish E).Ok :=
  ⟨ok.mod, ok.kind, ok.glob, ok.blt, ok.above, ok.inj, ok.has, ok.cab, ok.hd, ok.frames, ok.stk, ok.exf, ok.bs, ok.bsz, ok.noex, ok.exfs, ok.funs, ok.frf⟩
theorem Cx.Ok.unwish {X : Cx} {E : Value → Shared → Prop} (ok : (X.wish E).Ok) : X.Ok :=
  ⟨ok.mod, ok.kind, ok.glob, ok.blt, ok.above, ok.inj, ok.has, ok.cab, ok.hd, ok.frames, ok.stk, ok.exf, ok.bs, ok.bsz, ok.noex, ok.exfs, ok.funs, ok.frf⟩
section
variable {X : Cx} {pins : List (Addr × Obj)} {σ : St} {H : Hp} {s : Shared} {E : Value → Shared → Prop}
theorem Inv.wish (I : Inv X pins σ H s) (E : Value → Shared → Prop) : Inv (X.wish E) pins σ H s := ⟨I.ok.wish E, I.os, I.bare, I.base, I.loc, I.cell, I.free, I.freeC, I.pin, I.hok, I.len⟩
theorem Inv.unwish (I : Inv (X.wish E) pins σ H s) : Inv X pins σ H s := ⟨I.ok.unwish, I.os, I.bare, I.base, I.loc, I.cell, I.free, I.freeC, I.pin, I.hok, I.len⟩
theorem SP.unwish {D : Ends} {f : Flow} {s' : Shared} (h : SP (X.wish E) pins D f s') : SP X pins D f s' := by
  cases f with
  | next => obtain ⟨σ', H', I, q⟩ := h; exact ⟨σ', H', I.unwish, q⟩
  | brk => obtain ⟨σ', H', I, q⟩ := h; exact ⟨σ', H', I.unwish, q⟩
  | cont => obtain ⟨σ', H', I, q⟩ := h; exact ⟨σ', H', I.unwish, q⟩
  | ret u => obtain ⟨v, σ', H', I, r, q⟩ := h; exact ⟨v, σ', H', I.unwish, r, q⟩
theorem PSs.nox {st : List Stmt} {t : TS} (h : PSs X.nox st t) : PSs X st t := fun pins s σ H D I hw =>
  wpAny_mono (h pins s σ H D (I.wish _) hw) (fun _ _ q => q.unwish) fun _ _ z => False.elim z
end
section
variable {X : Cx} {st : Stmt} {rest : List Stmt} {t u : TS} {e : Expr} {te : TE} {pos : Pos}
def tNext : TS := fun D σ H => D.nx σ H
def tSeq (t u : TS) : TS := fun D σ H => t { D with nx := u D } σ H
theorem pss_nil : PSs X [] tNext := fun _ _ σ H _ I h => wpAny_execs_nil ⟨σ, H, I, h⟩
theorem pss_cons (h1 : PS X st t) (h2 : PSs X rest u) : PSs X (st :: rest) (tSeq t u) := by
  intro pins s σ H D I h
  refine wpAny_execs_cons (thn (h1 pins s σ H { D with nx := u D } I h) fun f s1 q => ?_)
  cases f with
  | next =>
    obtain ⟨σ', H', I', q⟩ := q
    exact h2 pins s1 σ' H' D I' q
  | ret v => exact q
  | brk => exact q
  | cont => exact q
theorem pss_one (h1 : PS X st t) : PSs X [st] t := by
  intro pins s σ H D I h
  refine wpAny_execs_cons (thn (h1 pins s σ H D I h) fun f s1 q => ?_)
  cases f with
  | next => exact wpAny_execs_nil q
  | ret v => exact q
  | brk => exact q
  | cont => exact q
theorem Inv.quiet {pins : List (Addr × Obj)} {σ : St} {H : Hp} {s : Shared} (I : Inv X pins σ H s) : interactive X.env = false := by simp [interactive, I.ok.kind]
def tDrop (te : TE) : TS := fun D σ H => te σ H fun _ H1 => D.nx σ H1
theorem ps_expr (he : PE X e te) (hs : swapsWith e none pos.line X.env = pure false := by rfl) : PS X (.Expr e pos) (tDrop te) := by
  intro pins s σ H D I h
  exact wpAny_Expr_any (thn (he pins s σ H _ I h) fun v s1 ⟨x, H1, I1, r1, q1⟩ => ⟨σ, H1, I1, q1⟩) I.quiet hs
def tRet (te : TE) : TS := fun D σ H => te σ H D.rt
theorem ps_ret (he : PE X e te) : PS X (.Return (some e) pos) (tRet te) := by
  intro pins s σ H D I h
  exact wpAny_Return_some (thn (he pins s σ H _ I h) fun v s1 ⟨x, H1, I1, r1, q1⟩ => ⟨x, σ, H1, I1, r1, q1⟩)
def tIfS (c : TT) (t u : TS) : TS := fun D σ H => c σ H fun b H1 => if b = true then t D σ H1 else u D σ H1
theorem ps_if {c : Expr} {a b : List Stmt} {tc : TT} (hc : PT X c tc) (ha : PSs X a t) (hb : PSs X b u) : PS X (.If c a b pos) (tIfS tc t u) := by
  intro pins s σ H D I h
  refine wpAny_If (thn (hc pins s σ H _ I h) fun d s1 ⟨H1, I1, q1⟩ => ?_)
  cases d with
  | true => exact ha pins s1 σ H1 D I1 q1
  | false => exact hb pins s1 σ H1 D I1 q1
end
abbrev TG := V → St → Hp → (St → Hp → Prop) → Prop
abbrev TGs := List V → St → Hp → (St → Hp → Prop) → Prop
def PG (X : Cx) (target : Expr) (t : TG) : Prop :=
  ∀ (pins : List (Addr × Obj)) (s : Shared) (σ : St) (H : Hp) (v : V) (u : Value) (Q : St → Hp → Prop), Inv X pins σ H s → RelV v u → t v σ H Q →
    wpAny (model X.prog X.w) X.A (assign target X.env u) (fun _ s' => ∃ σ' H', Inv X pins σ' H' s' ∧ Q σ' H') X.xe s
def PGs (X : Cx) (ts : List Expr) (t : TGs) : Prop :=
  ∀ (pins : List (Addr × Obj)) (s : Shared) (σ : St) (H : Hp) (vs : List V) (us : List Value) (Q : St → Hp → Prop), Inv X pins σ H s → Vals vs us → t vs σ H Q →
    wpAny (model X.prog X.w) X.A (assignInOrder ((assignEach ts X.env).map (·.2)) us) (fun _ s' => ∃ σ' H', Inv X pins σ' H' s' ∧ Q σ' H') X.xe s
section
variable {X : Cx} {pos : Pos}
def gName (i : Nat) : TG := fun v σ H Q => Q (σ.set i (some v)) H
theorem pg_name {i : Nat} {x : Str} (hN : X.N.Nodup) (hi : X.N[i]? = some x) (hx : Loc X.env.scope x) (hf : X.fn x = true ∨ X.env.scope.names.lookup x = some .local := by first | exact .inl rfl | exact .inr rfl | assumption) : PG X (.Name x pos) (gName i) := by
  intro pins s σ H v u Q I r h
  exact wpAny_assign_Name (store_ok I hN hi hx r (fun s' I' => ⟨_, H, I', h⟩) hf)
def gNil : TGs := fun vs σ H Q => vs = [] ∧ Q σ H
def gCons (t : TG) (u : TGs) : TGs := fun vs σ H Q => ∃ v r, vs = v :: r ∧ t v σ H fun σ' H' => u r σ' H' Q
theorem pgs_nil : PGs X [] gNil := by
  intro pins s σ H vs us Q I r h
  obtain ⟨e, h⟩ := h
  subst e
  cases r
  exact assignInOrder_nil ⟨σ, H, I, h⟩
theorem pgs_cons {e : Expr} {es : List Expr} {t : TG} {u : TGs} (h1 : PG X e t) (h2 : PGs X es u)
    (hs : (assignEach (e :: es) X.env).map (·.2) = assign e X.env :: (assignEach es X.env).map (·.2) := by rfl) : PGs X (e :: es) (gCons t u) := by
  intro pins s σ H vs us Q I r h
  obtain ⟨v, vr, e1, h⟩ := h
  subst e1
  cases r with
  | cons r rr =>
    rw [hs]
    refine assignInOrder_cons (thn (h1 pins s σ H _ _ _ I r h) fun _ s1 ⟨σ1, H1, I1, q1⟩ => ?_)
    exact h2 pins s1 σ1 H1 _ _ Q I1 rr q1
def gTup (K : PySem.W.Frag) (n : Nat) (t : TGs) : TG := fun v σ H Q => ∃ a xs, v = .ref a ∧ SqT K H a xs ∧ xs.length = n ∧ t xs σ H Q
theorem pg_tup {es : List Expr} {k : Nat} {t : TGs} {n : Nat} (hc : X.calm = true) (h : PGs X es t)
    (hn : (assignEach es X.env).length = n := by rfl) (hst : (assignEach es X.env).findIdx? (·.1) = none := by rfl) : PG X (.Tuple es k pos) (gTup X.K n t) := by
  intro pins s σ H v u Q I r hw
  obtain ⟨a, xs, e1, hq, hl, hw⟩ := hw
  subst e1
  cases r
  obtain ⟨its, rv, ht, hz⟩ := I.tuple hq
  refine assign_Tuple_tuple (I.ok.hd hc) ht (by simp [hn, ← hl, rv.length]) hst fun h' hx => ?_
  have I1 : Inv X pins σ H { s with heap := h' } := I.kept (t' := s.toks) fun b o e => hx b o (Nat.ne_of_lt (Heap.lt_size e)) e
  exact h pins _ σ H xs _ Q I1 (by simpa using rv) hw
def tAsg (te : TE) (g : TG) : TS := fun D σ H => te σ H fun x H1 => g x σ H1 D.nx
theorem ps_set {i : Nat} {x : Str} {e : Expr} {te : TE} {pos' : Pos} (hN : X.N.Nodup) (hi : X.N[i]? = some x) (hx : Loc X.env.scope x) (he : PE X e te) (hs : swapsWith e (some (.Name x pos')) pos.line X.env = pure false := by rfl) (hf : X.fn x = true ∨ X.env.scope.names.lookup x = some .local := by first | exact .inl rfl | exact .inr rfl | assumption) :
    PS X (.Assign [.Name x pos'] e pos) (tAsg te (gName i)) := by
  intro pins s σ H D I h
  refine wpAny_Assign_Name (thn (he pins s σ H _ I h) fun v s1 ⟨y, H1, I1, r1, q1⟩ => ?_) hs
  exact store_ok I1 hN hi hx r1 (fun s2 I2 => ⟨_, H1, I2, q1⟩) hf
def tPar (i j : Nat) (ta : TA) : TS := fun D σ H => ta σ H fun vs H1 => ∃ v w, vs = [v, w] ∧ D.nx ((σ.set i (some v)).set j (some w)) H1
theorem ps_par {i j : Nat} {x y : Str} {a b : Expr} {ta : TA} {px py pt : Pos} {kt k2 pt2} (hc : X.calm = true) (hN : X.N.Nodup) (hi : X.N[i]? = some x) (hj : X.N[j]? = some y) (hij : i ≠ j)
    (hx : X.env.scope.names.lookup x = some .local) (hy : X.env.scope.names.lookup y = some .local) (ha : PA X [a, b] ta)
    (hw : swappedStores [.Tuple [.Name x px, .Name y py] kt pt] (.Tuple [a, b] k2 pt2) X.env = pure (some [x, y]))
    (hs : swapsWithSole [.Tuple [.Name x px, .Name y py] kt pt] (.Tuple [a, b] k2 pt2) pos.line X.env = pure false := by rfl) :
    PS X (.Assign [.Tuple [.Name x px, .Name y py] kt pt] (.Tuple [a, b] k2 pt2) pos) (tPar i j ta) := by
  intro pins s σ H D I h
  rw [exec_Assign_arm]
  refine wpAny_bind (wpAny_standAt ?_)
  rw [hs]
  refine wpAny_bind (wpAny_pure ?_)
  rw [if_neg (by decide)]
  refine wpAny_bind (Tuple_ (thn (ha _ pins s σ H _ I h) fun us s1 ⟨vs, H1, I1, r1, q1⟩ => ?_))
  obtain ⟨v, w, e1, q1⟩ := q1
  subst e1
  obtain ⟨u1, u2, rfl, rv, rw'⟩ : ∃ u1 u2, us = [u1, u2] ∧ RelV v u1 ∧ RelV w u2 := by
    cases r1 with
    | cons p q =>
      cases q with
      | cons p' q' =>
        cases q'
        exact ⟨_, _, rfl, p, p'⟩
  refine wpAny_newObj_type ?_ (by show 2 ≤ sizeLine; decide)
  have I2 : Inv X pins σ H1 { s1 with heap := s1.heap.push { cls := .type "tuple", data := .seq [u1, u2].toArray } } := I1.kept (t' := s1.toks) fun b o e => Heap.get?_push_of_some _ e
  rw [hw]
  refine wpAny_bind (wpAny_pure ?_)
  show wpAny (model X.prog X.w) X.A (do rule "assign.swapped-stores"; let items ← unpackItems (.ref s1.heap.objs.size) 2 none; assignInOrder [fun v => bindName X.env y v, fun v => bindName X.env x v] items.reverse; pure Flow.next) _ _ _
  refine wpAny_bind (wpAny_rule (wpAny_bind (unpackItems_tuple (items := #[u1, u2]) (I.ok.hd hc) (IsTup.new s1.heap _) fun h' hx' => ?_)))
  have I3 := I2.kept (h' := h') (t' := s1.toks) fun b o e => hx' b o (Nat.ne_of_lt (Heap.lt_size e)) e
  show wpAny _ _ (assignInOrder [fun v => bindName X.env y v, fun v => bindName X.env x v] [u2, u1] >>= fun _ => pure Flow.next) _ _ _
  refine wpAny_bind (assignInOrder_cons (wpAny_bindName (store_ok I3 hN hj (.inl hy) rw' (fun s2 I4 => ?_) (.inr hy))))
  refine assignInOrder_cons (wpAny_bindName (store_ok I4 hN hi (.inl hx) rv (fun s3 I5 => assignInOrder_nil (wpAny_pure ?_)) (.inr hx)))
  rw [List.set_comm _ _ (Ne.symm hij)] at I5
  exact ⟨_, H1, I5, q1⟩
end
section
variable {X : Cx} {pos : Pos}
def tWhile (c : TT) (tb : TS) : TS := fun D σ H => ∃ W : Nat → St → Hp → Prop, (∃ m, W m σ H) ∧ ∀ m σ H, W m σ H →
  c σ H fun b H1 => if b = true then ∃ N : St → Hp → Prop, (∀ σ' H', N σ' H' → ∃ m', m' < m ∧ W m' σ' H') ∧ tb { D with nx := N, ct := N, bk := D.nx } σ H1 else D.nx σ H1
theorem ps_while {c : Expr} {body : List Stmt} {tc : TT} {tb : TS} (hp : PassesOwn (model X.prog X.w) X.A X.env X.xe) (hc : PT X c tc) (hb : PSs X body tb) : PS X (.While c body [] pos) (tWhile tc tb) := by
  intro pins s σ H D I h
  obtain ⟨W, ⟨m0, w0⟩, turn⟩ := h
  refine wpAny_While (codeAny_whileLoop (fun n s' => ∃ σ' H', Inv X pins σ' H' s' ∧ W n σ' H') ?_ m0 ⟨σ, H, I, w0⟩)
  rintro n s1 ⟨σ1, H1, I1, w1⟩
  refine wpAny_passesOwn hp (thn (hc pins s1 σ1 H1 _ I1 (turn n σ1 H1 w1)) fun b s2 ⟨H2, I2, q2⟩ => ?_)
  cases b with
  | true =>
    obtain ⟨N, hN, q2⟩ := q2
    rw [if_pos rfl]
    refine wpAny_passesOwn hp (thn (hb pins s2 σ1 H2 _ I2 q2) fun f s3 q3 => ?_)
    cases f with
    | next =>
      obtain ⟨σ3, H3, I3, n3⟩ := q3
      obtain ⟨m', hm, w3⟩ := hN σ3 H3 n3
      exact ⟨m', hm, σ3, H3, I3, w3⟩
    | cont =>
      obtain ⟨σ3, H3, I3, n3⟩ := q3
      obtain ⟨m', hm, w3⟩ := hN σ3 H3 n3
      exact ⟨m', hm, σ3, H3, I3, w3⟩
    | brk => exact q3
    | ret v => exact q3
  | false =>
    rw [if_neg Bool.false_ne_true]
    exact wpAny_execs_nil ⟨σ1, H2, I2, q2⟩
end
structure It where
  go : Nat → Hp → Prop
  yld : Nat → Hp → V → Hp → Prop
  stop : Nat → Hp → Prop
def FpOk (X : Cx) (pins : List (Addr × Obj)) (H : Hp) (b : Addr) : Prop :=
  H b = none ∧ b ≠ X.env.locals ∧ b ∉ X.fs ∧ (b ∈ X.ex ∨ X.s₀.heap.objs.size ≤ b) ∧ (∀ x c, X.env.cells.lookup x = some c → c ≠ b) ∧ ∀ p ∈ X.pn ++ pins, p.1 ≠ b
theorem Inv.fpOk {X : Cx} {pins : List (Addr × Obj)} {σ : St} {H H' : Hp} {s : Shared} {b : Addr} (I : Inv X pins σ H s) (hb : s.heap.objs.size ≤ b) (hn : H' b = none) : FpOk X pins H' b := by
  refine ⟨hn, Nat.ne_of_gt (Nat.lt_of_lt_of_le I.lt hb), I.nofs hb, .inr (Nat.le_trans I.sz hb), fun x c e z => ?_, fun p hp z => ?_⟩
  · obtain ⟨v, q⟩ := I.cell x c e
    exact absurd (Nat.lt_of_lt_of_le q.lt (by rw [z]; exact hb)) (Nat.lt_irrefl _)
  · exact absurd (Nat.lt_of_lt_of_le (Heap.lt_size (I.pin p hp).1) (by rw [z]; exact hb)) (Nat.lt_irrefl _)
structure Turn (P : Program) (w : World) (K : PySem.W.Frag) (tg : Expr) (J : It) (fp : List Addr) (it : Addr) (tn : Nat → Heap → Prop) : Prop where
  mem : it ∈ fp
  obj : ∀ i h, tn i h → ∀ b ∈ fp, ∃ o, h.get? b = some o ∧ ∀ v, o.data ≠ .cell v
  keep : ∀ i h h', tn i h → (∀ b ∈ fp, ∀ o, h.get? b = some o → h'.get? b = some o) → tn i h'
  item : ∀ (X : Cx), X.prog = P → X.w = w → X.K = K → X.calm = true → ∀ (i : Nat) (pins : List (Addr × Obj)) (s : Shared) (σ : St) (H : Hp) (E : Value → Shared → Prop), Inv X pins σ H s → (∀ b ∈ fp, FpOk X pins H b) → tn i s.heap → J.go i H →
    wpAny (model P w) X.A (pyNext (.ref it)) (fun r s1 => ∃ u, r = some u ∧
      wpAny (model P w) X.A (letOwnedTupleGo tg (.ref it) u) (fun _ s2 => ∃ x H', Inv X pins σ H' s2 ∧ RelV x u ∧ J.yld i H x H' ∧ tn (i + 1) s2.heap ∧ ∀ b ∈ fp, H' b = none) E s1) E s
  done : ∀ (X : Cx), X.prog = P → X.w = w → X.K = K → X.calm = true → ∀ (i : Nat) (pins : List (Addr × Obj)) (s : Shared) (σ : St) (H : Hp) (E : Value → Shared → Prop), Inv X pins σ H s → (∀ b ∈ fp, FpOk X pins H b) → tn i s.heap → J.stop i H →
    wpAny (model P w) X.A (pyNext (.ref it)) (fun r s1 => r = none ∧ Inv X pins σ H s1) E s
  self : ∀ (A : Around) (i : Nat) (s : Shared) (Q : Value → Shared → Prop) (E : Value → Shared → Prop), tn i s.heap → Q (.ref it) s → wpAny (model P w) A (pyIter (.ref it)) Q E s
abbrev TI := St → Hp → (It → Hp → Prop) → Prop
def PIE (X : Cx) (pins : List (Addr × Obj)) (σ : St) (tg : Expr) (R : It → Hp → Prop) (itv : Value) (s2 : Shared) : Prop :=
  ∃ (it : Addr) (fp : List Addr) (tn : Nat → Heap → Prop) (J : It) (H' : Hp), itv = .ref it ∧ Inv X pins σ H' s2 ∧ Turn X.prog X.w X.K tg J fp it tn ∧ tn 0 s2.heap ∧ (∀ b ∈ fp, FpOk X pins H' b) ∧ R J H'
def PI (X : Cx) (tg iter : Expr) (wi : TI) : Prop :=
  ∀ (pins : List (Addr × Obj)) (s : Shared) (σ : St) (H : Hp) (R : It → Hp → Prop), Inv X pins σ H s → wi σ H R →
    wpAny (model X.prog X.w) X.A (eval iter X.env) (fun v s1 => wpAny (model X.prog X.w) X.A (pyIter v) (PIE X pins σ tg R) X.xe s1) X.xe s
theorem go_of {M : Model} {A : Around} {E : Value → Shared → Prop} {s : Shared} {tg : Expr} {it : Addr} {u : Value} {o : Obj} {n : String} {vs : Array Value} {Q : Unit → Shared → Prop} (ho : s.heap.get? it = some o) (hc : o.cls = .type n) (hd : o.data = .fields vs)
    (hn : ["enumerate", "zip", "dict_itemiterator", "dict_reverseitemiterator", "odict_iterator", "itertools.zip_longest", "itertools.pairwise"].contains n = false) (hQ : Q () s) : wpAny M A (letOwnedTupleGo tg (.ref it) u) Q E s := by
  unfold letOwnedTupleGo
  cases tg <;> first
    | exact wpAny_pure hQ
    | (cases u <;> first
        | exact wpAny_pure hQ
        | (refine wpAny_bind (wpAny_load ho ?_)
           rw [hc, hd]
           show wpAny M A (if (["enumerate", "zip", "dict_itemiterator", "dict_reverseitemiterator", "odict_iterator", "itertools.zip_longest", "itertools.pairwise"].contains n && vs[0]? == some (rawInt _)) = true then _ else _) Q E s
           rw [if_neg (by intro h; rw [hn, Bool.false_and] at h; cases h)]
           exact wpAny_pure hQ))
def Itl (K : PySem.W.Frag) (a : Addr) : It :=
  ⟨fun i H => ∃ xs x, SqL K H a xs ∧ xs[i]? = some x, fun i H x H' => H' = H ∧ ∀ xs, SqL K H a xs → xs[i]? = some x, fun i H => ∃ xs, SqL K H a xs ∧ xs.length ≤ i⟩
def Itt (K : PySem.W.Frag) (a : Addr) : It :=
  ⟨fun i H => ∃ xs x, SqT K H a xs ∧ xs[i]? = some x, fun i H x H' => H' = H ∧ ∀ xs, SqT K H a xs → xs[i]? = some x, fun i H => ∃ xs, SqT K H a xs ∧ xs.length ≤ i⟩
def Itr (lo : Int) (n : Nat) : It := ⟨fun i _ => i < n, fun i H x H' => H' = H ∧ x = .int (lo + i), fun i _ => n ≤ i⟩
theorem turn_list {P : Program} {w : World} {K : PySem.W.Frag} {tg : Expr} (a it : Addr) : Turn P w K tg (Itl K a) [it] it (fun i h => h.IsListIter it a i) where
  mem := by simp
  obj := fun i h st b hb => by
    have e : b = it := by simpa using hb
    subst e
    obtain ⟨o, e, c, d⟩ := st
    exact ⟨o, e, fun v z => by rw [d] at z; cases z⟩
  keep := fun i h h' st k => st.at fun o e => k it (by simp) o e
  item := by
    intro X hP hw hK hc i pins s σ H E I hf st hg
    subst hP hw hK
    obtain ⟨xs, x, hq, hx⟩ := hg
    obtain ⟨its, rv, p, hz⟩ := I.list hq
    obtain ⟨u, hu, ru⟩ := rv.get hx
    obtain ⟨f0, f1, f2, f3, f4, f5⟩ := hf it (by simp)
    refine wpAny_pyNext_list_item st p.isList (x := u) (by simpa using hu) fun h' st' sb => ?_
    have I1 : Inv X pins σ H { s with heap := h' } := I.turned (t' := s.toks) (fun b o hb e => (sb.2 b hb).trans e) f0 f1 f3 f4 f5
    obtain ⟨o, e, c, d⟩ := id st'
    exact ⟨u, rfl, go_of (s := { s with heap := h' }) e c d (by decide) ⟨x, H, I1, ru, ⟨rfl, fun ys hy => by rw [I.list_inj hy hq]; exact hx⟩, st', fun b hb => (hf b hb).1⟩⟩
  done := by
    intro X hP hw hK hc i pins s σ H E I hf st hg
    subst hP hw hK
    obtain ⟨xs, hq, hx⟩ := hg
    obtain ⟨its, rv, p, hz⟩ := I.list hq
    obtain ⟨f0, f1, f2, f3, f4, f5⟩ := hf it (by simp)
    have hl := rv.length
    exact wpAny_pyNext_list_end (I.ok.hd hc) st p.isList (by simp; omega) fun h' eb => ⟨rfl, I.turned (t' := s.toks) (fun b o hb e => eb b o hb e) f0 f1 f3 f4 f5⟩
  self := fun _ _ _ _ _ st h => wpAny_pyIter_listiter st h
theorem turn_tuple {P : Program} {w : World} {K : PySem.W.Frag} {tg : Expr} (a it : Addr) : Turn P w K tg (Itt K a) [it] it (fun i h => h.IsTupleIter it a i) where
  mem := by simp
  obj := fun i h st b hb => by
    have e : b = it := by simpa using hb
    subst e
    obtain ⟨o, e, c, d⟩ := st
    exact ⟨o, e, fun v z => by rw [d] at z; cases z⟩
  keep := fun i h h' st k => st.at fun o e => k it (by simp) o e
  item := by
    intro X hP hw hK hc i pins s σ H E I hf st hg
    subst hP hw hK
    obtain ⟨xs, x, hq, hx⟩ := hg
    obtain ⟨its, rv, p, hz⟩ := I.tuple hq
    obtain ⟨u, hu, ru⟩ := rv.get hx
    obtain ⟨f0, f1, f2, f3, f4, f5⟩ := hf it (by simp)
    refine wpAny_pyNext_tuple_item st (show s.heap.IsTuple a its.toArray from p) (x := u) (by simpa using hu) fun h' st' sb => ?_
    have I1 : Inv X pins σ H { s with heap := h' } := I.turned (t' := s.toks) (fun b o hb e => (sb.2 b hb).trans e) f0 f1 f3 f4 f5
    obtain ⟨o, e, c, d⟩ := id st'
    exact ⟨u, rfl, go_of (s := { s with heap := h' }) e c d (by decide) ⟨x, H, I1, ru, ⟨rfl, fun ys hy => by rw [I.tuple_inj hy hq]; exact hx⟩, st', fun b hb => (hf b hb).1⟩⟩
  done := by
    intro X hP hw hK hc i pins s σ H E I hf st hg
    subst hP hw hK
    obtain ⟨xs, hq, hx⟩ := hg
    obtain ⟨its, rv, p, hz⟩ := I.tuple hq
    obtain ⟨f0, f1, f2, f3, f4, f5⟩ := hf it (by simp)
    have hl := rv.length
    exact wpAny_pyNext_tuple_end (I.ok.hd hc) st (show s.heap.IsTuple a its.toArray from p) (by simp; omega) fun h' eb => ⟨rfl, I.turned (t' := s.toks) (fun b o hb e => eb b o hb e) f0 f1 f3 f4 f5⟩
  self := fun _ _ _ _ _ st h => wpAny_pyIter_tupleiter st h
theorem turn_range {P : Program} {w : World} {K : PySem.W.Frag} {tg : Expr} (it : Addr) (lo : Int) (n : Nat) : Turn P w K tg (Itr lo n) [it] it (fun i h => IsRangeIter h it (lo + (i : Nat) * 1) ((n : Int) - (i : Nat)) 1) where
  mem := by simp
  obj := fun i h st b hb => by
    have e : b = it := by simpa using hb
    subst e
    exact ⟨_, st, fun v z => by
      have z' : Data.fields _ = Data.cell v := z
      cases z'⟩
  keep := fun i h h' st k => k it (by simp) _ st
  item := by
    intro X hP hw hK hc i pins s σ H E I hf st hg
    subst hP hw hK
    obtain ⟨f0, f1, f2, f3, f4, f5⟩ := hf it (by simp)
    have W := Walks.range (prog := X.prog) (w := X.w) (I.ok.hd hc) it lo 1 n
    refine W.item i s _ _ hg st fun v h' tk hv st' kk => ?_
    obtain ⟨t, rfl⟩ := hv
    have I1 : Inv X pins σ H { s with heap := h', toks := tk } := I.turned (fun b o hb e => kk b o (by simpa using hb) e) f0 f1 f3 f4 f5
    refine ⟨_, rfl, go_of (s := { s with heap := h', toks := tk }) (n := "range_iterator") st' rfl rfl (by decide) ⟨.int (lo + i), H, I1, ⟨t, ?_⟩, ⟨rfl, rfl⟩, st', fun b hb => (hf b hb).1⟩⟩
    rw [Int.mul_one]
  done := by
    intro X hP hw hK hc i pins s σ H E I hf st hg
    subst hP hw hK
    obtain ⟨f0, f1, f2, f3, f4, f5⟩ := hf it (by simp)
    exact wpAny_pyNext_range_end (I.ok.hd hc) st (by have : n ≤ i := hg; omega) fun h' eb => ⟨rfl, I.turned (t' := s.toks) (fun b o hb e => eb b o hb e) f0 f1 f3 f4 f5⟩
  self := fun _ _ _ _ _ st h => wpAny_pyIter_rangeiter st h
end L2
namespace L2
open PySem PySem.Spec PyProof.Rows
section
variable {X : Cx} {tg : Expr}
def iList (K : PySem.W.Frag) (tl : TE) : TI := fun σ H R => tl σ H fun x H1 => ∃ a, x = .ref a ∧ (∃ xs, SqL K H1 a xs) ∧ R (Itl K a) H1
def iTup (K : PySem.W.Frag) (tl : TE) : TI := fun σ H R => tl σ H fun x H1 => ∃ a, x = .ref a ∧ (∃ xs, SqT K H1 a xs) ∧ R (Itt K a) H1
theorem pi_list {l : Expr} {tl : TE} (hl : PE X l tl) : PI X tg l (iList X.K tl) := by
  intro pins s σ H R I h
  refine thn (hl pins s σ H _ I h) fun v s1 ⟨x, H1, I1, r1, q1⟩ => ?_
  obtain ⟨a, e, ⟨xs, hq⟩, q⟩ := q1
  subst e
  cases r1
  obtain ⟨its, rv, p, hz⟩ := I1.list hq
  refine wpAny_pyIter_list p.isList ?_
  refine ⟨s1.heap.objs.size, [s1.heap.objs.size], _, _, H1, rfl, I1.kept (t' := s1.toks) fun b o e => Heap.get?_push_of_some _ e, turn_list a _, ⟨_, Heap.get?_push_size _ rfl, rfl, rfl⟩, fun b hb => ?_, q⟩
  have e : b = s1.heap.objs.size := by simpa using hb
  subst e
  exact I1.fpOk (Nat.le_refl _) (I1.hok.fresh (Nat.le_refl _))
theorem pi_tup {l : Expr} {tl : TE} (hl : PE X l tl) : PI X tg l (iTup X.K tl) := by
  intro pins s σ H R I h
  refine thn (hl pins s σ H _ I h) fun v s1 ⟨x, H1, I1, r1, q1⟩ => ?_
  obtain ⟨a, e, ⟨xs, hq⟩, q⟩ := q1
  subst e
  cases r1
  obtain ⟨its, rv, p, hz⟩ := I1.tuple hq
  refine wpAny_pyIter_tuple (show s1.heap.IsTuple a its.toArray from p) ?_
  refine ⟨s1.heap.objs.size, [s1.heap.objs.size], _, _, H1, rfl, I1.kept (t' := s1.toks) fun b o e => Heap.get?_push_of_some _ e, turn_tuple a _, ⟨_, Heap.get?_push_size _ rfl, rfl, rfl⟩, fun b hb => ?_, q⟩
  have e : b = s1.heap.objs.size := by simpa using hb
  subst e
  exact I1.fpOk (Nat.le_refl _) (I1.hok.fresh (Nat.le_refl _))
theorem range_it {pins : List (Addr × Obj)} {σ : St} {H : Hp} {s : Shared} {R : It → Hp → Prop} {E : Value → Shared → Prop} {lo hi : Int} {t u v : Tok} {tk : Nat} (I : Inv X pins σ H s) (h1 : -(2 ^ 62) ≤ lo) (h2 : lo < 2 ^ 62) (h3 : -(2 ^ 62) ≤ hi) (h4 : hi < 2 ^ 62)
    (q : R (Itr lo (hi - lo).toNat) H) : wpAny (model X.prog X.w) X.A (pyIter (.ref s.heap.objs.size)) (PIE X pins σ tg R) E { s with heap := s.heap.push { cls := .type "range", data := .fields #[.int lo t, .int hi u, .int 1 v] }, toks := tk } := by
  refine wpAny_pyIter_range (IsRange.new ..) (small_one h1 h2 h3 h4) ?_
  have I1 : Inv X pins σ H { s with heap := s.heap.push { cls := .type "range", data := .fields #[.int lo t, .int hi u, .int 1 v] }, toks := tk } := I.kept fun b o e => Heap.get?_push_of_some _ e
  refine ⟨(s.heap.push { cls := .type "range", data := .fields #[.int lo t, .int hi u, .int 1 v] }).objs.size, [(s.heap.push { cls := .type "range", data := .fields #[.int lo t, .int hi u, .int 1 v] }).objs.size], _, _, H, rfl,
    I1.kept (t' := tk) fun b o e => Heap.get?_push_of_some _ e, turn_range _ lo (hi - lo).toNat, ?_, fun b hb => ?_, q⟩
  · have e1 : lo + ((0 : Nat) : Int) * 1 = lo := by simp
    have e2 : (((hi - lo).toNat : Nat) : Int) - ((0 : Nat) : Int) = Builtin.Range.rangeSize lo hi 1 := by rw [rangeSize_one]; split <;> omega
    show IsRangeIter _ _ (lo + ((0 : Nat) : Int) * 1) ((((hi - lo).toNat : Nat) : Int) - ((0 : Nat) : Int)) 1
    rw [e1, e2]
    exact Heap.get?_push_size _ rfl
  · have e : b = (s.heap.push { cls := .type "range", data := .fields #[.int lo t, .int hi u, .int 1 v] }).objs.size := by simpa using hb
    subst e
    exact I1.fpOk (Nat.le_refl _) (I1.hok.fresh (Nat.le_refl _))
def iRng1 (ta : TA) : TI := fun σ H R => ta σ H fun vs H1 => ∃ j : Int, vs = [.int j] ∧ -(2 ^ 62) ≤ j ∧ j < 2 ^ 62 ∧ R (Itr 0 j.toNat) H1
def iRng2 (ta : TA) : TI := fun σ H R => ta σ H fun vs H1 => ∃ i j : Int, vs = [.int i, .int j] ∧ (-(2 ^ 62) ≤ i ∧ i < 2 ^ 62 ∧ -(2 ^ 62) ≤ j ∧ j < 2 ^ 62) ∧ R (Itr i (j - i).toNat) H1
theorem pi_range1 {a : Expr} {ta : TA} {p pos : Pos} (hg : Gl X "range") (hm : X.mg "range" = none) (ha : PA X [a] ta) (hs : starEach [a] X.env = [(false, eval a X.env)] := by rfl) : PI X tg (.Call (.Name "range" p) [a] [] pos) (iRng1 ta) := by
  intro pins s σ H R I h
  refine Call_ (ld_blt I hg hm boot_range (PyProof.Rows.callWith_type1 (thn (ha pos pins s σ H _ I h) fun us s1 ⟨vs, H1, I1, r1, q1⟩ => ?_) hs rfl))
  obtain ⟨j, e, q1, q2, q⟩ := q1
  subst e
  cases r1 with
  | cons r rr =>
    cases rr
    obtain ⟨t, rfl⟩ := r
    exact call_range_1 (range_it I1 (by omega) (by omega) q1 q2 (by simpa using q))
theorem pi_range2 {a b : Expr} {ta : TA} {p pos : Pos} (hg : Gl X "range") (hm : X.mg "range" = none) (ha : PA X [a, b] ta) (hs : starEach [a, b] X.env = [(false, eval a X.env), (false, eval b X.env)] := by rfl) (hs2 : starEach [b] X.env = [(false, eval b X.env)] := by rfl) :
    PI X tg (.Call (.Name "range" p) [a, b] [] pos) (iRng2 ta) := by
  intro pins s σ H R I h
  refine Call_ (ld_blt I hg hm boot_range (PyProof.Rows.callWith_type1 (thn (ha pos pins s σ H _ I h) fun us s1 ⟨vs, H1, I1, r1, q1⟩ => ?_) (by rw [hs, hs2]) (by rw [hs2]; rfl)))
  obtain ⟨i, j, e, ⟨q1, q2, q3, q4⟩, q⟩ := q1
  subst e
  cases r1 with
  | cons r rr =>
    cases rr with
    | cons r' rr =>
      cases rr
      obtain ⟨t, rfl⟩ := r
      obtain ⟨t', rfl⟩ := r'
      exact call_range_2 (range_it I1 q1 q2 q3 q4 q)
def tFor (wi : TI) (g : TG) (tb : TS) : TS := fun D σ H => wi σ H fun J H1 => ∃ W : Nat → Nat → St → Hp → Prop, (∃ m, W 0 m σ H1) ∧ ∀ i m σ H, W i m σ H →
  (J.stop i H ∧ D.nx σ H) ∨ (J.go i H ∧ ∃ N : St → Hp → Prop, (∀ σ' H', N σ' H' → ∃ m', m' < m ∧ W (i + 1) m' σ' H') ∧ ∀ x H', J.yld i H x H' → g x σ H' fun σ2 H2 => tb { D with nx := N, ct := N, bk := D.nx } σ2 H2)
def pinsAt (fp : List Addr) (h : Heap) : List (Addr × Obj) := fp.filterMap fun b => (h.get? b).map fun o => (b, o)
theorem mem_pinsAt {fp : List Addr} {h : Heap} {b : Addr} {o : Obj} (hb : b ∈ fp) (e : h.get? b = some o) : (b, o) ∈ pinsAt fp h := List.mem_filterMap.mpr ⟨b, hb, by rw [e]; rfl⟩
theorem of_pinsAt {fp : List Addr} {h : Heap} {p : Addr × Obj} (hp : p ∈ pinsAt fp h) : p.1 ∈ fp ∧ h.get? p.1 = some p.2 := by
  obtain ⟨b, hb, e⟩ := List.mem_filterMap.mp hp
  cases q : h.get? b with
  | none => rw [q] at e; cases e
  | some o =>
    rw [q] at e
    have e' : (b, o) = p := Option.some.inj e
    subst e'
    exact ⟨hb, q⟩
theorem Inv.pinned {pins : List (Addr × Obj)} {σ : St} {H : Hp} {s : Shared} {fp : List Addr} (I : Inv X pins σ H s) (hf : ∀ b ∈ fp, FpOk X pins H b) (ho : ∀ b ∈ fp, ∃ o, s.heap.get? b = some o ∧ ∀ v, o.data ≠ .cell v) : Inv X (pins ++ pinsAt fp s.heap) σ H s :=
  I.pins_of fun p hp => (List.mem_append.mp hp).elim (fun z => I.pin p (List.mem_append_right _ z)) fun z => by
    obtain ⟨hb, e⟩ := of_pinsAt z
    obtain ⟨f0, f1, f2, _⟩ := hf p.1 hb
    obtain ⟨o, e', d⟩ := ho p.1 hb
    rw [e] at e'; cases e'
    exact ⟨e, f0, f1, f2, d⟩
theorem Inv.unpinned {pins pl : List (Addr × Obj)} {σ : St} {H : Hp} {s : Shared} (I : Inv X (pins ++ pl) σ H s) : Inv X pins σ H s := I.pins_of fun p hp => I.pin p (List.mem_append_right _ (List.mem_append_left _ hp))
theorem ps_for {iter : Expr} {body : List Stmt} {wi : TI} {g : TG} {tb : TS} {pos : Pos} (hp : PassesOwn (model X.prog X.w) X.A X.env X.xe) (hc : X.calm = true) (hi : PI X tg iter wi) (hg : PG X tg g) (hb : PSs X body tb)
    (hs : ∀ x, foldedSetIterable iter X.env x = pure x := by intro _; rfl) : PS X (.For tg iter body [] pos) (tFor wi g tb) := by
  intro pins s σ H D I h
  refine wpAny_For (thn (hi pins s σ H _ I h) fun v s1 h1 => thn h1 fun itv s2 h2 => ?_) hs
  obtain ⟨it, fp, tn, J, H2, e, I2, T, st2, f2, W, ⟨m0, w0⟩, turn⟩ := h2
  subst e
  -- what stays true of the iterator's objects through the loop
  have stat : ∀ {H' : Hp}, (∀ b ∈ fp, H' b = none) → ∀ b ∈ fp, FpOk X pins H' b := fun hn b hb => ⟨hn b hb, (f2 b hb).2⟩
  refine codeAny_forLoop_any (fun n s' => ∃ i σ' H', Inv X pins σ' H' s' ∧ tn i s'.heap ∧ (∀ b ∈ fp, H' b = none) ∧ W i n σ' H') ?_ m0 ⟨0, σ, H2, I2, st2, fun b hb => (f2 b hb).1, w0⟩
  rintro n s3 ⟨i, σ3, H3, I3, st3, fr3, w3⟩
  rcases turn i n σ3 H3 w3 with ⟨stop, qn⟩ | ⟨go, N, hN, step⟩
  · refine wpAny_passesOwn hp (thn (T.done X rfl rfl rfl hc i pins s3 σ3 H3 X.xe I3 (stat fr3) st3 stop) fun r s4 ⟨hr, I4⟩ => ?_)
    subst hr
    exact wpAny_execs_nil ⟨σ3, H3, I4, qn⟩
  · refine wpAny_passesOwn hp (thn (T.item X rfl rfl rfl hc i pins s3 σ3 H3 X.xe I3 (stat fr3) st3 go) fun r s4 ⟨u, hr, h4⟩ => ?_)
    subst hr
    refine wpAny_passesOwn hp (thn h4 fun _ s5 ⟨x, H5, I5, r5, y5, st5, fr5⟩ => ?_)
    have I5' := I5.pinned (stat fr5) (T.obj _ _ st5)
    refine wpAny_passesOwn hp (thn (hg _ s5 σ3 H5 x u _ I5' r5 (step x H5 y5)) fun _ s6 ⟨σ6, H6, I6, q6⟩ => ?_)
    refine wpAny_passesOwn hp (thn (hb _ s6 σ6 H6 _ I6 q6) fun f s7 q7 => ?_)
    have again : ∀ {σ7 : St} {H7 : Hp}, Inv X (pins ++ pinsAt fp s5.heap) σ7 H7 s7 → N σ7 H7 → ∃ m, m < n ∧ ∃ i σ' H', Inv X pins σ' H' s7 ∧ tn i s7.heap ∧ (∀ b ∈ fp, H' b = none) ∧ W i m σ' H' := fun {σ7 H7} I7 n7 => by
      obtain ⟨m', hm, w7⟩ := hN σ7 H7 n7
      refine ⟨m', hm, i + 1, σ7, H7, I7.unpinned, T.keep _ _ _ st5 fun b hb o e => (I7.pin (b, o) (List.mem_append_right _ (List.mem_append_right _ (mem_pinsAt hb e)))).1, fun b hb => ?_, w7⟩
      obtain ⟨o, e, d⟩ := T.obj _ _ st5 b hb
      exact (I7.pin (b, o) (List.mem_append_right _ (List.mem_append_right _ (mem_pinsAt hb e)))).2.1
    cases f with
    | next => obtain ⟨σ7, H7, I7, n7⟩ := q7; exact again I7 n7
    | cont => obtain ⟨σ7, H7, I7, n7⟩ := q7; exact again I7 n7
    | brk => obtain ⟨σ7, H7, I7, q7⟩ := q7; exact ⟨σ7, H7, I7.unpinned, q7⟩
    | ret v => obtain ⟨x7, σ7, H7, I7, r7, q7⟩ := q7; exact ⟨x7, σ7, H7, I7.unpinned, r7, q7⟩
end
theorem for_list {K : PySem.W.Frag} {a : Addr} {xs : List V} {g : TG} {tb : TS} {D : Ends} {σ : St} {H : Hp} (Pv : Nat → St → Hp → Prop) (h0 : Pv 0 σ H) (hl : ∀ i σ H, i ≤ xs.length → Pv i σ H → SqL K H a xs)
    (hs : ∀ i x σ H, xs[i]? = some x → Pv i σ H → g x σ H fun σ2 H2 => tb { D with nx := Pv (i + 1), ct := Pv (i + 1), bk := D.nx } σ2 H2) (hd : ∀ σ H, Pv xs.length σ H → D.nx σ H) :
    ∃ W : Nat → Nat → St → Hp → Prop, (∃ m, W 0 m σ H) ∧ ∀ i m σ H, W i m σ H →
      ((Itl K a).stop i H ∧ D.nx σ H) ∨ ((Itl K a).go i H ∧ ∃ N : St → Hp → Prop, (∀ σ' H', N σ' H' → ∃ m', m' < m ∧ W (i + 1) m' σ' H') ∧ ∀ x H', (Itl K a).yld i H x H' → g x σ H' fun σ2 H2 => tb { D with nx := N, ct := N, bk := D.nx } σ2 H2) := by
  refine ⟨fun i m σ H => m = xs.length - i ∧ i ≤ xs.length ∧ Pv i σ H, ⟨xs.length, by simp, Nat.zero_le _, h0⟩, ?_⟩
  rintro i m σ H ⟨rfl, hi, p⟩
  have q := hl i σ H hi p
  by_cases hlt : i < xs.length
  · refine .inr ⟨⟨xs, xs[i], q, by simp [hlt]⟩, Pv (i + 1), fun σ' H' p' => ⟨xs.length - (i + 1), by omega, rfl, hlt, p'⟩, fun x H' y => ?_⟩
    obtain ⟨e, y⟩ := y
    subst e
    exact hs i x σ _ (y xs q) p
  · have e : i = xs.length := by omega
    subst e
    exact .inl ⟨⟨xs, q, Nat.le_refl _⟩, hd σ H p⟩
theorem for_range {lo : Int} {n : Nat} {g : TG} {tb : TS} {D : Ends} {σ : St} {H : Hp} (Pv : Nat → St → Hp → Prop) (h0 : Pv 0 σ H)
    (hs : ∀ i σ H, i < n → Pv i σ H → g (.int (lo + i)) σ H fun σ2 H2 => tb { D with nx := Pv (i + 1), ct := Pv (i + 1), bk := D.nx } σ2 H2) (hd : ∀ σ H, Pv n σ H → D.nx σ H) :
    ∃ W : Nat → Nat → St → Hp → Prop, (∃ m, W 0 m σ H) ∧ ∀ i m σ H, W i m σ H →
      ((Itr lo n).stop i H ∧ D.nx σ H) ∨ ((Itr lo n).go i H ∧ ∃ N : St → Hp → Prop, (∀ σ' H', N σ' H' → ∃ m', m' < m ∧ W (i + 1) m' σ' H') ∧ ∀ x H', (Itr lo n).yld i H x H' → g x σ H' fun σ2 H2 => tb { D with nx := N, ct := N, bk := D.nx } σ2 H2) := by
  refine ⟨fun i m σ H => m = n - i ∧ i ≤ n ∧ Pv i σ H, ⟨n, by simp, Nat.zero_le _, h0⟩, ?_⟩
  rintro i m σ H ⟨rfl, hi, p⟩
  by_cases hlt : i < n
  · refine .inr ⟨hlt, Pv (i + 1), fun σ' H' p' => ⟨n - (i + 1), by omega, rfl, hlt, p'⟩, fun x H' y => ?_⟩
    obtain ⟨e, y⟩ := y
    subst e y
    exact hs i σ _ hlt p
  · have e : i = n := by omega
    subst e
    exact .inl ⟨Nat.le_refl _, hd σ H p⟩
end L2
namespace L2
open PySem PySem.Spec PyProof.Rows
abbrev R2 := V → V → Hp → VK → Prop
def OpR (X : Cx) (f : Value → Value → Sem Value) (r : R2) : Prop :=
  ∀ (pins : List (Addr × Obj)) (s : Shared) (σ : St) (H : Hp) (x y : V) (v u : Value) (Q : VK), Inv X pins σ H s → RelV x v → RelV y u → r x y H Q →
    wpAny (model X.prog X.w) X.A (f v u) (EP X pins σ Q) X.xe s
def UnR (X : Cx) (f : Value → Sem Value) (r : V → Hp → VK → Prop) : Prop :=
  ∀ (pins : List (Addr × Obj)) (s : Shared) (σ : St) (H : Hp) (x : V) (v : Value) (Q : VK), Inv X pins σ H s → RelV x v → r x H Q →
    wpAny (model X.prog X.w) X.A (f v) (EP X pins σ Q) X.xe s
def CallR (X : Cx) (f : Value) (r : List V → Hp → VK → Prop) : Prop :=
  ∀ (pins : List (Addr × Obj)) (s : Shared) (σ : St) (H : Hp) (xs : List V) (us : List Value) (Q : VK), Inv X pins σ H s → Vals xs us → r xs H Q →
    wpAny (model X.prog X.w) X.A (call f us) (EP X pins σ Q) X.xe s
def tOp (r : R2) (ta tb : TE) : TE := fun σ H Q => ta σ H fun x H1 => tb σ H1 fun y H2 => r x y H2 Q
def tUn (r : V → Hp → VK → Prop) (ta : TE) : TE := fun σ H Q => ta σ H fun x H1 => r x H1 Q
def rI (C : Int → Int → Prop) (g : Int → Int → V) : R2 := fun x y H Q => ∃ i j, x = .int i ∧ y = .int j ∧ C i j ∧ Q (g i j) H
def rI0 (g : Int → Int → V) : R2 := fun x y H Q => ∃ i j, x = .int i ∧ y = .int j ∧ Q (g i j) H
def rU (g : Int → V) : V → Hp → VK → Prop := fun x H Q => ∃ i, x = .int i ∧ Q (g i) H
section
variable {X : Cx} {a b c : Expr} {ta tb tc : TE} {pos : Pos}
theorem binT (ha : PE X a ta) (hb : PE X b tb) {pins : List (Addr × Obj)} {s : Shared} {σ : St} {H : Hp} {R : V → V → Hp → Prop} (I : Inv X pins σ H s)
    (h : ta σ H fun x H1 => tb σ H1 fun y H2 => R x y H2) {Q : Value → Shared → Prop} {f : Value → Value → Sem Value}
    (hf : ∀ v u s2 x y H2, Inv X pins σ H2 s2 → RelV x v → RelV y u → R x y H2 → wpAny (model X.prog X.w) X.A (f v u) Q X.xe s2) :
    wpAny (model X.prog X.w) X.A (eval a X.env) (fun v s₁ => wpAny (model X.prog X.w) X.A (eval b X.env) (fun u s₂ => wpAny (model X.prog X.w) X.A (f v u) Q X.xe s₂) X.xe s₁) X.xe s := by
  refine thn (ha pins s σ H _ I h) fun v s1 ⟨x, H1, I1, r1, q1⟩ => ?_
  refine thn (hb pins s1 σ H1 _ I1 q1) fun u s2 ⟨y, H2, I2, r2, q2⟩ => ?_
  exact hf v u s2 x y H2 I2 r1 r2 q2
theorem pe_op {op : Operator} {r : R2} (ho : OpR X (binaryOp op) r) (ha : PE X a ta) (hb : PE X b tb) : PE X (.BinOp a op b pos) (tOp r ta tb) := by
  intro pins s σ H Q I h
  exact wpAny_BinOp (binT ha hb I h fun v u s2 x y H2 I2 rx ry q => ho pins s2 σ H2 x y v u Q I2 rx ry q)
theorem pe_un {op : UnaryOp} {r : V → Hp → VK → Prop} (ho : UnR X (unaryOp op) r) (ha : PE X a ta) : PE X (.UnaryOp op a pos) (tUn r ta) := by
  intro pins s σ H Q I h
  exact UnaryOp_ (thn (ha pins s σ H _ I h) fun v s1 ⟨x, H1, I1, r1, q1⟩ => ho pins s1 σ H1 x v Q I1 r1 q1)
theorem opI {f : Value → Value → Sem Value} {C : Int → Int → Prop} {g : Int → Int → Int}
    (rule : ∀ (i j : Int) (t u : Tok) (s : Shared) (Q : Value → Shared → Prop) (E : Value → Shared → Prop), C i j → Q (.int (g i j) s.toks) { s with toks := s.toks + 1 } → wpAny (model X.prog X.w) X.A (f (.int i t) (.int j u)) Q E s) :
    OpR X f (rI C fun i j => .int (g i j)) := by
  intro pins s σ H x y v u Q I rx ry h
  obtain ⟨i, j, rfl, rfl, hc, q⟩ := h
  obtain ⟨t, rfl⟩ := rx
  obtain ⟨t', rfl⟩ := ry
  exact rule i j t t' s _ _ hc ⟨.int (g i j), H, I.tok _, ⟨_, rfl⟩, q⟩
theorem opI0 {f : Value → Value → Sem Value} {g : Int → Int → Int}
    (rule : ∀ (i j : Int) (t u : Tok) (s : Shared) (Q : Value → Shared → Prop) (E : Value → Shared → Prop), Q (.int (g i j) s.toks) { s with toks := s.toks + 1 } → wpAny (model X.prog X.w) X.A (f (.int i t) (.int j u)) Q E s) :
    OpR X f (rI0 fun i j => .int (g i j)) := by
  intro pins s σ H x y v u Q I rx ry h
  obtain ⟨i, j, rfl, rfl, q⟩ := h
  obtain ⟨t, rfl⟩ := rx
  obtain ⟨t', rfl⟩ := ry
  exact rule i j t t' s _ _ ⟨.int (g i j), H, I.tok _, ⟨_, rfl⟩, q⟩
theorem opB0 {f : Value → Value → Sem Value} {g : Int → Int → Bool}
    (rule : ∀ (i j : Int) (t u : Tok) (s : Shared) (Q : Value → Shared → Prop) (E : Value → Shared → Prop), Q (.bool (g i j)) s → wpAny (model X.prog X.w) X.A (f (.int i t) (.int j u)) Q E s) :
    OpR X f (rI0 fun i j => .bl (g i j)) := by
  intro pins s σ H x y v u Q I rx ry h
  obtain ⟨i, j, rfl, rfl, q⟩ := h
  obtain ⟨t, rfl⟩ := rx
  obtain ⟨t', rfl⟩ := ry
  exact rule i j t t' s _ _ ⟨.bl (g i j), H, I, rfl, q⟩
def CPow (i j : Int) : Prop := 0 ≤ j ∧ j ≤ 1000000 ∧ i.natAbs < 2 ^ 64
theorem op_add : OpR X (binaryOp .Add) (rI0 fun i j => .int (i + j)) := opI0 fun _ _ _ _ _ _ _ q => add_int q
theorem op_sub : OpR X (binaryOp .Sub) (rI0 fun i j => .int (i - j)) := opI0 fun _ _ _ _ _ _ _ q => sub_int q
theorem op_modN : OpR X (binaryOp .Mod) (rI (fun _ j => j ≠ 0) fun i j => .int (i.fmod j)) := opI fun _ _ _ _ _ _ _ hc q => mod_int' hc q
theorem op_pow : OpR X (binaryOp .Pow) (rI CPow fun i j => .int (i ^ j.toNat)) := opI fun _ _ _ _ _ _ _ hc q => pow_int_small hc.1 hc.2.1 hc.2.2 q
theorem unI {f : Value → Sem Value} {g : Int → Int}
    (rule : ∀ (i : Int) (t : Tok) (s : Shared) (Q : Value → Shared → Prop) (E : Value → Shared → Prop), Q (.int (g i) s.toks) { s with toks := s.toks + 1 } → wpAny (model X.prog X.w) X.A (f (.int i t)) Q E s) :
    UnR X f (rU fun i => .int (g i)) := by
  intro pins s σ H x v Q I rx h
  obtain ⟨i, rfl, q⟩ := h
  obtain ⟨t, rfl⟩ := rx
  exact rule i t s _ _ ⟨.int (g i), H, I.tok _, ⟨_, rfl⟩, q⟩
theorem un_neg : UnR X (unaryOp .USub) (rU fun i => .int (-i)) := unI fun _ _ _ _ _ q => neg_int q
end
def scal : V → V → Bool
  | .non, .non => true | .non, .int _ => true | .int _, .non => true | .non, .bl _ => true | .bl _, .non => true | .non, .str _ => true | .str _, .non => true
  | .int _, .int _ => true | .bl _, .bl _ => true | .str _, .str _ => true | .byt _, .byt _ => true
  | .int _, .str _ => true | .str _, .int _ => true | .bl _, .str _ => true | .str _, .bl _ => true
  | _, _ => false
def rEq : R2 := fun x y H Q => scal x y = true ∧ Q (.bl (decide (x = y))) H
def rNe : R2 := fun x y H Q => scal x y = true ∧ Q (.bl (!decide (x = y))) H
theorem dec_int {i j : Int} : decide (V.int i = V.int j) = (i == j) := by
  rw [Bool.eq_iff_iff]
  simp
theorem dec_bl {i j : Bool} : decide (V.bl i = V.bl j) = (i == j) := by
  rw [Bool.eq_iff_iff]
  simp
theorem dec_str {i j : Str} : decide (V.str i = V.str j) = (i == j) := by
  rw [Bool.eq_iff_iff]
  simp
theorem dec_byt {i j : Array UInt8} : decide (V.byt i = V.byt j) = (i.toList == j.toList) := by
  rw [Bool.eq_iff_iff]
  cases i
  cases j
  simp
section
variable {X : Cx} {a b c : Expr} {ta tb tc : TE} {pos : Pos}
theorem fin_bl {pins : List (Addr × Obj)} {σ : St} {H : Hp} {s : Shared} {Q : VK} {k k' : Bool} (I : Inv X pins σ H s) (q : Q (.bl k) H) (e : k = k') : EP X pins σ Q (.bool k') s := by
  subst e
  exact ⟨.bl k, H, I, rfl, q⟩
theorem op_eq : OpR X (compareOp .Eq) rEq := by
  intro pins s σ H x y v u Q I rx ry h
  obtain ⟨hs, q⟩ := h
  cases x with
  | non =>
    cases rx
    cases y with
    | non => cases ry; exact PySem.EqNone.eq_none_none (fin_bl I q (by simp))
    | bl j => cases ry; exact PySem.EqNone.eq_none_bool (fin_bl I q (by simp))
    | int j => obtain ⟨t', rfl⟩ := ry; exact PySem.EqNone.eq_none_int (fin_bl I q (by simp))
    | str j => obtain ⟨t', rfl⟩ := ry; exact PySem.EqNone.eq_none_str (fin_bl I q (by simp))
    | _ => exact absurd (show false = true from hs) Bool.false_ne_true
  | bl i =>
    cases rx
    cases y with
    | non => cases ry; exact PySem.EqNone.eq_bool_none (fin_bl I q (by simp))
    | bl j => cases ry; exact eq_bool (fin_bl I q dec_bl)
    | str j => obtain ⟨t', rfl⟩ := ry; exact PySem.EqMixed.eq_bool_str (fin_bl I q (by simp))
    | _ => exact absurd (show false = true from hs) Bool.false_ne_true
  | int i =>
    obtain ⟨t, rfl⟩ := rx
    cases y with
    | non => cases ry; exact PySem.EqNone.eq_int_none (fin_bl I q (by simp))
    | int j => obtain ⟨t', rfl⟩ := ry; exact eq_int (fin_bl I q dec_int)
    | str j => obtain ⟨t', rfl⟩ := ry; exact PySem.EqMixed.eq_int_str (fin_bl I q (by simp))
    | _ => exact absurd (show false = true from hs) Bool.false_ne_true
  | str i =>
    obtain ⟨t, rfl⟩ := rx
    cases y with
    | non => cases ry; exact PySem.EqNone.eq_str_none (fin_bl I q (by simp))
    | bl j => cases ry; exact PySem.EqMixed.eq_str_bool (fin_bl I q (by simp))
    | int j => obtain ⟨t', rfl⟩ := ry; exact PySem.EqMixed.eq_str_int (fin_bl I q (by simp))
    | str j => obtain ⟨t', rfl⟩ := ry; exact eq_str (fin_bl I q dec_str)
    | _ => exact absurd (show false = true from hs) Bool.false_ne_true
  | byt i =>
    obtain ⟨t, rfl⟩ := rx
    cases y with
    | byt j => obtain ⟨t', rfl⟩ := ry; exact PySem.W.eq_bytes (fin_bl I q dec_byt)
    | _ => exact absurd (show false = true from hs) Bool.false_ne_true
  | _ => cases y <;> exact absurd (show false = true from hs) Bool.false_ne_true
theorem op_ne : OpR X (compareOp .NotEq) rNe := by
  intro pins s σ H x y v u Q I rx ry h
  obtain ⟨hs, q⟩ := h
  cases x with
  | non =>
    cases rx
    cases y with
    | non => cases ry; exact PySem.EqNone.ne_none_none (fin_bl I q (by simp))
    | bl j => cases ry; exact PySem.EqNone.ne_none_bool (fin_bl I q (by simp))
    | int j => obtain ⟨t', rfl⟩ := ry; exact PySem.EqNone.ne_none_int (fin_bl I q (by simp))
    | str j => obtain ⟨t', rfl⟩ := ry; exact PySem.EqNone.ne_none_str (fin_bl I q (by simp))
    | _ => exact absurd (show false = true from hs) Bool.false_ne_true
  | bl i =>
    cases rx
    cases y with
    | non => cases ry; exact PySem.EqNone.ne_bool_none (fin_bl I q (by simp))
    | bl j => cases ry; exact ne_bool (fin_bl I q (congrArg not dec_bl))
    | str j => obtain ⟨t', rfl⟩ := ry; exact PySem.EqMixed.ne_bool_str (fin_bl I q (by simp))
    | _ => exact absurd (show false = true from hs) Bool.false_ne_true
  | int i =>
    obtain ⟨t, rfl⟩ := rx
    cases y with
    | non => cases ry; exact PySem.EqNone.ne_int_none (fin_bl I q (by simp))
    | int j => obtain ⟨t', rfl⟩ := ry; exact ne_int (fin_bl I q (congrArg not dec_int))
    | str j => obtain ⟨t', rfl⟩ := ry; exact PySem.EqMixed.ne_int_str (fin_bl I q (by simp))
    | _ => exact absurd (show false = true from hs) Bool.false_ne_true
  | str i =>
    obtain ⟨t, rfl⟩ := rx
    cases y with
    | non => cases ry; exact PySem.EqNone.ne_str_none (fin_bl I q (by simp))
    | bl j => cases ry; exact PySem.EqMixed.ne_str_bool (fin_bl I q (by simp))
    | int j => obtain ⟨t', rfl⟩ := ry; exact PySem.EqMixed.ne_str_int (fin_bl I q (by simp))
    | str j => obtain ⟨t', rfl⟩ := ry; exact ne_str (fin_bl I q (congrArg not dec_str))
    | _ => exact absurd (show false = true from hs) Bool.false_ne_true
  | byt i =>
    obtain ⟨t, rfl⟩ := rx
    cases y with
    | byt j => obtain ⟨t', rfl⟩ := ry; exact PySem.W.ne_bytes (fin_bl I q (congrArg not dec_byt))
    | _ => exact absurd (show false = true from hs) Bool.false_ne_true
  | _ => cases y <;> exact absurd (show false = true from hs) Bool.false_ne_true
theorem op_lt : OpR X (compareOp .Lt) (rI0 fun i j => .bl (decide (i < j))) := opB0 fun _ _ _ _ _ _ _ q => lt_int q
theorem op_gt : OpR X (compareOp .Gt) (rI0 fun i j => .bl (decide (j < i))) := opB0 fun _ _ _ _ _ _ _ q => gt_int q
theorem op_ge : OpR X (compareOp .GtE) (rI0 fun i j => .bl (decide (j ≤ i))) := opB0 fun _ _ _ _ _ _ _ q => ge_int q
theorem OpR.or {f : Value → Value → Sem Value} {r r' : R2} (h : OpR X f r) (h' : OpR X f r') : OpR X f (fun x y H Q => r x y H Q ∨ r' x y H Q) := by
  intro pins s σ H x y v u Q I rx ry q
  rcases q with q | q
  · exact h pins s σ H x y v u Q I rx ry q
  · exact h' pins s σ H x y v u Q I rx ry q
theorem nomark (b : Expr) {op : CmpOp} (h : op ≠ .In := by decide) (h2 : op ≠ .NotIn := by decide) : behindInMarks op b = false := by
  have e1 : (op == CmpOp.In) = false := by cases op <;> first | rfl | exact absurd rfl h
  have e2 : (op == CmpOp.NotIn) = false := by cases op <;> first | rfl | exact absurd rfl h2
  cases b <;> simp [behindInMarks, e1, e2]
theorem pe_cmpR {op : CmpOp} {r : R2} (ho : OpR X (compareOp op) r) (ha : PE X a ta) (hb : PE X b tb) (hm : behindInMarks op b = false) : PE X (.Compare a [op] [b] pos) (tOp r ta tb) := by
  intro pins s σ H Q I h
  exact wpAny_Compare1 (binT ha hb I h fun v u s2 x y H2 I2 rx ry q => ho pins s2 σ H2 x y v u Q I2 rx ry q) hm
def tTest (t : TE) : TT := fun σ H Q => t σ H fun x H' => ∃ k, x = .bl k ∧ Q k H'
theorem pt_cmpR {op : CmpOp} {r : R2} (ho : OpR X (compareOp op) r) (ha : PE X a ta) (hb : PE X b tb) (hm : behindInMarks op b = false) : PT X (.Compare a [op] [b] pos) (tTest (tOp r ta tb)) := by
  intro pins s σ H Q I h
  refine wpAny_isTrue_Compare1 (thn (ha pins s σ H _ I h) fun v s1 ⟨x, H1, I1, r1, q1⟩ => thn (hb pins s1 σ H1 _ I1 q1) fun u s2 ⟨y, H2, I2, r2, q2⟩ =>
    thn (ho pins s2 σ H2 x y v u _ I2 r1 r2 q2) fun c s3 ⟨z, H3, I3, r3, k, e, q3⟩ => ?_) hm
  subst e
  cases r3
  exact wpAny_truthy_bool ⟨H3, I3, q3⟩
theorem line63 : (sizeLine : Nat) < 2 ^ 63 := by rw [sizeLine_eq]; decide
theorem vals1 {x : V} {us : List Value} (r : Vals [x] us) : ∃ u, us = [u] ∧ RelV x u := by
  cases r with
  | cons r1 r2 => cases r2; exact ⟨_, rfl, r1⟩
theorem vals2 {x y : V} {us : List Value} (r : Vals [x, y] us) : ∃ u w', us = [u, w'] ∧ RelV x u ∧ RelV y w' := by
  cases r with
  | cons r1 r2 =>
    cases r2 with
    | cons r3 r4 => cases r4; exact ⟨_, _, rfl, r1, r3⟩
theorem call_abs : CallR X (.builtin "abs") (fun xs H Q => ∃ i, xs = [.int i] ∧ Q (.int (if i < 0 then -i else i)) H) := by
  intro pins s σ H xs us Q I r h
  obtain ⟨i, rfl, q⟩ := h
  obtain ⟨u, rfl, t, rfl⟩ := vals1 r
  exact call_abs_int fun u tk => ⟨.int (if i < 0 then -i else i), H, I.tok _, ⟨_, rfl⟩, q⟩
end
end L2
namespace L2
open PySem PySem.Spec PyProof.Rows
structure ObjM (h : Heap) (x dx C : Addr) (mA : Str → Option Value) : Prop where
  obj : h.get? x = some (PySem.W.instObj C dx)
  ns : h.Ns1 dx mA
  ne : dx ≠ x
theorem lookIn_ns {h : Heap} {dx : Addr} {mA : Str → Option Value} (n : h.Ns1 dx mA) : ∃ od, h.get? dx = some od ∧ ∀ name, PySem.W.lookIn name od = some (mA name) := by
  obtain ⟨o, es, ep, ho, hd, hk, _, hm⟩ := n
  refine ⟨o, ho, fun name => ?_⟩
  have e := hm name
  unfold nsFind findBy at e
  rw [← Array.find?_toList] at e
  unfold PySem.W.lookIn
  rw [hd]
  dsimp only
  split
  · rename_i y q
    rw [q] at e
    exact congrArg some e
  · rename_i q
    rw [q] at e
    have a : es.toList.any (·.refKey) = false := by
      rw [List.any_eq_false]
      intro y hy
      obtain ⟨z, t, hkey⟩ := hk y (Array.mem_toList_iff.mp hy)
      simp [DictEntry.refKey, hkey]
    have a' : ¬ es.toList.any (·.refKey) = true := by rw [a]; exact Bool.false_ne_true
    rw [if_neg a']
    exact congrArg some e
theorem ObjM.look {h : Heap} {x dx C : Addr} {mA : Str → Option Value} (I : ObjM h x dx C mA) : ∃ od, PySem.W.InstAt h x (PySem.W.instObj C dx) C (some od) ∧ ∀ name, PySem.W.lookIn name od = some (mA name) :=
  let ⟨od, ho, hl⟩ := lookIn_ns I.ns
  ⟨od, ⟨I.obj, rfl, rfl, ho⟩, hl⟩
section
variable {prog : Program} {w : World} {A : Around} {E : Value → Shared → Prop} {s : Shared} {K : PySem.W.Frag} {x dx C f : Addr} {mA : Str → Option Value} {name : Str} {v : Value}
end
section
variable {P : Program} {w : World} {H H' : Hp} {h h' : Heap} {a C dx : Addr} {fs fs' : List (Str × V)}
theorem ins_get (hok : HOk P w H h) (e : H a = some (.ins C dx fs)) : ∃ mA, ObjM h a dx C mA ∧ (∀ f, RelO (fs.lookup f) (mA f)) ∧ PySem.Within mA (fs.map (·.1)) ∧ fs.length ≤ 1000 ∧ H dx = some (.own a) := by
  obtain ⟨d, z, ne, ob, mA, n, r, q⟩ := (show ObjOk P w H h a (.ins C dx fs) from hok a _ e)
  exact ⟨mA, ⟨ob, n, ne⟩, r, q, z, d⟩
end
structure Cls (K : PySem.W.Frag) (C : Addr) : Prop where
  pg : PySem.W.plainGet K C Str.empty = true
  hd : PySem.W.hasDictIn K C = true
  po : PySem.W.plainOver K C = true
  sa : PySem.W.findIn K (.ref C) "__setattr__" = some (some (.builtin "object.__setattr__"))
theorem Cls.get {K : PySem.W.Frag} {C : Addr} (c : Cls K C) (f : Str) : PySem.W.plainGet K C f = true := c.pg
section
variable {X : Cx} {pins : List (Addr × Obj)} {σ : St} {H : Hp} {s : Shared} {a C dx : Addr} {fs : List (Str × V)} {f : Str} {v : V} {A : Around} {E : Value → Shared → Prop}
end
section
variable {X : Cx} {o e value : Expr} {f : Str} {pos pos' tpos : Pos} {ta tv : TE}
end
section
variable {X : Cx} {pins : List (Addr × Obj)} {σ : St} {H : Hp} {s : Shared} {A : Around} {E : Value → Shared → Prop} {Q : Value → Shared → Prop} {c : Value} {b : Bool}
inductive TyOf (K : PySem.W.Frag) (H : Hp) : V → Value → Prop where
  | non : TyOf K H .non (.type "NoneType")
  | bl (x : Bool) : TyOf K H (.bl x) (.type "bool")
  | int (i : Int) : TyOf K H (.int i) (.type "int")
  | str (x : Str) : TyOf K H (.str x) (.type "str")
  | flt (x : UInt64) : TyOf K H (.flt x) (.type "float")
  | lst {a : Addr} {xs : List V} (e : H a = some (.lst xs)) : TyOf K H (.ref a) (.type "list")
  | frz {a : Addr} {o : Obj} {xs : List V} (e : H a = some (.frz o (.lst xs))) : TyOf K H (.ref a) (.type "list")
  | tup {a : Addr} {xs : List V} (e : H a = some (.tup xs)) : TyOf K H (.ref a) (.type "tuple")
  | dK {a : Addr} {kvs : List (Key × V)} (e : H a = some (.dK kvs)) : TyOf K H (.ref a) (.type "dict")
  | dT {a : Addr} {kvs : List (List Key × V)} (e : H a = some (.dT kvs)) : TyOf K H (.ref a) (.type "dict")
  | ins {a C dx : Addr} {fs : List (Str × V)} (e : H a = some (.ins C dx fs)) (cl : Cls K C) (ha : PySem.W.findIn K (.ref C) "__class__" = some (some (.builtin "object.__class__")))
      (hn : PySem.W.specialIn K (.builtin "object.__class__") "__get__" = some (some (.builtin "getset_descriptor.__get__"))) (htk : PySem.W.takesIn K (.builtin "object.__class__") = some true)
      (hm : PySem.W.mroIn K C (.type "object") = some true) : TyOf K H (.ref a) (.ref C)
theorem isinst_ok {x : V} {u t : Value} (I : Inv X pins σ H s) (rx : RelV x u) (ty : TyOf X.K H x t) (e : PySem.W.kitOne X.K t c = some b) (h : ∀ tk, Q (.bool b) { s with toks := tk }) :
    wpAny (model X.prog X.w) A (call (.builtin "isinstance") [u, c]) Q E s := by
  cases ty with
  | non => cases (show u = Value.none from rx); exact PySem.W.kia_one PySem.W.kitx_none I.kIn True.intro e (fun z => nomatch z) h
  | bl y => cases (show u = Value.bool y from rx); exact PySem.W.kia_one PySem.W.kitx_bool I.kIn True.intro e (fun z => nomatch z) h
  | int i => obtain ⟨t, q⟩ := (show ∃ t, u = Value.int i t from rx); cases q; exact PySem.W.kia_one PySem.W.kitx_int I.kIn True.intro e (fun z => nomatch z) h
  | str y => obtain ⟨t, q⟩ := (show ∃ t, u = Value.str y t from rx); cases q; exact PySem.W.kia_one PySem.W.kitx_str I.kIn True.intro e (fun z => nomatch z) h
  | flt y => obtain ⟨t, q⟩ := (show ∃ t, u = Value.float y t from rx); cases q; exact PySem.W.kia_one PySem.W.kitx_float I.kIn True.intro e (fun z => nomatch z) h
  | @lst a xs ea =>
    cases (show u = Value.ref a from rx)
    obtain ⟨_, _, n, _, h1⟩ := (show ObjOk X.prog X.w H s.heap a (.lst xs) from I.hok a _ ea)
    exact PySem.W.kia_one PySem.W.kitx_list I.kIn ⟨_, h1, rfl⟩ e (fun z => nomatch z) h
  | @frz a ob xs ea =>
    cases (show u = Value.ref a from rx)
    obtain ⟨_, _, _, n, _, h1⟩ := (show ObjOk X.prog X.w H s.heap a (.frz ob (.lst xs)) from I.hok a _ ea)
    exact PySem.W.kia_one PySem.W.kitx_list I.kIn ⟨_, h1, rfl⟩ e (fun z => nomatch z) h
  | @tup a xs ea =>
    cases (show u = Value.ref a from rx)
    obtain ⟨_, _, _, p⟩ := (show ObjOk X.prog X.w H s.heap a (.tup xs) from I.hok a _ ea)
    obtain ⟨o, h1, h2, _⟩ := p
    exact PySem.W.kia_one PySem.W.kitx_tuple I.kIn ⟨o, h1, h2⟩ e (fun z => nomatch z) h
  | @dK a kvs ea =>
    cases (show u = Value.ref a from rx)
    obtain ⟨_, _, vs, _, p⟩ := (show ObjOk X.prog X.w H s.heap a (.dK kvs) from I.hok a _ ea)
    obtain ⟨o, es, ep, h1, h2, _⟩ := p
    exact PySem.W.kia_one PySem.W.kitx_dict I.kIn ⟨o, h1, h2.1⟩ e (fun z => nomatch z) h
  | @dT a kvs ea =>
    cases (show u = Value.ref a from rx)
    obtain ⟨_, _, xs, _, o, es, ep, h1, h2, _⟩ := (show ObjOk X.prog X.w H s.heap a (.dT kvs) from I.hok a _ ea)
    exact PySem.W.kia_one PySem.W.kitx_dict I.kIn ⟨o, h1, h2.1⟩ e (fun z => nomatch z) h
  | @ins a C dx fs ea cl ha hn htk hm =>
    cases (show u = Value.ref a from rx)
    obtain ⟨mA, O, _⟩ := ins_get I.hok ea
    obtain ⟨od, J, _⟩ := O.look
    exact PySem.W.kia_one (PySem.W.kitx_own (cl.get _) cl.hd ha hn htk hm) I.kIn J e (fun z => nomatch z) h
end
end L2
namespace L2
open PySem PySem.Spec PyProof.Rows
structure Room (k : Nat) (A : Around) : Prop where
  hd : A.handled = none
  dp : A.depth + 3 * k + 5 < recursionLimit
  un : A.units + 16 * k + 200 < cLine
theorem Room.mono {j k : Nat} {A : Around} (r : Room k A) (h : j ≤ k) : Room j A := ⟨r.hd, by have := r.dp; omega, by have := r.un; omega⟩
theorem Room.deeper {k : Nat} {A : Around} (r : Room (k + 1) A) (env : Env) : Room k (A.deeper env) :=
  ⟨r.hd, by have := r.dp; show A.depth + 1 + 3 * k + 5 < _; omega, by have := r.un; show A.units + 3 + 16 * k + 200 < _; omega⟩
theorem Room.depth {k : Nat} {A : Around} (r : Room k A) : A.depth < recursionLimit := by have := r.dp; omega
theorem Room.units {k : Nat} {A : Around} (r : Room k A) : A.units + 64 < cLine := by have := r.un; omega
theorem Room.units0 {k : Nat} {A : Around} (r : Room k A) : A.units < cLine := by have := r.un; omega
def tNil : TA := fun _ H Q => Q [] H
def tCons (ta : TE) (tr : TA) : TA := fun σ H Q => ta σ H fun x H1 => tr σ H1 fun xs H2 => Q (x :: xs) H2
section
variable {X : Cx} {e : Expr} {es : List Expr} {te : TE} {t : TA} {pos : Pos}
theorem pa_nil : PA X [] tNil := fun _ _ _ _ H Q I h => Calls.spliced_nil ⟨[], H, I, .nil, h⟩
theorem pa_cons (ha : PE X e te) (hr : PA X es t) (hs : starEach (e :: es) X.env = (false, eval e X.env) :: starEach es X.env := by rfl) : PA X (e :: es) (tCons te t) := by
  intro pos pins s σ H Q I h
  rw [hs]
  show wpAny _ _ (spliced ((false, eval e X.env) :: backTo pos (starEach es X.env))) _ _ s
  refine Calls.spliced_cons (thn (ha pins s σ H _ I h) fun u s1 ⟨x, H1, I1, r1, q1⟩ => ?_)
  exact thn (hr pos pins s1 σ H1 _ I1 q1) fun us s2 ⟨xs, H2, I2, r2, q2⟩ => ⟨x :: xs, H2, I2, .cons r1 r2, q2⟩
def tTup (t : TA) : TE := fun σ H Q => t σ H fun xs H1 => xs.length ≤ sizeLine ∧ ∀ p, H1 p = none → Q (.ref p) (upd H1 p (.tup xs))
def tLst (t : TA) : TE := fun σ H Q => t σ H fun xs H1 => xs.length ≤ sizeLine ∧ ∀ p, H1 p = none → Q (.ref p) (upd H1 p (.lst xs))
theorem pe_tup {x1} (h : PA X es t) : PE X (.Tuple es x1 pos) (tTup t) := by
  intro pins s σ H Q I hq
  refine wpAny_Tuple_spliced (thn (h pos pins s σ H _ I hq) fun us s1 ⟨xs, H1, I1, r, z, q⟩ => ⟨by rw [← r.length]; exact z, ?_⟩)
  have hf : H1 s1.heap.objs.size = none := I1.hok.fresh (Nat.le_refl _)
  refine ⟨.ref s1.heap.objs.size, upd H1 s1.heap.objs.size (.tup xs), I1.laid (t' := s1.toks) (fun b u e => Heap.get?_push_of_some _ e) (Nat.le_refl _) ?_, rfl, q _ hf⟩
  exact ⟨z, us, r, ⟨_, Heap.get?_push_size _ rfl, rfl, _, rfl⟩⟩
theorem pe_lst (h : PA X es t) : PE X (.List es pos) (tLst t) := by
  intro pins s σ H Q I hq
  refine wpAny_List_spliced (thn (h pos pins s σ H _ I hq) fun us s1 ⟨xs, H1, I1, r, z, q⟩ => ⟨by rw [← r.length]; exact z, ?_⟩)
  have hf : H1 s1.heap.objs.size = none := I1.hok.fresh (Nat.le_refl _)
  refine ⟨.ref s1.heap.objs.size, upd H1 s1.heap.objs.size (.lst xs), I1.laid (t' := s1.toks) (fun b u e => Heap.get?_push_of_some _ e) (Nat.le_refl _) ?_, rfl, q _ hf⟩
  exact ⟨z, us, 0, r, Heap.get?_push_size _ rfl⟩
end
abbrev Sp := List V → Hp → VK → XK → Prop
abbrev CXT := List Env → Hp → Shared → XK → Value → Shared → Prop
structure Env0 (P : Program) (w : World) (K : PySem.W.Frag) (mg : Str → Option Value) (base : Heap) (A : Around) (outer : List Env) (s : Shared) (H : Hp) : Prop where
  frames : A.frames = some outer
  mod : Mod K mg base
  bs : ∀ b o, base.get? b = some o → s.heap.get? b = some o ∧ H b = none
  bsz : base.objs.size ≤ s.heap.objs.size
  funs : s.heap.FunFrames base outer
  frf : ∀ b ∈ frs outer, H b = none
  hok : HOk P w H s.heap
  bare : AllBare s.gens
def CE (outer : List Env) (P : Program) (w : World) (H : Hp) (s : Shared) (Q : VK) (u : Value) (s' : Shared) : Prop :=
  ∃ v H', s'.os = s.os ∧ AllBare s'.gens ∧ Un (frs outer) [] H H' s.heap s'.heap ∧ HOk P w H' s'.heap ∧ RelV v u ∧ Q v H'
def CR (CX : CXT) (outer : List Env) (P : Program) (w : World) (H : Hp) (s : Shared) (Q : VK) (E : XK) (r : Result) (s' : Shared) : Prop :=
  match r with
  | .ok (.ret u) => CE outer P w H s Q u s'
  | .ok _ => False
  | .error e => CX outer H s E e s'
structure FnOk (P : Program) (w : World) (K : PySem.W.Frag) (mg : Str → Option Value) (base : Heap) (CX : CXT) (k : Nat) (f : Addr) (fd : FuncData) (ps : List Str) (sp : Sp) : Prop where
  len : ∀ vs H Q E, sp vs H Q E → vs.length = ps.length
  run : ∀ (A : Around) (outer : List Env) (s : Shared) (H : Hp) (args : Args) (us : List Value) (vs : List V) (Q : VK) (E : XK), Room k A → Env0 P w K mg base A outer s H → BindsTo s fd args (ps.zip us) → Vals vs us → sp vs H Q E →
    codeAny (model P w) A (.call (.ref f) args) (CR CX outer P w H s Q E) s
section
variable {X : Cx} {pins : List (Addr × Obj)} {σ : St} {H : Hp} {s s' : Shared}
theorem Inv.env0 (I : Inv X pins σ H s) : Env0 X.prog X.w X.K X.mg X.base X.A X.stack s H :=
  ⟨I.ok.frames, I.ok.mod, I.bs, Nat.le_trans I.ok.bsz I.sz, I.stack, I.stkFree, I.hok, I.bare⟩
theorem Inv.after {Q : VK} {u : Value} (I : Inv X pins σ H s) (h : CE X.stack X.prog X.w H s Q u s') : EP X pins σ Q u s' := by
  obtain ⟨v, H', os, bare, un, hok, r, q⟩ := h
  obtain ⟨hh, g, d, t, os'⟩ := s'
  obtain rfl : os' = s.os := os
  exact ⟨v, H', I.call (h' := hh) (g' := g) (d' := d) (t' := t) (ch := []) un hok bare (fun b z => absurd z (by simp)), r, q⟩
end
def Binds (K : PySem.W.Frag) (fd : FuncData) (ps : List Str) (ds : List Value) : Prop :=
  ∀ (s : Shared) (us : List Value), K.In s.heap → (us ++ ds).length = ps.length → BindsTo s fd ⟨us, []⟩ (ps.zip (us ++ ds))
theorem Binds.all {K : PySem.W.Frag} {fd : FuncData} {ps : List Str} (h : ∀ us : List Value, us.length = ps.length → bindArgs fd ⟨us, []⟩ = pure (ps.zip us)) : Binds K fd ps [] := fun s us _ hl => by
  rw [List.append_nil] at hl ⊢
  exact .of_eq (h us hl)
section
variable {X : Cx} {CX : CXT} {k : Nat} {f C : Addr} {fd : FuncData} {ps : List Str} {sp : Sp} {dvs : List V} {ds : List Value} {E : XK} {x m : Str} {p pos apos : Pos} {e o : Expr} {es : List Expr} {ta : TE} {t : TA}
end
section
variable {X : Cx} {CX : CXT} {k : Nat} {f C : Addr} {fd : FuncData} {ps ks : List Str} {sp : Sp} {E : XK} {x m : Str} {p pos apos kpos : Pos} {e o : Expr} {es : List Expr} {kws : List Keyword} {te ta : TE} {t tk : TA} {nm : Option Str}
variable {g : List Value → List Value → List Value} {gV : List V → List V → List V}
end
structure FnScope (N P : List Str) (sc : Scope) : Prop where
  kind : sc.kind = .function
  co : sc.isCoroutine = false
  gen : sc.isGenerator = false
  nd : N.Nodup
  pre : N.take P.length = P
  par : ∀ x ∈ P, sc.names.lookup x = some .local ∨ sc.names.lookup x = some .cell
  nofree : ∀ y ∈ sc.names, y.2 ≠ .free
theorem bindL_out {kindOf : Str → Option NameKind} {x : Str} : ∀ {binds : List (Str × Value)} {m : Str → Option Value}, (∀ v, (x, v) ∉ binds) → bindL kindOf binds m x = m x
  | [], _, _ => rfl
  | (n, v) :: r, m, h => by
    unfold bindL
    rw [bindL_out fun w hw => h w (List.mem_cons_of_mem _ hw)]
    split
    · have : x ≠ n := by rintro rfl; exact h v List.mem_cons_self
      simp [this]
    · rfl
theorem bindC_out {kindOf : Str → Option NameKind} {x : Str} : ∀ {binds : List (Str × Value)} {m : Str → Option Value}, (∀ v, (x, v) ∉ binds) → bindC kindOf binds m x = m x
  | [], _, _ => rfl
  | (n, v) :: r, m, h => by
    unfold bindC
    rw [bindC_out fun w hw => h w (List.mem_cons_of_mem _ hw)]
    split
    · rfl
    · have : x ≠ n := by rintro rfl; exact h v List.mem_cons_self
      simp [this]
theorem bindL_get {kindOf : Str → Option NameKind} {x : Str} {v : Value} : ∀ {P : List Str} {vs : List Value} {i : Nat} {m : Str → Option Value}, P.Nodup → P[i]? = some x → vs[i]? = some v → kindOf x = some .local →
    bindL kindOf (P.zip vs) m x = some v
  | [], _, _, _, _, h, _, _ => by simp at h
  | _ :: _, [], _, _, _, _, h, _ => by simp at h
  | p :: P, w :: vs, 0, m, nd, h1, h2, hk => by
    simp at h1 h2; subst h1; subst h2
    show bindL kindOf ((p, w) :: P.zip vs) m p = _
    unfold bindL
    rw [bindL_out fun v hv => (List.nodup_cons.mp nd).1 (List.of_mem_zip hv).1, if_pos hk]
    simp
  | p :: P, w :: vs, i + 1, m, nd, h1, h2, hk => by
    show bindL kindOf ((p, w) :: P.zip vs) m x = _
    unfold bindL
    exact bindL_get (i := i) (List.nodup_cons.mp nd).2 (by simpa using h1) (by simpa using h2) hk
theorem bindC_get {kindOf : Str → Option NameKind} {x : Str} {v : Value} : ∀ {P : List Str} {vs : List Value} {i : Nat} {m : Str → Option Value}, P.Nodup → P[i]? = some x → vs[i]? = some v → kindOf x ≠ some .local →
    bindC kindOf (P.zip vs) m x = some v
  | [], _, _, _, _, h, _, _ => by simp at h
  | _ :: _, [], _, _, _, _, h, _ => by simp at h
  | p :: P, w :: vs, 0, m, nd, h1, h2, hk => by
    simp at h1 h2; subst h1; subst h2
    show bindC kindOf ((p, w) :: P.zip vs) m p = _
    unfold bindC
    rw [bindC_out fun v hv => (List.nodup_cons.mp nd).1 (List.of_mem_zip hv).1, if_neg hk]
    simp
  | p :: P, w :: vs, i + 1, m, nd, h1, h2, hk => by
    show bindC kindOf ((p, w) :: P.zip vs) m x = _
    unfold bindC
    exact bindC_get (i := i) (List.nodup_cons.mp nd).2 (by simpa using h1) (by simpa using h2) hk
def start (N : List Str) (vs : List V) : St := vs.map some ++ List.replicate (N.length - vs.length) none
def cxOf (CX : CXT) (P : Program) (w : World) (K : PySem.W.Frag) (mg : Str → Option Value) (base : Heap) (N : List Str) (qual : Str) (scope : Scope) (f : Addr) (cd : Value) (A : Around) (outer : List Env) (s : Shared) (H : Hp) (E : XK) : Cx where
  prog := P
  w := w
  K := K
  mg := mg
  base := base
  A := A.deeper (envOfC qual scope s.heap.objs.size f cd)
  N := N
  s₀ := s
  H₀ := H
  env := envOfC qual scope s.heap.objs.size f cd
  outer := outer
  stack := envOfC qual scope s.heap.objs.size f cd :: outer
  ex := []
  calm := true
  fn := fun _ => true
  pn := []
  xe := fun e s' => wpAny (model P w) (A.deeper (envOfC qual scope s.heap.objs.size f cd)) (leaving (envOfC qual scope s.heap.objs.size f cd) e) (fun _ s'' => CX outer H s E e s'') (fun e' s'' => CX outer H s E e' s'') s'
theorem cell_has {sc : Scope} {n : Nat} {x : Str} (h : sc.names.lookup x = some .cell) : ∃ c, (cellsFrom n sc.names []).lookup x = some c := by
  have q := PySem.W.cellsFrom_some sc.names n [] (.inl h)
  exact Option.isSome_iff_exists.mp q
theorem inv_start {CX : CXT} {P : Program} {w : World} {K : PySem.W.Frag} {mg : Str → Option Value} {base : Heap} {N ps : List Str} {qual : Str} {scope : Scope} {f : Addr} {cd : Value} {A : Around} {outer : List Env} {s s1 : Shared} {H : Hp} {E : XK} {us : List Value} {vs : List V}
    (S : FnScope N ps scope) (hd : A.handled = none) (e0 : Env0 P w K mg base A outer s H) (hl : vs.length = ps.length) (r : Vals vs us)
    (x : InCallC s s.heap.objs.size (bindL (envOfC qual scope s.heap.objs.size f cd).kindOf (ps.zip us) fun _ => none) (cellsFrom (s.heap.objs.size + 1) scope.names []) (bindC (envOfC qual scope s.heap.objs.size f cd).kindOf (ps.zip us) fun _ => none) s1) :
    Inv (cxOf CX P w K mg base N qual scope f cd A outer s H E) [] (start N vs) H s1 := by
  have hpl : ps.length ≤ N.length := by have := congrArg List.length S.pre; rw [List.length_take] at this; omega
  obtain ⟨h1, tk, rfl, hk⟩ := x.done
  have noA : ∀ b : Addr, b ∉ (cxOf CX P w K mg base N qual scope f cd A outer s H E).ex := fun b z => absurd (show b ∈ ([] : List Addr) from z) (by simp)
  refine ⟨⟨e0.mod, S.kind, rfl, rfl, Nat.le_refl _, fun y z c h1 h2 => ?_, fun y hy => ?_, fun y c _ h => ?_, fun _ => hd, Around.frames_deeper e0.frames, .inr ⟨rfl, rfl⟩, fun b z => absurd z (noA b), e0.bs, e0.bsz, fun b _ _ => noA b, fun b z => absurd z (noA b), e0.funs, e0.frf⟩,
    rfl, e0.bare, Un.kept hk, ⟨_, x.toInCall.ns, fun i y v h1 h2 h3 => ?_⟩, fun y c h => ⟨_, x.cell y c h⟩, e0.hok.fresh (Nat.le_refl _), fun y c h => ?_, fun p hp => absurd (show p ∈ ([] : List (Addr × Obj)) from hp) (by simp), e0.hok.kept hk, ?_⟩
  · exact name_of_addr x.apart (PySem.mem_of_lookup h1) (PySem.mem_of_lookup h2)
  · have hy : scope.names.lookup y = some .cell ∨ scope.names.lookup y = some .free := hy
    rcases hy with hy | hy
    · exact cell_has hy
    · exact absurd rfl (S.nofree _ (PySem.mem_of_lookup hy))
  · exact Nat.le_of_lt (x.above y c (PySem.mem_of_lookup h))
  · have hi : i < vs.length := by
      unfold start at h2
      by_cases hi : i < vs.length
      · exact hi
      · rw [List.getElem?_append_right (by simpa using hi)] at h2
        rw [List.getElem?_replicate] at h2
        split at h2 <;> cases h2
    have ha : vs[i]? = some v := by
      unfold start at h2
      rw [List.getElem?_append_left (by simpa using hi), List.getElem?_map] at h2
      cases e : vs[i]? with
      | none => rw [e] at h2; cases h2
      | some a => rw [e] at h2; cases h2; rfl
    obtain ⟨u, hu, rv⟩ := r.get ha
    have hp : ps[i]? = some y := by
      rw [← S.pre, List.getElem?_take_of_lt (by omega)]; exact h1
    have ndP : ps.Nodup := by rw [← S.pre]; exact S.nd.sublist (List.take_sublist _ _)
    refine ⟨u, rv, ?_⟩
    rcases S.par y (List.mem_of_getElem? hp) with k | k
    · exact .inl ⟨k, bindL_get ndP hp hu k⟩
    · obtain ⟨c, e⟩ := cell_has (n := s.heap.objs.size + 1) k
      refine .inr ⟨.inl k, c, e, ?_⟩
      have q := x.cell y c e
      rw [bindC_get ndP hp hu (by show scope.names.lookup y ≠ _; rw [k]; decide)] at q
      exact q
  · exact e0.hok.fresh (Nat.le_of_lt (x.above y c (PySem.mem_of_lookup h)))
  · unfold start
    show _ = N.length
    rw [List.length_append, List.length_map, List.length_replicate]
    omega
theorem fn_of {CX : CXT} {P : Program} {w : World} {K : PySem.W.Frag} {mg : Str → Option Value} {base : Heap} {k : Nat} {f : Addr} {name qual : Str} {params : Arguments} {body : List Stmt} {scope : Scope} {dV kV doc pm cdv ct oc : Value} {an od : Option Addr}
    {osl : Array (Option Value)} {N ps : List Str} {sp : Sp} (lk : K.lookup f = some ⟨oc, od, .func (PySem.W.fnOf name qual params body scope dV kV doc pm an cdv ct), osl⟩) (hcd : PySem.W.codeIn K cdv qual = true) (S : FnScope N ps scope)
    (len : ∀ vs H Q E, sp vs H Q E → vs.length = ps.length)
    (hbody : ∀ (A : Around) (outer : List Env) (s : Shared) (H : Hp) (vs : List V) (Q : VK) (E : XK), Room k (A.deeper (envOfC qual scope s.heap.objs.size f cdv)) → sp vs H Q E →
      ∃ t, PSs (cxOf CX P w K mg base N qual scope f cdv A outer s H E) body t ∧ t { nx := fun _ H' => Q .non H', rt := Q } (start N vs) H) :
    FnOk P w K mg base CX (k + 1) f (PySem.W.fnOf name qual params body scope dV kV doc pm an cdv ct) ps sp := by
  refine ⟨len, fun A outer s H args us vs Q E hr e0 hb r hsp => ?_⟩
  have hl := len _ _ _ _ hsp
  have KX : K.In s.heap := e0.mod.kin.keeps fun b o e => (e0.bs b o e).1
  have lim : s.heap.NoLimit := e0.mod.nolimit.keeps fun b o e => (e0.bs b o e).1
  have hkind : ∀ y ∈ ps.zip us, scope.names.lookup y.1 = some .local ∨ (scope.names.lookup y.1 = some .cell ∧ ((cellsFrom (s.heap.objs.size + 1) scope.names []).lookup y.1).isSome = true) := fun ⟨n, v⟩ hy => by
    rcases S.par n (List.of_mem_zip hy).1 with q | q
    · exact .inl q
    · exact .inr ⟨q, PySem.W.cellsFrom_some _ _ _ (.inl q)⟩
  refine codeAny_call_function hr.depth (KX _ _ lk) rfl S.co S.gen rfl (PySem.W.codeRec_of KX hcd) (hb _ _ _ _ ?_)
  refine wpAny_newFunctionEnv_cells S.kind hkind fun env he s1 x => ?_
  subst he
  refine ⟨lim.keeps x.toInCall.keep, codeAny_func ?_⟩
  obtain ⟨t, ht, hq⟩ := hbody A outer s H vs Q E (hr.deeper _) hsp
  have I : Inv (cxOf CX P w K mg base N qual scope f cdv A outer s H E) [] (start N vs) H s1 := inv_start S hr.hd e0 hl r x
  refine wpAny_mono (ht [] s1 (start N vs) H _ I hq) (fun fl s' hs => ?_) fun e s' hs => hs
  have fin : ∀ {σ' : St} {H' : Hp} {v : V} {u : Value}, Inv (cxOf CX P w K mg base N qual scope f cdv A outer s H E) [] σ' H' s' → RelV v u → Q v H' → CE outer P w H s Q u s' :=
    fun {σ' H' v u} J rv q => ⟨v, H', J.os, J.bare, J.base, J.hok, rv, q⟩
  cases fl with
  | ret u =>
    obtain ⟨v, σ', H', J, rv, q⟩ := hs
    exact fin J rv q
  | next =>
    obtain ⟨σ', H', J, q⟩ := hs
    exact fin (v := V.non) (u := Value.none) J rfl q
  | brk =>
    obtain ⟨_, _, _, q⟩ := hs
    exact False.elim q
  | cont =>
    obtain ⟨_, _, _, q⟩ := hs
    exact False.elim q
end L2
namespace L2
open PySem PySem.Spec PyProof.Rows
section
variable {X : Cx} {x : Str} {p pos : Pos} {e : Expr} {es : List Expr} {t : TA} {id T : String} {r : List V → Hp → VK → Prop}
def tCB (r : List V → Hp → VK → Prop) (t : TA) : TE := fun σ H Q => t σ H fun vs H1 => r vs H1 Q
theorem pe_callB (hc : CallR X (.builtin id) r) (hg : Gl X x) (hm : X.mg x = none) (hv : bootBuiltins x = some (.builtin id)) (ha : PA X (e :: es) t) (hn : x ≠ "__name__" := by decide) (hdb : (x == ("__debug__" : Str)) = false := by decide)
    (he : starEach (e :: es) X.env = (false, eval e X.env) :: starEach es X.env := by rfl) (hpl : (backTo pos (starEach es X.env)).any (·.1) = false := by rfl) : PE X (.Call (.Name x p) (e :: es) [] pos) (tCB r t) := by
  intro pins s σ H Q I h
  refine wpAny_Call_Name_kw (ld_blt I hg hm hv ?_ hn hdb)
  exact PyProof.Rows.callWith_builtin1 (thn (ha pos pins s σ H _ I h) fun us s1 ⟨vs, H1, I1, r1, q1⟩ => hc pins s1 σ H1 vs us Q I1 r1 q1) he hpl
end
end L2
namespace HT
open PySem PyProof.Rows
section
open PySem.SeqAt
open PySem.AutoSeq1 (wpAny_loadPart')
open PySem.MeetsSeq PySem.MeetsSeq2 PySem.MeetsSeq3
end
section
variable {prog : Program} {w : World} {A : Around} {E : Value → Shared → Prop} {s : Shared}
def sIx (n d : Nat) : Option Int → Nat
  | none => d
  | some v => if v < 0 then (v + (n : Int)).toNat else min v.toNat n
theorem sIx_le (n d : Nat) (hd : d ≤ n) (o : Option Int) : sIx n d o ≤ n := by
  cases o with
  | none => exact hd
  | some v =>
    show (if v < 0 then (v + (n : Int)).toNat else min v.toNat n) ≤ n
    by_cases hv : v < 0
    · rw [if_pos hv]; omega
    · rw [if_neg hv]; exact Nat.min_le_right _ _
theorem clip_eq (v : Int) (n d : Nat) : (if v < 0 then max (v + (n : Int)) 0 else min v (n : Int)) = ((sIx n d (some v) : Nat) : Int) := by
  show (if v < 0 then max (v + (n : Int)) 0 else min v (n : Int)) = (((if v < 0 then (v + (n : Int)).toNat else min v.toNat n) : Nat) : Int)
  by_cases hv : v < 0
  · simp only [if_pos hv]; omega
  · simp only [if_neg hv]; omega
theorem adjust_gen (lo hi : Option Int) (n : Nat) : Builtin.Slice.sliceAdjust lo hi 1 (n : Int) = (((sIx n 0 lo : Nat) : Int), ((sIx n n hi : Nat) : Int)) := by
  have h1 : ¬ ((1 : Int) < 0) := by omega
  unfold Builtin.Slice.sliceAdjust
  simp only [h1, if_false]
  refine Prod.ext ?_ ?_
  · cases lo with
    | none => rfl
    | some v => exact clip_eq v n 0
  · cases hi with
    | none => rfl
    | some v => exact clip_eq v n n
theorem places_gen (i j : Nat) : Builtin.Slice.slicePlaces (i : Int) (j : Int) 1 = j - i := by
  unfold Builtin.Slice.slicePlaces
  have h1 : (1 : Int) > 0 := by omega
  simp only [h1, if_true, Int.ediv_one]
  split <;> omega
theorem slicePart_ {v : Value} {o : Option Int} {Q : Option Int → Shared → Prop} (p : IsPart v o) (h : Q o s) : wpAny (model prog w) A (Builtin.Slice.slicePartIndex v) Q E s := by
  cases p with
  | none => exact slicePart_none h
  | int i t => exact slicePart_int h
theorem sliceApplied_gen {sl : Addr} {vl vu : Value} {lo hi : Option Int} {n : Nat} {Q : Int × Int × Nat → Shared → Prop} (hs : s.heap.IsSliceOf sl vl vu .none) (pl : IsPart vl lo) (pu : IsPart vu hi)
    (h : Q (((sIx n 0 lo : Nat) : Int), 1, sIx n n hi - sIx n 0 lo) s) : wpAny (model prog w) A (Builtin.Slice.sliceApplied (.ref sl) (pure (n : Int))) Q E s := by
  obtain ⟨os, hos, hcs, hds⟩ := id hs
  unfold Builtin.Slice.sliceApplied Builtin.Slice.sliceFields
  refine wpAny_bind (wpAny_bind (wpAny_field hos hds (x := vl) rfl (wpAny_bind (wpAny_field hos hds (x := vu) rfl (wpAny_bind (wpAny_field hos hds (x := .none) rfl (wpAny_pure ?_)))))))
  refine wpAny_bind (slicePart_none ?_)
  show wpAny _ _ (if ((1 : Int) == 0) = true then _ else _) _ _ s
  rw [if_neg (by decide)]
  refine wpAny_bind (slicePart_ pl (wpAny_bind (slicePart_ pu (wpAny_bind (wpAny_pure ?_)))))
  show wpAny _ _ (match Builtin.Slice.sliceAdjust lo hi 1 (n : Int) with | (lo, hi) => pure (lo, (1 : Int), Builtin.Slice.slicePlaces lo hi 1)) _ _ s
  rw [adjust_gen lo hi n]
  show wpAny _ _ (pure (((sIx n 0 lo : Nat) : Int), (1 : Int), Builtin.Slice.slicePlaces ((sIx n 0 lo : Nat) : Int) ((sIx n n hi : Nat) : Int) 1)) _ _ s
  rw [places_gen]
  exact wpAny_pure h
theorem pick_gen (xs : Array Value) (i k : Nat) : ((List.range k).filterMap fun (m : Nat) => xs[((i : Int) + (m : Int) * 1).toNat]?).toArray = ((xs.toList.drop i).take k).toArray := by
  have e : (fun (m : Nat) => xs[((i : Int) + (m : Int) * 1).toNat]?) = fun m => xs[i + m]? := by
    funext m
    have : ((i : Int) + (m : Int) * 1).toNat = i + m := by omega
    rw [this]
  rw [e]
  have := pick_run xs i k
  rw [List.filterMap_map] at this
  have e2 : ((fun x => xs[x]?) ∘ fun x => i + x) = fun m => xs[i + m]? := rfl
  rw [e2] at this
  rw [this]
theorem getItem_tuple_cut {t sl : Addr} {items : Array Value} {vl vu : Value} {lo hi : Option Int} {Q : Value → Shared → Prop} (ht : IsTup s.heap t items) (hs : s.heap.IsSliceOf sl vl vu .none) (pl : IsPart vl lo) (pu : IsPart vu hi)
    (hw : ¬ (sIx items.size 0 lo = 0 ∧ sIx items.size items.size hi = items.size))
    (h : Q (.ref s.heap.objs.size) { s with heap := s.heap.push { cls := .type "tuple", data := .seq ((items.toList.drop (sIx items.size 0 lo)).take (sIx items.size items.size hi - sIx items.size 0 lo)).toArray } })
    (hsz : items.size ≤ sizeLine) : wpAny (model prog w) A (getItem (.ref t) (.ref sl)) Q E s := by
  have htake : sizeOk (.seq ((items.toList.drop (sIx items.size 0 lo)).take (sIx items.size items.size hi - sIx items.size 0 lo)).toArray) := by
    show ((items.toList.drop (sIx items.size 0 lo)).take (sIx items.size items.size hi - sIx items.size 0 lo)).toArray.size ≤ sizeLine
    rw [List.size_toArray, List.length_take, List.length_drop, Array.length_toList]
    omega
  have hj : sIx items.size items.size hi ≤ items.size := sIx_le _ _ (Nat.le_refl _) hi
  obtain ⟨os, hos, hcs, hds⟩ := id hs
  have hTs : s.TypeIs (.ref sl) "slice" := ⟨os, hos, hcs⟩
  unfold getItem
  try with_reducible refine wpAny_holding ?_
  first | refine wpAny_bind (wpAny_pure ?_) | skip
  refine wpAny_bind (wpAny_sequenceKey ht.typeIs (by decide) ?_)
  refine wpAny_bind (wpAny_callSpecial?_slot (name := Str.ofString "__getitem__") ht.typeIs PyProof.Rows.slot_tuple_getitem
    (wpAny_call_entry PyProof.Rows.slot_tuple_getitem ht.typeIs entry_tuple_getitem ?_ (args_tuple_getitem _ _)))
  show wpAny _ _ (Builtin.Tuple.tupleItemsOf (.ref t) >>= _) _ _ s
  refine wpAny_bind (tupleItemsOf_ ht ?_)
  refine wpAny_bind (wpAny_typeOf hTs ?_)
  rw [if_pos (by decide)]
  refine wpAny_bind (sliceApplied_gen hs pl pu ?_)
  have hno : ¬ ((((sIx items.size 0 lo : Nat) : Int) == 0 && (1 : Int) == 1 && (sIx items.size items.size hi - sIx items.size 0 lo) == items.size) = true) := by
    intro q
    rw [Bool.and_eq_true, Bool.and_eq_true] at q
    have q1 : ((sIx items.size 0 lo : Nat) : Int) = 0 := eq_of_beq q.1.1
    have q2 : sIx items.size items.size hi - sIx items.size 0 lo = items.size := eq_of_beq q.2
    exact hw ⟨by omega, by omega⟩
  show wpAny _ _ (if (((sIx items.size 0 lo : Nat) : Int) == 0 && (1 : Int) == 1 && (sIx items.size items.size hi - sIx items.size 0 lo) == items.size) = true then _ else _) _ _ s
  rw [if_neg hno, pick_gen]
  first
    | exact wpAny_bind (m := Builtin.Tuple.tupleExact _) (wpAny_newObj_type (wpAny_pure ⟨_, rfl, wpAny_pure h⟩) htake)
    | exact wpAny_bind (m := Builtin.Tuple.tupleExact _) (wpAny_newObj_type (wpAny_bind (wpAny_pure (wpAny_pure ⟨_, rfl, wpAny_pure h⟩))) htake)
    | exact wpAny_bind (wpAny_bind (m := Builtin.Tuple.tupleExact _) (wpAny_newObj_type (wpAny_pure (wpAny_pure ⟨_, rfl, wpAny_pure h⟩)) htake))
    | exact wpAny_bind (wpAny_bind (m := Builtin.Tuple.tupleExact _) (wpAny_newObj_type (wpAny_pure ⟨_, rfl, wpAny_pure h⟩) htake))
end
end HT
namespace L2
open PySem PySem.Spec PyProof.Rows
abbrev TO := St → Hp → (Option Int → Hp → Prop) → Prop
def PO (X : Cx) (e : Option Expr) (t : TO) : Prop :=
  ∀ (pins : List (Addr × Obj)) (s : Shared) (σ : St) (H : Hp) (Q : Option Int → Hp → Prop), Inv X pins σ H s → t σ H Q →
    wpAny (model X.prog X.w) X.A (evalPart e X.env) (fun u s' => ∃ o H', Inv X pins σ H' s' ∧ IsPart u o ∧ Q o H') X.xe s
def tNoPart : TO := fun _ H Q => Q none H
def tPart (t : TE) : TO := fun σ H Q => t σ H fun x H1 => ∃ i, x = .int i ∧ Q (some i) H1
section
variable {X : Cx} {e : Expr} {te : TE} {lo hi : Option Expr} {tl th : TO} {pos p2 : Pos}
theorem po_none : PO X none tNoPart := by
  intro pins s σ H Q I h
  rw [evalPart_none]
  exact wpAny_pure ⟨none, H, I, .none, h⟩
theorem po_some (h : PE X e te) : PO X (some e) (tPart te) := by
  intro pins s σ H Q I hw
  rw [evalPart_some]
  refine thn (h pins s σ H _ I hw) fun u s1 ⟨x, H1, I1, r1, q1⟩ => ?_
  obtain ⟨i, rfl, q⟩ := q1
  obtain ⟨t, rfl⟩ := r1
  exact ⟨some i, H1, I1, .int i t, q⟩
def SlR (X : Cx) (r : V → Option Int → Option Int → Hp → VK → Prop) : Prop :=
  ∀ (pins : List (Addr × Obj)) (s : Shared) (σ : St) (H : Hp) (x : V) (v vl vu : Value) (lo hi : Option Int) (sl : Addr) (Q : VK), Inv X pins σ H s → RelV x v → s.heap.IsSliceOf sl vl vu .none → IsPart vl lo → IsPart vu hi → r x lo hi H Q →
    ∃ T id, typeLookup (.type T) "__getitem__" = pure (some (.builtin id)) ∧ s.TypeIs v T ∧ wpAny (model X.prog X.w) X.A (getItem v (.ref sl)) (EP X pins σ Q) X.xe s
theorem SlR.or {r r' : V → Option Int → Option Int → Hp → VK → Prop} (h : SlR X r) (h' : SlR X r') : SlR X (fun x lo hi H Q => r x lo hi H Q ∨ r' x lo hi H Q) := by
  intro pins s σ H x v vl vu lo hi sl Q I rx hs pl pu q
  rcases q with q | q
  · exact h pins s σ H x v vl vu lo hi sl Q I rx hs pl pu q
  · exact h' pins s σ H x v vl vu lo hi sl Q I rx hs pl pu q
def tSl (r : V → Option Int → Option Int → Hp → VK → Prop) (te : TE) (tl th : TO) : TE := fun σ H Q => te σ H fun x H1 => tl σ H1 fun l H2 => th σ H2 fun u H3 => r x l u H3 Q
theorem pe_slice {r : V → Option Int → Option Int → Hp → VK → Prop} (hr : SlR X r) (he : PE X e te) (hl : PO X lo tl) (hu : PO X hi th) : PE X (.Subscript e (.Slice lo hi none p2) pos) (tSl r te tl th) := by
  intro pins s σ H Q I h
  refine Subscript_ (thn (he pins s σ H _ I h) fun v s1 ⟨x, H1, I1, r1, q1⟩ => ?_)
  refine wpAny_Slice (thn (hl pins s1 σ H1 _ I1 q1) fun vl s2 ⟨l, H2, I2, pl, q2⟩ => thn (hu pins s2 σ H2 _ I2 q2) fun vu s3 ⟨u, H3, I3, pu, q3⟩ => ?_)
  rw [evalPart_none]
  refine wpAny_pure ?_
  have I4 : Inv X pins σ H3 { s3 with heap := s3.heap.push { cls := .type "slice", data := .fields #[vl, vu, .none] } } := I3.kept (t' := s3.toks) fun b ob q => Heap.get?_push_of_some _ q
  obtain ⟨T, id, hT, ht, hg⟩ := hr pins { s3 with heap := s3.heap.push { cls := .type "slice", data := .fields #[vl, vu, .none] } } σ H3 x v vl vu l u s3.heap.objs.size Q I4 r1 (Heap.IsSliceOf.new ..) pl pu q3
  show wpAny (model X.prog X.w) X.A (subscriptTail e (.Slice lo hi none p2) v (.ref s3.heap.objs.size)) (EP X pins σ Q) X.xe { s3 with heap := s3.heap.push { cls := .type "slice", data := .fields #[vl, vu, .none] } }
  exact tail_any (ops := [.ref s3.heap.objs.size, v]) ht hT hg (by with_unfolding_all rfl)
def cutV (xs : List V) (lo hi : Option Int) : List V := (xs.drop (HT.sIx xs.length 0 lo)).take (HT.sIx xs.length xs.length hi - HT.sIx xs.length 0 lo)
theorem cutV_length (xs : List V) (lo hi : Option Int) : (cutV xs lo hi).length ≤ xs.length := by
  unfold cutV
  rw [List.length_take, List.length_drop]
  omega
def rSlT (K : PySem.W.Frag) : V → Option Int → Option Int → Hp → VK → Prop := fun x lo hi H Q => ∃ a xs, x = .ref a ∧ SqT K H a xs ∧
  ¬ (HT.sIx xs.length 0 lo = 0 ∧ HT.sIx xs.length xs.length hi = xs.length) ∧ ∀ p, H p = none → Q (.ref p) (upd H p (.tup (cutV xs lo hi)))
theorem sl_tup : SlR X (rSlT X.K) := by
  intro pins s σ H x v vl vu lo hi sl Q I rx hs pl pu h
  obtain ⟨a, xs, rfl, hx, hw, q⟩ := h
  cases rx
  obtain ⟨its, r, ht, hz⟩ := I.tuple hx
  have hlen : its.toArray.size = xs.length := by rw [List.size_toArray]; exact r.length.symm
  refine ⟨"tuple", _, PyProof.Rows.slot_tuple_getitem.lookup, ht.typeIs, ?_⟩
  refine HT.getItem_tuple_cut ht hs pl pu (by rw [hlen]; exact hw) ?_ (by rw [hlen]; exact hz)
  rw [hlen]
  refine ⟨.ref s.heap.objs.size, _, I.laid (t' := s.toks) (o := .tup (cutV xs lo hi)) (fun b ob q => Heap.get?_push_of_some _ q) (Nat.le_refl _) ?_, rfl, q _ (I.hok.fresh (Nat.le_refl _))⟩
  exact ⟨Nat.le_trans (cutV_length xs lo hi) hz, _, (r.drop (HT.sIx xs.length 0 lo)).take (HT.sIx xs.length xs.length hi - HT.sIx xs.length 0 lo), IsTup.new _ _⟩
end
end L2
namespace L2
open PySem PySem.Spec PyProof.Rows
def ixN (n : Nat) (i : Int) : Option Nat := if 0 ≤ i then (if i < n then some i.toNat else none) else if -(n : Int) ≤ i then some (i + n).toNat else none
def atI {α : Type} (xs : List α) (i : Int) : Option α := (ixN xs.length i).bind fun j => xs[j]?
theorem ixN_seq {n : Nat} {i : Int} {j : Nat} (h : ixN n i = some j) : seqIndex? i n = some j ∧ j < n ∧ -(n : Int) ≤ i ∧ i < n := by
  unfold ixN at h
  by_cases h0 : 0 ≤ i
  · rw [if_pos h0] at h
    by_cases h1 : i < n
    · rw [if_pos h1] at h
      have e : i.toNat = j := Option.some.inj h
      exact ⟨by rw [seqIndex_of h0 h1, e], by omega, by omega, h1⟩
    · rw [if_neg h1] at h; cases h
  · rw [if_neg h0] at h
    by_cases h1 : -(n : Int) ≤ i
    · rw [if_pos h1] at h
      have e : (i + n).toNat = j := Option.some.inj h
      exact ⟨by rw [seqIndex_neg (by omega) h1, e], by omega, h1, by omega⟩
    · rw [if_neg h1] at h; cases h
theorem atI_get {α : Type} {xs : List α} {i : Int} {v : α} (h : atI xs i = some v) : ∃ j, seqIndex? i xs.length = some j ∧ xs[j]? = some v ∧ j < xs.length ∧ -(xs.length : Int) ≤ i ∧ i < xs.length := by
  unfold atI at h
  cases e : ixN xs.length i with
  | none => rw [e] at h; cases h
  | some j =>
    rw [e] at h
    obtain ⟨h1, h2, h3, h4⟩ := ixN_seq e
    exact ⟨j, h1, h, h2, h3, h4⟩
theorem atI_nat {α : Type} {xs : List α} {j : Nat} {v : α} (h : xs[j]? = some v) : atI xs (j : Int) = some v := by
  have hj : j < xs.length := (List.getElem?_eq_some_iff.mp h).1
  have e : ixN xs.length (j : Int) = some j := by
    unfold ixN
    rw [if_pos (by omega), if_pos (by omega)]; simp
  unfold atI; rw [e]; exact h
def PlainIx (b : Expr) : Prop := ∀ o i, subscripted b false o i = operate [o, i] (getItem o i)
def IxR (X : Cx) (r : R2) : Prop :=
  ∀ (value slice : Expr) (pins : List (Addr × Obj)) (s : Shared) (σ : St) (H : Hp) (x y : V) (v u : Value) (Q : VK), Inv X pins σ H s → RelV x v → RelV y u → r x y H Q →
    subscripted slice false v u = operate [v, u] (getItem v u) → wpAny (model X.prog X.w) X.A (subscriptTail value slice v u) (EP X pins σ Q) X.xe s
def MtR (X : Cx) (id : String) (r : V → List V → Hp → VK → Prop) : Prop :=
  ∀ (pins : List (Addr × Obj)) (s : Shared) (σ : St) (H : Hp) (x : V) (xs : List V) (v : Value) (us : List Value) (Q : VK), Inv X pins σ H s → RelV x v → Vals xs us → r x xs H Q →
    wpAny (model X.prog X.w) X.A (call (.builtin id) (v :: us)) (EP X pins σ Q) X.xe s
section
variable {X : Cx} {a b : Expr} {ta tb : TE} {pos : Pos}
theorem IxR.or {r r' : R2} (h : IxR X r) (h' : IxR X r') : IxR X (fun x y H Q => r x y H Q ∨ r' x y H Q) := by
  intro value slice pins s σ H x y v u Q I rx ry q hs
  rcases q with q | q
  · exact h value slice pins s σ H x y v u Q I rx ry q hs
  · exact h' value slice pins s σ H x y v u Q I rx ry q hs
theorem pe_ix {r : R2} (hr : IxR X r) (ha : PE X a ta) (hb : PE X b tb) (hs : PlainIx b) : PE X (.Subscript a b pos) (tOp r ta tb) := by
  intro pins s σ H Q I h
  exact Subscript_ (binT ha hb I h fun v u s2 x y H2 I2 rx ry q => hr a b pins s2 σ H2 x y v u Q I2 rx ry q (hs _ _))
def rIxL (K : PySem.W.Frag) : R2 := fun x y H Q => ∃ p xs i v, x = .ref p ∧ y = .int i ∧ SqL K H p xs ∧ atI xs i = some v ∧ Q v H
def rIxT (K : PySem.W.Frag) : R2 := fun x y H Q => ∃ p xs i v, x = .ref p ∧ y = .int i ∧ SqT K H p xs ∧ atI xs i = some v ∧ Q v H
theorem ix_list : IxR X (rIxL X.K) := by
  intro value slice pins s σ H x y v u Q I rx ry h hs
  obtain ⟨p, xs, i, z, rfl, rfl, hq, he, q⟩ := h
  cases rx
  obtain ⟨t, rfl⟩ := ry
  obtain ⟨its, r, pl, hz⟩ := I.list hq
  obtain ⟨j, h1, h2, h3, h4, h5⟩ := atI_get he
  obtain ⟨w, ew, rw'⟩ := r.get h2
  have hl := r.length
  have hn := line63
  have fin : EP X pins σ Q w s := ⟨z, H, I, rw', q⟩
  by_cases h0 : 0 ≤ i
  · have hj : i.toNat = j := by
      rw [seqIndex_of h0 h5] at h1
      exact Option.some.inj h1
    exact item_listR pl.isList h0 (by omega) (by rw [hj]; simpa using ew) fin hs
  · have hj : (i + (its.toArray.size : Int)).toNat = j := by
      rw [seqIndex_neg (by omega) h4] at h1
      rw [List.size_toArray, ← hl]
      exact Option.some.inj h1
    exact subscriptTail_builtinR (x := w) pl.isList.typeIs slot_list_getitem.lookup
      (wpAny_getItem_list_neg (Q := fun r s' => r = w ∧ EP X pins σ Q r s') pl.isList (by omega) (by rw [List.size_toArray] <;> omega) (by omega) (by rw [hj]; simpa using ew) ⟨rfl, fin⟩) hs
theorem ix_tup : IxR X (rIxT X.K) := by
  intro value slice pins s σ H x y v u Q I rx ry h hs
  obtain ⟨p, xs, i, z, rfl, rfl, hq, he, q⟩ := h
  cases rx
  obtain ⟨t, rfl⟩ := ry
  obtain ⟨its, r, pl, hz⟩ := I.tuple hq
  obtain ⟨j, h1, h2, h3, h4, h5⟩ := atI_get he
  obtain ⟨w, ew, rw'⟩ := r.get h2
  have hl := r.length
  have hn := line63
  have fin : EP X pins σ Q w s := ⟨z, H, I, rw', q⟩
  exact subscriptTail_builtinR (x := w) pl.typeIs slot_tuple_getitem.lookup
    (getItem_tuple (j := j) (Q := fun r s' => r = w ∧ EP X pins σ Q r s') pl (by omega) (by omega) (by rw [List.size_toArray, ← hl]; exact h1) (by simpa using ew) ⟨rfl, fin⟩) hs
theorem Inv.lst {pins : List (Addr × Obj)} {σ : St} {H : Hp} {s : Shared} {p : Addr} {xs : List V} (I : Inv X pins σ H s) (h : H p = some (.lst xs)) :
    ∃ (its : List Value) (n : Nat), Vals xs its ∧ s.heap.get? p = some { cls := .type "list", data := .seq its.toArray n } ∧ xs.length ≤ sizeLine := by
  obtain ⟨z, its, n, r, e⟩ := I.hok p _ h
  exact ⟨its, n, r, e, z⟩
theorem slice_bounds (lo hi : Option Int) (n : Nat) : (sliceBounds lo hi none n).1 = ((HT.sIx n 0 lo : Nat) : Int) ∧ (sliceBounds lo hi none n).2.1 = ((HT.sIx n n hi : Nat) : Int) ∧ (sliceBounds lo hi none n).2.2 = 1 := by
  refine ⟨?_, ?_, rfl⟩
  · cases lo with
    | none => simp [sliceBounds, HT.sIx]
    | some i =>
      simp only [sliceBounds, HT.sIx, Option.getD_none, show (1 : Int) > 0 by decide, if_true]
      by_cases h : i < 0
      · simp only [h, if_true] <;> omega
      · simp only [h, if_false] <;> omega
  · cases hi with
    | none => simp [sliceBounds, HT.sIx]
    | some i =>
      simp only [sliceBounds, HT.sIx, Option.getD_none, show (1 : Int) > 0 by decide, if_true]
      by_cases h : i < 0
      · simp only [h, if_true] <;> omega
      · simp only [h, if_false] <;> omega
theorem slicePick_cut (its : List Value) (lo hi : Option Int) : slicePick its.toArray lo hi none = ((its.drop (HT.sIx its.length 0 lo)).take (HT.sIx its.length its.length hi - HT.sIx its.length 0 lo)).toArray := by
  obtain ⟨h1, h2, h3⟩ := slice_bounds lo hi its.toArray.size
  unfold slicePick
  rw [h1, h2, h3]
  simp only [sliceRange_one, pick_run, List.size_toArray] <;> rfl
def rSlL (K : PySem.W.Frag) : V → Option Int → Option Int → Hp → VK → Prop := fun x lo hi H Q => ∃ a xs, x = .ref a ∧ SqL K H a xs ∧ ∀ p, H p = none → Q (.ref p) (upd H p (.lst (cutV xs lo hi)))
theorem sl_list : SlR X (rSlL X.K) := by
  intro pins s σ H x v vl vu lo hi sl Q I rx hs pl pu h
  obtain ⟨a, xs, rfl, hx, q⟩ := h
  cases rx
  obtain ⟨its, r, ht, hz⟩ := I.list hx
  have hlen := r.length
  refine ⟨"list", _, slot_list_getitem.lookup, ht.isList.typeIs, ?_⟩
  refine wpAny_getItem_list_slice ht.isList hs pl pu .none (by simp) ?_ (by rw [List.size_toArray] <;> omega)
  rw [slicePick_cut, ← hlen]
  refine ⟨.ref s.heap.objs.size, _, I.laid (t' := s.toks) (o := .lst (cutV xs lo hi)) (fun b ob q => Heap.get?_push_of_some _ q) (Nat.le_refl _) ?_, rfl, q _ (I.hok.fresh (Nat.le_refl _))⟩
  exact ⟨Nat.le_trans (cutV_length xs lo hi) hz, _, 0, (r.drop (HT.sIx xs.length 0 lo)).take (HT.sIx xs.length xs.length hi - HT.sIx xs.length 0 lo), Heap.get?_push_size _ rfl⟩
def flatV : V → Bool
  | .non => true
  | .bl _ => true
  | .int _ => true
  | .str _ => true
  | _ => false
def eqV : V → V → Bool
  | .non, .non => true
  | .bl a, .bl b => a == b
  | .bl a, .int b => (if a then 1 else 0) == b
  | .int a, .bl b => a == (if b then 1 else 0)
  | .int a, .int b => a == b
  | .str a, .str b => a == b
  | _, _ => false
theorem eqAt_V {A : Around} {s : Shared} {y x : V} {u v : Value} (ry : RelV y u) (rx : RelV x v) (fy : flatV y = true) (fx : flatV x = true) : SeqAt.EqAt A s u v (eqV y x) := by
  cases y with
  | non =>
    cases ry
    cases x with
    | non => cases rx; exact SeqAt.EqAt.same _
    | bl b => cases rx; exact SeqAt.EqAt.none_bool b
    | int b => obtain ⟨t, rfl⟩ := rx; exact SeqAt.EqAt.none_int b t
    | str b => obtain ⟨t, rfl⟩ := rx; exact SeqAt.EqAt.none_str b t
    | _ => exact absurd (show false = true from fx) Bool.false_ne_true
  | bl a =>
    cases ry
    cases x with
    | non => cases rx; exact SeqAt.EqAt.bool_none a
    | bl b => cases rx; exact SeqAt.EqAt.bool_bool a b
    | int b => obtain ⟨t, rfl⟩ := rx; exact SeqAt.EqAt.bool_int a b t
    | str b => obtain ⟨t, rfl⟩ := rx; exact SeqAt.EqAt.bool_str a b t
    | _ => exact absurd (show false = true from fx) Bool.false_ne_true
  | int a =>
    obtain ⟨t', rfl⟩ := ry
    cases x with
    | non => cases rx; exact SeqAt.EqAt.int_none a t'
    | bl b => cases rx; exact SeqAt.EqAt.int_bool a t' b
    | int b => obtain ⟨t, rfl⟩ := rx; exact SeqAt.EqAt.int_int a t' b t
    | str b => obtain ⟨t, rfl⟩ := rx; exact SeqAt.EqAt.int_str a t' b t
    | _ => exact absurd (show false = true from fx) Bool.false_ne_true
  | str a =>
    obtain ⟨t', rfl⟩ := ry
    cases x with
    | non => cases rx; exact SeqAt.EqAt.str_none a t'
    | bl b => cases rx; exact SeqAt.EqAt.str_bool a t' b
    | int b => obtain ⟨t, rfl⟩ := rx; exact SeqAt.EqAt.str_int a t' b t
    | str b => obtain ⟨t, rfl⟩ := rx; exact SeqAt.EqAt.str_str a t' b t
    | _ => exact absurd (show false = true from fx) Bool.false_ne_true
  | _ => exact absurd (show false = true from fy) Bool.false_ne_true
theorem call_len_seq : CallR X (.builtin "len") (fun xs H Q => ∃ p ys, xs = [.ref p] ∧ (SqL X.K H p ys ∨ SqT X.K H p ys) ∧ Q (.int ys.length) H) := by
  intro pins s σ H xs us Q I r h
  obtain ⟨p, ys, rfl, hq, q⟩ := h
  obtain ⟨u, rfl, rx⟩ := vals1 r
  cases rx
  have hn := line63
  rcases hq with hq | hq
  · obtain ⟨its, r', pl, hz⟩ := I.list hq
    have hlen := r'.length
    exact Calls.call_len_list pl.isList (by simp only [List.size_toArray] <;> omega) ⟨.int ys.length, H, I.tok _, ⟨s.toks + 1, by rw [List.size_toArray, hlen]⟩, q⟩
  · obtain ⟨its, r', pl, hz⟩ := I.tuple hq
    have hlen := r'.length
    exact len_tuple pl (by simp only [List.size_toArray] <;> omega) ⟨.int ys.length, H, I.tok _, ⟨s.toks + 1, by rw [List.size_toArray, hlen]⟩, q⟩
def tyV (K : PySem.W.Frag) (T : String) (x : V) (H : Hp) : Prop := match x with
  | .str _ => T = "str"
  | .int _ => T = "int"
  | .ref p => (T = "list" ∧ ∃ xs, SqL K H p xs) ∨ (T = "tuple" ∧ ∃ o, K.lookup p = some o ∧ o.cls = .type "tuple" ∧ o.dict = none) ∨
      (T = "dict" ∧ ((∃ kvs, H p = some (.dK kvs)) ∨ ∃ kvs, H p = some (.dT kvs))) ∨ (T = "set" ∧ ∃ S n, H p = some (.set S n))
  | _ => False
theorem tyV_is {pins : List (Addr × Obj)} {σ : St} {H : Hp} {s : Shared} {T : String} {x : V} {v : Value} (I : Inv X pins σ H s) (r : RelV x v) (ty : tyV X.K T x H) :
    s.TypeIs v T ∧ ∀ a, v = .ref a → ∃ ob, s.heap.get? a = some ob ∧ ob.dict = none := by
  cases x with
  | str z =>
    obtain ⟨t, rfl⟩ := r
    cases (show T = "str" from ty)
    exact ⟨typeIs_str s z t, fun _ e => nomatch e⟩
  | int i =>
    obtain ⟨t, rfl⟩ := r
    cases (show T = "int" from ty)
    exact ⟨typeIs_int s i t, fun _ e => nomatch e⟩
  | ref p =>
    cases r
    rcases ty with ⟨rfl, xs, hq⟩ | ⟨rfl, o, hk, hc, hd⟩ | ⟨rfl, hk⟩ | ⟨rfl, S, n, hk⟩
    · obtain ⟨its, _, pl, _⟩ := I.list hq
      refine ⟨pl.isList.typeIs, fun a e => ?_⟩
      cases e
      obtain ⟨o, n, e, c, hd, _⟩ := pl
      exact ⟨o, e, hd⟩
    · refine ⟨⟨o, I.kIn p o hk, hc⟩, fun a e => ?_⟩
      cases e
      exact ⟨o, I.kIn _ o hk, hd⟩
    · have z : ∃ o, s.heap.get? p = some o ∧ o.ExactDict := by
        rcases hk with ⟨kvs, hk⟩ | ⟨kvs, hk⟩
        · obtain ⟨_, _, _, _, o, _, _, e, ex, _⟩ := I.hok p _ hk
          exact ⟨o, e, ex⟩
        · obtain ⟨_, _, _, _, o, _, _, e, ex, _⟩ := I.hok p _ hk
          exact ⟨o, e, ex⟩
      obtain ⟨o, e, ex⟩ := z
      refine ⟨⟨o, e, ex.1⟩, fun a e2 => ?_⟩
      cases e2
      exact ⟨o, e, ex.2.1⟩
    · obtain ⟨o, _, _, _, e, ex, _⟩ := I.hok p _ hk
      refine ⟨⟨o, e, ex.1⟩, fun a e2 => ?_⟩
      cases e2
      exact ⟨o, e, ex.2.1⟩
  | _ => exact False.elim ty
def tBM (K : PySem.W.Frag) (T : String) (r : V → List V → Hp → VK → Prop) (to : TE) (t : TA) : TE := fun σ H Q => to σ H fun x H1 => tyV K T x H1 ∧ t σ H1 fun xs H2 => r x xs H2 Q
variable {o e : Expr} {es : List Expr} {to : TE} {t : TA} {name : Str} {apos cpos : Pos} {T id : String} {r : V → List V → Hp → VK → Prop}
theorem pe_bm (pa : PlainAttrs T) (slot : Slot T name id) (hty : typeOf (.builtin id) = pure (.type "method_descriptor")) (hm : MtR X id r) (ho : PE X o to) (ha : PA X (e :: es) t)
    (hbase : attributeBase o name X.env (eval o X.env) = eval o X.env := by rfl)
    (hfew : ((backTo cpos (starEach (e :: es) X.env)).all (fun x => !x.1) && (backToKw cpos (keywordEach [] X.env)).all (fun x => x.1.isSome)
      && decide ((e :: es).length + ([] : List Keyword).length + (if ([] : List Keyword).isEmpty then 0 else 1) < 30)) = true := by rfl)
    (hline : (apos.endLine == cpos.line) = true := by rfl) (hs : starEach (e :: es) X.env = (false, eval e X.env) :: starEach es X.env := by rfl) (hplain : (backTo cpos (starEach es X.env)).any (·.1) = false := by rfl) :
    PE X (.Call (.Attribute o name apos) (e :: es) [] cpos) (tBM X.K T r to t) := by
  intro pins s σ H Q I h
  refine wpAny_Call_method_late hbase hfew hline rfl (thn (ho pins s σ H _ I h) fun v s1 ⟨x, H1, I1, r1, ty, q1⟩ => ?_)
  obtain ⟨h1, h2⟩ := tyV_is I1 r1 ty
  refine ⟨T, id, pa, slot, hty, h1, h2, ?_⟩
  have hA := ha cpos pins s1 σ H1 _ I1 q1
  rw [hs] at hA ⊢
  refine Calls.callWith_builtin (by show (false || (backTo cpos (starEach es X.env)).any (·.1)) = false; rw [hplain] <;> rfl) (Calls.evalArgs_plain ?_)
  exact thn hA fun us s2 ⟨vs, H2, I2, r2, q2⟩ => hm pins s2 σ H2 x vs v us Q I2 r1 r2 q2
/- xs.append(e), list.index on a module's tuple .. are MtR facts of 06m -/
end
end L2
namespace L2
open PySem PySem.Spec PyProof.Rows
def MtM (X : Cx) (id : String) (r : V → List V → Hp → VK → Prop) : Prop :=
  ∀ (pins : List (Addr × Obj)) (s : Shared) (σ : St) (H : Hp) (x : V) (xs : List V) (v : Value) (us : List Value) (Q : VK), Inv X pins σ H s → RelV x v → Vals xs us → r x xs H Q →
    wpAny (model X.prog X.w) X.A (call (.builtin id) (v :: us)) (EP X pins σ Q) X.xe s
theorem Vals.one : ∀ {x : V} {us : List Value}, Vals [x] us → ∃ u, us = [u] ∧ RelV x u
  | _, _, .cons r .nil => ⟨_, rfl, r⟩
theorem Vals.eraseIdx : ∀ {xs : List V} {us : List Value} (i : Nat), Vals xs us → Vals (xs.eraseIdx i) (us.eraseIdx i)
  | _, _, _, .nil => .nil
  | _, _, 0, .cons _ t => t
  | _, _, i + 1, .cons r t => .cons r (Vals.eraseIdx i t)
theorem Vals.rep {xs : List V} {us : List Value} (h : Vals xs us) : ∀ k : Nat, Vals (List.replicate k xs).flatten (List.replicate k us).flatten
  | 0 => .nil
  | k + 1 => by
    rw [List.replicate_succ, List.replicate_succ, List.flatten_cons, List.flatten_cons]
    exact Vals.append h (Vals.rep h k)
theorem len_erase {α : Type} : ∀ (l : List α) (i : Nat), (l.eraseIdx i).length ≤ l.length
  | [], _ => Nat.le_refl _
  | _ :: _, 0 => Nat.le_succ _
  | _ :: r, i + 1 => Nat.succ_le_succ (len_erase r i)
theorem foldl_rep (its : List Value) : ∀ (k : Nat) (acc : List Value),
    List.foldl (fun x1 x2 => x1 ++ x2) acc.toArray (List.replicate k its.toArray) = (acc ++ (List.replicate k its).flatten).toArray
  | 0, acc => by simp
  | k + 1, acc => by
    have e : acc.toArray ++ its.toArray = (acc ++ its).toArray := by simp
    have e2 : (acc ++ its) ++ (List.replicate k its).flatten = acc ++ (List.replicate (k + 1) its).flatten := by
      rw [List.replicate_succ, List.flatten_cons, List.append_assoc]
    rw [← e2, ← foldl_rep its k (acc ++ its), ← e, List.replicate_succ, List.foldl_cons]
section
variable {X : Cx} {pins : List (Addr × Obj)} {σ : St} {H : Hp} {s : Shared} {l b : Addr} {xs ys zs : List V}
theorem Inv.lset {its its' : List Value} {n : Nat} {f : Array Value → Array Value} {t' : Nat} (I : Inv X pins σ H s) (hH : H l = some (.lst xs))
    (e : s.heap.get? l = some { cls := .type "list", data := .seq its.toArray n }) (hf : f its.toArray = its'.toArray) (hv : Vals ys its') (hz : ys.length ≤ sizeLine) :
    Inv X pins σ (upd H l (.lst ys)) { s with heap := s.heap.update l (Obj.mapSeq f), toks := t' } := by
  have q := PySem.IsL.update e f
  rw [hf] at q
  refine I.write (x := l) (e := l) (by rw [hH]; exact trivial) (.inl rfl) (fun b' u hb hu => (Heap.get?_update_other s.heap (Obj.mapSeq f) (Ne.symm hb)).trans hu) ⟨_, q⟩ ?_
  exact ⟨hz, its', _, hv, q⟩
theorem Inv.lnew {its : List Value} {t' : Nat} (I : Inv X pins σ H s) (hv : Vals ys its) (hz : ys.length ≤ sizeLine) :
    Inv X pins σ (upd H s.heap.objs.size (.lst ys)) { s with heap := s.heap.push { cls := .type "list", data := .seq its.toArray }, toks := t' } :=
  I.laid (fun _ _ q => Heap.get?_push_of_some _ q) (Nat.le_refl _) ⟨hz, its, 0, hv, Heap.get?_push_size _ rfl⟩
theorem Inv.fresh (I : Inv X pins σ H s) : H s.heap.objs.size = none := I.hok.fresh (Nat.le_refl _)
theorem Inv.lstM (I : Inv X pins σ H s) (hH : H l = some (.lst xs)) : xs.length ≤ sizeLine ∧ ∃ (its : List Value) (n : Nat), Vals xs its ∧ xs.length = its.length ∧ s.heap.get? l = some { cls := .type "list", data := .seq its.toArray n } := by
  obtain ⟨z, its, n, r, e⟩ := I.hok l _ hH
  exact ⟨z, its, n, r, r.length, e⟩
theorem notLongL {n : Nat} (h : n ≤ sizeLine) : Builtin.List.listTooLong n = false := by
  unfold Builtin.List.listTooLong
  exact decide_eq_false (by omega)
end
section
variable {X : Cx}
def rAppend : V → List V → Hp → VK → Prop := fun x vs H Q => ∃ l xs y, x = .ref l ∧ vs = [y] ∧ H l = some (.lst xs) ∧ xs.length < sizeLine ∧ Q .non (upd H l (.lst (xs ++ [y])))
theorem mt_append : MtM X "list.append" rAppend := by
  intro pins s σ H x vs v us Q I rx rv h
  obtain ⟨l, xs, y, rfl, rfl, hH, hz, q⟩ := h
  cases rx
  obtain ⟨u, rfl, ru⟩ := rv.one
  obtain ⟨z, its, n, r, hl, e⟩ := I.lstM hH
  refine call_meets F.slot_list_append ⟨_, e, rfl⟩ F.entry_list_append (F.args_list_append_2 _ _) (PySem.list_append l its.toArray n u (by rw [List.size_toArray]; omega)) ⟨e, ?_⟩
  refine ⟨.non, _, I.lset (its' := its ++ [u]) hH e (by simp) (r.append (.cons ru .nil)) ?_, rfl, q⟩
  rw [List.length_append, List.length_singleton]
  omega
def rPopAt : V → List V → Hp → VK → Prop := fun x vs H Q => ∃ l xs i k y, x = .ref l ∧ vs = [.int i] ∧ H l = some (.lst xs) ∧ -(2 ^ 63) ≤ i ∧ i < 2 ^ 63 ∧ seqIndex? i xs.length = some k ∧ xs[k]? = some y ∧ Q y (upd H l (.lst (xs.eraseIdx k)))
theorem mt_popAt : MtM X "list.pop" rPopAt := by
  intro pins s σ H x vs v us Q I rx rv h
  obtain ⟨l, xs, i, k, y, rfl, rfl, hH, h1, h2, hk, hy, q⟩ := h
  cases rx
  obtain ⟨u, rfl, ru⟩ := rv.one
  obtain ⟨t, rfl⟩ := ru
  obtain ⟨z, its, n, r, hl, e⟩ := I.lstM hH
  obtain ⟨w, hw, rw'⟩ := r.get hy
  refine call_meets F.slot_list_pop ⟨_, e, rfl⟩ F.entry_list_pop (F.args_list_pop_2 _ _)
    (MeetsSeq.list_pop_at l its.toArray n i t k w (fitsIndex_both h1 h2) (by rw [List.size_toArray, ← hl]; exact hk) (by rw [← Array.getElem?_toList]; exact hw) (by rw [List.size_toArray]; omega)) ⟨e, ?_⟩
  refine ⟨y, _, I.lset (its' := its.eraseIdx k) hH e ?_ (r.eraseIdx k) ?_, rw', q⟩
  · show its.toArray.eraseIdxIfInBounds k = (its.eraseIdx k).toArray
    rw [List.eraseIdxIfInBounds_toArray]
  · have := len_erase xs k
    omega
def rCat : R2 := fun x y H Q => ∃ l b xs zs, x = .ref l ∧ y = .ref b ∧ H l = some (.lst xs) ∧ H b = some (.lst zs) ∧ xs.length + zs.length ≤ sizeLine ∧ ∀ p, H p = none → Q (.ref p) (upd H p (.lst (xs ++ zs)))
theorem op_cat : OpR X (binaryOp .Add) rCat := by
  intro pins s σ H x y v u Q I rx ry h
  obtain ⟨l, b, xs, zs, rfl, rfl, hH, hB, hz, q⟩ := h
  cases rx
  cases ry
  obtain ⟨z, its, n, r, hl, e⟩ := I.lstM hH
  obtain ⟨z2, its2, n2, r2, hl2, e2⟩ := I.lstM hB
  refine PySem.P.add_list e e2 ?_ (by rw [List.size_toArray, List.size_toArray]; omega)
  have ea : its.toArray ++ its2.toArray = (its ++ its2).toArray := by simp
  rw [ea]
  exact ⟨.ref _, _, I.lnew (t' := s.toks) (r.append r2) (by rw [List.length_append]; omega), rfl, q _ I.fresh⟩
def rRep : R2 := fun x y H Q => ∃ l k xs, x = .ref l ∧ y = .int k ∧ H l = some (.lst xs) ∧ -(2 ^ 63) ≤ k ∧ k < 2 ^ 63 ∧ xs.length * k.toNat ≤ sizeLine ∧
  ∀ p, H p = none → Q (.ref p) (upd H p (.lst (List.replicate k.toNat xs).flatten))
theorem len_rep {α : Type} (xs : List α) (k : Nat) : (List.replicate k xs).flatten.length = k * xs.length := by
  induction k with
  | zero => simp
  | succ k ih => rw [List.replicate_succ, List.flatten_cons, List.length_append, ih, Nat.succ_mul, Nat.add_comm]
theorem op_rep : OpR X (binaryOp .Mult) rRep := by
  intro pins s σ H x y v u Q I rx ry h
  obtain ⟨l, k, xs, rfl, rfl, hH, h1, h2, hz, q⟩ := h
  cases rx
  obtain ⟨t, rfl⟩ := ry
  obtain ⟨z, its, n, r, hl, e⟩ := I.lstM hH
  have hlen : its.toArray.size * k.toNat ≤ sizeLine := by rw [List.size_toArray, ← hl]; exact hz
  have hcap : ¬ its.toArray.size * k.toNat > (2 ^ 63 - 1) / 8 := by
    have : (sizeLine : Nat) ≤ (2 ^ 63 - 1) / 8 := by decide
    omega
  have hfit : ¬ (!Builtin.List.listFitsIndex k) = true := by
    rw [fitsIndex_both h1 h2]
    exact Bool.false_ne_true
  have hlong : ¬ Builtin.List.listTooLong (its.toArray.size * k.toNat) = true := by
    rw [notLongL hlen]
    exact Bool.false_ne_true
  have hnew : List.foldl (fun x1 x2 => x1 ++ x2) #[] (List.replicate (if its.toArray.isEmpty = true then 0 else k.toNat) its.toArray) = (List.replicate k.toNat its).flatten.toArray := by
    have f0 : ∀ m : Nat, List.foldl (fun x1 x2 => x1 ++ x2) #[] (List.replicate m its.toArray) = (List.replicate m its).flatten.toArray := fun m => by
      have := foldl_rep its m []
      rw [List.nil_append] at this
      exact this
    rw [f0]
    cases its with
    | nil => simp
    | cons a r' => rw [if_neg (by simp)]
  refine wpAny_binaryOp_repeat_ref (T := "list") (U := "int") (by decide) ⟨_, e, rfl⟩ (fun s' => typeIs_int s' k t) noFill_list_mul F.fills_int_mul F.slot_int_rmul repeat_list F.slot_int_index.lookup
    (call_meets F.slot_int_rmul (typeIs_int s k t) F.entry_int_rmul (F.args_int_rmul_2 _ _) (int___rmul___int_list k t l its.toArray n)
      ⟨e, rfl, ⟨_, e, rfl⟩, call_meets F.slot_list_mul ⟨_, e, rfl⟩ F.entry_list_mul (F.args_list_mul_2 _ _) (AutoListH.list___mul___list_int_3 l its.toArray n k t hfit hcap hlong) ⟨e, ?_⟩⟩)
  rw [hnew]
  exact ⟨.ref _, _, I.lnew (t' := s.toks) (r.rep k.toNat) (by rw [len_rep, Nat.mul_comm]; exact hz), rfl, q _ I.fresh⟩
end
section
variable {prog : Program} {w : World} {A : Around} {E : Value → Shared → Prop} {s : Shared}
end
section
variable {X : Cx}
end
end L2
namespace Att
open PySem PySem.W PySem.Calls PyProof.Rows
theorem ints_of_wellAll {P : Params} {h : Heap} : ∀ (ns : List Int) (vs : List Value), WellAll P h vs (ns.map WData.int) → IntsAre vs ns := by
  intro ns
  induction ns with
  | nil =>
    intro vs w
    rw [List.map_nil] at w
    cases w
    exact .nil
  | cons n ns ih =>
    intro vs w
    rw [List.map_cons] at w
    cases w with
    | cons a b =>
      cases a
      exact .cons _ _ (ih _ b)
theorem script_of {l : OpenLaw} {n : Nat} (hn : l.most = some n) {P : Params} {h : Heap} {args : List WData} {vals : List Value}
    (hpre : l.row.toRowW.claim.pre args = true) (hwl : WellAll P h vals args) :
    ∃ a vs ns, vals = [Value.ref a] ∧ args = [WData.list (ns.map WData.int)] ∧ h.get? a = some { cls := .type "list", data := .seq vs.toArray } ∧ IntsAre vs ns ∧ ns.length ≤ n := by
  have hsh : WShape.hasAll [] args [.list .int] = true := (pre_splitW hpre).1
  have hc : l.pre.holds [] { args := args } = true := (pre_splitW hpre).2
  obtain ⟨d, r, rfl, h1, h2⟩ := hasAllW_cons hsh
  obtain rfl := hasAllW_nil h2
  obtain ⟨xs, rfl, h3⟩ := hasW_list h1
  obtain ⟨ns, rfl⟩ := items_int h3
  have hlen : ns.length ≤ n := by
    unfold OpenLaw.pre at hc
    have h4 : (WTm.not (.lt (.lit (.int (n : Int))) (.len (.arg 0)))).holds [] { args := [.list (ns.map .int)] } = true := by
      have h4 := (holds_andW hc).1
      rw [hn] at h4
      exact h4
    have h5 := condW_of h4 (w_not (w_lt w_lit (w_len_list (w_arg rfl))))
    rw [List.length_map] at h5
    refine Nat.le_of_not_lt fun q => ?_
    have q' : (n : Int) < ((ns.length : Nat) : Int) := by omega
    first
      | (rw [decide_eq_true q'] at h5; exact absurd h5 (by decide))
      | (simp at h5; omega)
  cases hwl with
  | cons w1 w2 =>
    cases w2
    cases w1 with
    | list ho hall => exact ⟨_, _, ns, rfl, rfl, ho, ints_of_wellAll ns _ hall, hlen⟩
theorem post_true (l : OpenLaw) (args : List WData) : l.row.toRowW.claim.post args (.bool true) args = true :=
  postW_of (r := l.row.toRowW) (X := (true == true))
    (show WShape.has [] (.bool true) .bool = true by first | rfl | decide | simp [WShape.has, WShape.arms, WShape.armsAll])
    (show (WTm.eq .res (.lit (.bool true))).value [] { args := args, res := some (.bool true), after := args } = some (.bool (true == true)) from w_eq_bool (w_res rfl) w_lit) rfl
theorem attach {l : OpenLaw} {n : Nat} {q : Program} {loose : List Str} {XP : (Str → Option Value) → Heap → Prop} {YP : World → Heap → Prop} {d : DefRec} {x : Str}
    (hn : l.most = some n) (hdf : d.params.defaults = [])
    (hbind : ∀ pm cd doc v : Value, bindArgs (docDef d.name d.params d.body d.scope pm cd doc) ⟨[v], []⟩ = pure [(x, v)])
    (hx : d.scope.names.lookup x = some .local ∨ d.scope.names.lookup x = some .cell)
    (hk : d.scope.kind = .function) (hco : d.scope.isCoroutine = false) (hgen : d.scope.isGenerator = false)
    (body : ∀ (w : World) (s₀ s₁ s : Shared) (mg mb : Str → Option Value) (fa : Addr) (o : Obj) (pm cd doc : Value) (a : Addr) (vs : List Value) (ns : List Int),
      Ground q loose [] XP w s₀ mg mb s₁.heap → YP w s₁.heap →
      s₁.heap.get? fa = some o → o.data = .func (docDef d.name d.params d.body d.scope pm cd doc) → s₁.heap.CodeRec cd d.name → mg d.name = some (.ref fa) →
      s₁.heap.get? a = some { cls := .type "list", data := .seq vs.toArray } → IntsAre vs ns → ns.length ≤ n →
      s.gens = #[] → s.os = s₁.os →
      Fr s₁.heap s₁.heap.objs.size s.heap (bindL (envOfC d.name d.scope s₁.heap.objs.size fa cd).kindOf [(x, .ref a)] fun _ => none) →
      Cl s₁.heap.objs.size (cellsFrom (s₁.heap.objs.size + 1) d.scope.names []) s.heap (bindC (envOfC d.name d.scope s₁.heap.objs.size fa cd).kindOf [(x, .ref a)] fun _ => none) →
      wpAny (model l.prog w) (callerA.deeper (envOfC d.name d.scope s₁.heap.objs.size fa cd)) (execs d.body (envOfC d.name d.scope s₁.heap.objs.size fa cd))
        (fun f s' => f = .ret (.bool true) ∧ OldK s₁.heap s'.heap ∧ s'.os = s₁.os ∧ AllBare s'.gens) (fun _ _ => False) s) :
    WalkO q loose XP YP l.row.toRowW d [] (fun f vs => PySem.call f vs) := by
  intro w s₀ s₁ mg mb G Y fa o pm cd doc dV kV ho hd hcd hD hmg hg args vals as hpre hlay hrd hwl hlo
  obtain rfl : dV = .none := Dflts.none hD hdf
  obtain rfl : kV = .none := Dflts.noKw hD
  obtain ⟨a, vs, ns, rfl, rfl, hobj, hints, hlen⟩ := script_of hn hpre hwl
  refine enter_call ?_
  refine call_cells_ret (o := o) (by rw [depth_caller]; decide) ho (fd_plain hd) G.T.nolimit hcd (hbind pm cd doc (.ref a)) (fun y hy => ?_) (fun h₁ tk F X => ?_) hco hgen hk
  · obtain rfl : y = (x, Value.ref a) := List.mem_singleton.mp hy
    rcases hx with e | e
    · exact .inl e
    · exact .inr ⟨e, cellsFrom_some _ _ _ (.inl e)⟩
  · refine wpAny_mono (body w s₀ s₁ { s₁ with heap := h₁, toks := tk } mg mb fa o pm cd doc a vs ns G Y ho (fd_plain hd) hcd hmg hobj hints hlen hg rfl F X) (fun f s' hq => ?_) (fun _ _ hq => hq)
    obtain ⟨rfl, h2, h3, h4⟩ := hq
    exact ⟨.inl ⟨.bool true, .bool true, [], rfl, fun _ => rfl, .bool true, post_true l _, fun _ => ⟨List.Pairwise.nil, fun _ hm => (nomatch hm)⟩⟩, h2, h3, h4⟩
theorem attach_call {l : OpenLaw} {n : Nat} {q : Program} {loose : List Str} {XP : (Str → Option Value) → Heap → Prop} {YP : World → Heap → Prop} {d : DefRec}
    (hn : l.most = some n) (hdf : d.params.defaults = [])
    (call : ∀ (w : World) (s₀ s₁ : Shared) (mg mb : Str → Option Value) (fa : Addr) (o : Obj) (pm cd doc : Value) (a : Addr) (vs : List Value) (ns : List Int),
      Ground q loose [] XP w s₀ mg mb s₁.heap → YP w s₁.heap →
      s₁.heap.get? fa = some o → o.data = .func (docDef d.name d.params d.body d.scope pm cd doc) → s₁.heap.CodeRec cd d.name → mg d.name = some (.ref fa) →
      s₁.heap.get? a = some { cls := .type "list", data := .seq vs.toArray } → IntsAre vs ns → ns.length ≤ n → s₁.gens = #[] →
      codeAny (model l.prog w) callerA (.call (.ref fa) ⟨[.ref a], []⟩) (fun r s' => r = .ok (.ret (.bool true)) ∧ OldK s₁.heap s'.heap ∧ s'.os = s₁.os ∧ AllBare s'.gens) s₁) :
    WalkO q loose XP YP l.row.toRowW d [] (fun f vs => PySem.call f vs) := by
  intro w s₀ s₁ mg mb G Y fa o pm cd doc dV kV ho hd hcd hD hmg hg args vals as hpre hlay hrd hwl hlo
  obtain rfl : dV = .none := Dflts.none hD hdf
  obtain rfl : kV = .none := Dflts.noKw hD
  obtain ⟨a, vs, ns, rfl, rfl, hobj, hints, hlen⟩ := script_of hn hpre hwl
  refine enter_call (codeAny_mono (call w s₀ s₁ mg mb fa o pm cd doc a vs ns G Y ho (fd_plain hd) hcd hmg hobj hints hlen hg) fun r s' hq => ?_)
  obtain ⟨rfl, h2, h3, h4⟩ := hq
  exact ⟨.inl ⟨.bool true, .bool true, [], rfl, fun _ => rfl, .bool true, post_true l _, fun _ => ⟨List.Pairwise.nil, fun _ hm => (nomatch hm)⟩⟩, h2, h3, h4⟩
section
variable {prog : Program} {w : World} {A : Around} {E : Value → Shared → Prop} {s : Shared} {K : Frag}
end
end Att
namespace L2
open PySem PySem.Spec PyProof.Rows
theorem vals_ints : ∀ {vs : List Value} {ns : List Int}, IntsAre vs ns → Vals (ns.map V.int) vs
  | _, _, .nil => .nil
  | _, _, .cons n t h => .cons ⟨t, rfl⟩ (vals_ints h)
def Only (H : Hp) : Prop := ∀ b, H b = none ∨ ∃ o xs, H b = some (.frz o (.lst xs))
theorem law_call {P : Program} {w : World} {K : PySem.W.Frag} {mg mb : Str → Option Value} {CX : CXT} {k : Nat} {fa a : Addr} {fd : FuncData} {x : Str} {sp : Sp} {s₁ : Shared} {vs : List Value} {ns : List Int}
    (KX : K.In s₁.heap) (hns : s₁.heap.Ns mainGlobals mg) (hb : s₁.heap.Ns builtinsNs mb) (hbb : ∀ x : Str, x ≠ "__name__" → mb x = bootBuiltins x) (hlim : s₁.heap.NoLimit) (hg : s₁.gens = #[])
    (ha : s₁.heap.get? a = some { cls := .type "list", data := .seq vs.toArray }) (hi : IntsAre vs ns) (hl : ns.length ≤ sizeLine) (hr : Room k callerA)
    (F : ∀ base : Heap, K.In base → base.Ns mainGlobals mg → FnOk P w K mg base CX k fa fd [x] sp) (hbind : ∀ (s : Shared) (u : Value), BindsTo s fd ⟨[u], []⟩ [(x, u)])
    (hsp : ∀ H : Hp, Only H → SqL K H a (ns.map V.int) → sp [.ref a] H (fun v _ => v = .bl true) fun _ _ _ => False)
    (hCX : ∀ H e s', CX [] H s₁ (fun _ _ _ => False) e s' → False) :
    codeAny (model P w) callerA (.call (.ref fa) ⟨[.ref a], []⟩) (fun r s' => r = .ok (.ret (.bool true)) ∧ OldK s₁.heap s'.heap ∧ s'.os = s₁.os ∧ AllBare s'.gens) s₁ := by
  have rv := vals_ints hi
  have lenV := hi.length
  -- from an abstract heap in which nothing but the script may be tracked
  have core : ∀ H : Hp, Only H → SqL K H a (ns.map V.int) → HOk P w H s₁.heap → (∀ b, H b ≠ none → b = a) → (H a ≠ none → K.lookup a = none) →
      codeAny (model P w) callerA (.call (.ref fa) ⟨[.ref a], []⟩) (fun r s' => r = .ok (.ret (.bool true)) ∧ OldK s₁.heap s'.heap ∧ s'.os = s₁.os ∧ AllBare s'.gens) s₁ := by
    intro H hO hS hok hA hK
    have base_of : ∀ {b : Addr} {o : Obj}, s₁.heap.get? b = some o → H b = none → (hidT s₁.heap H).get? b = some o := fun e n => hidT_get e n
    have noA : ∀ {b : Addr} {o : Obj} {es : Array DictEntry} {ep : Nat}, s₁.heap.get? b = some o → o.data = .dict es ep → H b = none := fun {b o es ep} e d => by
      cases q : H b with
      | none => rfl
      | some u =>
        have e' : b = a := hA b (by rw [q]; simp)
        subst e'
        rw [ha] at e; cases e
        have d' : Data.seq vs.toArray _ = Data.dict es ep := d
        cases d'
    have nsK : ∀ {b : Addr} {m : Str → Option Value}, s₁.heap.Ns b m → (hidT s₁.heap H).Ns b m := fun {b m} ⟨o, es, ep, e, d, r⟩ => ⟨o, es, ep, base_of e (noA e d), d, r⟩
    have hKb : K.In (hidT s₁.heap H) := fun b o e => base_of (KX b o e) (by
      cases q : H b with
      | none => rfl
      | some u =>
        have e' : b = a := hA b (by rw [q]; simp)
        subst e'
        rw [hK (by rw [q]; simp)] at e; cases e)
    have hM : Mod K mg (hidT s₁.heap H) := ⟨hKb, nsK hns, ⟨mb, nsK hb, hbb⟩, let ⟨mc, h1, h2⟩ := hlim; ⟨mc, nsK h1, h2⟩⟩
    have e0 : Env0 P w K mg (hidT s₁.heap H) callerA [] s₁ H := ⟨rfl, hM, fun b o e => of_hidT e, Nat.le_of_eq (hidT_size _ _), trivial, fun b hb => absurd (show b ∈ ([] : List Addr) from hb) (by simp), hok, .of_eq hg⟩
    refine codeAny_mono ((F _ hKb (nsK hns)).run callerA [] s₁ H ⟨[.ref a], []⟩ [.ref a] [.ref a] _ _ hr e0 (hbind s₁ (.ref a)) (.cons rfl .nil) (hsp H hO hS)) fun r s' h => ?_
    cases r with
    | error e => exact (hCX H e s' h).elim
    | ok fl =>
      cases fl with
      | next => exact False.elim h
      | brk => exact False.elim h
      | cont => exact False.elim h
      | ret u =>
        obtain ⟨v, H', os, bare, un, hok', r', q⟩ := h
        have q' : v = .bl true := q
        subst q'
        obtain rfl : u = Value.bool true := r'
        refine ⟨rfl, OldK.of_keep fun b o e => ?_, os, bare⟩
        cases q : H b with
        | none => exact un.keep b o e q (by intro z; exact absurd (show b ∈ ([] : List Addr) from z) (by simp)) (by simp)
        | some u =>
          rcases hO b with z | ⟨ob, xs, z⟩
          · rw [q] at z; cases z
          · have z2 := un.frzs b ob _ z
            obtain ⟨e1, _⟩ := hok b _ z
            obtain ⟨e2, _⟩ := hok' b _ z2
            rw [e] at e1; cases e1
            exact e2
  cases hk : K.lookup a with
  | some o =>
    -- the script is one of the module's own objects
    have e := KX a o hk
    rw [ha] at e
    cases e
    refine core (fun _ => none) (fun _ => .inl rfl) (.inr ⟨_, vs.toArray, _, hk, rfl, rfl, rfl, by rw [List.size_toArray, lenV]; exact hl, by simpa using rv⟩) (fun b u z => by have z' : (none : Option HO) = some u := z; cases z') (fun b z => absurd rfl z) fun z => absurd rfl z
  | none =>
    refine core (fun b => if b = a then some (.frz { cls := .type "list", data := .seq vs.toArray } (.lst (ns.map V.int))) else none) (fun b => ?_) (.inl (.inr ⟨{ cls := .type "list", data := .seq vs.toArray }, if_pos rfl⟩)) (fun b u z => ?_) (fun b z => ?_) fun _ => hk
    · by_cases hb : b = a
      · exact .inr ⟨_, _, if_pos hb⟩
      · exact .inl (if_neg hb)
    · by_cases hb : b = a
      · have z' := (if_pos hb).symm.trans z
        cases z'
        subst hb
        exact ⟨ha, by rw [List.length_map]; exact hl, vs, _, rv, ha⟩
      · have z' := (if_neg hb).symm.trans z
        cases z'
    · by_cases hb : b = a
      · exact hb
      · exact absurd (if_neg hb) z
end L2
namespace L2
open PySem PySem.Spec PyProof.Rows
theorem walk_of {l : PySem.W.OpenLaw} {n k : Nat} {q : Program} {loose : List Str} {XP : (Str → Option Value) → Heap → Prop} {YP : World → Heap → Prop} {d : DefRec} {K : Params → PySem.W.Frag} {CX : World → CXT} {sp : World → Sp} {x : Str}
    (hn : l.most = some n) (hn2 : n ≤ sizeLine) (hdf : d.params.defaults = []) (hr : Room k callerA)
    (hY : ∀ (w : World) (h : Heap), YP w h → (K w.params).In h)
    (F : ∀ (w : World) (mg : Str → Option Value) (fa : Addr) (h : Heap), (K w.params).In h → h.Ns mainGlobals mg → mg d.name = some (.ref fa) →
      ∃ fd : FuncData, (∀ (s : Shared) (u : Value), BindsTo s fd ⟨[u], []⟩ [(x, u)]) ∧
        ∀ base : Heap, (K w.params).In base → base.Ns mainGlobals mg → FnOk l.prog w (K w.params) mg base (CX w) k fa fd [x] (sp w))
    (hsp : ∀ (w : World) (H : Hp) (a : Addr) (ns : List Int), ns.length ≤ n → Only H → SqL (K w.params) H a (ns.map V.int) → sp w [.ref a] H (fun v _ => v = .bl true) fun _ _ _ => False)
    (hCX : ∀ (w : World) (H : Hp) (s : Shared) (e : Value) (s' : Shared), CX w [] H s (fun _ _ _ => False) e s' → False) :
    PySem.W.WalkO q loose XP YP l.row.toRowW d [] (fun f vs => PySem.call f vs) := by
  refine Att.attach_call hn hdf fun w s₀ s₁ mg mb fa o pm cd doc a vs ns G Y ho hd hcd hmg hobj hints hlen hg => ?_
  have KX := hY w _ Y
  obtain ⟨fd, hb, hF⟩ := F w mg fa _ KX G.T.g hmg
  exact law_call KX G.T.g G.T.b G.T.builtins G.T.nolimit hg hobj hints (Nat.le_trans hlen hn2) hr hF hb (fun H hO hS => hsp w H a ns hlen hO hS) fun H e s' => hCX w H s₁ e s'
end L2
/- THE LAST THEOREM (shape; LID, My.* are yours):
   My.Adr: a structure of the addresses that your layer names (classes, functions); My.Txt K t: a structure (Prop) of the equations over K;
   My.txt_mk : {K} {implicit addresses ..} (e1 : nsIn K mainGlobals "law" = some (some (.ref f))) (e2 : K.lookup f = some ⟨oc, od, .func (fnOf "law" "law" params body scope dV kV doc pm an cdv ct), sl⟩) (e3 : codeIn K cdv "law" = true) .. : ∃ t, My.Txt K t
set_option maxRecDepth 100000 in
set_option maxHeartbeats 0 in
theorem PySem.Challenge.cw_LID_holds : PySem.Challenge.rw_LID.Holds := by
  w_on; o_law; k_head; (case hw => w_witness2)
  k_fill
  refine L2.walk_of (l := PySem.Challenge.rw_LID) (n := 63) (k := 40) (x := "script") (CX := fun w => ..) (sp := fun _ => My.sp_law) rfl (by decide) rfl ⟨rfl, by decide, by decide⟩ (fun w h Y => PySem.W.kIn_of Y) ?F ?S ?C
  case F =>
    intro w mg fa h KX G hmg
    have T : ∃ t, My.Txt (L2.KOf KX) t := by
      dsimp only [L2.KOf]                          -- K must stand as «<heap const> w.params» for k_is
      refine' My.txt_mk ?e1 ?e2 ?e3 ..
      (case e1 => PySem.W.k_is)                    -- in the order: a name -> its address -> its object -> its parts
      (case e2 => PySem.W.k_is)
      ..
    obtain ⟨t, T⟩ := T
    have e0 := hmg.symm.trans (PySem.W.mg_of KX G T.law)
    cases e0                                       -- fa is the law's own address
    exact ⟨_, fun s u => .of_eq rfl, fun base kb nb => My.law_fn T kb nb⟩     -- if «.of_eq rfl» comes too early: refine' ⟨_, ?b, fun base kb nb => My.law_fn T kb nb⟩; exact fun s u => .of_eq rfl
  case S => exact fun w H a ns hl hO hS => ..
  case C => exact ..
(the tactic k_is has no namespace: write k_is) -/
namespace L2
open PySem PySem.Spec PyProof.Rows
def defArgs (s : Stmt) : Arguments := match s with
  | .FunctionDef _ a _ _ _ _ _ _ _ _ => a
  | _ => { posonlyargs := [], args := [], vararg := none, kwonlyargs := [], kw_defaults := [], kwarg := none, defaults := [] }
def defBody (s : Stmt) : List Stmt := match s with
  | .FunctionDef _ _ b _ _ _ _ _ _ _ => b
  | _ => []
def defScope (s : Stmt) : Scope := match s with
  | .FunctionDef _ _ _ _ _ _ sc _ _ _ => sc
  | _ => { kind := .function, names := [], isGenerator := false, isCoroutine := false }
abbrev E0 : XK := fun _ _ _ => False
structure Fun (K : PySem.W.Frag) (x qual : Str) (st : Stmt) (f : Addr) (fd : FuncData) : Prop where
  ex : ∃ (oc : Value) (od : Option Addr) (kV doc pm : Value) (an : Option Addr) (cdv ct : Value) (osl : Array (Option Value)),
    fd = PySem.W.fnOf x qual (defArgs st) (defBody st) (defScope st) .none kV doc pm an cdv ct ∧ K.lookup f = some ⟨oc, od, .func fd, osl⟩ ∧ PySem.W.codeIn K cdv qual = true
  kp : PySem.W.keepIn K (.ref f) = true
section
variable {P : Program} {w : World} {K : PySem.W.Frag} {mg : Str → Option Value} {base : Heap}
theorem Fun.binds {x qual : Str} {st : Stmt} {f : Addr} {fd : FuncData} {ps : List Str} (F : Fun K x qual st f fd)
    (h : ∀ (kV doc pm : Value) (an : Option Addr) (cdv ct : Value) (us : List Value), us.length = ps.length → bindArgs (PySem.W.fnOf x qual (defArgs st) (defBody st) (defScope st) .none kV doc pm an cdv ct) ⟨us, []⟩ = pure (ps.zip us)) : Binds K fd ps [] := by
  obtain ⟨oc, od, kV, doc, pm, an, cdv, ct, osl, rfl, lk, hcd⟩ := F.ex
  exact .all (h kV doc pm an cdv ct)
theorem fun_mk {x qual : Str} {st : Stmt} {f : Addr} {oc : Value} {od an : Option Addr} {osl : Array (Option Value)} {kV doc pm cdv ct : Value} (l : K.lookup f = some ⟨oc, od, .func (PySem.W.fnOf x qual (defArgs st) (defBody st) (defScope st) .none kV doc pm an cdv ct), osl⟩)
    (c : PySem.W.codeIn K cdv qual = true) (k : PySem.W.keepIn K (.ref f) = true) : Fun K x qual st f (PySem.W.fnOf x qual (defArgs st) (defBody st) (defScope st) .none kV doc pm an cdv ct) := ⟨⟨oc, od, kV, doc, pm, an, cdv, ct, osl, rfl, l, c⟩, k⟩
end
theorem small1000 {n : Nat} (h : n ≤ 1000) : n < sizeLine := Nat.lt_of_le_of_lt h (by decide)
section
variable {X : Cx}
theorem pv (i : Nat) {x : Str} {pos : Pos} (hN : X.N[i]? = some x := by rfl) (hv : Vis X.env.scope x := by first | exact Or.inl rfl | exact Or.inr (Or.inl rfl) | exact Or.inr (Or.inr rfl)) (hd : (x == ("__debug__" : Str)) = false := by decide)
    (hcd : (x == ("__classdict__" : Str)) = false := by decide) : PE X (.Name x pos) (tVar i) := pe_var hN hv hd hcd
end
def Same (H H' : Hp) : Prop := ∀ b o, H b = some o → H' b = some o
theorem Same.refl (H : Hp) : Same H H := fun _ _ h => h
theorem Same.trans {H H1 H2 : Hp} (a : Same H H1) (b : Same H1 H2) : Same H H2 := fun c o h => b c o (a c o h)
theorem Same.seq {K : PySem.W.Frag} {H H' : Hp} {a : Addr} {xs : List V} (e : Same H H') (h : SqL K H a xs) : SqL K H' a xs := by
  rcases h with (h | ⟨o, h⟩) | h
  · exact .inl (.inl (e _ _ h))
  · exact .inl (.inr ⟨o, e _ _ h⟩)
  · exact .inr h
end L2
set_option maxRecDepth 100000
set_option exponentiation.threshold 4000
namespace L2
open PySem PySem.Spec PyProof.Rows
def Bd (n : Nat) (i : Int) : Prop := i.natAbs < 2 ^ n
theorem Bd.log2 {n : Nat} {i : Int} (h : Bd n i) (hn : 0 < n) : i.natAbs.log2 < n := by
  by_cases h0 : i.natAbs = 0
  · rw [h0]; exact hn
  · exact (Nat.log2_lt h0).mpr h
def CDivB (_ j : Int) : Prop := j ≠ 0 ∧ j.natAbs.log2 < 9000
section
variable {X : Cx}
theorem op_mulB : OpR X (binaryOp .Mult) (rI IntMulOk fun i j => .int (i * j)) := opI fun _ _ _ _ _ _ _ hc q => mul_int q hc
theorem op_fdivB : OpR X (binaryOp .FloorDiv) (rI CDivB fun i j => .int (i.fdiv j)) := opI fun _ _ _ _ _ _ _ hc q => floordiv_int hc.1 q (.inl (PyProof.noPylong_of_log2 hc.2))
def rAddA : R2 := fun x y H Q => rI0 (fun i j => .int (i + j)) x y H Q ∨ rCat x y H Q
theorem op_addA : OpR X (binaryOp .Add) rAddA := op_add.or op_cat
def rMulA : R2 := fun x y H Q => rI IntMulOk (fun i j => .int (i * j)) x y H Q ∨ rRep x y H Q
theorem op_mulA : OpR X (binaryOp .Mult) rMulA := op_mulB.or op_rep
def rModA : R2 := rI (fun _ j => j ≠ 0) fun i j => .int (i.fmod j)
theorem op_modA : OpR X (binaryOp .Mod) rModA := op_modN
def rDivA : R2 := rI CDivB fun i j => .int (i.fdiv j)
theorem op_divA : OpR X (binaryOp .FloorDiv) rDivA := op_fdivB
def rSubI : R2 := rI0 fun i j => .int (i - j)
theorem op_subI : OpR X (binaryOp .Sub) rSubI := op_sub
def rPowI : R2 := rI CPow fun i j => .int (i ^ j.toNat)
theorem op_powI : OpR X (binaryOp .Pow) rPowI := op_pow
def rLtI : R2 := rI0 fun i j => .bl (decide (i < j))
def rGtI : R2 := rI0 fun i j => .bl (decide (j < i))
def rGeI : R2 := rI0 fun i j => .bl (decide (j ≤ i))
theorem op_ltI : OpR X (compareOp .Lt) rLtI := op_lt
theorem op_gtI : OpR X (compareOp .Gt) rGtI := op_gt
theorem op_geI : OpR X (compareOp .GtE) rGeI := op_ge
theorem pe_powc {a : Int} {n : Nat} {j1 j2 : Nat} {p1 p2 pos : Pos} (hn : n ≤ 1000000) (ha : a.natAbs < 2 ^ 64) : PE X (.BinOp (.Constant (.int a) j1 p1) .Pow (.Constant (.int (n : Int)) j2 p2) pos) (tC (.int (a ^ n))) := by
  intro pins s σ H Q I h
  exact pe_op op_powI pe_int pe_int pins s σ H Q I ⟨a, n, rfl, rfl, ⟨Int.natCast_nonneg n, Int.ofNat_le.mpr hn, ha⟩, h⟩
def rIxA (K : PySem.W.Frag) : R2 := fun x y H Q => rIxL K x y H Q ∨ rIxT K x y H Q
theorem ix_A : IxR X (rIxA X.K) := ix_list.or ix_tup
def rSlA (K : PySem.W.Frag) : V → Option Int → Option Int → Hp → VK → Prop := fun x lo hi H Q => rSlL K x lo hi H Q ∨ rSlT K x lo hi H Q
theorem sl_A : SlR X (rSlA X.K) := sl_list.or sl_tup
def rIsi (K : PySem.W.Frag) : List V → Hp → VK → Prop := fun xs H Q => ∃ x n t b, xs = [x, .ty n] ∧ TyOf K H x t ∧ PySem.W.kitOne K t (.type n) = some b ∧ Q (.bl b) H
theorem call_isi : CallR X (.builtin "isinstance") (rIsi X.K) := by
  intro pins s σ H xs us Q I r h
  obtain ⟨x, n, t, b, e, ty, k, q⟩ := h
  subst e
  obtain ⟨u, w', rfl, rx, rn⟩ := vals2 r
  obtain rfl : w' = Value.type n := rn
  exact isinst_ok I rx ty k fun tk => ⟨.bl b, H, I.tok tk, rfl, q⟩
def rLenA (K : PySem.W.Frag) : List V → Hp → VK → Prop := fun xs H Q => ∃ p ys, xs = [.ref p] ∧ (SqL K H p ys ∨ SqT K H p ys) ∧ Q (.int ys.length) H
theorem call_lenA : CallR X (.builtin "len") (rLenA X.K) := call_len_seq
def rAbs : List V → Hp → VK → Prop := fun xs H Q => ∃ i, xs = [.int i] ∧ Q (.int (if i < 0 then -i else i)) H
theorem call_absI : CallR X (.builtin "abs") rAbs := call_abs
end
structure Src (K : PySem.W.Frag) (mg : Str → Option Value) (x : Str) (st : Stmt) (ps : List Str) : Prop where
  ex : ∃ f fd, Fun K x x st f fd ∧ mg x = some (.ref f) ∧ Binds K fd ps []
structure Def (P : Program) (w : World) (K : PySem.W.Frag) (mg : Str → Option Value) (base : Heap) (CX : CXT) (k : Nat) (x : Str) (ps : List Str) (sp : Sp) : Prop where
  ex : ∃ f fd, FnOk P w K mg base CX k f fd ps sp ∧ mg x = some (.ref f) ∧ PySem.W.keepIn K (.ref f) = true ∧ Binds K fd ps [] ∧ ∃ oc od osl, K.lookup f = some ⟨oc, od, .func fd, osl⟩
section
variable {P : Program} {w : World} {K : PySem.W.Frag} {mg : Str → Option Value} {base : Heap} {CX : CXT}
theorem Src.ok {x : Str} {st : Stmt} {N ps : List Str} {k : Nat} {sp : Sp} (F : Src K mg x st ps) (S : FnScope N ps (defScope st)) (len : ∀ vs H Q E, sp vs H Q E → vs.length = ps.length)
    (hbody : ∀ (f : Addr) (cdv : Value) (A : Around) (outer : List Env) (s : Shared) (H : Hp) (vs : List V) (Q : VK) (E : XK), Room k (A.deeper (envOfC x (defScope st) s.heap.objs.size f cdv)) → sp vs H Q E →
      ∃ t, PSs (cxOf CX P w K mg base N x (defScope st) f cdv A outer s H E).nox (defBody st) t ∧ t { nx := fun _ H' => Q .non H', rt := Q } (start N vs) H) : Def P w K mg base CX (k + 1) x ps sp := by
  obtain ⟨f, fd, Fn, m, b⟩ := F.ex
  have kp := Fn.kp
  obtain ⟨oc, od, kV, doc, pm, an, cdv, ct, osl, rfl, lk, hcd⟩ := Fn.ex
  refine ⟨f, _, fn_of lk hcd S len fun A outer s H vs Q E hr hsp => ?_, m, kp, b, oc, od, osl, lk⟩
  obtain ⟨t, h, q⟩ := hbody f cdv A outer s H vs Q E hr hsp
  exact ⟨t, h.nox, q⟩
theorem Src.okX {x : Str} {st : Stmt} {N ps : List Str} {k : Nat} {sp : Sp} (F : Src K mg x st ps) (S : FnScope N ps (defScope st)) (len : ∀ vs H Q E, sp vs H Q E → vs.length = ps.length)
    (hbody : ∀ (f : Addr) (cdv : Value) (A : Around) (outer : List Env) (s : Shared) (H : Hp) (vs : List V) (Q : VK) (E : XK), Room k (A.deeper (envOfC x (defScope st) s.heap.objs.size f cdv)) → sp vs H Q E →
      ∃ t, PSs (cxOf CX P w K mg base N x (defScope st) f cdv A outer s H E) (defBody st) t ∧ t { nx := fun _ H' => Q .non H', rt := Q } (start N vs) H) : Def P w K mg base CX (k + 1) x ps sp := by
  obtain ⟨f, fd, Fn, m, b⟩ := F.ex
  have kp := Fn.kp
  obtain ⟨oc, od, kV, doc, pm, an, cdv, ct, osl, rfl, lk, hcd⟩ := Fn.ex
  exact ⟨f, _, fn_of lk hcd S len fun A outer s H vs Q E hr hsp => hbody f cdv A outer s H vs Q E hr hsp, m, kp, b, oc, od, osl, lk⟩
theorem src_mk {x : Str} {st : Stmt} {f : Addr} {oc : Value} {od an : Option Addr} {osl : Array (Option Value)} {kV doc pm cdv ct : Value} {ps : List Str} {h : Heap} (X : K.In h) (G : h.Ns mainGlobals mg)
    (a : PySem.W.nsIn K mainGlobals x = some (some (.ref f))) (l : K.lookup f = some ⟨oc, od, .func (PySem.W.fnOf x x (defArgs st) (defBody st) (defScope st) .none kV doc pm an cdv ct), osl⟩)
    (c : PySem.W.codeIn K cdv x = true) (k : PySem.W.keepIn K (.ref f) = true)
    (hb : ∀ (kV doc pm : Value) (an : Option Addr) (cdv ct : Value) (us : List Value), us.length = ps.length → bindArgs (PySem.W.fnOf x x (defArgs st) (defBody st) (defScope st) .none kV doc pm an cdv ct) ⟨us, []⟩ = pure (ps.zip us)) : Src K mg x st ps :=
  ⟨f, _, fun_mk l c k, PySem.W.mg_of X G a, (fun_mk (st := st) l c k).binds hb⟩
end
theorem Def.fn {P : Program} {w : World} {K : PySem.W.Frag} {mg : Str → Option Value} {base : Heap} {CX : CXT} {k : Nat} {x : Str} {f : Addr} {fd : FuncData} {ps : List Str} {sp : Sp} {oc : Value} {od : Option Addr} {osl : Array (Option Value)}
    (D : Def P w K mg base CX k x ps sp) (hm : mg x = some (.ref f)) (hl : K.lookup f = some ⟨oc, od, .func fd, osl⟩) : FnOk P w K mg base CX k f fd ps sp := by
  obtain ⟨f1, fd1, F, m, _, _, oc1, od1, sl1, l1⟩ := D.ex
  rw [hm] at m
  cases m
  rw [hl] at l1
  cases l1
  exact F
section
variable {X : Cx} {CX : CXT} {k : Nat} {ps : List Str} {sp : Sp} {E : XK} {x : Str} {p pos : Pos} {e : Expr} {es : List Expr} {t : TA}
end
def tSeqE (t u : TS) : TS := fun D σ H => ∃ J : St → Hp → Prop, t { D with nx := J } σ H ∧ ∀ σ' H', J σ' H' → u D σ' H'
theorem pss_consE {X : Cx} {st : Stmt} {rest : List Stmt} {t u : TS} (h1 : PS X st t) (h2 : PSs X rest u) : PSs X (st :: rest) (tSeqE t u) := by
  intro pins s σ H D I h
  obtain ⟨J, h, hJ⟩ := h
  refine wpAny_execs_cons (thn (h1 pins s σ H { D with nx := J } I h) fun f s1 q => ?_)
  cases f with
  | next =>
    obtain ⟨σ', H', I', q⟩ := q
    exact h2 pins s1 σ' H' D I' (hJ σ' H' q)
  | ret v => exact q
  | brk => exact q
  | cont => exact q
theorem rd_join {t u : TS} {D : Ends} {σ : St} {H : Hp} (J : St → Hp → Prop) (h : t { D with nx := J } σ H) (hJ : ∀ σ' H', J σ' H' → u D σ' H') : tSeqE t u D σ H := ⟨J, h, hJ⟩
def kB (x : V) (H : Hp) (Q : Bool → Hp → Prop) : Prop := ∃ k, x = .bl k ∧ Q k H
def kRng1 (vs : List V) (H : Hp) (R : It → Hp → Prop) : Prop := ∃ j : Int, vs = [.int j] ∧ -(2 ^ 62) ≤ j ∧ j < 2 ^ 62 ∧ R (Itr 0 j.toNat) H
def kRng2 (vs : List V) (H : Hp) (R : It → Hp → Prop) : Prop := ∃ i j : Int, vs = [.int i, .int j] ∧ (-(2 ^ 62) ≤ i ∧ i < 2 ^ 62 ∧ -(2 ^ 62) ≤ j ∧ j < 2 ^ 62) ∧ R (Itr i (j - i).toNat) H
def kItl (K : PySem.W.Frag) (x : V) (H : Hp) (R : It → Hp → Prop) : Prop := ∃ a, x = .ref a ∧ (∃ xs, SqL K H a xs) ∧ R (Itl K a) H
def kLst (xs : List V) (H : Hp) (Q : VK) : Prop := xs.length ≤ sizeLine ∧ ∀ p, H p = none → Q (.ref p) (upd H p (.lst xs))
def kTup (xs : List V) (H : Hp) (Q : VK) : Prop := xs.length ≤ sizeLine ∧ ∀ p, H p = none → Q (.ref p) (upd H p (.tup xs))
def kPar (i j : Nat) (vs : List V) (σ : St) (H : Hp) (nx : St → Hp → Prop) : Prop := ∃ v w, vs = [v, w] ∧ nx ((σ.set i (some v)).set j (some w)) H
def kPart (x : V) (H : Hp) (Q : Option Int → Hp → Prop) : Prop := ∃ i, x = .int i ∧ Q (some i) H
theorem Same.obj {H H' : Hp} {a : Addr} {o : HO} (s : Same H H') (h : H a = some o) : H' a = some o := s a o h
theorem Same.new {H : Hp} {p : Addr} (h : H p = none) (o : HO) : Same H (upd H p o) := fun b u q => by rw [upd_ne (ne_of_none q h)]; exact q
theorem Same.upd {H0 H : Hp} {l : Addr} {o : HO} (s : Same H0 H) (h : H0 l = none) : Same H0 (upd H l o) := fun b u q => by
  rw [upd_ne (ne_of_none q h)]
  exact s b u q
theorem Same.tup {K : PySem.W.Frag} {H H' : Hp} {a : Addr} {xs : List V} (e : Same H H') (h : SqT K H a xs) : SqT K H' a xs := by
  rcases h with (h | ⟨o, h⟩) | h
  · exact .inl (.inl (e _ _ h))
  · exact .inl (.inr ⟨o, e _ _ h⟩)
  · exact .inr h
section
variable {σ : St} {H : Hp} {Q : VK} {D : Ends} {K : PySem.W.Frag}
theorem rd_start {t : TS} {N : List Str} {vs : List V} (σ : St) (e : start N vs = σ) (h : t D σ H) : t D (start N vs) H := by rw [e]; exact h
theorem rd_c {v : V} (h : Q v H) : tC v σ H Q := h
theorem rd_op {r : R2} {ta tb : TE} (h : ta σ H fun x H1 => tb σ H1 fun y H2 => r x y H2 Q) : tOp r ta tb σ H Q := h
theorem rd_un {r : V → Hp → VK → Prop} {ta : TE} (h : ta σ H fun x H1 => r x H1 Q) : tUn r ta σ H Q := h
theorem rd_u {g : Int → V} {i : Int} (h : Q (g i) H) : rU g (.int i) H Q := ⟨i, rfl, h⟩
theorem rd_add {i j : Int} (h : Q (.int (i + j)) H) : rAddA (.int i) (.int j) H Q := .inl ⟨i, j, rfl, rfl, h⟩
theorem rd_cat {a b : Addr} {xs ys : List V} (h1 : H a = some (.lst xs)) (h2 : H b = some (.lst ys)) (hz : xs.length + ys.length ≤ sizeLine) (h : ∀ p H', Same H H' → H p = none → H' p = some (.lst (xs ++ ys)) → Q (.ref p) H') : rAddA (.ref a) (.ref b) H Q :=
  .inr ⟨a, b, xs, ys, rfl, rfl, h1, h2, hz, fun p hp => h p _ (Same.new hp _) hp upd_same⟩
theorem rd_sub {i j : Int} (h : Q (.int (i - j)) H) : rSubI (.int i) (.int j) H Q := ⟨i, j, rfl, rfl, h⟩
theorem rd_mul {i j : Int} (c : IntMulOk i j) (h : Q (.int (i * j)) H) : rMulA (.int i) (.int j) H Q := .inl ⟨i, j, rfl, rfl, c, h⟩
theorem rd_rep {a : Addr} {k : Int} {xs : List V} (h1 : H a = some (.lst xs)) (h0 : 0 ≤ k) (hk : k < 2 ^ 63) (hz : xs.length * k.toNat ≤ sizeLine) (h : ∀ p H', Same H H' → H p = none → H' p = some (.lst (List.replicate k.toNat xs).flatten) → Q (.ref p) H') : rMulA (.ref a) (.int k) H Q :=
  .inr ⟨a, k, xs, rfl, rfl, h1, by omega, hk, hz, fun p hp => h p _ (Same.new hp _) hp upd_same⟩
theorem rd_modP {i j : Int} (c : 0 < j) (h : Q (.int (i % j)) H) : rModA (.int i) (.int j) H Q := ⟨i, j, rfl, rfl, by omega, by show Q (.int (i.fmod j)) H; rw [Int.fmod_eq_emod_of_nonneg _ (Int.le_of_lt c)]; exact h⟩
theorem rd_modN {i j : Int} (c : j ≠ 0) (h : Q (.int (i.fmod j)) H) : rModA (.int i) (.int j) H Q := ⟨i, j, rfl, rfl, c, h⟩
theorem rd_divP {i j : Int} (c : 0 < j) (c2 : Bd 2000 j) (h : Q (.int (i / j)) H) : rDivA (.int i) (.int j) H Q := ⟨i, j, rfl, rfl, ⟨by omega, Nat.lt_trans (c2.log2 (by decide)) (by decide)⟩, by show Q (.int (i.fdiv j)) H; rw [Int.fdiv_eq_ediv_of_nonneg _ (Int.le_of_lt c)]; exact h⟩
theorem rd_lt {i j : Int} (h : Q (.bl (decide (i < j))) H) : rLtI (.int i) (.int j) H Q := ⟨i, j, rfl, rfl, h⟩
theorem rd_gt {i j : Int} (h : Q (.bl (decide (j < i))) H) : rGtI (.int i) (.int j) H Q := ⟨i, j, rfl, rfl, h⟩
theorem rd_ge {i j : Int} (h : Q (.bl (decide (j ≤ i))) H) : rGeI (.int i) (.int j) H Q := ⟨i, j, rfl, rfl, h⟩
theorem dec_I {i j : Int} : decide (V.int i = V.int j) = decide (i = j) := by
  by_cases e : i = j
  · subst e; simp
  · rw [decide_eq_false e, decide_eq_false (fun z => e (V.int.inj z))]
theorem dec_S {i j : Str} : decide (V.str i = V.str j) = decide (i = j) := by
  by_cases e : i = j
  · subst e; simp
  · rw [decide_eq_false e, decide_eq_false (fun z => e (V.str.inj z))]
theorem rd_eqI {i j : Int} (h : Q (.bl (decide (i = j))) H) : rEq (.int i) (.int j) H Q := ⟨rfl, by rw [dec_I]; exact h⟩
theorem rd_neI {i j : Int} (h : Q (.bl (!decide (i = j))) H) : rNe (.int i) (.int j) H Q := ⟨rfl, by rw [dec_I]; exact h⟩
theorem rd_eqS {i j : Str} (h : Q (.bl (decide (i = j))) H) : rEq (.str i) (.str j) H Q := ⟨rfl, by rw [dec_S]; exact h⟩
theorem rd_neS {i j : Str} (h : Q (.bl (!decide (i = j))) H) : rNe (.str i) (.str j) H Q := ⟨rfl, by rw [dec_S]; exact h⟩
theorem rd_test {t : TE} {R : Bool → Hp → Prop} (h : t σ H fun x H1 => kB x H1 R) : tTest t σ H R := h
theorem rd_tB {t : TE} {R : Bool → Hp → Prop} (h : t σ H fun x H1 => kB x H1 R) : tB t σ H R := h
theorem rd_kB {b : Bool} {R : Bool → Hp → Prop} (h : R b H) : kB (.bl b) H R := ⟨b, rfl, h⟩
theorem rd_and {t u : TT} {R : Bool → Hp → Prop} (h : t σ H fun c H1 => if c = true then u σ H1 R else R false H1) : tAnd t u σ H R := h
theorem rd_or {t u : TT} {R : Bool → Hp → Prop} (h : t σ H fun c H1 => if c = true then R true H1 else u σ H1 R) : tOr t u σ H R := h
theorem rd_not {t : TT} {R : Bool → Hp → Prop} (h : t σ H fun c H1 => R (!c) H1) : tNot t σ H R := h
theorem rd_andV {ta tb : TE} (h : ta σ H fun x H1 => kB x H1 fun c H2 => if c = true then tb σ H2 Q else Q (.bl false) H2) : tAndV ta tb σ H Q := h
theorem rd_notV {ta : TE} (h : ta σ H fun x H1 => kB x H1 fun c H2 => Q (.bl (!c)) H2) : tNotV ta σ H Q := h
theorem rd_nx {f : St → Hp → Prop} {rt : VK} {bk ct : St → Hp → Prop} (h : f σ H) : Ends.nx { nx := f, rt := rt, bk := bk, ct := ct } σ H := h
theorem rd_ite {p : Prop} [Decidable p] {A B : Prop} (h1 : p → A) (h2 : ¬ p → B) : if decide p = true then A else B := by
  by_cases h : p
  · rw [decide_eq_true h]; exact h1 h
  · rw [decide_eq_false h]; exact h2 h
theorem rd_iteN {p : Prop} [Decidable p] {A B : Prop} (h1 : ¬ p → A) (h2 : p → B) : if (!decide p) = true then A else B := by
  by_cases h : p
  · rw [decide_eq_true h]; exact h2 h
  · rw [decide_eq_false h]; exact h1 h
theorem rd_iteNN {p : Prop} [Decidable p] {A B : Prop} (h1 : p → A) (h2 : ¬ p → B) : if (!(!decide p)) = true then A else B := by
  by_cases h : p
  · rw [decide_eq_true h]; exact h1 h
  · rw [decide_eq_false h]; exact h2 h
theorem rd_iteT {A B : Prop} (h : A) : if true = true then A else B := h
theorem rd_iteF {A B : Prop} (h : B) : if false = true then A else B := h
theorem rd_iteNT {A B : Prop} (h : B) : if (!true) = true then A else B := h
theorem rd_iteb {b : Bool} {A B : Prop} (h1 : b = true → A) (h2 : b = false → B) : if b = true then A else B := by
  cases b with
  | true => exact h1 rfl
  | false => exact h2 rfl
theorem rd_nil {R : List V → Hp → Prop} (h : R [] H) : tNil σ H R := h
theorem rd_cons {ta : TE} {tr : TA} {R : List V → Hp → Prop} (h : ta σ H fun x H1 => tr σ H1 fun xs H2 => R (x :: xs) H2) : tCons ta tr σ H R := h
theorem rd_lst {t : TA} (h : t σ H fun xs H1 => kLst xs H1 Q) : tLst t σ H Q := h
theorem rd_tup {t : TA} (h : t σ H fun xs H1 => kTup xs H1 Q) : tTup t σ H Q := h
theorem rd_kLst {xs : List V} (hz : xs.length ≤ sizeLine) (h : ∀ p H', Same H H' → H p = none → H' p = some (.lst xs) → Q (.ref p) H') : kLst xs H Q := ⟨hz, fun p hp => h p _ (Same.new hp _) hp upd_same⟩
theorem rd_kTup {xs : List V} (hz : xs.length ≤ sizeLine) (h : ∀ p H', Same H H' → H p = none → H' p = some (.tup xs) → Q (.ref p) H') : kTup xs H Q := ⟨hz, fun p hp => h p _ (Same.new hp _) hp upd_same⟩
theorem rd_cB {r : List V → Hp → VK → Prop} {t : TA} (h : t σ H fun vs H1 => r vs H1 Q) : tCB r t σ H Q := h
theorem rd_isi {x : V} {n : String} {t : Value} {b : Bool} (ty : TyOf K H x t) (k : PySem.W.kitOne K t (.type n) = some b) (h : Q (.bl b) H) : rIsi K [x, .ty n] H Q := ⟨x, n, t, b, rfl, ty, k, h⟩
theorem rd_lenL {a : Addr} {xs : List V} (h1 : SqL K H a xs) (h : Q (.int xs.length) H) : rLenA K [.ref a] H Q := ⟨a, xs, rfl, .inl h1, h⟩
theorem rd_lenT {a : Addr} {xs : List V} (h1 : SqT K H a xs) (h : Q (.int xs.length) H) : rLenA K [.ref a] H Q := ⟨a, xs, rfl, .inr h1, h⟩
theorem rd_abs {i : Int} (h : ∀ j : Int, j = (i.natAbs : Int) → Q (.int j) H) : rAbs [.int i] H Q := ⟨i, rfl, h _ (by split <;> omega)⟩
theorem rd_ixL {a : Addr} {xs : List V} {i : Int} {v : V} (h1 : SqL K H a xs) (e : atI xs i = some v) (h : Q v H) : rIxA K (.ref a) (.int i) H Q := .inl ⟨a, xs, i, v, rfl, rfl, h1, e, h⟩
theorem rd_ixT {a : Addr} {xs : List V} {i : Int} {v : V} (h1 : SqT K H a xs) (e : atI xs i = some v) (h : Q v H) : rIxA K (.ref a) (.int i) H Q := .inr ⟨a, xs, i, v, rfl, rfl, h1, e, h⟩
theorem rd_sl {r : V → Option Int → Option Int → Hp → VK → Prop} {te : TE} {tl th : TO} (h : te σ H fun x H1 => tl σ H1 fun l H2 => th σ H2 fun u H3 => r x l u H3 Q) : tSl r te tl th σ H Q := h
theorem rd_noPart {R : Option Int → Hp → Prop} (h : R none H) : tNoPart σ H R := h
theorem rd_part {t : TE} {R : Option Int → Hp → Prop} (h : t σ H fun x H1 => kPart x H1 R) : tPart t σ H R := h
theorem rd_kPart {i : Int} {R : Option Int → Hp → Prop} (h : R (some i) H) : kPart (.int i) H R := ⟨i, rfl, h⟩
theorem rd_slL {a : Addr} {xs : List V} {lo hi : Option Int} (h1 : SqL K H a xs) (h : ∀ p H', Same H H' → H p = none → H' p = some (.lst (cutV xs lo hi)) → Q (.ref p) H') : rSlA K (.ref a) lo hi H Q := .inl ⟨a, xs, rfl, h1, fun p hp => h p _ (Same.new hp _) hp upd_same⟩
theorem rd_next (h : D.nx σ H) : tNext D σ H := h
theorem rd_ret {te : TE} (h : te σ H D.rt) : tRet te D σ H := h
theorem rd_drop {te : TE} (h : te σ H fun _ H1 => D.nx σ H1) : tDrop te D σ H := h
theorem rd_seq {t u : TS} (h : t { D with nx := u D } σ H) : tSeq t u D σ H := h
theorem rd_ifS {c : TT} {t u : TS} (h : c σ H fun b H1 => if b = true then t D σ H1 else u D σ H1) : tIfS c t u D σ H := h
theorem rd_asg {te : TE} {g : TG} (h : te σ H fun x H1 => g x σ H1 D.nx) : tAsg te g D σ H := h
theorem rd_par {i j : Nat} {ta : TA} (h : ta σ H fun vs H1 => kPar i j vs σ H1 D.nx) : tPar i j ta D σ H := h
theorem rd_gTup {a : Addr} {xs : List V} {n : Nat} {t : TGs} {R : St → Hp → Prop} (h1 : SqT K H a xs) (hn : xs.length = n) (h : t xs σ H R) : gTup K n t (.ref a) σ H R := ⟨a, xs, rfl, h1, hn, h⟩
theorem rd_gNil {R : St → Hp → Prop} (h : R σ H) : gNil [] σ H R := ⟨rfl, h⟩
theorem rd_gCons {t : TG} {u : TGs} {v : V} {r : List V} {R : St → Hp → Prop} (h : t v σ H fun σ' H' => u r σ' H' R) : gCons t u (v :: r) σ H R := ⟨v, r, rfl, h⟩
theorem rd_while {c : TT} {tb : TS} (W : Nat → St → Hp → Prop) (m : Nat) (h0 : W m σ H) (hs : ∀ m σ H, W m σ H → c σ H fun b H1 => if b = true then ∃ N : St → Hp → Prop, (∀ σ' H', N σ' H' → ∃ m', m' < m ∧ W m' σ' H') ∧ tb { D with nx := N, ct := N, bk := D.nx } σ H1 else D.nx σ H1) : tWhile c tb D σ H := ⟨W, ⟨m, h0⟩, hs⟩
theorem rd_turn {tb : TS} {m : Nat} {W : Nat → St → Hp → Prop} (h : tb { D with nx := fun σ' H' => ∃ m', m' < m ∧ W m' σ' H', ct := fun σ' H' => ∃ m', m' < m ∧ W m' σ' H', bk := D.nx } σ H) : ∃ N : St → Hp → Prop, (∀ σ' H', N σ' H' → ∃ m', m' < m ∧ W m' σ' H') ∧ tb { D with nx := N, ct := N, bk := D.nx } σ H := ⟨_, fun _ _ h => h, h⟩
theorem rd_forR {ta : TA} {g : TG} {tb : TS} (h : ta σ H fun vs H1 => kRng1 vs H1 fun J H2 => ∃ W : Nat → Nat → St → Hp → Prop, (∃ m, W 0 m σ H2) ∧ ∀ i m σ H, W i m σ H →
  (J.stop i H ∧ D.nx σ H) ∨ (J.go i H ∧ ∃ N : St → Hp → Prop, (∀ σ' H', N σ' H' → ∃ m', m' < m ∧ W (i + 1) m' σ' H') ∧ ∀ x H', J.yld i H x H' → g x σ H' fun σ2 H2 => tb { D with nx := N, ct := N, bk := D.nx } σ2 H2)) : tFor (iRng1 ta) g tb D σ H := h
theorem rd_kRng1 {j : Int} {R : It → Hp → Prop} (h1 : -(2 ^ 62) ≤ j) (h2 : j < 2 ^ 62) (h : R (Itr 0 j.toNat) H) : kRng1 [.int j] H R := ⟨j, rfl, h1, h2, h⟩
theorem rd_forR2 {ta : TA} {g : TG} {tb : TS} (h : ta σ H fun vs H1 => kRng2 vs H1 fun J H2 => ∃ W : Nat → Nat → St → Hp → Prop, (∃ m, W 0 m σ H2) ∧ ∀ i m σ H, W i m σ H →
  (J.stop i H ∧ D.nx σ H) ∨ (J.go i H ∧ ∃ N : St → Hp → Prop, (∀ σ' H', N σ' H' → ∃ m', m' < m ∧ W (i + 1) m' σ' H') ∧ ∀ x H', J.yld i H x H' → g x σ H' fun σ2 H2 => tb { D with nx := N, ct := N, bk := D.nx } σ2 H2)) : tFor (iRng2 ta) g tb D σ H := h
theorem rd_kRng2 {i j : Int} {R : It → Hp → Prop} (h1 : -(2 ^ 62) ≤ i) (h2 : i < 2 ^ 62) (h3 : -(2 ^ 62) ≤ j) (h4 : j < 2 ^ 62) (h : R (Itr i (j - i).toNat) H) : kRng2 [.int i, .int j] H R := ⟨i, j, rfl, ⟨h1, h2, h3, h4⟩, h⟩
theorem rd_forL {tl : TE} {g : TG} {tb : TS} (h : tl σ H fun x H1 => kItl K x H1 fun J H2 => ∃ W : Nat → Nat → St → Hp → Prop, (∃ m, W 0 m σ H2) ∧ ∀ i m σ H, W i m σ H →
  (J.stop i H ∧ D.nx σ H) ∨ (J.go i H ∧ ∃ N : St → Hp → Prop, (∀ σ' H', N σ' H' → ∃ m', m' < m ∧ W (i + 1) m' σ' H') ∧ ∀ x H', J.yld i H x H' → g x σ H' fun σ2 H2 => tb { D with nx := N, ct := N, bk := D.nx } σ2 H2)) : tFor (iList K tl) g tb D σ H := h
theorem rd_kItl {a : Addr} {xs : List V} {R : It → Hp → Prop} (h1 : SqL K H a xs) (h : R (Itl K a) H) : kItl K (.ref a) H R := ⟨a, rfl, ⟨xs, h1⟩, h⟩
theorem rd_bm {T : String} {r : V → List V → Hp → VK → Prop} {to : TE} {t : TA} (h : to σ H fun x H1 => tyV K T x H1 ∧ t σ H1 fun xs H2 => r x xs H2 Q) : tBM K T r to t σ H Q := h
theorem rd_tyL {a : Addr} {xs : List V} {B : Prop} (h1 : SqL K H a xs) (h : B) : tyV K "list" (.ref a) H ∧ B := ⟨.inl ⟨rfl, xs, h1⟩, h⟩
theorem rd_append {a : Addr} {xs : List V} {y : V} (h1 : H a = some (.lst xs)) (hz : xs.length < sizeLine) (h : Q .non (upd H a (.lst (xs ++ [y])))) : rAppend (.ref a) [y] H Q := ⟨a, xs, y, rfl, rfl, h1, hz, h⟩
theorem rd_var0 {v : V} {r : St} (h : Q v H) : tVar 0 (some v :: r) H Q := ⟨v, rfl, h⟩
theorem rd_var1 {v : V} {a0 : Option V} {r : St} (h : Q v H) : tVar 1 (a0 :: some v :: r) H Q := ⟨v, rfl, h⟩
theorem rd_var2 {v : V} {a0 a1 : Option V} {r : St} (h : Q v H) : tVar 2 (a0 :: a1 :: some v :: r) H Q := ⟨v, rfl, h⟩
theorem rd_var3 {v : V} {a0 a1 a2 : Option V} {r : St} (h : Q v H) : tVar 3 (a0 :: a1 :: a2 :: some v :: r) H Q := ⟨v, rfl, h⟩
theorem rd_var4 {v : V} {a0 a1 a2 a3 : Option V} {r : St} (h : Q v H) : tVar 4 (a0 :: a1 :: a2 :: a3 :: some v :: r) H Q := ⟨v, rfl, h⟩
theorem rd_var5 {v : V} {a0 a1 a2 a3 a4 : Option V} {r : St} (h : Q v H) : tVar 5 (a0 :: a1 :: a2 :: a3 :: a4 :: some v :: r) H Q := ⟨v, rfl, h⟩
theorem rd_var6 {v : V} {a0 a1 a2 a3 a4 a5 : Option V} {r : St} (h : Q v H) : tVar 6 (a0 :: a1 :: a2 :: a3 :: a4 :: a5 :: some v :: r) H Q := ⟨v, rfl, h⟩
theorem rd_var7 {v : V} {a0 a1 a2 a3 a4 a5 a6 : Option V} {r : St} (h : Q v H) : tVar 7 (a0 :: a1 :: a2 :: a3 :: a4 :: a5 :: a6 :: some v :: r) H Q := ⟨v, rfl, h⟩
theorem rd_var8 {v : V} {a0 a1 a2 a3 a4 a5 a6 a7 : Option V} {r : St} (h : Q v H) : tVar 8 (a0 :: a1 :: a2 :: a3 :: a4 :: a5 :: a6 :: a7 :: some v :: r) H Q := ⟨v, rfl, h⟩
theorem rd_var9 {v : V} {a0 a1 a2 a3 a4 a5 a6 a7 a8 : Option V} {r : St} (h : Q v H) : tVar 9 (a0 :: a1 :: a2 :: a3 :: a4 :: a5 :: a6 :: a7 :: a8 :: some v :: r) H Q := ⟨v, rfl, h⟩
theorem rd_var10 {v : V} {a0 a1 a2 a3 a4 a5 a6 a7 a8 a9 : Option V} {r : St} (h : Q v H) : tVar 10 (a0 :: a1 :: a2 :: a3 :: a4 :: a5 :: a6 :: a7 :: a8 :: a9 :: some v :: r) H Q := ⟨v, rfl, h⟩
theorem rd_var11 {v : V} {a0 a1 a2 a3 a4 a5 a6 a7 a8 a9 a10 : Option V} {r : St} (h : Q v H) : tVar 11 (a0 :: a1 :: a2 :: a3 :: a4 :: a5 :: a6 :: a7 :: a8 :: a9 :: a10 :: some v :: r) H Q := ⟨v, rfl, h⟩
theorem rd_set0 {v : V} {a0 : Option V} {r : St} {R : St → Hp → Prop} (h : R (some v :: r) H) : gName 0 v (a0 :: r) H R := h
theorem rd_set1 {v : V} {a0 a1 : Option V} {r : St} {R : St → Hp → Prop} (h : R (a0 :: some v :: r) H) : gName 1 v (a0 :: a1 :: r) H R := h
theorem rd_set2 {v : V} {a0 a1 a2 : Option V} {r : St} {R : St → Hp → Prop} (h : R (a0 :: a1 :: some v :: r) H) : gName 2 v (a0 :: a1 :: a2 :: r) H R := h
theorem rd_set3 {v : V} {a0 a1 a2 a3 : Option V} {r : St} {R : St → Hp → Prop} (h : R (a0 :: a1 :: a2 :: some v :: r) H) : gName 3 v (a0 :: a1 :: a2 :: a3 :: r) H R := h
theorem rd_set4 {v : V} {a0 a1 a2 a3 a4 : Option V} {r : St} {R : St → Hp → Prop} (h : R (a0 :: a1 :: a2 :: a3 :: some v :: r) H) : gName 4 v (a0 :: a1 :: a2 :: a3 :: a4 :: r) H R := h
theorem rd_set5 {v : V} {a0 a1 a2 a3 a4 a5 : Option V} {r : St} {R : St → Hp → Prop} (h : R (a0 :: a1 :: a2 :: a3 :: a4 :: some v :: r) H) : gName 5 v (a0 :: a1 :: a2 :: a3 :: a4 :: a5 :: r) H R := h
theorem rd_set6 {v : V} {a0 a1 a2 a3 a4 a5 a6 : Option V} {r : St} {R : St → Hp → Prop} (h : R (a0 :: a1 :: a2 :: a3 :: a4 :: a5 :: some v :: r) H) : gName 6 v (a0 :: a1 :: a2 :: a3 :: a4 :: a5 :: a6 :: r) H R := h
theorem rd_set7 {v : V} {a0 a1 a2 a3 a4 a5 a6 a7 : Option V} {r : St} {R : St → Hp → Prop} (h : R (a0 :: a1 :: a2 :: a3 :: a4 :: a5 :: a6 :: some v :: r) H) : gName 7 v (a0 :: a1 :: a2 :: a3 :: a4 :: a5 :: a6 :: a7 :: r) H R := h
theorem rd_set8 {v : V} {a0 a1 a2 a3 a4 a5 a6 a7 a8 : Option V} {r : St} {R : St → Hp → Prop} (h : R (a0 :: a1 :: a2 :: a3 :: a4 :: a5 :: a6 :: a7 :: some v :: r) H) : gName 8 v (a0 :: a1 :: a2 :: a3 :: a4 :: a5 :: a6 :: a7 :: a8 :: r) H R := h
theorem rd_set9 {v : V} {a0 a1 a2 a3 a4 a5 a6 a7 a8 a9 : Option V} {r : St} {R : St → Hp → Prop} (h : R (a0 :: a1 :: a2 :: a3 :: a4 :: a5 :: a6 :: a7 :: a8 :: some v :: r) H) : gName 9 v (a0 :: a1 :: a2 :: a3 :: a4 :: a5 :: a6 :: a7 :: a8 :: a9 :: r) H R := h
theorem rd_set10 {v : V} {a0 a1 a2 a3 a4 a5 a6 a7 a8 a9 a10 : Option V} {r : St} {R : St → Hp → Prop} (h : R (a0 :: a1 :: a2 :: a3 :: a4 :: a5 :: a6 :: a7 :: a8 :: a9 :: some v :: r) H) : gName 10 v (a0 :: a1 :: a2 :: a3 :: a4 :: a5 :: a6 :: a7 :: a8 :: a9 :: a10 :: r) H R := h
theorem rd_set11 {v : V} {a0 a1 a2 a3 a4 a5 a6 a7 a8 a9 a10 a11 : Option V} {r : St} {R : St → Hp → Prop} (h : R (a0 :: a1 :: a2 :: a3 :: a4 :: a5 :: a6 :: a7 :: a8 :: a9 :: a10 :: some v :: r) H) : gName 11 v (a0 :: a1 :: a2 :: a3 :: a4 :: a5 :: a6 :: a7 :: a8 :: a9 :: a10 :: a11 :: r) H R := h
theorem rd_ixM {a : Addr} {ns : List Int} {i : Int} (h1 : SqL K H a (ns.map V.int)) (h0 : 0 ≤ i) (hl : i < ns.length) (h : ∀ v : Int, v ∈ ns → ns[i.toNat]? = some v → Q (.int v) H) : rIxA K (.ref a) (.int i) H Q := by
  have hi : i.toNat < ns.length := by omega
  refine rd_ixL (v := .int ns[i.toNat]) h1 ?_ (h _ (List.getElem_mem hi) (List.getElem?_eq_getElem hi))
  have e := atI_nat (xs := ns.map V.int) (j := i.toNat) (v := .int ns[i.toNat]) (by rw [List.getElem?_map, List.getElem?_eq_getElem hi]; rfl)
  have ei : ((i.toNat : Nat) : Int) = i := by omega
  rw [ei] at e
  exact e
theorem cut_map (fs : List Int) (lo hi : Option Int) : ∃ ms : List Int, cutV (fs.map V.int) lo hi = ms.map V.int ∧ ∀ m ∈ ms, m ∈ fs := by
  refine ⟨(fs.drop (HT.sIx fs.length 0 lo)).take (HT.sIx fs.length fs.length hi - HT.sIx fs.length 0 lo), ?_, fun m hm => List.mem_of_mem_drop (List.mem_of_mem_take hm)⟩
  unfold cutV
  rw [List.length_map, List.map_take, List.map_drop]
theorem for_ints {a : Addr} {ns : List Int} {g : TG} {tb : TS} {D : Ends} {σ : St} {H : Hp} (Pv : Nat → St → Hp → Prop) (h0 : Pv 0 σ H) (hl : ∀ i σ H, i ≤ ns.length → Pv i σ H → SqL K H a (ns.map V.int))
    (hs : ∀ i (n : Int) σ H, ns[i]? = some n → Pv i σ H → g (.int n) σ H fun σ2 H2 => tb { D with nx := Pv (i + 1), ct := Pv (i + 1), bk := D.nx } σ2 H2) (hd : ∀ σ H, Pv ns.length σ H → D.nx σ H) :
    ∃ W : Nat → Nat → St → Hp → Prop, (∃ m, W 0 m σ H) ∧ ∀ i m σ H, W i m σ H →
      ((Itl K a).stop i H ∧ D.nx σ H) ∨ ((Itl K a).go i H ∧ ∃ N : St → Hp → Prop, (∀ σ' H', N σ' H' → ∃ m', m' < m ∧ W (i + 1) m' σ' H') ∧ ∀ x H', (Itl K a).yld i H x H' → g x σ H' fun σ2 H2 => tb { D with nx := N, ct := N, bk := D.nx } σ2 H2) := by
  refine for_list (xs := ns.map V.int) Pv h0 (fun i σ H hi p => hl i σ H (by rw [List.length_map] at hi; exact hi) p) (fun i x σ H e p => ?_) (fun σ H p => hd σ H (by rw [List.length_map] at p; exact p))
  rw [List.getElem?_map] at e
  cases q : ns[i]? with
  | none => rw [q] at e; cases e
  | some n =>
    rw [q] at e
    cases e
    exact hs i n σ H q p
end
end L2
set_option maxRecDepth 100000
set_option exponentiation.threshold 4000
namespace L2
open PySem PySem.Spec PyProof.Rows
def XTr (h B : Heap) (e : Addr) (c a0 : Value) (dx : Option Addr) (T : Addr) (fl : Value) : Prop :=
  ∃ (oe : Obj) (vs : Array Value) (oT : Obj) (ts : Array Value), (h.get? e = some oe ∧ oe.data = .fields vs ∧ oe.cls = c ∧ oe.dict = dx ∧ vs[0]? = some a0 ∧ vs[1]? = some (.ref T) ∧ vs[2]? = some .none) ∧ T ≠ e ∧ B.get? T = none ∧ h.get? T = some oT ∧ oT.data = .fields ts ∧ ts[3]? = some fl
def FlyX (B : Heap) (l : List Env) (e : Addr) (c a0 : Value) (dx : Option Addr) (fl : Value) (h : Heap) : Prop := (B.StaysIn h ∧ B.get? e = none) ∧ h.FunFrames B l ∧ ∃ T, XTr h B e c a0 dx T fl
section
variable {M : Model} {A : Around} {E : Value → Shared → Prop} {s : Shared} {B h h1 : Heap} {l outer : List Env} {env : Env} {e L T : Addr} {c a0 fl : Value} {dx : Option Addr} {oe ob : Obj} {vs ts : Array Value} {Q : Unit → Shared → Prop} {P : Prop}
theorem FlyX.stays (x : FlyX B l e c a0 dx fl h) : ∀ b o, B.get? b = some o → h.get? b = some o := x.1.1
theorem FlyX.obj (x : FlyX B l e c a0 dx fl h) : ∃ oe vs, h.get? e = some oe ∧ oe.data = .fields vs ∧ oe.cls = c ∧ oe.dict = dx ∧ vs[2]? = some .none := by
  obtain ⟨_, _, T, oe, vs, _, _, ⟨y1, y2, y3, y4, _, _, y5⟩, _⟩ := x
  exact ⟨oe, vs, y1, y2, y3, y4, y5⟩
theorem FlyX.tail (x : FlyX B (env :: l) e c a0 dx fl h) : FlyX B l e c a0 dx fl h := ⟨x.1, x.2.1.2.2, x.2.2⟩
theorem FlyX.mark (x : FlyX B l e c a0 dx fl h) (v : Value) (k : ∀ (T : Addr) (oe : Obj) (vs : Array Value) (oT : Obj) (ts : Array Value), h.get? e = some oe → oe.data = .fields vs → vs[1]? = some (.ref T) → h.get? T = some oT → oT.data = .fields ts → ts[3]? = some fl →
    (FlyX B l e c a0 dx v (h.update T (Obj.mapFields (·.setIfInBounds 3 v))) ∧ h.UpToSlots (h.update T (Obj.mapFields (·.setIfInBounds 3 v)))) → P) : P := by
  obtain ⟨⟨x1, x2⟩, x3, T, oe, vs, oT, ts, ⟨y1, y2, y3, y4, y5, y6, y7⟩, t1, t2, t3, t4, t5⟩ := x
  have oth : ∀ b o, b ≠ T → h.get? b = some o → (h.update T (Obj.mapFields (·.setIfInBounds 3 v))).get? b = some o := fun b o n q => (Heap.get?_update_other _ _ (fun z => n z.symm)).trans q
  have nT : ∀ b o, h.get? b = some o → (∀ ws, o.data ≠ .fields ws) → b ≠ T := fun b o q n z => by
    rw [z, t3] at q
    cases q
    exact n ts t4
  have z3 : 3 < ts.size := (Array.getElem?_eq_some_iff.mp t5).1
  refine k T oe vs oT ts y1 y2 y6 t3 t4 t5 ⟨⟨⟨fun b o q => oth b o (fun z => by rw [z, t2] at q; cases q) (x1 b o q), x2⟩, x3.of_keeps fun b o q n => ⟨o, oth b o (nT b o q n) q, rfl⟩, T, oe, vs, oT.mapFields (·.setIfInBounds 3 v), ts.setIfInBounds 3 v,
    ⟨oth e oe (fun z => t1 z.symm) y1, y2, y3, y4, y5, y6, y7⟩, t1, t2, Heap.get?_update_self _ t3 (Obj.isFreed_of_fields (Obj.data_mapFields t4 _)), Obj.data_mapFields t4 _, ?_⟩, fun b o q n => ⟨o.slots, oth b o (nT b o q n) q⟩⟩
  rw [Array.getElem?_setIfInBounds_self_of_lt z3]
theorem dict_mapFields (f : Array Value → Array Value) (o : Obj) : (o.mapFields f).dict = o.dict := by
  obtain ⟨c, d, dt, sl⟩ := o
  cases dt <;> rfl
theorem entered (hl : h.FunFrames B l) (he : h.get? e = some oe) (hd : oe.data = .fields vs) (hz : 1 < vs.size) (kb : B.StaysIn h) (en : B.get? e = none) (sl : Heap.SlotsOnly (l.filterMap (·.frame)) h h1) (od : ob.data = .fields ts) (t3 : ts[3]? = some fl) (v0 : vs[0]? = some a0) (v2 : vs[2]? = some .none) :
    FlyX B l e oe.cls a0 oe.dict fl ((h1.push ob).update e (Obj.mapFields (·.setIfInBounds 1 (.ref h1.objs.size)))) ∧ h.UpToSlots ((h1.push ob).update e (Obj.mapFields (·.setIfInBounds 1 (.ref h1.objs.size)))) := by
  have offF : e ∉ l.filterMap (·.frame) := fun z => by
    obtain ⟨_, o, q, n⟩ := hl.mem z
    rw [he] at q
    cases q
    exact n vs hd
  have e1 : h1.get? e = some oe := (sl.2.1 e offF).trans he
  have e2 := Heap.get?_push_of_some (h := h1) ob e1
  have d3 := Obj.data_mapFields hd (·.setIfInBounds 1 (.ref h1.objs.size))
  have e3 := Heap.get?_update_self (Obj.mapFields (·.setIfInBounds 1 (.ref h1.objs.size))) e2 (Obj.isFreed_of_fields d3)
  have nTe : h1.objs.size ≠ e := Nat.ne_of_gt (Heap.lt_size e1)
  have of : ob.isFreed = false := Obj.isFreed_of_fields od
  have oth : ∀ b o, b ≠ e → h1.get? b = some o → ((h1.push ob).update e (Obj.mapFields (·.setIfInBounds 1 (.ref h1.objs.size)))).get? b = some o := fun b o n q => (Heap.get?_update_other _ _ (fun z => n z.symm)).trans (Heap.get?_push_of_some _ q)
  have kb1 : B.StaysIn h1 := fun b o q => (sl.2.1 b fun z => by rw [(hl.mem z).1] at q; cases q).trans (kb b o q)
  have ne : ∀ b o, h.get? b = some o → (∀ ws, o.data ≠ .fields ws) → b ≠ e := fun b o q n z => by
    rw [z, he] at q
    cases q
    exact n vs hd
  have up : h.UpToSlots ((h1.push ob).update e (Obj.mapFields (·.setIfInBounds 1 (.ref h1.objs.size)))) := fun b o q n => by
    obtain ⟨sl', q'⟩ := sl.2.2 b o q
    exact ⟨sl', oth b _ (ne b o q n) q'⟩
  refine ⟨⟨⟨fun b o q => oth b o (fun z => by rw [z, en] at q; cases q) (kb1 b o q), en⟩, hl.of_keeps fun b o q n => ?_, h1.objs.size, _, _, ob, ts, ⟨e3, d3, Obj.cls_mapFields _ _, ?_, ?_, ?_, ?_⟩, nTe, kb1.fresh, (Heap.get?_update_other _ _ (fun z => nTe z.symm)).trans (Heap.get?_push_size h1 of), od, t3⟩, up⟩
  · obtain ⟨sl', q'⟩ := up b o q n
    exact ⟨_, q', rfl⟩
  · exact dict_mapFields _ _
  · rw [Array.getElem?_setIfInBounds_ne (by decide)]
    exact v0
  · rw [Array.getElem?_setIfInBounds_self_of_lt hz]
  · rw [Array.getElem?_setIfInBounds_ne (by decide)]
    exact v2
theorem entry_step {head : Value} {hn : Bool} (fr : A.frames = some (env :: outer)) (hl : s.heap.FunFrames B (env :: outer)) (hf : env.frame = some L) (he : s.heap.get? e = some oe) (hd : oe.data = .fields vs) (hz : 1 < vs.size) (kb : B.StaysIn s.heap) (en : B.get? e = none) (v0 : vs[0]? = some a0) (v2 : vs[2]? = some .none)
    (k : ∀ h', FlyX B (env :: outer) e oe.cls a0 oe.dict (rawInt L) h' → s.heap.UpToSlots h' → Q () { s with heap := h' }) : wpAny M A (do let f ← frameOf env; let p ← entryPlaceOf L hn; let t ← EntryCells.newEntry head f .none (rawInt L) .none p; setField (.ref e) 1 t) Q E s := by
  refine wpAny_bind (wpAny_frameOf_fun fr hl hf fun h1 sl => wpAny_bind (wpAny_entryPlaceOf fun pl hp => ?_))
  unfold EntryCells.newEntry newFields
  refine wpAny_bind (wpAny_newObj_type ?_ (hp.sizeOk5 _ _ _ _ _))
  have offF : e ∉ (env :: outer).filterMap (·.frame) := fun z => by
    obtain ⟨_, o, q, n⟩ := hl.mem z
    rw [he] at q
    cases q
    exact n vs hd
  have e1 : h1.get? e = some oe := (sl.2.1 e offF).trans he
  refine wpAny_setField (Heap.get?_push_of_some _ e1) hd hz ?_
  obtain ⟨x1, x2⟩ := entered (fl := rawInt L) (ob := { cls := .type "traceback", dict := none, data := .fields ([head, .ref L, .none, rawInt L, .none] ++ (if pl.isEmpty then List.replicate 6 Value.none else pl)).toArray }) hl he hd hz kb en sl rfl (by
    first | (simp; done) | (rcases hp with rfl | ⟨_, _, _, _, _, _, _, rfl⟩ <;> simp)) v0 v2
  exact k _ x1 x2
theorem FlyX.lands (x : FlyX B l e c a0 dx fl s.heap) (k : ∀ h', FlyX B l e c a0 dx .none h' → s.heap.UpToSlots h' → Q () { s with heap := h' }) : wpAny M A (setFlight (.ref e) none) Q E s := by
  refine x.mark .none fun T oe vs oT ts y1 y2 y3 t1 t2 t3 ⟨x1, x2⟩ => ?_
  unfold setFlight
  refine wpAny_bind (wpAny_field y1 y2 y3 ?_)
  rw [if_pos (by simp)]
  exact wpAny_setField t1 t2 (Array.getElem?_eq_some_iff.mp t3).1 (k _ x1 x2)
theorem FlyX.looks (fr : A.frames = some (env :: outer)) (hf : env.frame = some L) (x : FlyX B (env :: outer) e c a0 dx .none s.heap) (k : ∀ h', FlyX B (env :: outer) e c a0 dx (rawInt L) h' → s.heap.UpToSlots h' → Q () { s with heap := h' }) : wpAny M A (noteFrame (.ref e) env) Q E s := by
  refine x.mark .none fun T oe vs oT ts y1 y2 y3 t1 t2 t3 ⟨x1, x2⟩ => ?_
  unfold noteFrame
  simp only [hf]
  refine wpAny_bind (wpAny_field y1 y2 y3 ?_)
  rw [if_pos (by simp)]
  refine wpAny_bind (wpAny_field t1 t2 t3 ?_)
  rw [if_neg (by simp [rawInt])]
  refine wpAny_bind (wpAny_setField t1 t2 (Array.getElem?_eq_some_iff.mp t3).1 ?_)
  obtain ⟨⟨z1, z2⟩, z3, T', o', v', _, _, ⟨q1, q2, q3, q4, q5, q6, q7⟩, _⟩ := x1
  subst q3 q4
  exact entry_step fr z3 hf q1 q2 (Array.getElem?_eq_some_iff.mp q6).1 z1 z2 q5 q7 fun h' w1 w2 => k h' w1 (x2.trans w2)
theorem FlyX.leaves (fr : A.frames = some (env :: outer)) (hf : env.frame = some L) (x : FlyX B (env :: outer) e c a0 dx .none s.heap) (k : ∀ h', FlyX B outer e c a0 dx .none h' → s.heap.UpToSlots h' → Q () { s with heap := h' }) : wpAny M A (leaving env (.ref e)) Q E s := by
  unfold leaving
  exact wpAny_bind (x.looks fr hf fun h1 x1 u1 => x1.lands fun h2 x2 u2 => k h2 x2.tail (u1.trans u2))
theorem leaves_new (fr : A.frames = some (env :: outer)) (hf : env.frame = some L) (hl : s.heap.FunFrames B (env :: outer)) (he : s.heap.get? e = some oe) (hd : oe.data = .fields vs) (kb : B.StaysIn s.heap) (en : B.get? e = none) (v0 : vs[0]? = some a0) (v1 : vs[1]? = some .none) (v2 : vs[2]? = some .none)
    (k : ∀ h', FlyX B outer e oe.cls a0 oe.dict .none h' → s.heap.UpToSlots h' → Q () { s with heap := h' }) : wpAny M A (leaving env (.ref e)) Q E s := by
  unfold leaving noteFrame
  simp only [hf]
  refine wpAny_bind (wpAny_bind (wpAny_field he hd v1 ?_))
  rw [if_neg (by decide)]
  exact entry_step fr hl hf he hd (Array.getElem?_eq_some_iff.mp v1).1 kb en v0 v2 fun h1 x1 u1 => x1.lands fun h2 x2 u2 => k h2 x2.tail (u1.trans u2)
end
end L2
namespace L2
open PySem PySem.Spec PyProof.Rows
section
variable {P : Program} {w : World} {H H' : Hp} {h h' h2 : Heap} {a : Addr} {o : HO}
theorem ObjOk.at (x : ObjOk P w H h a o) : ∃ ob, h.get? a = some ob := by
  cases o with
  | lst xs => obtain ⟨_, _, _, _, e⟩ := x; exact ⟨_, e⟩
  | tup xs => obtain ⟨_, _, _, ob, e, _⟩ := x; exact ⟨ob, e⟩
  | dK kvs => obtain ⟨_, _, _, _, ob, _, _, e, _⟩ := x; exact ⟨ob, e⟩
  | dT kvs => obtain ⟨_, _, _, _, ob, _, _, e, _⟩ := x; exact ⟨ob, e⟩
  | set S n => obtain ⟨ob, _, _, _, e, _⟩ := x; exact ⟨ob, e⟩
  | ins C dx fs => obtain ⟨_, _, _, e, _⟩ := x; exact ⟨_, e⟩
  | own y => exact x
  | xd fs => obtain ⟨_, ⟨ob, _, _, e, _⟩, _⟩ := x; exact ⟨ob, e⟩
  | rng lo hi => obtain ⟨_, _, _, e⟩ := x; exact ⟨_, e⟩
  | frz ob u => exact ⟨ob, x.1⟩
  | tbl ps => exact ⟨_, x⟩
  | met f y => exact ⟨_, x⟩
  | ext φ => exact x.2.1
structure Kept (B : Heap) (fs : List Addr) (H : Hp) (h : Heap) (H' : Hp) (h' : Heap) : Prop where
  old : ∀ b o, h.get? b = some o → H b = none → b ∉ fs → B.get? b = some o
  any : ∀ b o, h.get? b = some o → b ∉ fs → ∃ o', B.get? b = some o'
  trk : ∀ b o, H' b ≠ none → h'.get? b = some o → B.get? b = some o
theorem Kept.fly {B : Heap} {fs : List Addr} (k : Kept B fs H h H' h') (ok : HOk P w H' h') (st : ∀ b o, B.get? b = some o → h2.get? b = some o) : Kept B fs H h H' h2 :=
  ⟨k.old, k.any, fun b o n e => by
    cases q : H' b with
    | none => exact absurd q n
    | some u =>
      obtain ⟨ob, e1⟩ := (ok b u q).at
      have e2 := k.trk b ob n e1
      have e3 := st b ob e2
      rw [e] at e3
      rw [Option.some.inj e3]
      exact e2⟩
end
def CXE (P : Program) (w : World) : CXT := fun outer H s E e s' => ∃ (a t : Addr) (cls : Value) (dx : Option Addr) (H' : Hp) (B : Heap), e = .ref a ∧ E cls dx H' ∧ s'.os = s.os ∧ AllBare s'.gens ∧ Un (frs outer) [] H H' s.heap s'.heap ∧ HOk P w H' s'.heap ∧
  FlyX B outer a cls (.ref t) dx .none s'.heap ∧ Kept B (frs outer) H s.heap H' s'.heap ∧ H' a = none
section
variable {X : Cx} {pins : List (Addr × Obj)} {σ : St} {H H' : Hp} {s s' : Shared} {B h' h2 : Heap}
theorem Inv.offStack (I : Inv X pins σ H s) {b : Addr} {o : Obj} (e : X.s₀.heap.get? b = some o) (n : b ∉ X.fs) : b ∉ frs X.stack := fun z => by
  rcases List.mem_cons.mp (I.stkSub b z) with q | q
  · have h1 := Heap.lt_size e
    have h2 := I.ok.above
    rw [q] at h1
    exact absurd (Nat.lt_of_lt_of_le h1 h2) (Nat.lt_irrefl _)
  · exact n q
theorem Inv.trkOff (I : Inv X pins σ H s) {b : Addr} (n : H b ≠ none) : b ∉ frs X.stack := fun z => n (I.stkFree b z)
theorem Inv.keptHide (I : Inv X pins σ H s) (hx : X.ex = []) (k : ∀ b o, s.heap.get? b = some o → h'.get? b = some o) : Kept (PySem.W.hideAll s.heap (frs X.stack)) X.fs X.H₀ X.s₀.heap H h' := by
  have nx : ∀ b : Addr, b ∉ X.ex := fun b z => by rw [hx] at z; cases z
  refine ⟨fun b o e n f => PySem.W.hideAll_get _ (I.base.keep b o e n f (nx b)) (I.offStack e f), fun b o e f => ?_, fun b o n e => ?_⟩
  · obtain ⟨o', e'⟩ := I.base.there b o e (nx b)
    exact ⟨o', PySem.W.hideAll_get _ e' (I.offStack e f)⟩
  · cases q : H b with
    | none => exact absurd q n
    | some u =>
      obtain ⟨ob, e1⟩ := (I.hok b u q).at
      have e2 := k b ob e1
      rw [e] at e2
      rw [Option.some.inj e2]
      exact PySem.W.hideAll_get _ e1 (I.trkOff n)
theorem Inv.flown (I : Inv X pins σ H s) (hx : X.ex = []) (k : Kept B X.fs X.H₀ X.s₀.heap H s.heap) (st : ∀ b o, B.get? b = some o → h2.get? b = some o) (up : s.heap.UpToSlots h2) :
    Un X.fs [] X.H₀ H X.s₀.heap h2 ∧ HOk X.prog X.w H h2 := by
  have nx : ∀ b : Addr, b ∉ X.ex := fun b z => by rw [hx] at z; cases z
  have slot : ∀ b o, X.s₀.heap.get? b = some o → X.H₀ b = none → b ∈ X.fs → ∃ sl, h2.get? b = some { o with slots := sl } := fun b o e n f => by
    obtain ⟨sl, e1⟩ := I.base.slot b o e n f (nx b)
    obtain ⟨_, o1, e2, nf⟩ := I.ok.funs.mem f
    rw [e] at e2
    cases Option.some.inj e2
    obtain ⟨sl', e3⟩ := up b _ e1 nf
    exact ⟨sl', e3⟩
  refine ⟨⟨fun b o e n f _ => st b o (k.old b o e n f), fun b o e n f _ => slot b o e n f, fun b o e n _ => I.base.free b o e n (nx b), fun b o e _ => ?_, I.base.tups, I.base.frzs, I.base.tbls⟩, fun a o e => ?_⟩
  · by_cases f : b ∈ X.fs
    · obtain ⟨sl, q⟩ := slot b o e (I.ok.frf b f) f
      exact ⟨_, q⟩
    · obtain ⟨o', e'⟩ := k.any b o e f
      exact ⟨o', st b o' e'⟩
  · refine (I.hok a o e).stay (fun b u hb q => st b u (k.trk b u ?_ q)) (fun _ q => q) fun _ _ q => q
    rcases hb with z | z
    · rw [z, e]
      intro y
      cases y
    · rw [z]
      intro y
      cases y
end
structure XPass (X : Cx) (W : Value → Option Addr → St → Hp → Prop) : Prop where
  call : ∀ (pins : List (Addr × Obj)) (σ : St) (H : Hp) (s : Shared) (e : Value) (s' : Shared), Inv X pins σ H s → CXE X.prog X.w X.stack H s (fun cls dx H2 => W cls dx σ H2) e s' → X.xe e s'
structure XMade (X : Cx) (W : Value → Option Addr → St → Hp → Prop) : Prop where
  ex : X.ex = []
  made : ∀ (pins : List (Addr × Obj)) (σ : St) (H : Hp) (s : Shared) (e t : Addr) (oe : Obj) (vs : Array Value), Inv X pins σ H s → X.s₀.heap.get? e = none → H e = none → s.heap.get? e = some oe → oe.data = .fields vs → vs[0]? = some (.ref t) → vs[1]? = some .none → vs[2]? = some .none → W oe.cls oe.dict σ H → X.xe (.ref e) s
theorem Inv.keptHideE (I : Inv X pins σ H s) (hx : X.ex = []) {e : Addr} (n0 : X.s₀.heap.get? e = none) (nH : H e = none) : Kept (PySem.W.hideAll s.heap (e :: frs X.stack)) X.fs X.H₀ X.s₀.heap H s.heap := by
  have nx : ∀ b : Addr, b ∉ X.ex := fun b z => by rw [hx] at z; cases z
  have ne : ∀ b o, X.s₀.heap.get? b = some o → b ≠ e := fun b o q z => by
    rw [z, n0] at q
    cases q
  have off : ∀ b o, X.s₀.heap.get? b = some o → b ∉ X.fs → b ∉ e :: frs X.stack := fun b o q f z => by
    rcases List.mem_cons.mp z with y | y
    · exact ne b o q y
    · exact I.offStack q f y
  refine ⟨fun b o q n f => PySem.W.hideAll_get _ (I.base.keep b o q n f (nx b)) (off b o q f), fun b o q f => ?_, fun b o n q => ?_⟩
  · obtain ⟨o', e'⟩ := I.base.there b o q (nx b)
    exact ⟨o', PySem.W.hideAll_get _ e' (off b o q f)⟩
  · refine PySem.W.hideAll_get _ q fun z => ?_
    rcases List.mem_cons.mp z with y | y
    · rw [y] at n
      exact n nH
    · exact I.trkOff n y
theorem XMade.of {X : Cx} {W : Value → Option Addr → St → Hp → Prop} (x : XMade X W) {pins : List (Addr × Obj)} {σ : St} {H : Hp} {s : Shared} {h' : Heap} {e : Addr} {cls : Value} {args : List Value} (I : Inv X pins σ H s) (hm : Heap.MadeExcOf s.heap h' e cls args) (w : W cls none σ H) : X.xe (.ref e) { s with heap := h' } := by
  obtain ⟨t, q, _, _⟩ := hm.there
  refine x.made pins σ H _ e t _ _ (I.kept (h' := h') (t' := s.toks) hm.keeps) ?_ ?_ q rfl rfl rfl rfl w
  · cases z : X.s₀.heap.get? e with
    | none => rfl
    | some o =>
      obtain ⟨o', z'⟩ := I.base.there e o z (fun y => by rw [x.ex] at y; cases y)
      rw [hm.new] at z'
      cases z'
  · cases z : H e with
    | none => rfl
    | some u =>
      obtain ⟨ob, e1⟩ := (I.hok e u z).at
      rw [hm.new] at e1
      cases e1
def WN : Value → Option Addr → St → Hp → Prop := fun _ _ _ _ => False
theorem xpass_nox {X : Cx} : XPass X.nox WN :=
  ⟨fun _ _ _ _ _ _ _ h => by
    obtain ⟨_, _, _, _, _, _, _, z, _⟩ := h
    exact z.elim⟩
theorem xpass_cx {P : Program} {w : World} {K : PySem.W.Frag} {mg : Str → Option Value} {base : Heap} {N : List Str} {qual : Str} {scope : Scope} {f : Addr} {cd : Value} {A : Around} {outer : List Env} {s₀ : Shared} {H₀ : Hp} {E : XK} :
    XPass (cxOf (CXE P w) P w K mg base N qual scope f cd A outer s₀ H₀ E) (fun cls dx _ H => E cls dx H) := by
  refine ⟨fun pins σ H s e s' I c => ?_⟩
  · obtain ⟨a, t, cls, dx, H', B, rfl, hE, os, bare, un, hok, fl, kp, ha⟩ := c
    have I' := I.call' (s' := s') (ch := []) os un hok bare (fun b z => nomatch z)
    refine FlyX.leaves I.ok.frames rfl fl fun h2 fl2 up => ?_
    have kp' : Kept B (frs outer) H₀ s₀.heap H' s'.heap := ⟨fun b o e n f => kp.old b o (I.base.keep b o e n f (fun z => nomatch z)) (I.base.free b o e n (fun z => nomatch z)) (I.offStack e f), fun b o e f => by
      obtain ⟨o', e'⟩ := I.base.there b o e (fun z => nomatch z)
      exact kp.any b o' e' (I.offStack e f), kp.trk⟩
    obtain ⟨u2, ok2⟩ := I'.flown rfl kp' fl2.stays up
    exact ⟨a, t, cls, dx, H', B, rfl, hE, I'.os, I'.bare, u2, ok2, fl2, kp'.fly hok fl2.stays, ha⟩
theorem xmade_cx {P : Program} {w : World} {K : PySem.W.Frag} {mg : Str → Option Value} {base : Heap} {N : List Str} {qual : Str} {scope : Scope} {f : Addr} {cd : Value} {A : Around} {outer : List Env} {s₀ : Shared} {H₀ : Hp} {E : XK} :
    XMade (cxOf (CXE P w) P w K mg base N qual scope f cd A outer s₀ H₀ E) (fun cls dx _ H => E cls dx H) := by
  refine ⟨rfl, fun pins σ H s e t oe vs I n0 nH he hd v0 v1 v2 hE => ?_⟩
  have kp := I.keptHideE rfl n0 nH
  refine leaves_new (B := PySem.W.hideAll s.heap (e :: frs (envOfC qual scope s₀.heap.objs.size f cd :: outer))) I.ok.frames rfl (PySem.W.funFrames_hide I.stack fun env he b hb => List.mem_cons_of_mem _ (List.mem_filterMap.mpr ⟨env, he, hb⟩)) he hd (fun b o q => PySem.W.of_hideAll _ q) (PySem.W.hideAll_none _ (List.mem_cons_self ..)) v0 v1 v2 fun h2 fl up => ?_
  obtain ⟨u2, ok2⟩ := I.flown rfl kp fl.stays up
  exact ⟨e, t, _, _, H, _, rfl, hE, I.os, I.bare, u2, ok2, fl, kp.fly I.hok fl.stays, nH⟩
def tCallS (sp : Sp) (W : Value → Option Addr → St → Hp → Prop) (t : TA) : TE := fun σ H Q => t σ H fun vs H1 => sp vs H1 Q (fun cls dx H2 => W cls dx σ H2)
section
variable {X : Cx} {k : Nat} {ps : List Str} {sp : Sp} {W : Value → Option Addr → St → Hp → Prop} {x : Str} {p pos : Pos} {e : Expr} {es : List Expr} {t : TA}
theorem pe_defS (D : Def X.prog X.w X.K X.mg X.base (CXE X.prog X.w) k x ps sp) (hr : Room k X.A) (hg : Gl X x) (hx : XPass X W)
    (ha : PA X (e :: es) t) (hdb : (x == ("__debug__" : Str)) = false := by decide) (he : starEach (e :: es) X.env = (false, eval e X.env) :: starEach es X.env := by rfl) (hpl : (backTo pos (starEach es X.env)).any (·.1) = false := by rfl) :
    PE X (.Call (.Name x p) (e :: es) [] pos) (tCallS sp W t) := by
  obtain ⟨f, fd, F, m, kp, b, _⟩ := D.ex
  intro pins s σ H Q I h
  refine wpAny_Call_Name_kw (ld_glob I hg m ?_ hdb)
  refine PySem.W.callWith_K (h₀ := X.base) I.ok.mod.kin kp (thn (ha pos pins s σ H _ I h) fun us s1 ⟨vs, H1, I1, r, q⟩ => ⟨I1.kIn, ?_⟩) he hpl
  have hl : (us ++ []).length = ps.length := by rw [List.append_nil, ← r.length]; exact F.len _ _ _ _ q
  have bnd := b s1 us I1.kIn hl
  rw [List.append_nil] at bnd
  refine wpAny_call (codeAny_mono (F.run X.A X.stack s1 H1 ⟨us, []⟩ us vs Q _ hr I1.env0 bnd r q) fun res s2 hq => ?_)
  cases res with
  | error ex => exact hx.call pins σ H1 s1 ex s2 I1 hq
  | ok fl =>
    cases fl with
    | ret u => exact I1.after hq
    | next => exact False.elim hq
    | brk => exact False.elim hq
    | cont => exact False.elim hq
def tRaise (C : Addr) (W : Value → Option Addr → St → Hp → Prop) (t : TA) : TS := fun _ σ H => t σ H fun vs H1 => vs.length ≤ sizeLine ∧ W (.ref C) none σ H1
theorem ps_raise {C : Addr} {bmB : List Value} {B newId initId : String} {np cpos : Pos} (O : OwnCls x C bmB newId X.mg X.base) (FB : ExcBaseFacts B newId initId bmB) (hc : X.calm = true) (hg : Gl X x) (hx : XMade X W) (ha : PA X (e :: es) t)
    (hdb : (x == ("__debug__" : Str)) = false := by decide) (he : starEach (e :: es) X.env = (false, eval e X.env) :: starEach es X.env := by rfl) (hpl : (backTo cpos (starEach es X.env)).any (·.1) = false := by rfl) :
    PS X (.Raise (some (.Call (.Name x np) (e :: es) [] cpos)) none pos) (tRaise C W t) := by
  intro pins s σ H D I h
  obtain ⟨tl, nsA, nmA, qA, bsA, hdA, snA, subA, abA, colA, ddA, k0, k1, k2, k3, k5, mN, hC, hN, hni, T⟩ := O.obj
  refine wpAny_Raise_call_subT (nm := nmA) (q := qA) (C := C) (N := nsA) (bs := bsA) (bm := tl) (hdct := hdA) (sn := snA) (sub := subA) (ab := abA) (col := colA) (dd := ddA) (k0 := k0) (k1 := k1) (k2 := k2) (k3 := k3) (k5 := k5) FB (mN := mN)
    (T.hasType FB.hasBase) (I.ok.hd hc) (by rw [he]; show (false || (backTo cpos (starEach es X.env)).any (·.1)) = false; rw [hpl]; rfl) hni (ld_glob I hg O.bound ⟨rfl, ?_⟩ hdb)
  have h1 := ha cpos pins s σ H _ I h
  rw [he] at h1 ⊢
  exact Calls.evalArgs_plain (wpAny_mono h1 (fun us s2 ⟨vs, H2, I2, r, hz, hW⟩ => ⟨rfl, by rw [← r.length]; exact hz, I2.bk _ _ hC, hN.keeps I2.bk, T.keeps I2.bk, fun h' a hm => hx.of I2 hm hW⟩) fun _ _ y => y)
end
theorem own_mk {K : PySem.W.Frag} {h : Heap} {mg : Str → Option Value} {x : Str} {C : Addr} {bmB : List Value} {newId : String} (X : K.In h) (hm : mg x = some (.ref C)) (q : PySem.W.excIn K C bmB newId = true) : OwnCls x C bmB newId mg h := by
  refine ⟨hm, ?_⟩
  unfold PySem.W.excIn at q
  split at q
  · rename_i dA cdA slA look
    split at q
    · rename_i C1 bm1 e0 e1 e2 e3 nA e5 hmro hsl
      simp only [Bool.and_eq_true, beq_iff_eq, Bool.not_eq_true'] at q
      obtain ⟨⟨⟨⟨⟨z1, z2⟩, hdel⟩, ht⟩, hok⟩, hni⟩ := q
      subst z1 z2
      obtain ⟨f1, f2, f3, f4, f5, f6, f7, f8, f9, f10, f11⟩ := cdA
      dsimp only at hmro hdel hok hni
      subst hmro hdel
      have es : slA = #[e0, e1, e2, e3, some (.builtin nA), e5] := by
        obtain ⟨l⟩ := slA
        simp only at hsl
        rw [hsl]
      subst es
      exact ⟨bm1, f4, f1, f5, f2, f6, f7, f8, f9, f10, dA, e0, e1, e2, e3, e5, _, X _ _ look, .of_isNs (PySem.W.isNs_of_in X hok), PySem.W.nsMap_none_of_in X hok hni, PySem.W.tail_of_in X ht⟩
    · cases q
  · cases q
theorem rd_callS {sp : Sp} {W : Value → Option Addr → St → Hp → Prop} {t : TA} {σ : St} {H : Hp} {Q : VK} (h : t σ H fun vs H1 => sp vs H1 Q (fun cls dx H2 => W cls dx σ H2)) : tCallS sp W t σ H Q := h
def kRaise (C : Addr) (W : Value → Option Addr → St → Hp → Prop) (σ : St) (vs : List V) (H : Hp) : Prop := vs.length ≤ sizeLine ∧ W (.ref C) none σ H
theorem rd_raise {C : Addr} {W : Value → Option Addr → St → Hp → Prop} {t : TA} {D : Ends} {σ : St} {H : Hp} (h : t σ H fun vs H1 => kRaise C W σ vs H1) : tRaise C W t D σ H := h
theorem rd_kRaise {C : Addr} {W : Value → Option Addr → St → Hp → Prop} {σ : St} {v : V} {H : Hp} (h : W (.ref C) none σ H) : kRaise C W σ [v] H := ⟨(by show 1 ≤ sizeLine; decide), h⟩
section
variable {X : Cx} {pos : Pos}
def tJ : List TE → Str → TE
  | [], out => fun _ H Q => Q (.str out) H
  | t :: r, out => fun σ H Q => t σ H fun x H1 => ∃ y, x = .str y ∧ (out ++ y).length ≤ sizeLine ∧ tJ r (out ++ y) σ H1 Q
inductive PJ (X : Cx) : List Expr → List TE → Prop where
  | nil : PJ X [] []
  | cons {e : Expr} {es : List Expr} {t : TE} {ts : List TE} (h : PE X e t) (r : PJ X es ts) : PJ X (e :: es) (t :: ts)
theorem PJ.run {es : List Expr} {ts : List TE} (h : PJ X es ts) : ∀ {out : Str} {pins : List (Addr × Obj)} {s : Shared} {σ : St} {H : Hp} {Q : VK}, out.length ≤ sizeLine → Inv X pins σ H s → tJ ts out σ H Q →
    wpAny (model X.prog X.w) X.A (joinParts out (evalEach es X.env)) (EP X pins σ Q) X.xe s := by
  induction h with
  | nil => exact fun hz I q => joinParts_nil ⟨.str _, _, I.tok _, ⟨_, rfl⟩, q⟩ hz
  | cons h _ ih =>
    intro out pins s σ H Q _ I q
    refine joinParts_cons (thn (h pins s σ H _ I q) fun u s1 ⟨x, H1, I1, r1, y, ex, hz, q1⟩ => ?_)
    subst ex
    obtain ⟨tk, rfl⟩ := r1
    exact ⟨hz, ih hz I1 q1⟩
theorem pe_joined {v1 v2 : Expr} {rest : List Expr} {ts : List TE} (h : PJ X (v1 :: v2 :: rest) ts) : PE X (.JoinedStr (v1 :: v2 :: rest) pos) (tJ ts Str.empty) :=
  fun _ _ _ _ _ I q => JoinedStr_many (h.run (by decide) I q)
def tFmtI (te : TE) : TE := fun σ H Q => te σ H fun x H1 => ∃ i, x = .int i ∧ i.natAbs.log2 < 1920 ∧ Q (.str (toString i)) H1
theorem pe_fmtI {e : Expr} {te : TE} (h : PE X e te) : PE X (.FormattedValue e (-1) none pos) (tFmtI te) := fun pins s σ H Q I q =>
  FormattedValue_plain (thn (h pins s σ H _ I q) fun u s1 ⟨x, H1, I1, r1, i, ex, hz, q1⟩ => by
    subst ex
    obtain ⟨tk, rfl⟩ := r1
    exact formatField_int_small hz ⟨.str _, _, I1.tok _, ⟨_, rfl⟩, q1⟩)
def kStr (out : Str) (x : V) (H : Hp) (R : Str → Hp → Prop) : Prop := ∃ y, x = .str y ∧ (out ++ y).length ≤ sizeLine ∧ R (out ++ y) H
theorem rd_jnil {out : Str} {σ : St} {H : Hp} {Q : VK} (h : Q (.str out) H) : tJ [] out σ H Q := h
theorem rd_jcons {t : TE} {r : List TE} {out : Str} {σ : St} {H : Hp} {Q : VK} (h : t σ H fun x H1 => kStr out x H1 fun o2 H2 => tJ r o2 σ H2 Q) : tJ (t :: r) out σ H Q := h
theorem rd_kStr {out y : Str} {H : Hp} {R : Str → Hp → Prop} (hz : (out ++ y).length ≤ sizeLine) (h : R (out ++ y) H) : kStr out (.str y) H R := ⟨y, rfl, hz, h⟩
def kFmt (x : V) (H : Hp) (Q : VK) : Prop := ∃ i : Int, x = .int i ∧ i.natAbs.log2 < 1920 ∧ Q (.str (toString i)) H
theorem rd_fmt {te : TE} {σ : St} {H : Hp} {Q : VK} (h : te σ H fun x H1 => kFmt x H1 Q) : tFmtI te σ H Q := h
theorem rd_kFmt {i : Int} {H : Hp} {Q : VK} (hz : i.natAbs.log2 < 1920) (h : Q (.str (toString i)) H) : kFmt (.int i) H Q := ⟨i, rfl, hz, h⟩
end
end L2
set_option maxRecDepth 100000
set_option maxHeartbeats 4000000
namespace L2
open PySem PySem.Spec PyProof.Rows PySem.W
section
variable {prog : Program} {w : World} {A : Around} {E : Value → Shared → Prop} {s : Shared} {K : PySem.W.Frag} {x C : Addr}
structure ExcK (K : PySem.W.Frag) (C : Addr) : Prop where
  cl : (clsIn K C).isSome = true
  ga : findIn K (.ref C) "__getattribute__" = some (some (.builtin "BaseException.__getattribute__"))
  hk : findIn K (.ref C) "__getattr__" = some none
  fc : findIn K (.ref C) "__class__" = some (some (.builtin "object.__class__"))
  ob : mroIn K C (.type "object") = some true
  be : mroIn K C (.type "BaseException") = some true
def ExcAt (x C : Addr) (h : Heap) : Prop := ∃ ox, h.get? x = some ox ∧ ox.cls = .ref C
theorem ExcAt.ty {h : Heap} (M : Model) (p : ExcAt x C h) : Looks M h (typeOf (.ref x)) (.ref C) := by
  obtain ⟨ox, h1, h2⟩ := p
  exact h2 ▸ (Looks.ld h1).andThen .now
theorem exc_get {tp : Value} {R : Result → Shared → Prop} (Z : ExcK K C) (X : K.In s.heap) (I : ExcAt x C s.heap) (h : R (.ok (.ret (.ref C))) s) :
    codeAny (model prog w) A (.call (.builtin "getset_descriptor.__get__") ⟨[.builtin "object.__class__", .ref x, tp], []⟩) R s := by
  obtain ⟨hh, g, d, t, os⟩ := s
  have L0 := I.ty (model prog w)
  have L1 := looks_mroIn (M := model prog w) X Z.ob
  have T5 : (⟨hh, g, d, t, os⟩ : Shared).TypeIs (.builtin "object.__class__") "getset_descriptor" := PySem.F.typeOf_object_class
  have ow := PySem.F.owner_object_class
  refine codeAny_call_builtin PySem.F.slot_gs_get.plain PySem.F.entry_gs_get (PySem.F.slot_gs_get.check _ _ _ _ _ _ _ _ T5 (PySem.F.args_gs_get _ _ _) ?_)
  repeat (any_goals (first | assumption | (with_reducible refine L0.at ?_) | (rw [ow]; with_reducible refine L1.at ?_) | wp_step))
  refine ⟨Code.quiet_builtin _ (by decide +kernel), codeAny_builtin PySem.F.entry_object_class ?_⟩
  repeat (any_goals (first | assumption | (with_reducible refine L0.at ?_) | wp_step))
theorem exc_entry {tk : Tok} {Q : PySem.Fin → Shared → Prop} (Z : ExcK K C) (X : K.In s.heap) (I : ExcAt x C s.heap) (h : Q (.done (.ret (.ref C))) s) :
    wpAny (model prog w) A (Builtin.«object.__getattribute__» ⟨[.ref x, .str "__class__" tk], []⟩) Q E s := by
  obtain ⟨hh, g, d, t, os⟩ := s
  have L0 := I.ty (model prog w)
  have L3 := looks_findIn (M := model prog w) X Z.fc
  have T5 : (⟨hh, g, d, t, os⟩ : Shared).TypeIs (.builtin "object.__class__") "getset_descriptor" := PySem.F.typeOf_object_class
  have f5 := PySem.F.typeOf_object_class
  have f6 := PySem.F.slot_gs_get.lookup
  have f7 := PySem.F.slot_gs_set.lookup
  unfold Builtin.«object.__getattribute__»
  repeat (any_goals (first | assumption | (with_reducible refine L0.at ?_) | (with_reducible refine L3.at ?_) | wp_step))
  refine exc_get (s := ⟨hh, g, d, t, os⟩) Z X I ?_
  repeat (any_goals (first | assumption | wp_step))
theorem exc_check {nameV : Value} {Q : Unit → Shared → Prop} {M : Model} (Z : ExcK K C) (X : K.In s.heap) (I : ExcAt x C s.heap) (h : Q () s) : wpAny M A (checkBuiltinCall "BaseException.__getattribute__" ⟨[.ref x, nameV], []⟩) Q E s := by
  obtain ⟨hh, g, d, t, os⟩ := s
  have L0 := I.ty M
  have L4 := looks_mroIn (M := M) X Z.be
  have z1 : builtinKind "BaseException.__getattribute__" = some .slot := by decide +kernel
  have z2 : splitId "BaseException.__getattribute__" = some ("BaseException", "__getattribute__") := by decide +kernel
  have z3 := PySem.F.args_bexc_ga (.ref x) nameV
  simp only [checkBuiltinCall, z1, z2]
  refine wpAny_bind ?_
  unfold isInstance
  repeat (first | (with_reducible refine L0.at ?_) | (with_reducible refine L4.at ?_) | wp_step)
  exact h
theorem exc_class {Q : Option Value → Shared → Prop} (Z : ExcK K C) (X : K.In s.heap) (I : ExcAt x C s.heap) (h : Q (some (.ref C)) { s with toks := s.toks + 1 }) : wpAny (model prog w) A (getAttr? (.ref x) "__class__") Q E s := by
  obtain ⟨hh, g, d, t, os⟩ := s
  have L0 := I.ty (model prog w)
  have L1 := looks_findIn (M := model prog w) X Z.ga
  have L2 := looks_findIn (M := model prog w) X Z.hk
  have b3 := PySem.F.excAttr_ValueError.ga.bind (.ref x)
  have z2 : (Value.builtin "BaseException.__getattribute__" == Value.builtin "object.__getattribute__") = false := by decide +kernel
  have z1 : (onTheHeap (Value.ref C) && Value.builtin "BaseException.__getattribute__" == Value.builtin "object.__getattribute__") = false := by rw [z2]; rfl
  unfold getAttr? getAttrBy? getAttrBy
  repeat (any_goals (first | assumption | (with_reducible refine L0.at ?_) | (with_reducible refine L1.at ?_) | (with_reducible refine L2.at ?_) | wp_step))
  refine codeAny_call_builtin PySem.F.excAttr_ValueError.ga.plain PySem.F.entry_bexc_ga (exc_check (s := ⟨hh, g, d, t + 1, os⟩) Z X I (exc_entry (s := ⟨hh, g, d, t + 1, os⟩) Z X I ?_))
  repeat (any_goals (first | assumption | wp_step))
theorem kitx_exc (Z : ExcK K C) : KitX K (.ref x) (.ref C) (ExcAt x C) where
  ty := fun M _ _ I => I.ty M
  it := fun _ _ X _ => by
    have z := Z.cl
    unfold clsIn at z
    split at z
    · rename_i look
      intro A' Q' E' s' k q
      unfold isType loadHead
      exact wpAny_bind (wpAny_loadPart (k _ _ (X _ _ look)) (wpAny_pure q))
    · cases z
  ne := fun h tp dd its n sl X htp => by
    refine Bool.eq_false_iff.mpr (fun y => ?_)
    have e : C = tp := Value.ref.inj (beq_iff_eq.mp y)
    subst e
    have z := Z.cl
    unfold clsIn at z
    split at z
    · rename_i look
      have y := (X _ _ look).symm.trans htp
      cases y
    · cases z
  ca := fun X I k => exc_class Z X I k
end
section
variable {P : Program} {w : World} {fs : List Addr} {H H' : Hp} {h h' h2 B : Heap}
theorem Un.flown (u : Un fs [] H H' h h') (fr : ∀ b ∈ fs, H b = none ∧ ∃ o, h.get? b = some o ∧ ∀ vs, o.data ≠ .fields vs) (k : Kept B fs H h H' h') (st : ∀ b o, B.get? b = some o → h2.get? b = some o) (up : h'.UpToSlots h2) : Un fs [] H H' h h2 := by
  have slot : ∀ b o, h.get? b = some o → b ∈ fs → ∃ sl, h2.get? b = some { o with slots := sl } := fun b o e f => by
    obtain ⟨n, o1, e2, nf⟩ := fr b f
    obtain ⟨sl, e1⟩ := u.slot b o e n f (fun z => nomatch z)
    rw [e] at e2
    cases Option.some.inj e2
    obtain ⟨sl', e3⟩ := up b _ e1 nf
    exact ⟨sl', e3⟩
  refine ⟨fun b o e n f _ => st b o (k.old b o e n f), fun b o e n f _ => slot b o e f, fun b o e n _ => u.free b o e n (fun z => nomatch z), fun b o e _ => ?_, u.tups, u.frzs, u.tbls⟩
  by_cases f : b ∈ fs
  · obtain ⟨sl, q⟩ := slot b o e f
    exact ⟨_, q⟩
  · obtain ⟨o', e'⟩ := k.any b o e f
    exact ⟨o', st b o' e'⟩
theorem HOk.flown (ok : HOk P w H' h') (k : Kept B fs H h H' h') (st : ∀ b o, B.get? b = some o → h2.get? b = some o) : HOk P w H' h2 := fun a o e => by
  refine (ok a o e).stay (fun b u hb q => st b u (k.trk b u ?_ q)) (fun _ q => q) fun _ _ q => q
  rcases hb with z | z
  · rw [z, e]
    intro y
    cases y
  · rw [z]
    intro y
    cases y
end
section
variable {X : Cx} {pins : List (Addr × Obj)} {σ : St} {H H' : Hp} {s s' : Shared} {a : Addr} {cls : Value} {dx : Option Addr}
def Air (X : Cx) (pins : List (Addr × Obj)) (σ : St) (H' : Hp) (a : Addr) (cls : Value) (dx : Option Addr) (s : Shared) : Prop := ∃ (H : Hp) (s0 : Shared) (B : Heap) (t : Addr), Inv X pins σ H s0 ∧ s.os = s0.os ∧ AllBare s.gens ∧ Un (frs X.stack) [] H H' s0.heap s.heap ∧ HOk X.prog X.w H' s.heap ∧
  FlyX B X.stack a cls (.ref t) dx .none s.heap ∧ Kept B (frs X.stack) H s0.heap H' s.heap ∧ H' a = none
theorem Air.inv (x : Air X pins σ H a cls dx s) : Inv X pins σ H s := by
  obtain ⟨H0, s0, B, t, I, os, bare, un, hok, _⟩ := x
  exact I.call' (ch := []) os un hok bare (fun b z => nomatch z)
theorem Inv.frm (I : Inv X pins σ H s) : ∀ b ∈ frs X.stack, H b = none ∧ ∃ o, s.heap.get? b = some o ∧ ∀ vs, o.data ≠ .fields vs := fun b hb => ⟨I.stkFree b hb, (I.stack.mem hb).2⟩
theorem Air.moved {B : Heap} {t : Addr} {H0 : Hp} {s0 : Shared} {h2 : Heap} (I : Inv X pins σ H0 s0) (os : s.os = s0.os) (bare : AllBare s.gens) (un : Un (frs X.stack) [] H0 H s0.heap s.heap) (hok : HOk X.prog X.w H s.heap)
    (kp : Kept B (frs X.stack) H0 s0.heap H s.heap) (ha : H a = none) (fl : FlyX B X.stack a cls (.ref t) dx .none h2) (up : s.heap.UpToSlots h2) : Air X pins σ H a cls dx { s with heap := h2 } :=
  ⟨H0, s0, B, t, I, os, bare, un.flown I.frm kp fl.stays up, hok.flown kp fl.stays, fl, kp.fly hok fl.stays, ha⟩
def Cx.tried (X : Cx) (pins : List (Addr × Obj)) (W : Value → Option Addr → St → Hp → Prop) : Cx := { X with pn := X.pn ++ pins, xe := fun e s' => ∃ (σ : St) (H : Hp) (s0 : Shared), Inv X pins σ H s0 ∧ CXE X.prog X.w X.stack H s0 (fun cls dx H2 => W cls dx σ H2) e s' }
theorem Inv.tried (I : Inv X pins σ H s) (W : Value → Option Addr → St → Hp → Prop) : Inv (X.tried pins W) [] σ H s :=
  ⟨⟨I.ok.mod, I.ok.kind, I.ok.glob, I.ok.blt, I.ok.above, I.ok.inj, I.ok.has, I.ok.cab, I.ok.hd, I.ok.frames, I.ok.stk, I.ok.exf, I.ok.bs, I.ok.bsz, I.ok.noex, I.ok.exfs, I.ok.funs, I.ok.frf⟩,
    I.os, I.bare, I.base, I.loc, I.cell, I.free, I.freeC, fun p hp => I.pin p (by rw [List.append_nil] at hp; exact hp), I.hok, I.len⟩
theorem Inv.untried {W : Value → Option Addr → St → Hp → Prop} {pins' : List (Addr × Obj)} (I : Inv (X.tried pins W) pins' σ H s) : Inv X pins σ H s :=
  ⟨⟨I.ok.mod, I.ok.kind, I.ok.glob, I.ok.blt, I.ok.above, I.ok.inj, I.ok.has, I.ok.cab, I.ok.hd, I.ok.frames, I.ok.stk, I.ok.exf, I.ok.bs, I.ok.bsz, I.ok.noex, I.ok.exfs, I.ok.funs, I.ok.frf⟩,
    I.os, I.bare, I.base, I.loc, I.cell, I.free, I.freeC, fun p hp => I.pin p (List.mem_append_left _ hp), I.hok, I.len⟩
theorem SP.untried {W : Value → Option Addr → St → Hp → Prop} {D : Ends} {f : Flow} (h : SP (X.tried pins W) [] D f s') : SP X pins D f s' := by
  cases f with
  | next => obtain ⟨σ', H', I, q⟩ := h; exact ⟨σ', H', I.untried, q⟩
  | brk => obtain ⟨σ', H', I, q⟩ := h; exact ⟨σ', H', I.untried, q⟩
  | cont => obtain ⟨σ', H', I, q⟩ := h; exact ⟨σ', H', I.untried, q⟩
  | ret u => obtain ⟨v, σ', H', I, r, q⟩ := h; exact ⟨v, σ', H', I.untried, r, q⟩
theorem xpass_try {W : Value → Option Addr → St → Hp → Prop} : XPass (X.tried pins W) W := ⟨fun _ σ H s _ _ I c => ⟨σ, H, s, I.untried, c⟩⟩
def Cx.inH (X : Cx) (pins : List (Addr × Obj)) (a : Addr) (oe : Obj) : Cx := { X with A := X.A.mark (some (.ref a)), calm := false, xe := fun _ _ => False, pn := X.pn ++ pins ++ [(a, oe)] }
theorem Inv.inH {oe : Obj} (I : Inv X pins σ H s) (e : s.heap.get? a = some oe) (n : H a = none) (nl : a ≠ X.env.locals) (nf : a ∉ X.fs) (nc : ∀ v, oe.data ≠ .cell v) (fr : (X.A.mark (some (.ref a))).frames = some X.stack) : Inv (X.inH pins a oe) [] σ H s :=
  ⟨⟨I.ok.mod, I.ok.kind, I.ok.glob, I.ok.blt, I.ok.above, I.ok.inj, I.ok.has, I.ok.cab, (fun z => nomatch z), fr, I.ok.stk, I.ok.exf, I.ok.bs, I.ok.bsz, I.ok.noex, I.ok.exfs, I.ok.funs, I.ok.frf⟩,
    I.os, I.bare, I.base, I.loc, I.cell, I.free, I.freeC, fun p hp => by
      rw [List.append_nil] at hp
      rcases List.mem_append.mp hp with z | z
      · exact I.pin p z
      · rw [List.mem_singleton] at z
        subst z
        exact ⟨e, n, nl, nf, nc⟩, I.hok, I.len⟩
theorem Inv.unH {oe : Obj} {pins' : List (Addr × Obj)} (ok : X.Ok) (I : Inv (X.inH pins a oe) pins' σ H s) : Inv X pins σ H s :=
  ⟨ok, I.os, I.bare, I.base, I.loc, I.cell, I.free, I.freeC, fun p hp => I.pin p (List.mem_append_left _ (List.mem_append_left _ hp)), I.hok, I.len⟩
theorem gone_ok {M : Model} {A : Around} {E : Value → Shared → Prop} {i : Nat} {n : Str} {pos : Pos} {Q : Unit → Shared → Prop} (I : Inv X pins σ H s) (hN : X.N.Nodup) (hi : X.N[i]? = some n) (hk : X.env.scope.names.lookup n = some .local)
    (h : ∀ s', Inv X pins (σ.set i none) H s' → Q () s') : wpAny M A (do bindName X.env n .none; unbindBehindTheSuite X.env n pos) Q E s := by
  obtain ⟨m, hn, hl⟩ := id I.loc
  have iσ : i < σ.length := by rw [I.len]; exact (List.getElem?_eq_some_iff.mp hi).1
  refine wpAny_nameGoes_keeps hk hn (by rw [I.ok.kind]; rfl) fun h' v hn' hs => ?_
  have nl : ∀ b o, X.s₀.heap.get? b = some o → b ≠ X.env.locals := fun b o e => Nat.ne_of_lt (Nat.lt_of_lt_of_le (Heap.lt_size e) I.ok.above)
  refine h _ ⟨I.ok, I.os, I.bare, ⟨fun b o e n' hb hx => (hs.2 b (nl b o e)).trans (I.base.keep b o e n' hb hx), fun b o e n' hb hx => ?_, I.base.free, fun b o e hx => ?_, I.base.tups, I.base.frzs, I.base.tbls⟩,
    ⟨_, hn', fun j y v' e1 e2 e3 => ?_⟩, fun y c e => ?_, I.free, I.freeC, fun p hp => ?_, fun b ob e => ?_, by simpa using I.len⟩
  · obtain ⟨sl, q⟩ := I.base.slot b o e n' hb hx
    exact ⟨sl, (hs.2 b (nl b o e)).trans q⟩
  · obtain ⟨o', q⟩ := I.base.there b o e hx
    exact ⟨o', (hs.2 b (nl b o e)).trans q⟩
  · by_cases hj : j = i
    · subst hj
      rw [List.getElem?_set_self iσ] at e2
      cases e2
    · rw [List.getElem?_set_ne (Ne.symm hj)] at e2
      obtain ⟨u', r', q⟩ := hl j y v' e1 e2 e3
      refine ⟨u', r', ?_⟩
      rcases q with ⟨k, e⟩ | ⟨k, c, e, z⟩
      · refine .inl ⟨k, ?_⟩
        have ny : y ≠ n := fun e => hj (nodup_ix hN e1 (e ▸ hi))
        show (if y = n then v else m y) = some u'
        rw [if_neg ny]
        exact e
      · exact .inr ⟨k, c, e, z.sameBut hs (I.cne y c e)⟩
  · obtain ⟨w', z⟩ := I.cell y c e
    exact ⟨w', z.sameBut hs (I.cne y c e)⟩
  · obtain ⟨e, n', ne, nf, d⟩ := I.pin p hp
    exact ⟨(hs.2 p.1 ne).trans e, n', ne, nf, d⟩
  · refine (I.hok b ob e).stay (fun c w' hc q => (hs.2 c ?_).trans q) (fun _ q => q) fun _ _ q => q
    intro z
    subst z
    rcases hc with z | z
    · rw [← z, I.free] at e
      cases e
    · rw [I.free] at z
      cases z
theorem exc_matches {M : Model} {A : Around} {E : Value → Shared → Prop} {K : PySem.W.Frag} {C : Addr} {oe : Obj} {b : Bool} {Q : Bool → Shared → Prop} (Z : K.In s.heap) (he : s.heap.get? a = some oe) (hk : kitCls K oe.cls (.ref C) = some b) (hb : subIn K (.ref C) (.type "BaseException") = some true) (h : Q b s) :
    wpAny M A (excMatches (.ref a) (.ref C)) Q E s := by
  obtain ⟨hh, g, d, t, os⟩ := s
  have L0 : Looks M hh (typeOf (.ref a)) oe.cls := (Looks.ld he).andThen .now
  obtain ⟨L1, L3, L5⟩ := kit_cls (M := M) Z hk
  have L2 : Looks M hh (isSubtype (.type "type") (.type "tuple")) false := looks_subIn (K := K) Z (show (fastBuiltinMro "type").map (·.contains (.type "tuple")) = some false by decide +kernel)
  have L4 := looks_subIn (M := M) Z hb
  unfold excMatches isExcClass isInstance
  repeat (first | (with_reducible refine L0.at ?_) | (with_reducible refine L1.at ?_) | (with_reducible refine L2.at ?_) | (with_reducible refine L3.at ?_) | (with_reducible refine L4.at ?_) | (with_reducible refine L5.at ?_) | wp_step)
  cases b <;> (repeat wp_step) <;> exact h
abbrev TH := Value → Option Addr → Addr → TS
def XOb (oe : Obj) (dx : Option Addr) : Prop := oe.dict = dx ∧ ∃ vs, oe.data = .fields vs ∧ vs[2]? = some .none
def PH (X : Cx) (hs : List ExceptHandler) (th : TH) : Prop := ∀ (pins : List (Addr × Obj)) (σ : St) (H : Hp) (s : Shared) (a : Addr) (cls : Value) (dx : Option Addr) (D : Ends), Air X pins σ H a cls dx s → th cls dx a D σ H →
  wpAny (model X.prog X.w) X.A (handleBy (.ref a) X.env hs) (SP X pins D) X.xe s
def thNil : TH := fun _ _ _ _ _ _ => False
theorem ph_nil : PH X [] thNil := fun _ _ _ _ _ _ _ _ _ h => h.elim
structure CatK (K : PySem.W.Frag) (C : Addr) : Prop where
  be : subIn K (.ref C) (.type "BaseException") = some true
  me : kitCls K (.ref C) (.ref C) = some true
theorem CatK.of {K : PySem.W.Frag} {C : Addr} {t : Value} {b : Bool} (Z : CatK K C) (h : kitOne K t (.ref C) = some b) : kitCls K t (.ref C) = some b := by
  unfold kitOne at h
  by_cases q : (t == .ref C) = true
  · rw [if_pos q] at h
    cases h
    rw [beq_iff_eq.mp q]
    exact Z.me
  · rw [if_neg q] at h
    exact h
def gDel (i : Nat) (R : St → Hp → Prop) (σ : St) (H : Hp) : Prop := R (σ.set i none) H
def thCons (K : PySem.W.Frag) (C : Addr) (i : Nat) (ts : Addr → Value → Option Addr → TS) (tr : TH) : TH := fun cls dx a D σ H => ∃ b, kitOne K cls (.ref C) = some b ∧
  if b = true then gName i (.ref a) σ H (ts a cls dx { nx := gDel i D.nx, rt := D.rt, bk := gDel i D.bk, ct := gDel i D.ct }) else tr cls dx a D σ H
theorem ph_cons {x n : Str} {np pos : Pos} {C : Addr} {i : Nat} {b0 : Stmt} {suite : List Stmt} {rest : List ExceptHandler} {ts : Addr → Value → Option Addr → TS} {tr : TH} (hg : Gl X x) (hm : X.mg x = some (.ref C)) (hb : CatK X.K C) (hN : X.N.Nodup) (hi : X.N[i]? = some n)
    (hk : X.env.scope.names.lookup n = some .local) (hs : ∀ (pins : List (Addr × Obj)) (a : Addr) (oe : Obj) (cls : Value) (dx : Option Addr), oe.cls = cls → XOb oe dx → PSs (X.inH pins a oe) (b0 :: suite) (ts a cls dx)) (hr : PH X rest tr) (hd : (x == ("__debug__" : Str)) = false := by decide) :
    PH X (.ExceptHandler (some (.Name x np)) (some n) (b0 :: suite) pos :: rest) (thCons X.K C i ts tr) := by
  intro pins σ H s a cls dx D air h
  obtain ⟨b, hb1, h⟩ := h
  have I := air.inv
  obtain ⟨H0, s0, B, t, I0, os, bare, un, hok, fl, kp, ha⟩ := id air
  obtain ⟨oe, _, he, _, hc, _⟩ := fl.obj
  refine wpAny_handleBy_cons (codeAny_handlers_test (Calls.Name_function_global I.ok.kind hg (Calls.loadGlobal_global (by rw [I.ok.glob]; exact I.mod.glob.keeps I.bk) hm ?_) hd)) (by intro q; cases q)
  refine exc_matches I.kIn he (by rw [hc]; exact hb.of hb1) hb.be ?_
  cases b with
  | false => exact hr pins σ H s a cls dx D air h
  | true =>
    refine codeAny_handlers_suite_as ?_
    refine fl.lands fun h6 fl6 up6 => ?_
    have air6 := Air.moved I0 os bare un hok kp ha fl6 up6
    have I6 := air6.inv
    obtain ⟨o6, v6, e6, d6, c6, x6, y6⟩ := fl6.obj
    have offS : a ∉ frs X.stack := fun z => by
      obtain ⟨_, o7, e7, nf⟩ := I6.frm a z
      rw [e6] at e7
      cases e7
      exact nf v6 d6
    have nf : a ∉ X.fs := fun z => by
      rcases I6.ok.stk with y | ⟨y, _⟩
      · exact offS (by rw [y]; exact z)
      · obtain ⟨en, m1, m2⟩ := List.mem_filterMap.mp z
        exact offS (by rw [y]; exact List.mem_filterMap.mpr ⟨en, List.mem_cons_of_mem _ m1, m2⟩)
    have nl : a ≠ X.env.locals := fun z => by
      obtain ⟨m, ⟨o7, es7, ep7, e7, dd7, _⟩, _⟩ := I6.loc
      rw [← z, e6] at e7
      cases e7
      rw [d6] at dd7
      cases dd7
    have I6H := I6.inH (oe := o6) e6 ha nl nf (fun v z => by rw [d6] at z; cases z) I6.ok.frames
    refine store_ok (X := X.inH pins a o6) (v := .ref a) I6H hN hi (.inl hk) rfl (fun s7 I7 => ?_) (.inr hk)
    have q : ts a cls dx { nx := gDel i D.nx, rt := D.rt, bk := gDel i D.bk, ct := gDel i D.ct } (σ.set i (some (.ref a))) H := h
    refine wpAny_mono (hs pins a o6 cls dx c6 ⟨x6, v6, d6, y6⟩ [] s7 _ H _ I7 q) (fun f s8 sp => ?_) (fun _ _ z => z.elim)
    cases f with
    | next => obtain ⟨σ8, H8, I8, q8⟩ := sp; exact gone_ok (I8.unH I6.ok) hN hi hk fun s9 I9 => ⟨_, H8, I9, q8⟩
    | brk => obtain ⟨σ8, H8, I8, q8⟩ := sp; exact gone_ok (I8.unH I6.ok) hN hi hk fun s9 I9 => ⟨_, H8, I9, q8⟩
    | cont => obtain ⟨σ8, H8, I8, q8⟩ := sp; exact gone_ok (I8.unH I6.ok) hN hi hk fun s9 I9 => ⟨_, H8, I9, q8⟩
    | ret u => obtain ⟨v8, σ8, H8, I8, r8, q8⟩ := sp; exact gone_ok (I8.unH I6.ok) hN hi hk fun s9 I9 => ⟨v8, _, H8, I9, r8, q8⟩
def tTry (tb : (Value → Option Addr → St → Hp → Prop) → TS) (th : TH) : TS := fun D σ H => ∃ W : Value → Option Addr → St → Hp → Prop, tb W D σ H ∧ ∀ cls dx a σ' H', W cls dx σ' H' → th cls dx a D σ' H'
theorem ps_try {body : List Stmt} {h0 : ExceptHandler} {hs : List ExceptHandler} {pos : Pos} {tb : (Value → Option Addr → St → Hp → Prop) → TS} {th : TH} (hst : X.stack = X.env :: X.outer) (hf : X.env.frame = some X.env.locals)
    (hb : ∀ (pins : List (Addr × Obj)) (W : Value → Option Addr → St → Hp → Prop), PSs (X.tried pins W) body (tb W)) (hh : PH X (h0 :: hs) th) : PS X (.Try body (h0 :: hs) [] [] pos) (tTry tb th) := by
  intro pins s σ H D I h
  obtain ⟨W, hq, hW⟩ := h
  refine wpAny_Try_except (wpAny_mono (hb pins W [] s σ H D (I.tried W) hq) (fun f s1 q => ?_) fun e s1 c => ?_)
  · have q' := SP.untried q
    cases f with
    | next => exact wpAny_execs_nil q'
    | brk => exact q'
    | cont => exact q'
    | ret u => exact q'
  · obtain ⟨σ1, H1, s0, I1, a, t, cls, dx, H2, B, rfl, w1, os, bare, un, hok, fl, kp, ha⟩ := c
    refine FlyX.looks (outer := X.outer) (L := X.env.locals) (by rw [I1.ok.frames, hst]) hf (by rw [← hst]; exact fl) fun h4 held up4 => ?_
    refine held.lands fun h5 fl5 up5 => ?_
    rw [← hst] at fl5
    exact hh pins σ1 H2 _ a cls dx D (Air.moved (s := s1) I1 os bare un hok kp ha fl5 (up4.trans up5)) (hW cls dx a σ1 H2 w1)
def kTy (c : V) : Option Value := match c with
  | .ref C => some (.ref C)
  | .ty n => some (.type n)
  | _ => none
def rIsiX (K : PySem.W.Frag) (a : Addr) (cls : Value) : List V → Hp → VK → Prop := fun xs H Q => ∃ C, cls = .ref C ∧ ExcK K C ∧
  ((∃ c c' b, xs = [.ref a, c] ∧ kTy c = some c' ∧ kitOne K cls c' = some b ∧ Q (.bl b) H) ∨ (∃ tp cs us b, xs = [.ref a, .ref tp] ∧ H tp = some (.tup cs) ∧ cs.map kTy = us.map some ∧ kitAny K cls us = some b ∧ Q (.bl b) H))
theorem rel_kTy {c : V} {c' u : Value} (r : RelV c u) (h : kTy c = some c') : u = c' := by
  cases c with
  | ref C => cases h; exact r
  | ty n => cases h; exact r
  | _ => cases h
theorem vals_kTy : ∀ {cs : List V} {us vs : List Value}, Vals cs vs → cs.map kTy = us.map some → vs = us
  | [], [], _, .nil, _ => rfl
  | [], _ :: _, _, _, h => by simp at h
  | _ :: _, [], _, _, h => by simp at h
  | c :: cs, u :: us, _, .cons r t, h => by
    simp only [List.map_cons, List.cons.injEq] at h
    rw [rel_kTy r h.1, vals_kTy t h.2]
theorem call_isiX {oe : Obj} {cls : Value} (hcls : oe.cls = cls) : CallR (X.inH pins a oe) (.builtin "isinstance") (rIsiX X.K a cls) := by
  subst hcls
  intro pins' s σ H xs us Q I r h
  obtain ⟨C, hC, Z, h⟩ := h
  obtain ⟨e1, _⟩ := I.pin (a, oe) (List.mem_append_left _ (List.mem_append_right _ (List.mem_singleton.mpr rfl)))
  have at1 : ExcAt a C s.heap := ⟨oe, e1, hC⟩
  rw [hC] at h
  rcases h with ⟨c, c', b, ex, hk, hb, q⟩ | ⟨tp, cs, vs, b, ex, ht, hv, hb, q⟩
  · subst ex
    obtain ⟨u, u', rfl, r1, r2⟩ := vals2 r
    obtain rfl : u = Value.ref a := r1
    rw [rel_kTy r2 hk]
    exact kia_one (kitx_exc Z) I.kIn at1 hb (fun z => nomatch z) fun tk => ⟨.bl b, H, I.tok tk, rfl, q⟩
  · subst ex
    obtain ⟨u, u', rfl, r1, r2⟩ := vals2 r
    obtain rfl : u = Value.ref a := r1
    obtain rfl : u' = Value.ref tp := r2
    obtain ⟨_, its, rv, ob, e2, c2, n2, d2⟩ := (show ObjOk X.prog X.w H s.heap tp (.tup cs) from I.hok tp _ ht)
    obtain ⟨oc, od, odt, osl⟩ := ob
    dsimp only at c2 d2
    subst c2 d2
    rw [vals_kTy rv hv] at e2
    exact kia_tup (kitx_exc Z) I.kIn at1 e2 hb (fun z => nomatch z) fun tk => ⟨.bl b, H, I.tok tk, rfl, q⟩
theorem rd_try {tb : (Value → Option Addr → St → Hp → Prop) → TS} {th : TH} {D : Ends} {σ : St} {H : Hp} (W : Value → Option Addr → St → Hp → Prop) (h1 : tb W D σ H) (h2 : ∀ cls dx a σ' H', W cls dx σ' H' → th cls dx a D σ' H') : tTry tb th D σ H := ⟨W, h1, h2⟩
theorem rd_thT {K : PySem.W.Frag} {C : Addr} {i : Nat} {ts : Addr → Value → Option Addr → TS} {tr : TH} {cls : Value} {dx : Option Addr} {a : Addr} {D : Ends} {σ : St} {H : Hp} (hb : kitOne K cls (.ref C) = some true)
    (h : gName i (.ref a) σ H (ts a cls dx { nx := gDel i D.nx, rt := D.rt, bk := gDel i D.bk, ct := gDel i D.ct })) : thCons K C i ts tr cls dx a D σ H := ⟨true, hb, h⟩
theorem rd_isX {K : PySem.W.Frag} {a c c' : Addr} {b : Bool} {H : Hp} {Q : VK} (Z : ExcK K c) (hb : kitOne K (.ref c) (.ref c') = some b) (h : Q (.bl b) H) : rIsiX K a (.ref c) [.ref a, .ref c'] H Q := ⟨c, rfl, Z, .inl ⟨.ref c', .ref c', b, rfl, rfl, hb, h⟩⟩
theorem rd_isXT {K : PySem.W.Frag} {a c : Addr} {n : String} {b : Bool} {H : Hp} {Q : VK} (Z : ExcK K c) (hb : kitOne K (.ref c) (.type n) = some b) (h : Q (.bl b) H) : rIsiX K a (.ref c) [.ref a, .ty n] H Q := ⟨c, rfl, Z, .inl ⟨.ty n, .type n, b, rfl, rfl, hb, h⟩⟩
structure CK (K : PySem.W.Frag) (mg : Str → Option Value) (base : Heap) (x : Str) : Type where
  addr : Addr
  gl : mg x = some (.ref addr)
  own : OwnCls x addr [.type "ValueError", .type "Exception", .type "BaseException", .type "object"] "ValueError.__new__" mg base
  exc : ExcK K addr
  cat : CatK K addr
theorem cls_some {K : PySem.W.Frag} {C : Addr} {bm : List Value} {n : String} (q : excIn K C bm n = true) : (clsIn K C).isSome = true := by
  unfold excIn at q
  split at q
  · rename_i look
    unfold clsIn
    rw [look]
    rfl
  · cases q
def ck_mk {K : PySem.W.Frag} {mg : Str → Option Value} {base : Heap} {x : Str} {C : Addr} (X : K.In base) (hm : mg x = some (.ref C)) (e : excIn K C [.type "ValueError", .type "Exception", .type "BaseException", .type "object"] "ValueError.__new__" = true)
    (ga : findIn K (.ref C) "__getattribute__" = some (some (.builtin "BaseException.__getattribute__"))) (hk : findIn K (.ref C) "__getattr__" = some none) (fc : findIn K (.ref C) "__class__" = some (some (.builtin "object.__class__")))
    (ob : mroIn K C (.type "object") = some true) (be : mroIn K C (.type "BaseException") = some true) (me : mroIn K C (.ref C) = some true) (ty : typeIn K (.ref C) = some (.type "type")) : CK K mg base x :=
  ⟨C, hm, own_mk X hm e, ⟨cls_some e, ga, hk, fc, ob, be⟩, ⟨be, by
    show (if ((clsIn K C).isSome && typeIn K (.ref C) == some (.type "type")) = true then subIn K (.ref C) (.ref C) else none) = some true
    rw [cls_some e, ty]
    exact me⟩⟩
theorem rd_del3 {a0 a1 a2 a3 : Option V} {r : St} {R : St → Hp → Prop} {H : Hp} (h : R (a0 :: a1 :: a2 :: none :: r) H) : gDel 3 R (a0 :: a1 :: a2 :: a3 :: r) H := h
end
end L2
set_option maxRecDepth 100000
set_option maxHeartbeats 4000000
namespace L2
open PySem PySem.Spec PyProof.Rows
section
variable {X : Cx} {tg : Expr}
end
section
variable {σ : St} {H : Hp} {D : Ends} {K : PySem.W.Frag}
end
end L2
set_option maxRecDepth 100000
set_option maxHeartbeats 4000000
namespace L2
open PySem PySem.Spec PyProof.Rows
def rAll (K : PySem.W.Frag) : List V → Hp → VK → Prop := fun xs H Q => ∃ (p : Addr) (bs : List Bool), xs = [.ref p] ∧ SqL K H p (bs.map V.bl) ∧ Q (.bl (bs.all id)) H
theorem all_range : ∀ (bs : List Bool), (List.range bs.length).all (fun i => (bs[i]?).getD false) = bs.all id
  | [] => rfl
  | b :: r => by
    rw [List.length_cons, List.range_succ_eq_map, List.all_cons, List.all_map, List.all_cons]
    have := all_range r
    rw [← this]
    rfl
section
variable {X : Cx}
theorem call_allB (hc : X.calm = true) : CallR X (.builtin "all") (rAll X.K) := by
  intro pins s σ H xs us Q I r h
  obtain ⟨p, bs, e, hq, q⟩ := h
  subst e
  obtain ⟨u, rfl, ru⟩ := vals1 r
  obtain rfl : u = Value.ref p := ru
  obtain ⟨its, rv, pl, hz⟩ := I.list hq
  refine call_all_walk (wpAny_pyIter_list pl.isList ?_)
  have hl : its.length = bs.length := by have := rv.length; rw [List.length_map] at this; omega
  have ne : p ≠ s.heap.objs.size := by
    obtain ⟨o, _, e, _⟩ := pl
    exact Nat.ne_of_lt (Heap.lt_size e)
  refine ⟨s.heap.objs.size, _, _, _, _, _, fun i => (bs[i]?).getD false, rfl, Walks.list (A := X.A.in1) (show X.A.in1.handled = none from I.ok.hd hc) _ p ne its.toArray, ⟨⟨_, Heap.get?_push_size _ rfl, rfl, rfl⟩, ?_⟩, ?_, fun h' tk hk => ?_⟩
  · obtain ⟨o, n, e, c, d, dd⟩ := pl
    exact ⟨o, Heap.get?_push_of_some _ e, c, n, dd⟩
  · intro i v s1 Q1 E1 hP hQ
    rw [List.getElem?_toArray] at hP
    have hi : i < bs.length := by have := (List.getElem?_eq_some_iff.mp hP).1; omega
    obtain ⟨b, hb⟩ : ∃ b, bs[i]? = some b := ⟨_, List.getElem?_eq_getElem hi⟩
    obtain ⟨u, hu, ru⟩ := rv.get (i := i) (x := .bl b) (by rw [List.getElem?_map, hb]; rfl)
    rw [hP] at hu
    cases hu
    obtain rfl : v = Value.bool b := ru
    refine wpAny_truthy_bool ?_
    have hQ' : Q1 ((bs[i]?).getD false) s1 := hQ
    rw [hb] at hQ'
    exact hQ'
  · have ea : (List.range its.toArray.size).all (fun i => (bs[i]?).getD false) = bs.all id := by
      rw [List.size_toArray, hl]
      exact all_range bs
    rw [ea]
    refine ⟨.bl (bs.all id), H, I.kept (h' := h') (t' := tk) fun b o e => hk b o ?_ (Heap.get?_push_of_some _ e), rfl, q⟩
    intro z
    have z' : b = s.heap.objs.size := by simpa using z
    exact absurd (z' ▸ Heap.lt_size e) (Nat.lt_irrefl _)
def benv (env : Env) (scope : Scope) (C : Addr) : Env := { newEnv scope C env.globals [] env.qual none .none (some env) builtinsNs with scope := scope }
def Cx.block (X : Cx) (pins : List (Addr × Obj)) (scope : Scope) (x : Str) (ex : List Addr) (s : Shared) (H : Hp) : Cx :=
  { X with N := [x], s₀ := s, H₀ := H, env := benv X.env scope s.heap.objs.size, outer := X.stack, stack := X.stack, ex := ex, fn := fun _ => false, pn := X.pn ++ pins, xe := fun _ _ => False }
def tComp (wi : TI) (te : TE) : TE := fun σ H Q => wi σ H fun J H1 => ∀ D, H1 D = none → ∃ W : Nat → Nat → List V → Hp → Prop, (∃ m, W 0 m [] (upd H1 D (.lst []))) ∧ ∀ i m ys H, W i m ys H → H D = some (.lst ys) ∧
  ((J.stop i H ∧ Q (.ref D) H) ∨ (J.go i H ∧ ys.length < sizeLine ∧ ∀ x H', J.yld i H x H' → te [some x] H' fun y H2 => H2 D = some (.lst ys) ∧ ∃ m', m' < m ∧ W (i + 1) m' (ys ++ [y]) (upd H2 D (.lst (ys ++ [y])))))
theorem pe_comp {elt iter : Expr} {x : Str} {px pos : Pos} {scope : Scope} {wi : TI} {te : TE} (hc : X.calm = true) (hi : PI X (.Name x px) iter wi)
    (he : ∀ (pins : List (Addr × Obj)) (ex : List Addr) (s : Shared) (H : Hp), PE (X.block pins scope x ex s H) elt te)
    (hfree : ∀ y ∈ scope.names, y.2 ≠ .free) (hcell : ∀ y ∈ scope.names, y.2 ≠ .cell) (hkind : scope.kind = .function) (hnames : ∀ y ∈ scope.names, y.2 = .local → scope.names.lookup y.1 = some .local) (hx : scope.names.lookup x = some .local)
    (hs : ∀ v, foldedSetIterable iter X.env v = pure v := by intro _; rfl) : PE X (.ListComp elt [⟨.Name x px, iter, [], 0⟩] scope pos) (tComp wi te) := by
  intro pins s σ H Q I h
  refine wpAny_ListComp hfree hkind hnames (thn (hi pins s σ H _ I h) fun v s1 h1 => thn h1 fun itv s2 h2 => ?_) hs
  obtain ⟨it, fp, tn, J, H2, e, I2, T, st2, f2, hW⟩ := h2
  subst e
  refine wpAny_newObj_type ?_ (by show 0 ≤ sizeLine; exact Nat.zero_le _)
  have nD : H2 s2.heap.objs.size = none := I2.hok.fresh (Nat.le_refl _)
  obtain ⟨W, ⟨m0, w0⟩, turn⟩ := hW _ nD
  have I3 : Inv X pins σ (upd H2 s2.heap.objs.size (.lst [])) { s2 with heap := s2.heap.push { cls := .type "list", data := .seq ([] : List Value).toArray } } :=
    I2.laid (t' := s2.toks) (fun b u e => Heap.get?_push_of_some _ e) (Nat.le_refl _) ⟨Nat.zero_le _, [], 0, .nil, Heap.get?_push_size _ rfl⟩
  have st3 : tn 0 (s2.heap.push { cls := .type "list", data := .seq ([] : List Value).toArray }) := T.keep 0 _ _ st2 fun b _ o e => Heap.get?_push_of_some _ e
  have lfp : ∀ b ∈ fp, b < s2.heap.objs.size := fun b hb => by
    obtain ⟨o, e, _⟩ := T.obj 0 _ st2 b hb
    exact Heap.lt_size e
  have f3 : ∀ b ∈ fp, FpOk X pins (upd H2 s2.heap.objs.size (.lst [])) b := fun b hb => by
    obtain ⟨n0, r⟩ := f2 b hb
    exact ⟨by rw [upd_ne (Nat.ne_of_lt (lfp b hb))]; exact n0, r⟩
  have z3 : s2.heap.objs.size < (s2.heap.push { cls := .type "list", data := .seq ([] : List Value).toArray }).objs.size := by rw [Heap.size_push]; exact Nat.lt_succ_self _
  generalize hs3 : ({ s2 with heap := s2.heap.push { cls := .type "list", data := .seq ([] : List Value).toArray } } : Shared) = s3 at I3 ⊢
  have h3 : s3.heap = s2.heap.push { cls := .type "list", data := .seq ([] : List Value).toArray } := by rw [← hs3]
  rw [← h3] at st3 z3
  generalize hD : s2.heap.objs.size = D at *
  generalize hH3 : upd H2 D (.lst []) = H3 at *
  have exlt : ∀ b ∈ fp, b < s3.heap.objs.size := fun b hb => Nat.lt_trans (lfp b hb) z3
  have exStk : ∀ b ∈ fp, b ∉ frs X.stack := fun b hb z => by
    obtain ⟨_, n1, n2, _⟩ := f3 b hb
    rcases List.mem_cons.mp (I3.stkSub b z) with q | q
    · exact n1 q
    · exact n2 q
  refine wpAny_newFunctionEnv hcell (by intro y hy; simp at hy) (fun h4 ns4 sb4 => ?_) hkind
  have okB : (X.block pins scope x fp s3 H3).Ok := by
    refine ⟨I3.ok.mod, hkind, I3.ok.glob, I3.ok.blt, Nat.le_refl _, (fun y z c e => by cases e), (fun y hy => ?_), (fun y c z => by cases z), (fun _ => I3.ok.hd hc), I3.ok.frames, .inl rfl, (fun b hb => ⟨Nat.ne_of_lt (exlt b hb), fun y c e => by cases e⟩), I3.bs, Nat.le_trans I3.ok.bsz I3.sz, (fun b o e hb => ?_), (fun b hb => exStk b hb), I3.stack, I3.stkFree⟩
    · exfalso
      have hy' : scope.names.lookup y = some .cell ∨ scope.names.lookup y = some .free := hy
      rcases hy' with z | z
      · exact hcell _ (PySem.mem_of_lookup z) rfl
      · exact hfree _ (PySem.mem_of_lookup z) rfl
    · obtain ⟨_, _, _, n3, _⟩ := f3 b hb
      rcases n3 with z | z
      · exact I3.ok.noex b o e z
      · exact absurd (Nat.lt_of_lt_of_le (Heap.lt_size (I3.ok.bs b o e).1) z) (Nat.lt_irrefl _)
  have kept4 : ∀ b o, s3.heap.get? b = some o → h4.get? b = some o := fun b o e => (sb4.2 b (Nat.ne_of_lt (Heap.lt_size e))).trans (Heap.get?_push_of_some _ e)
  have I4 : Inv (X.block pins scope x fp s3 H3) [] [none] H3 { s3 with heap := h4, toks := s3.toks + ([] : List (Str × Value)).length } := by
    refine ⟨okB, rfl, I3.bare, Un.kept kept4, ⟨_, ns4, fun i y v e1 e2 e3 => ?_⟩, (fun y c e => by cases e), I3.hok.fresh (Nat.le_refl _), (fun y c e => by cases e), (fun p hp => ?_), I3.hok.kept kept4, rfl⟩
    · exfalso
      cases i with
      | zero => cases e2
      | succ k => cases e2
    · have hp' : p ∈ X.pn ++ pins := by
        have hp1 : p ∈ (X.pn ++ pins) ++ [] := hp
        rw [List.append_nil] at hp1
        exact hp1
      obtain ⟨a1, a2, a3, a4, a5⟩ := I3.pin p hp'
      refine ⟨kept4 _ _ a1, a2, Nat.ne_of_lt (Heap.lt_size a1), fun z => ?_, a5⟩
      rcases List.mem_cons.mp (I3.stkSub _ z) with q | q
      · exact a3 q
      · exact a4 q
  have st4 : tn 0 h4 := T.keep 0 _ _ st3 fun b _ o e => kept4 b o e
  have fpB : ∀ {H' : Hp}, (∀ b ∈ fp, H' b = none) → ∀ b ∈ fp, FpOk (X.block pins scope x fp s3 H3) [] H' b := fun {H'} fr b hb => by
    obtain ⟨_, _, _, _, _, n5⟩ := f3 b hb
    refine ⟨fr b hb, Nat.ne_of_lt (exlt b hb), exStk b hb, .inl hb, (fun y c e => by cases e), fun p hp => n5 p ?_⟩
    have hp1 : p ∈ (X.pn ++ pins) ++ [] := hp
    rw [List.append_nil] at hp1
    exact hp1
  have loop : codeAny (model X.prog X.w) X.A (.compLoop (.ListComp elt [⟨.Name x px, iter, [], 0⟩] scope pos) 0 (.ref it) (.ref D) (benv X.env scope s3.heap.objs.size))
      (fun r s' => ∃ m, s'.heap.Ns s3.heap.objs.size m ∧ ∀ h', Heap.SameBut s3.heap.objs.size s'.heap h' →
        match r with | .ok _ => EP X pins σ Q (.ref D) { s' with heap := h' } | .error y => wpAny (model X.prog X.w) X.A (passOn "comprehension.variables-let-go" y (benv X.env scope s3.heap.objs.size)) (EP X pins σ Q) X.xe { s' with heap := h' })
      { s3 with heap := h4, toks := s3.toks + ([] : List (Str × Value)).length } := by
    refine codeAny_compLoop_list (fun n s' => ∃ (i : Nat) (z : Option V) (H' : Hp) (ys : List V), Inv (X.block pins scope x fp s3 H3) [] [z] H' s' ∧ tn i s'.heap ∧ (∀ b ∈ fp, H' b = none) ∧ W i n ys H') (fun n s' hI => ?_) m0 ⟨0, none, H3, [], I4, st4, fun b hb => (f3 b hb).1, w0⟩
    obtain ⟨i, z, H', ys, IB, st, fr, w'⟩ := hI
    obtain ⟨eD, tt⟩ := turn i n ys H' w'
    rcases tt with ⟨stop, q⟩ | ⟨go, hz, step⟩
    · refine wpAny_mono (T.done (X.block pins scope x fp s3 H3) rfl rfl rfl hc i [] s' [z] H' _ IB (fpB fr) st stop) (fun r s5 hr => ?_) (fun _ _ e => e)
      obtain ⟨hr, I5⟩ := hr
      subst hr
      obtain ⟨m, nsm, _⟩ := id I5.loc
      refine ⟨m, nsm, fun h' sb => ⟨.ref D, H', ?_, rfl, q⟩⟩
      have nC : ∀ b o, s3.heap.get? b = some o → b ≠ s3.heap.objs.size := fun b o e => Nat.ne_of_lt (Heap.lt_size e)
      have ub : Un (frs X.stack) fp H3 H' s3.heap s5.heap := I5.base
      have un : Un (frs X.stack) fp H3 H' s3.heap h' := by
        refine ⟨fun b o e n1 n2 n3 => (sb.2 b (nC b o e)).trans (ub.keep b o e n1 n2 n3), fun b o e n1 n2 n3 => ?_, ub.free, fun b o e n3 => ?_, ub.tups, ub.frzs, ub.tbls⟩
        · obtain ⟨sl, e1⟩ := ub.slot b o e n1 n2 n3
          exact ⟨sl, (sb.2 b (nC b o e)).trans e1⟩
        · obtain ⟨o', e1⟩ := ub.there b o e n3
          exact ⟨o', (sb.2 b (nC b o e)).trans e1⟩
      have hC : H' s3.heap.objs.size = none := I5.free
      have hok' : HOk X.prog X.w H' h' := fun b ob e => by
        refine (I5.hok b ob e).stay (fun c w' hc' q' => (sb.2 c ?_).trans q') (fun _ q' => q') fun _ _ q' => q'
        intro y
        rcases hc' with z' | z'
        · rw [← z', y, hC] at e
          cases e
        · rw [y, hC] at z'
          cases z'
      exact I3.call' (s' := { s5 with heap := h' }) (ch := fp) I5.os un hok' I5.bare fun b hb => ⟨(f3 b hb).2.2.2.1, (f3 b hb).2.1, (f3 b hb).2.2.2.2.1, (f3 b hb).2.2.2.2.2⟩
    · refine wpAny_mono (T.item (X.block pins scope x fp s3 H3) rfl rfl rfl hc i [] s' [z] H' _ IB (fpB fr) st go) (fun r s5 hr => ?_) (fun _ _ e => e)
      obtain ⟨u, hr, h5⟩ := hr
      subst hr
      refine (show ∀ {t : Sem Unit} {Q1 : Unit → Shared → Prop} {E1 : Value → Shared → Prop}, wpAny (model X.prog X.w) X.A (letOwnedTupleGo (.Name x px) (.ref it) u >>= fun _ => t) Q1 E1 s5 → wpAny (model X.prog X.w) X.A t Q1 E1 s5 from fun hh => hh) ?_
      refine wpAny_bind (wpAny_mono h5 (fun _ s6 hy => ?_) (fun _ _ e => e))
      obtain ⟨y, H5, I5, r5, y5, st5, fr5⟩ := hy
      have I5' := I5.pinned (fpB fr5) (T.obj _ _ st5)
      refine wpAny_assign_Name (store_ok (X := X.block pins scope x fp s3 H3) (i := 0) I5' (by simp [Cx.block]) rfl (.inl hx) r5 (fun s7 I7 => ?_) (.inr hx))
      refine wpAny_mono (he pins fp s3 H3 _ s7 [some y] H5 _ I7 (step y H5 y5)) (fun xv s8 h8 => ?_) (fun _ _ e => e.elim)
      obtain ⟨yv, H8, I8, r8, eD8, m', hm', w8⟩ := h8
      refine wpAny_mono (mt_append (X := X.block pins scope x fp s3 H3) _ s8 [some y] H8 (.ref D) [yv] (.ref D) [xv] (fun v H => v = .non ∧ H = upd H8 D (.lst (ys ++ [yv]))) I8 rfl (.cons r8 .nil) ⟨D, ys, yv, rfl, rfl, eD8, hz, rfl, rfl⟩) (fun _ s9 h9 => ?_) (fun _ _ e => e.elim)
      obtain ⟨_, H9, I9, _, _, rfl⟩ := h9
      refine ⟨m', hm', i + 1, some y, _, ys ++ [yv], I9.unpinned, T.keep _ _ _ st5 fun b hb o e => (I9.pin (b, o) (List.mem_append_right _ (List.mem_append_right _ (mem_pinsAt hb e)))).1, fun b hb => ?_, w8⟩
      obtain ⟨o, e, _⟩ := T.obj _ _ st5 b hb
      exact (I9.pin (b, o) (List.mem_append_right _ (List.mem_append_right _ (mem_pinsAt hb e)))).2.1
  exact codeAny_compStart_list loop (T.self X.A 0 _ _ _ st4 loop)
end
end L2
set_option maxRecDepth 100000
set_option maxHeartbeats 4000000
namespace L2
open PySem PySem.Spec PyProof.Rows
theorem all_eqZ : ∀ (ns ms : List Int), ((List.range (min ns.length ms.length)).all (fun j => decide (ns[j]? = ms[j]?)) && (ns.length == ms.length)) = decide (ns = ms) := fun ns ms => by
  by_cases h : ns = ms
  · subst h
    simp
  · rw [decide_eq_false h]
    by_cases hl : ns.length = ms.length
    · rw [Bool.and_eq_false_iff]
      left
      rw [Bool.eq_false_iff]
      intro z
      apply h
      apply List.ext_getElem? 
      intro j
      rw [List.all_eq_true] at z
      by_cases hj : j < ns.length
      · exact of_decide_eq_true (z j (List.mem_range.mpr (by omega)))
      · rw [List.getElem?_eq_none (by omega), List.getElem?_eq_none (by omega)]
    · rw [Bool.and_eq_false_iff]
      right
      simpa using hl
def rEqT (K : PySem.W.Frag) : R2 := fun x y H Q => ∃ (a b : Addr) (ns ms : List Int), x = .ref a ∧ y = .ref b ∧ SqT K H a (ns.map V.int) ∧ SqT K H b (ms.map V.int) ∧ Q (.bl (decide (ns = ms))) H
def rEqL (K : PySem.W.Frag) : R2 := fun x y H Q => ∃ (a b : Addr) (ns ms : List Int), x = .ref a ∧ y = .ref b ∧ SqL K H a (ns.map V.int) ∧ SqL K H b (ms.map V.int) ∧ Q (.bl (decide (ns = ms))) H
section
variable {X : Cx}
theorem eqAt_ints {A : Around} {s : Shared} {ns ms : List Int} {us vs : List Value} (r1 : Vals (ns.map V.int) us) (r2 : Vals (ms.map V.int) vs) (j : Nat) (h1 : j < us.toArray.size) (h2 : j < vs.toArray.size) :
    SeqAt.EqAt A s us.toArray[j] vs.toArray[j] (decide (ns[j]? = ms[j]?)) := by
  have l1 := r1.length
  have l2 := r2.length
  rw [List.length_map] at l1 l2
  rw [List.size_toArray] at h1 h2
  obtain ⟨n, hn⟩ : ∃ n, ns[j]? = some n := ⟨_, List.getElem?_eq_getElem (by omega)⟩
  obtain ⟨m, hm⟩ : ∃ m, ms[j]? = some m := ⟨_, List.getElem?_eq_getElem (by omega)⟩
  obtain ⟨u, hu, ru⟩ := r1.get (i := j) (x := .int n) (by rw [List.getElem?_map, hn]; rfl)
  obtain ⟨v, hv, rv⟩ := r2.get (i := j) (x := .int m) (by rw [List.getElem?_map, hm]; rfl)
  have eu : us.toArray[j] = u := by
    have := List.getElem?_eq_some_iff.mp hu
    simpa using this.2
  have ev : vs.toArray[j] = v := by
    have := List.getElem?_eq_some_iff.mp hv
    simpa using this.2
  have e0 : decide (ns[j]? = ms[j]?) = eqV (.int n) (.int m) := by
    rw [hn, hm]
    show _ = (n == m)
    by_cases e : n = m
    · subst e; simp
    · simp [e]
  rw [eu, ev, e0]
  exact eqAt_V ru rv rfl rfl
theorem op_eqT (hu : X.A.units < cLine) : OpR X (compareOp .Eq) (rEqT X.K) := by
  intro pins s σ H x y v u Q I rx ry h
  obtain ⟨a, b, ns, ms, e1, e2, h1, h2, q⟩ := h
  subst e1 e2
  cases rx
  cases ry
  obtain ⟨us, r1, t1, _⟩ := I.tuple h1
  obtain ⟨vs, r2, t2, _⟩ := I.tuple h2
  refine SeqAt.eq_tupleAt t1 t2 hu (fun j h1 h2 => eqAt_ints r1 r2 j h1 h2) ⟨.bl (decide (ns = ms)), H, I, ?_, q⟩
  have l1 := r1.length
  have l2 := r2.length
  rw [List.length_map] at l1 l2
  show Value.bool _ = Value.bool _
  rw [List.size_toArray, List.size_toArray, ← l1, ← l2, all_eqZ]
theorem op_eqL (hu : X.A.units < cLine) : OpR X (compareOp .Eq) (rEqL X.K) := by
  intro pins s σ H x y v u Q I rx ry h
  obtain ⟨a, b, ns, ms, e1, e2, h1, h2, q⟩ := h
  subst e1 e2
  cases rx
  cases ry
  obtain ⟨us, r1, t1, _⟩ := I.list h1
  obtain ⟨vs, r2, t2, _⟩ := I.list h2
  have l1 := r1.length
  have l2 := r2.length
  rw [List.length_map] at l1 l2
  by_cases hl : ns.length = ms.length
  · refine SeqAt.eq_listAt t1.isList t2.isList (by simp; omega) hu (fun j h1 h2 => eqAt_ints r1 r2 j h1 h2) ⟨.bl (decide (ns = ms)), H, I, ?_, q⟩
    show Value.bool _ = Value.bool _
    have z := all_eqZ ns ms
    rw [show (ns.length == ms.length) = true from by simpa using hl, Bool.and_true, ← hl, Nat.min_self] at z
    rw [List.size_toArray, ← l1, z]
  · refine SeqAt.eq_list_lengthsAt t1.isList t2.isList (by simp; omega) hu ⟨.bl (decide (ns = ms)), H, I, ?_, q⟩
    show Value.bool _ = Value.bool _
    rw [decide_eq_false (fun e => hl (by rw [e]))]
def rEqA (K : PySem.W.Frag) : R2 := fun x y H Q => rEq x y H Q ∨ rEqT K x y H Q ∨ rEqL K x y H Q
theorem op_eqA (hu : X.A.units < cLine) : OpR X (compareOp .Eq) (rEqA X.K) := op_eq.or ((op_eqT hu).or (op_eqL hu))
theorem PI.or {tg l : Expr} {w1 w2 : TI} (h : PI X tg l w1) (h' : PI X tg l w2) : PI X tg l (fun σ H R => w1 σ H R ∨ w2 σ H R) := fun pins s σ H R I q => q.elim (h pins s σ H R I) (h' pins s σ H R I)
end
theorem xpass_wn {X : Cx} : XPass X WN :=
  ⟨fun _ _ _ _ _ _ _ h => by
    obtain ⟨_, _, _, _, _, _, _, z, _⟩ := h
    exact z.elim⟩
section
variable {σ : St} {H : Hp} {Q : VK} {K : PySem.W.Frag}
theorem rd_eqAI {i j : Int} (h : Q (.bl (decide (i = j))) H) : rEqA K (.int i) (.int j) H Q := .inl (rd_eqI h)
theorem rd_eqAS {i j : Str} (h : Q (.bl (decide (i = j))) H) : rEqA K (.str i) (.str j) H Q := .inl (rd_eqS h)
def kCompT (K : PySem.W.Frag) (te : TE) (v : V) (H1 : Hp) (Q : VK) : Prop := ∃ a, v = .ref a ∧ (∃ xs, SqT K H1 a xs) ∧ ∀ D, H1 D = none → ∃ W : Nat → Nat → List V → Hp → Prop, (∃ m, W 0 m [] (upd H1 D (.lst []))) ∧ ∀ i m ys H, W i m ys H → H D = some (.lst ys) ∧
  (((Itt K a).stop i H ∧ Q (.ref D) H) ∨ ((Itt K a).go i H ∧ ys.length < sizeLine ∧ ∀ x H', (Itt K a).yld i H x H' → te [some x] H' fun y H2 => H2 D = some (.lst ys) ∧ ∃ m', m' < m ∧ W (i + 1) m' (ys ++ [y]) (upd H2 D (.lst (ys ++ [y])))))
theorem rd_compT {tl te : TE} {w1 : TI} (h : tl σ H fun x H1 => kCompT K te x H1 Q) : tComp (fun σ H R => w1 σ H R ∨ iTup K tl σ H R) te σ H Q := .inr h
theorem rd_kCompT {te : TE} {a : Addr} {xs : List V} (g : V → V) (h1 : SqT K H a xs) (hz : xs.length ≤ 1000) (he : ∀ x H' (Q' : VK), x ∈ xs → Q' (g x) H' → te [some x] H' Q') (h : ∀ D H', Same H H' → H D = none → H' D = some (.lst (xs.map g)) → Q (.ref D) H') : kCompT K te (.ref a) H Q := by
  refine ⟨a, rfl, ⟨xs, h1⟩, fun D hD => ⟨fun i m ys H' => m = xs.length - i ∧ i ≤ xs.length ∧ ys = (xs.take i).map g ∧ Same H H' ∧ H' D = some (.lst ys), ⟨xs.length, by simp, Nat.zero_le _, by simp, Same.new hD _, upd_same⟩, ?_⟩⟩
  rintro i m ys H' ⟨rfl, hi, rfl, hs, eD⟩
  refine ⟨eD, ?_⟩
  have q := hs.tup h1
  by_cases hlt : i < xs.length
  · refine .inr ⟨⟨xs, xs[i], q, by simp [hlt]⟩, ?_, fun x H2 y => ?_⟩
    · rw [List.length_map, List.length_take]
      exact small1000 (by omega)
    · obtain ⟨e, y⟩ := y
      subst e
      have hx := y xs q
      refine he x _ _ (List.mem_of_getElem? hx) ⟨eD, xs.length - (i + 1), by omega, rfl, hlt, ?_, hs.upd hD, upd_same⟩
      rw [List.take_add_one, hx, List.map_append]
      rfl
  · have e : i = xs.length := by omega
    subst e
    refine .inl ⟨⟨xs, q, Nat.le_refl _⟩, h D H' hs hD ?_⟩
    rw [List.take_length] at eD
    exact eD
theorem rd_allT {p : Addr} {xs : List V} (h1 : H p = some (.lst (xs.map fun _ => V.bl true))) (h : Q (.bl true) H) : rAll K [.ref p] H Q := by
  refine ⟨p, xs.map fun _ => true, rfl, SqL.of (by rw [List.map_map]; exact h1), ?_⟩
  have e : (xs.map fun _ => true).all id = true := by
    rw [List.all_map]
    simp
  rw [e]
  exact h
end
end L2
set_option maxRecDepth 100000
set_option maxHeartbeats 4000000
namespace L2
open PySem PySem.Spec PyProof.Rows
def rNeT (K : PySem.W.Frag) : R2 := fun x y H Q => ∃ (a b : Addr) (ns ms : List Int), x = .ref a ∧ y = .ref b ∧ SqT K H a (ns.map V.int) ∧ SqT K H b (ms.map V.int) ∧ Q (.bl (!decide (ns = ms))) H
section
variable {X : Cx}
theorem op_neT (hu : X.A.units < cLine) : OpR X (compareOp .NotEq) (rNeT X.K) := by
  intro pins s σ H x y v u Q I rx ry h
  obtain ⟨a, b, ns, ms, e1, e2, h1, h2, q⟩ := h
  subst e1 e2
  cases rx
  cases ry
  obtain ⟨us, r1, t1, _⟩ := I.tuple h1
  obtain ⟨vs, r2, t2, _⟩ := I.tuple h2
  refine SeqAt.RcNeAt.tuples t1 t2 hu (fun j h1 h2 => eqAt_ints r1 r2 j h1 h2) _ _ _ _ ⟨.bl (!decide (ns = ms)), H, I, ?_, q⟩
  have l1 := r1.length
  have l2 := r2.length
  rw [List.length_map] at l1 l2
  show Value.bool _ = Value.bool _
  rw [List.size_toArray, List.size_toArray, ← l1, ← l2, all_eqZ]
def rNeA (K : PySem.W.Frag) : R2 := fun x y H Q => rNe x y H Q ∨ rNeT K x y H Q
theorem op_neA (hu : X.A.units < cLine) : OpR X (compareOp .NotEq) (rNeA X.K) := op_ne.or (op_neT hu)
theorem ix_Ab {pins : List (Addr × Obj)} {scope : Scope} {x : Str} {ex : List Addr} {s : Shared} {H : Hp} : IxR (X.block pins scope x ex s H) (rIxA X.K) := ix_A (X := X.block pins scope x ex s H)
end
section
variable {σ : St} {H : Hp} {Q : VK} {K : PySem.W.Frag}
theorem rd_neAI {i j : Int} (h : rNe (.int i) (.int j) H Q) : rNeA K (.int i) (.int j) H Q := .inl h
theorem rd_neAS {i j : Str} (h : rNe (.str i) (.str j) H Q) : rNeA K (.str i) (.str j) H Q := .inl h
theorem rd_neAT {a b : Addr} {ns ms : List Int} (h1 : SqT K H a (ns.map V.int)) (h2 : SqT K H b (ms.map V.int)) (h : Q (.bl (!decide (ns = ms))) H) : rNeA K (.ref a) (.ref b) H Q := .inr ⟨a, b, ns, ms, rfl, rfl, h1, h2, h⟩
def kCompL (K : PySem.W.Frag) (te : TE) (v : V) (H1 : Hp) (Q : VK) : Prop := ∃ a, v = .ref a ∧ (∃ xs, SqL K H1 a xs) ∧ ∀ D, H1 D = none → ∃ W : Nat → Nat → List V → Hp → Prop, (∃ m, W 0 m [] (upd H1 D (.lst []))) ∧ ∀ i m ys H, W i m ys H → H D = some (.lst ys) ∧
  (((Itl K a).stop i H ∧ Q (.ref D) H) ∨ ((Itl K a).go i H ∧ ys.length < sizeLine ∧ ∀ x H', (Itl K a).yld i H x H' → te [some x] H' fun y H2 => H2 D = some (.lst ys) ∧ ∃ m', m' < m ∧ W (i + 1) m' (ys ++ [y]) (upd H2 D (.lst (ys ++ [y])))))
theorem rd_compL {tl te : TE} {w2 : TI} (h : tl σ H fun x H1 => kCompL K te x H1 Q) : tComp (fun σ H R => iList K tl σ H R ∨ w2 σ H R) te σ H Q := .inl h
theorem rd_kCompL {te : TE} {a : Addr} {xs : List V} (ys : List V) (h1 : SqL K H a xs) (hlen : ys.length = xs.length) (hz : xs.length ≤ 1000) (he : ∀ (i : Nat) x y H' (Q' : VK), xs[i]? = some x → ys[i]? = some y → Same H H' → (∀ H2, Same H' H2 → Q' y H2) → te [some x] H' Q') (h : ∀ D H', Same H H' → H D = none → H' D = some (.lst ys) → Q (.ref D) H') : kCompL K te (.ref a) H Q := by
  refine ⟨a, rfl, ⟨xs, h1⟩, fun D hD => ⟨fun i m zs H' => m = xs.length - i ∧ i ≤ xs.length ∧ zs = ys.take i ∧ Same H H' ∧ H' D = some (.lst zs), ⟨xs.length, by simp, Nat.zero_le _, by simp, Same.new hD _, upd_same⟩, ?_⟩⟩
  rintro i m zs H' ⟨rfl, hi, rfl, hs, eD⟩
  refine ⟨eD, ?_⟩
  have q := hs.seq h1
  by_cases hlt : i < xs.length
  · refine .inr ⟨⟨xs, xs[i], q, by simp [hlt]⟩, ?_, fun x H2 y => ?_⟩
    · rw [List.length_take]
      exact small1000 (by omega)
    · obtain ⟨e, y⟩ := y
      subst e
      have hx := y xs q
      obtain ⟨z, hz'⟩ : ∃ z, ys[i]? = some z := ⟨_, List.getElem?_eq_getElem (by omega)⟩
      refine he i x z _ _ hx hz' hs fun H2 s2 => ⟨s2.obj eD, xs.length - (i + 1), by omega, rfl, hlt, ?_, (hs.trans s2).upd hD, upd_same⟩
      rw [List.take_add_one, hz']
      rfl
  · have e : i = xs.length := by omega
    subst e
    refine .inl ⟨⟨xs, q, Nat.le_refl _⟩, h D H' hs hD ?_⟩
    rw [← hlen, List.take_length] at eD
    exact eD
end
end L2
set_option maxRecDepth 100000
set_option maxHeartbeats 4000000
namespace L2
open PySem PySem.Spec PyProof.Rows
section
variable {X : Cx}
theorem forIn_clo {env : Env} (f : Str × NameKind → List (Str × Addr) → Sem (ForInStep (List (Str × Addr)))) (hf : ∀ n k r, f (n, k) r = if k == .free then (do let a ← cellOf env n; pure (.yield ((n, a) :: r))) else pure (.yield r)) :
    ∀ (names : List (Str × NameKind)) (acc : List (Str × Addr)), (∀ y ∈ names, y.2 = .free → ∃ c, env.cells.lookup y.1 = some c) → (∀ x c, acc.lookup x = some c → env.cells.lookup x = some c) →
    ∃ cl, (forIn names acc f : Sem (List (Str × Addr))) = pure cl ∧ (∀ x c, cl.lookup x = some c → env.cells.lookup x = some c) ∧ (∀ y ∈ names, y.2 = .free → ∃ c, cl.lookup y.1 = some c) ∧ ∀ x c, acc.lookup x = some c → ∃ c, cl.lookup x = some c
  | [], acc, _, ha => ⟨acc, by rw [List.forIn_nil], ha, fun y hy => by simp at hy, fun x c e => ⟨c, e⟩⟩
  | (n, k) :: r, acc, hn, ha => by
    have hr : ∀ y ∈ r, y.2 = .free → ∃ c, env.cells.lookup y.1 = some c := fun y hy => hn y (List.mem_cons_of_mem _ hy)
    by_cases hk : k = .free
    · subst hk
      obtain ⟨c, hc⟩ := hn (n, .free) List.mem_cons_self rfl
      obtain ⟨cl, e, h1, h2, h3⟩ := forIn_clo f hf r ((n, c) :: acc) hr (fun x c' e => by
        rw [List.lookup_cons] at e
        split at e
        · rename_i hx
          rw [eq_of_beq hx, hc]
          exact e
        · exact ha x c' e)
      have hs : ∃ c', cl.lookup n = some c' := h3 n c (by simp [List.lookup_cons])
      refine ⟨cl, ?_, h1, fun y hy e' => ?_, fun x c' e' => ?_⟩
      · rw [List.forIn_cons, hf, if_pos (show (NameKind.free == NameKind.free) = true from by decide)]
        unfold cellOf
        simp only [hc]
        exact e
      · rcases List.mem_cons.mp hy with rfl | hy
        · exact hs
        · exact h2 y hy e'
      · by_cases hx : x = n
        · subst hx
          exact hs
        · refine h3 x c' ?_
          rw [List.lookup_cons, beq_eq_false_iff_ne.mpr hx]
          exact e'
    · obtain ⟨cl, e, h1, h2, h3⟩ := forIn_clo f hf r acc hr ha
      refine ⟨cl, ?_, h1, fun y hy e' => ?_, h3⟩
      · rw [List.forIn_cons, hf, if_neg (by simpa using hk)]
        exact e
      · rcases List.mem_cons.mp hy with rfl | hy
        · exact absurd e' hk
        · exact h2 y hy e'
theorem closureFor_ok {scope : Scope} {env : Env} (h : ∀ y ∈ scope.names, y.2 = .free → ∃ c, env.cells.lookup y.1 = some c) :
    ∃ cl, closureFor scope env = pure cl ∧ (∀ x c, cl.lookup x = some c → env.cells.lookup x = some c) ∧ ∀ x, scope.names.lookup x = some .free → ∃ c, cl.lookup x = some c := by
  obtain ⟨cl, e, h1, h2, _⟩ := forIn_clo (env := env) (fun y r => match y with | (n, k) => if k == .free then (do let a ← cellOf env n; pure (.yield ((n, a) :: r))) else pure (.yield r)) (fun _ _ _ => rfl) scope.names [] h (fun x c e => by cases e)
  refine ⟨cl, ?_, h1, fun x hx => h2 (x, .free) (PySem.mem_of_lookup hx) rfl⟩
  unfold closureFor
  rw [← bind_pure (forIn scope.names [] _)] at e
  refine Eq.trans ?_ e
  congr 1
theorem IsCell_kept {h h' : Heap} (k : ∀ b o, h.get? b = some o → h'.get? b = some o) {c : Addr} {v : Option Value} (z : h.IsCell c v) : h'.IsCell c v := by
  obtain ⟨o, e, d⟩ := z
  exact ⟨o, k _ _ e, d⟩
theorem lookup_relabel {env : Env} (x : Str) : ∀ (names : List (Str × NameKind)), (names.map fun (n, k) => if (k == NameKind.free && env.scope.kind == .function && env.kindOf n == some .cell) then (n, NameKind.cell) else (n, k)).lookup x = (names.lookup x).map fun k => if (k == NameKind.free && env.scope.kind == .function && env.kindOf x == some .cell) then NameKind.cell else k
  | [] => rfl
  | (n, k) :: r => by
    have ih := lookup_relabel (env := env) x r
    rw [List.map_cons]
    show List.lookup x ((if (k == NameKind.free && env.scope.kind == .function && env.kindOf n == some .cell) = true then (n, NameKind.cell) else (n, k)) :: _) = _
    cases hx : x == n with
    | true =>
      have e : x = n := eq_of_beq hx
      subst e
      by_cases hc : (k == NameKind.free && env.scope.kind == .function && env.kindOf x == some .cell) = true
      · rw [if_pos hc]
        simp only [List.lookup_cons, hx, Option.map_some]
        rw [if_pos hc]
      · rw [if_neg hc]
        simp only [List.lookup_cons, hx, Option.map_some]
        rw [if_neg hc]
    | false =>
      by_cases hc : (k == NameKind.free && env.scope.kind == .function && env.kindOf n == some .cell) = true
      · rw [if_pos hc]; simp only [List.lookup_cons, hx]; exact ih
      · rw [if_neg hc]; simp only [List.lookup_cons, hx]; exact ih
theorem relabel_free {scope : Scope} {env : Env} {y : Str} (hcell : ∀ y ∈ scope.names, y.2 ≠ .cell) (h : (relabel scope env).names.lookup y = some .cell ∨ (relabel scope env).names.lookup y = some .free) : scope.names.lookup y = some .free := by
  have e : (relabel scope env).names.lookup y = (scope.names.lookup y).map fun k => if (k == NameKind.free && env.scope.kind == .function && env.kindOf y == some .cell) then NameKind.cell else k := lookup_relabel y scope.names
  rw [e] at h
  cases hk : scope.names.lookup y with
  | none => rw [hk] at h; rcases h with h | h <;> cases h
  | some k =>
    rw [hk] at h
    have hm := PySem.mem_of_lookup hk
    have hn : k ≠ .cell := hcell _ hm
    by_cases hf : k = .free
    · rw [hf]
    · exfalso
      have hb : (k == NameKind.free) = false := beq_eq_false_iff_ne.mpr hf
      simp only [Option.map_some, hb, Bool.false_and, Bool.false_eq_true, if_false, Option.some.injEq] at h
      exact h.elim hn hf
def benvF (env : Env) (scope : Scope) (cl : List (Str × Addr)) (C : Addr) : Env := { newEnv scope C env.globals cl env.qual none .none (some env) builtinsNs with scope := relabel scope env }
def Cx.blockF (X : Cx) (pins : List (Addr × Obj)) (scope : Scope) (x : Str) (ys : List Str) (cl : List (Str × Addr)) (ex : List Addr) (s : Shared) (H : Hp) : Cx :=
  { X with N := x :: ys, s₀ := s, H₀ := H, env := benvF X.env scope cl s.heap.objs.size, outer := X.stack, stack := X.stack, ex := ex, fn := fun _ => false, pn := X.pn ++ pins, xe := fun _ _ => False }
def vsOf (fr : List Nat) (σ : St) : St := fr.map fun i => (σ[i]?).getD none
def kCompF (te : TE) (vs : St) (J : It) (H1 : Hp) (Q : VK) : Prop := ∀ D, H1 D = none → ∃ W : Nat → Nat → List V → Hp → Prop, (∃ m, W 0 m [] (upd H1 D (.lst []))) ∧ ∀ i m zs H, W i m zs H → H D = some (.lst zs) ∧
  ((J.stop i H ∧ Q (.ref D) H) ∨ (J.go i H ∧ zs.length < sizeLine ∧ ∀ x H', J.yld i H x H' → te (some x :: vs) H' fun y H2 => H2 D = some (.lst zs) ∧ ∃ m', m' < m ∧ W (i + 1) m' (zs ++ [y]) (upd H2 D (.lst (zs ++ [y])))))
def tCompF (wi : TI) (fr : List Nat) (te : TE) : TE := fun σ H Q => wi σ H fun J H1 => kCompF te (vsOf fr σ) J H1 Q
theorem pe_compF {elt iter : Expr} {x : Str} {px pos : Pos} {scope : Scope} {wi : TI} {te : TE} (fr : List Nat) (ys : List Str) (hc : X.calm = true) (hi : PI X (.Name x px) iter wi)
    (he : ∀ (pins : List (Addr × Obj)) (cl : List (Str × Addr)) (ex : List Addr) (s : Shared) (H : Hp), PE (X.blockF pins scope x ys cl ex s H) elt te)
    (hys : fr.map (fun i => X.N[i]?) = ys.map some) (hyk0 : ys.map X.env.kindOf = ys.map fun _ => some .cell) (hyr0 : ys.map (fun y => (relabel scope X.env).names.lookup y) = ys.map fun _ => some .cell)
    (hfree : ∀ y ∈ scope.names, y.2 = .free → y.1 ∈ ys) (hcell : ∀ y ∈ scope.names, y.2 ≠ .cell) (hkind : scope.kind = .function) (hnames : ∀ y ∈ scope.names, y.2 = .local → scope.names.lookup y.1 = some .local) (hx : scope.names.lookup x = some .local) (hnd : (x :: ys).Nodup)
    (hs : ∀ v, foldedSetIterable iter X.env v = pure v := by intro _; rfl) : PE X (.ListComp elt [⟨.Name x px, iter, [], 0⟩] scope pos) (tCompF wi fr te) := by
  have hyk : ∀ y ∈ ys, X.env.kindOf y = some .cell := fun y hy => List.map_inj_left.mp hyk0 y hy
  have hyr : ∀ y ∈ ys, (relabel scope X.env).names.lookup y = some .cell := fun y hy => List.map_inj_left.mp hyr0 y hy
  intro pins s σ H Q I h
  obtain ⟨cl, hclo, hcl, hclf⟩ := closureFor_ok (scope := scope) (env := X.env) fun y hy e => I.ok.has _ (.inl (hyk _ (hfree y hy e)))
  rw [eval_ListComp]
  refine wpAny_comprehension_free (use := none) rfl hs hclo hkind hnames (thn (hi pins s σ H _ I h) fun v s1 h1 => thn h1 fun itv s2 h2 => ?_)
  obtain ⟨it, fp, tn, J, H2, e, I2, T, st2, f2, hW⟩ := h2
  subst e
  refine wpAny_newObj_type ?_ (by show 0 ≤ sizeLine; exact Nat.zero_le _)
  have nD : H2 s2.heap.objs.size = none := I2.hok.fresh (Nat.le_refl _)
  obtain ⟨W, ⟨m0, w0⟩, turn⟩ := hW _ nD
  have I3 : Inv X pins σ (upd H2 s2.heap.objs.size (.lst [])) { s2 with heap := s2.heap.push { cls := .type "list", data := .seq ([] : List Value).toArray } } :=
    I2.laid (t' := s2.toks) (fun b u e => Heap.get?_push_of_some _ e) (Nat.le_refl _) ⟨Nat.zero_le _, [], 0, .nil, Heap.get?_push_size _ rfl⟩
  have st3 : tn 0 (s2.heap.push { cls := .type "list", data := .seq ([] : List Value).toArray }) := T.keep 0 _ _ st2 fun b _ o e => Heap.get?_push_of_some _ e
  have lfp : ∀ b ∈ fp, b < s2.heap.objs.size := fun b hb => by
    obtain ⟨o, e, _⟩ := T.obj 0 _ st2 b hb
    exact Heap.lt_size e
  have f3 : ∀ b ∈ fp, FpOk X pins (upd H2 s2.heap.objs.size (.lst [])) b := fun b hb => by
    obtain ⟨n0, r⟩ := f2 b hb
    exact ⟨by rw [upd_ne (Nat.ne_of_lt (lfp b hb))]; exact n0, r⟩
  have z3 : s2.heap.objs.size < (s2.heap.push { cls := .type "list", data := .seq ([] : List Value).toArray }).objs.size := by rw [Heap.size_push]; exact Nat.lt_succ_self _
  generalize hs3 : ({ s2 with heap := s2.heap.push { cls := .type "list", data := .seq ([] : List Value).toArray } } : Shared) = s3 at I3 ⊢
  have h3 : s3.heap = s2.heap.push { cls := .type "list", data := .seq ([] : List Value).toArray } := by rw [← hs3]
  rw [← h3] at st3 z3
  generalize hD : s2.heap.objs.size = D at *
  generalize hH3 : upd H2 D (.lst []) = H3 at *
  have exlt : ∀ b ∈ fp, b < s3.heap.objs.size := fun b hb => Nat.lt_trans (lfp b hb) z3
  have exStk : ∀ b ∈ fp, b ∉ frs X.stack := fun b hb z => by
    obtain ⟨_, n1, n2, _⟩ := f3 b hb
    rcases List.mem_cons.mp (I3.stkSub b z) with q | q
    · exact n1 q
    · exact n2 q
  refine wpAny_newFunctionEnv hcell (by intro y hy; simp at hy) (fun h4 ns4 sb4 => ?_) hkind
  have hxr : (relabel scope X.env).names.lookup x = some .local := lookup_relabel_local hx
  have hysome : ∀ y ∈ ys, ∃ c, cl.lookup y = some c := fun y hy => by
    obtain ⟨c, e⟩ := I3.ok.has y (.inl (hyk y hy))
    exact hclf y (relabel_free hcell (.inl (hyr y hy)))
  have okB : (X.blockF pins scope x ys cl fp s3 H3).Ok := by
    refine ⟨I3.ok.mod, hkind, I3.ok.glob, I3.ok.blt, Nat.le_refl _, (fun y z c e1 e2 => I3.ok.inj y z c (hcl _ _ e1) (hcl _ _ e2)), (fun y hy => ?_), (fun y c z => by cases z), (fun _ => I3.ok.hd hc), I3.ok.frames, .inl rfl, (fun b hb => ⟨Nat.ne_of_lt (exlt b hb), fun y c e => (f3 b hb).2.2.2.2.1 y c (hcl _ _ e)⟩), I3.bs, Nat.le_trans I3.ok.bsz I3.sz, (fun b o e hb => ?_), (fun b hb => exStk b hb), I3.stack, I3.stkFree⟩
    · exact hclf y (relabel_free hcell hy)
    · obtain ⟨_, _, _, n3, _⟩ := f3 b hb
      rcases n3 with z | z
      · exact I3.ok.noex b o e z
      · exact absurd (Nat.lt_of_lt_of_le (Heap.lt_size (I3.ok.bs b o e).1) z) (Nat.lt_irrefl _)
  have kept4 : ∀ b o, s3.heap.get? b = some o → h4.get? b = some o := fun b o e => (sb4.2 b (Nat.ne_of_lt (Heap.lt_size e))).trans (Heap.get?_push_of_some _ e)
  have I4 : Inv (X.blockF pins scope x ys cl fp s3 H3) [] (none :: vsOf fr σ) H3 { s3 with heap := h4, toks := s3.toks + ([] : List (Str × Value)).length } := by
    refine ⟨okB, rfl, I3.bare, Un.kept kept4, ⟨_, ns4, fun i y v e1 e2 e3 => ?_⟩, (fun y c e => (I3.cell y c (hcl _ _ e)).elim fun v z => ⟨v, IsCell_kept kept4 z⟩), I3.hok.fresh (Nat.le_refl _), (fun y c e => I3.freeC y c (hcl _ _ e)), (fun p hp => ?_), I3.hok.kept kept4, ?_⟩
    · obtain ⟨j, rfl⟩ : ∃ j, i = j + 1 := by
        cases i with
        | zero => cases e2
        | succ k => exact ⟨k, rfl⟩
      have e1' : ys[j]? = some y := e1
      have e2' : (vsOf fr σ)[j]? = some (some v) := e2
      obtain ⟨m, hn, hl⟩ := I3.loc
      unfold vsOf at e2'
      rw [List.getElem?_map] at e2'
      cases hj : fr[j]? with
      | none => rw [hj] at e2'; cases e2'
      | some q =>
        rw [hj] at e2'
        have e2'' : (σ[q]?).getD none = some v := by simpa using e2'
        have hq : σ[q]? = some (some v) := by
          cases hh : σ[q]? with
          | none => rw [hh] at e2''; cases e2''
          | some z => rw [hh] at e2''; rw [show z = some v from e2'']
        have hN : X.N[q]? = some y := by
          have := congrArg (fun l => l[j]?) hys
          simp only [List.getElem?_map, hj, e1'] at this
          exact Option.some.inj this
        have hy : y ∈ ys := List.mem_of_getElem? e1'
        obtain ⟨u, ru, lu⟩ := hl q y v hN hq (.inr (.inl (hyk y hy)))
        refine ⟨u, ru, .inr ⟨.inl (hyr y hy), ?_⟩⟩
        rcases lu with ⟨hk1, _⟩ | ⟨_, c, hc1, hc2⟩
        · rw [hyk y hy] at hk1
          cases hk1
        · obtain ⟨c', hc'⟩ := hysome y hy
          have := hcl _ _ hc'
          rw [hc1] at this
          cases this
          exact ⟨c, hc', IsCell_kept kept4 hc2⟩
    · have hp' : p ∈ X.pn ++ pins := by
        have hp1 : p ∈ (X.pn ++ pins) ++ [] := hp
        rw [List.append_nil] at hp1
        exact hp1
      obtain ⟨a1, a2, a3, a4, a5⟩ := I3.pin p hp'
      refine ⟨kept4 _ _ a1, a2, Nat.ne_of_lt (Heap.lt_size a1), fun z => ?_, a5⟩
      rcases List.mem_cons.mp (I3.stkSub _ z) with q | q
      · exact a3 q
      · exact a4 q
    · show (vsOf fr σ).length + 1 = ys.length + 1
      have := congrArg List.length hys
      simp only [List.length_map] at this
      unfold vsOf
      rw [List.length_map, this]
  have st4 : tn 0 h4 := T.keep 0 _ _ st3 fun b _ o e => kept4 b o e
  have fpB : ∀ {H' : Hp}, (∀ b ∈ fp, H' b = none) → ∀ b ∈ fp, FpOk (X.blockF pins scope x ys cl fp s3 H3) [] H' b := fun {H'} fr' b hb => by
    obtain ⟨_, _, _, _, _, n5⟩ := f3 b hb
    refine ⟨fr' b hb, Nat.ne_of_lt (exlt b hb), exStk b hb, .inl hb, (fun y c e => (f3 b hb).2.2.2.2.1 y c (hcl _ _ e)), fun p hp => n5 p ?_⟩
    have hp1 : p ∈ (X.pn ++ pins) ++ [] := hp
    rw [List.append_nil] at hp1
    exact hp1
  have loop : codeAny (model X.prog X.w) X.A (.compLoop (.ListComp elt [⟨.Name x px, iter, [], 0⟩] scope pos) 0 (.ref it) (.ref D) (benvF X.env scope cl s3.heap.objs.size))
      (compPost (model X.prog X.w) X.A X.xe none (EP X pins σ Q) (.ref D) s3.heap.objs.size)
      { s3 with heap := h4, toks := s3.toks + ([] : List (Str × Value)).length } := by
    refine codeAny_compLoop_list (fun n s' => ∃ (i : Nat) (z : Option V) (H' : Hp) (zs : List V), Inv (X.blockF pins scope x ys cl fp s3 H3) [] (z :: vsOf fr σ) H' s' ∧ tn i s'.heap ∧ (∀ b ∈ fp, H' b = none) ∧ W i n zs H') (fun n s' hI => ?_) m0 ⟨0, none, H3, [], I4, st4, fun b hb => (f3 b hb).1, w0⟩
    obtain ⟨i, z, H', zs, IB, st, fr', w'⟩ := hI
    obtain ⟨eD, tt⟩ := turn i n zs H' w'
    rcases tt with ⟨stop, q⟩ | ⟨go, hz, step⟩
    · refine wpAny_mono (T.done (X.blockF pins scope x ys cl fp s3 H3) rfl rfl rfl hc i [] s' (z :: vsOf fr σ) H' _ IB (fpB fr') st stop) (fun r s5 hr => ?_) (fun _ _ e => e)
      obtain ⟨hr, I5⟩ := hr
      subst hr
      obtain ⟨m, nsm, _⟩ := id I5.loc
      refine ⟨m, nsm, fun h' sb => ⟨.ref D, H', ?_, rfl, q⟩⟩
      have nC : ∀ b o, s3.heap.get? b = some o → b ≠ s3.heap.objs.size := fun b o e => Nat.ne_of_lt (Heap.lt_size e)
      have ub : Un (frs X.stack) fp H3 H' s3.heap s5.heap := I5.base
      have un : Un (frs X.stack) fp H3 H' s3.heap h' := by
        refine ⟨fun b o e n1 n2 n3 => (sb.2 b (nC b o e)).trans (ub.keep b o e n1 n2 n3), fun b o e n1 n2 n3 => ?_, ub.free, fun b o e n3 => ?_, ub.tups, ub.frzs, ub.tbls⟩
        · obtain ⟨sl, e1⟩ := ub.slot b o e n1 n2 n3
          exact ⟨sl, (sb.2 b (nC b o e)).trans e1⟩
        · obtain ⟨o', e1⟩ := ub.there b o e n3
          exact ⟨o', (sb.2 b (nC b o e)).trans e1⟩
      have hC : H' s3.heap.objs.size = none := I5.free
      have hok' : HOk X.prog X.w H' h' := fun b ob e => by
        refine (I5.hok b ob e).stay (fun c w' hc' q' => (sb.2 c ?_).trans q') (fun _ q' => q') fun _ _ q' => q'
        intro y
        rcases hc' with z' | z'
        · rw [← z', y, hC] at e
          cases e
        · rw [y, hC] at z'
          cases z'
      exact I3.call' (s' := { s5 with heap := h' }) (ch := fp) I5.os un hok' I5.bare fun b hb => ⟨(f3 b hb).2.2.2.1, (f3 b hb).2.1, (f3 b hb).2.2.2.2.1, (f3 b hb).2.2.2.2.2⟩
    · refine wpAny_mono (T.item (X.blockF pins scope x ys cl fp s3 H3) rfl rfl rfl hc i [] s' (z :: vsOf fr σ) H' _ IB (fpB fr') st go) (fun r s5 hr => ?_) (fun _ _ e => e)
      obtain ⟨u, hr, h5⟩ := hr
      subst hr
      refine (show ∀ {t : Sem Unit} {Q1 : Unit → Shared → Prop} {E1 : Value → Shared → Prop}, wpAny (model X.prog X.w) X.A (letOwnedTupleGo (.Name x px) (.ref it) u >>= fun _ => t) Q1 E1 s5 → wpAny (model X.prog X.w) X.A t Q1 E1 s5 from fun hh => hh) ?_
      refine wpAny_bind (wpAny_mono h5 (fun _ s6 hy => ?_) (fun _ _ e => e))
      obtain ⟨y, H5, I5, r5, y5, st5, fr5⟩ := hy
      have I5' := I5.pinned (fpB fr5) (T.obj _ _ st5)
      refine wpAny_assign_Name (store_ok (X := X.blockF pins scope x ys cl fp s3 H3) (i := 0) I5' hnd rfl (.inl hxr) r5 (fun s7 I7 => ?_) (.inr hxr))
      refine wpAny_mono (he pins cl fp s3 H3 _ s7 (some y :: vsOf fr σ) H5 _ I7 (step y H5 y5)) (fun xv s8 h8 => ?_) (fun _ _ e => e.elim)
      obtain ⟨yv, H8, I8, r8, eD8, m', hm', w8⟩ := h8
      refine wpAny_mono (mt_append (X := X.blockF pins scope x ys cl fp s3 H3) _ s8 (some y :: vsOf fr σ) H8 (.ref D) [yv] (.ref D) [xv] (fun v H => v = .non ∧ H = upd H8 D (.lst (zs ++ [yv]))) I8 rfl (.cons r8 .nil) ⟨D, zs, yv, rfl, rfl, eD8, hz, rfl, rfl⟩) (fun _ s9 h9 => ?_) (fun _ _ e => e.elim)
      obtain ⟨_, H9, I9, _, _, rfl⟩ := h9
      refine ⟨m', hm', i + 1, some y, _, zs ++ [yv], I9.unpinned, T.keep _ _ _ st5 fun b hb o e => (I9.pin (b, o) (List.mem_append_right _ (List.mem_append_right _ (mem_pinsAt hb e)))).1, fun b hb => ?_, w8⟩
      obtain ⟨o, e, _⟩ := T.obj _ _ st5 b hb
      exact (I9.pin (b, o) (List.mem_append_right _ (List.mem_append_right _ (mem_pinsAt hb e)))).2.1
  exact codeAny_compStart_list loop (T.self X.A 0 _ _ _ st4 loop)
end
section
variable {σ : St} {H : Hp} {Q : VK} {K : PySem.W.Frag}
theorem rd_compR2 {ta : TA} {te : TE} {fr : List Nat} (vs : St) (e : vsOf fr σ = vs) (h : ta σ H fun ws H1 => kRng2 ws H1 fun J H2 => kCompF te vs J H2 Q) : tCompF (iRng2 ta) fr te σ H Q := by subst e; exact h
end
end L2
set_option maxRecDepth 100000
set_option maxHeartbeats 4000000
namespace L2
open PySem PySem.Spec PyProof.Rows
structure CG (mg : Str → Option Value) (x : Str) : Type where
  addr : Addr
  gl : mg x = some (.ref addr)
def rCountB : V → List V → Hp → VK → Prop := fun x vs H Q => ∃ (l : Addr) (bs : List Bool), x = .ref l ∧ vs = [.bl true] ∧ H l = some (.lst (bs.map V.bl)) ∧ Q (.int (bs.countP id : Nat)) H
def rIndexB : V → List V → Hp → VK → Prop := fun x vs H Q => ∃ (l : Addr) (bs : List Bool) (j : Nat), x = .ref l ∧ vs = [.bl true] ∧ H l = some (.lst (bs.map V.bl)) ∧ bs[j]? = some true ∧ (∀ i, i < j → bs[i]? = some false) ∧ Q (.int j) H
def isTrueV : Value → Bool
  | .bool b => b
  | _ => false
section
variable {X : Cx}
theorem count_bools : ∀ {bs : List Bool} {us : List Value}, Vals (bs.map V.bl) us → us.countP isTrueV = bs.countP id
  | [], _, r => by
    cases r
    rfl
  | b :: bs, us, r => by
    cases us with
    | nil => have := r.length; simp at this
    | cons u us =>
      cases r with
      | cons r1 r2 =>
        obtain rfl : u = Value.bool b := r1
        rw [List.countP_cons, List.countP_cons, count_bools r2]
        rfl
theorem bools_mem {bs : List Bool} {us : List Value} (r : Vals (bs.map V.bl) us) {y : Value} (hy : y ∈ us.toArray) : ∃ b, y = .bool b := by
  have hy' : y ∈ us := by simpa using hy
  obtain ⟨i, hi, e⟩ := List.getElem_of_mem hy'
  have l := r.length
  rw [List.length_map] at l
  obtain ⟨b, hb⟩ : ∃ b, bs[i]? = some b := ⟨_, List.getElem?_eq_getElem (by omega)⟩
  obtain ⟨u, hu, ru⟩ := r.get (i := i) (x := .bl b) (by rw [List.getElem?_map, hb]; rfl)
  rw [List.getElem?_eq_getElem hi, e] at hu
  cases hu
  exact ⟨b, ru⟩
theorem eq_true_at {A : Around} {s : Shared} (b : Bool) : SeqAt.EqAt A s (.bool b) (.bool true) (isTrueV (.bool b)) := by
  have h := eqAt_V (A := A) (s := s) (y := .bl b) (x := .bl true) (u := .bool b) (v := .bool true) rfl rfl rfl rfl
  have e : eqV (.bl b) (.bl true) = isTrueV (.bool b) := by cases b <;> rfl
  rw [e] at h
  exact h
theorem mt_countB : MtM X "list.count" rCountB := by
  intro pins s σ H x vs v us Q I rx rv h
  obtain ⟨l, bs, rfl, rfl, hH, q⟩ := h
  cases rx
  obtain ⟨u, rfl, ru⟩ := rv.one
  obtain rfl : u = Value.bool true := ru
  obtain ⟨z, its, n, r, hl, e⟩ := I.lstM hH
  refine call_meets F.slot_list_count ⟨_, e, rfl⟩ F.entry_list_count (F.args_list_count_2 _ _) (SeqAt.list_countAt l its.toArray n _ _ (.bool true) isTrueV) ⟨e, fun y hy => ?_, ?_⟩
  · obtain ⟨b, rfl⟩ := bools_mem r hy
    exact eq_true_at b
  · refine ⟨.int (bs.countP id : Nat), H, I.tok _, ⟨s.toks, ?_⟩, q⟩
    show Value.int _ _ = _
    rw [← count_bools r]
theorem mt_indexB : MtM X "list.index" rIndexB := by
  intro pins s σ H x vs v us Q I rx rv h
  obtain ⟨l, bs, j, rfl, rfl, hH, hj, hno, q⟩ := h
  cases rx
  obtain ⟨u, rfl, ru⟩ := rv.one
  obtain rfl : u = Value.bool true := ru
  obtain ⟨z, its, n, r, hl, e⟩ := I.lstM hH
  have len := r.length
  rw [List.length_map] at len
  have hjl : j < bs.length := (List.getElem?_eq_some_iff.mp hj).1
  have val : ∀ i b, bs[i]? = some b → ∀ hi : i < its.toArray.size, its.toArray[i] = .bool b := fun i b hb hi => by
    obtain ⟨u, hu, ru⟩ := r.get (i := i) (x := .bl b) (by rw [List.getElem?_map, hb]; rfl)
    have := List.getElem?_eq_some_iff.mp hu
    rw [show u = Value.bool b from ru] at this
    simpa using this.2
  have hjs : j < its.toArray.size := by rw [List.size_toArray]; omega
  have hsz : (j : Int) < 2 ^ 63 - 1 := by
    have : bs.length ≤ sizeLine := by rw [List.length_map] at z; exact z
    have : sizeLine < 2 ^ 62 := by decide
    omega
  refine call_meets F.slot_list_index ⟨_, e, rfl⟩ F.entry_list_index (F.args_list_index_2 _ _) (SeqAt.list_indexAt l its.toArray n _ _ (.bool true) isTrueV j hjs hsz (by rw [val j true hj]; rfl) (fun m hm hlt => by rw [val m false (hno m hlt)]; rfl)) ⟨e, fun y hy => ?_, ?_⟩
  · obtain ⟨b, rfl⟩ := bools_mem r hy
    exact eq_true_at b
  · exact ⟨.int j, H, I.tok _, ⟨s.toks, rfl⟩, q⟩
def cInt : Expr → Option Int
  | .Constant (.int i) _ _ => some i
  | _ => none
def tInts (ns : List Int) : TA := fun _ H Q => Q (ns.map V.int) H
theorem cInt_is {e : Expr} {n : Int} (h : cInt e = some n) : ∃ j p, e = .Constant (.int n) j p := by
  unfold cInt at h
  split at h
  · cases h
    exact ⟨_, _, rfl⟩
  · cases h
theorem pa_ints : ∀ {es : List Expr} (ns : List Int), es.map cInt = ns.map some → PA X es (tInts ns)
  | [], ns, h => by
    cases ns with
    | nil => exact pa_nil
    | cons n ns => simp at h
  | e :: es, ns, h => by
    cases ns with
    | nil => simp at h
    | cons n ns =>
      rw [List.map_cons, List.map_cons] at h
      obtain ⟨j, p, rfl⟩ := cInt_is (List.cons.inj h).1
      exact pa_cons pe_int (pa_ints ns (List.cons.inj h).2) rfl
theorem ix_AH {pins : List (Addr × Obj)} {a : Addr} {oe : Obj} : IxR (X.inH pins a oe) (rIxA X.K) := ix_A (X := X.inH pins a oe)
theorem pe_bmH {pins : List (Addr × Obj)} {a : Addr} {oe : Obj} {o e : Expr} {es : List Expr} {to : TE} {t : TA} {name : Str} {apos cpos : Pos} {T id : String} {r : V → List V → Hp → VK → Prop}
    (pa : PlainAttrs T) (slot : Slot T name id) (hty : typeOf (.builtin id) = pure (.type "method_descriptor")) (hm : MtR (X.inH pins a oe) id r) (ho : PE (X.inH pins a oe) o to) (ha : PA (X.inH pins a oe) (e :: es) t)
    (hbase : attributeBase o name X.env (eval o X.env) = eval o X.env := by rfl)
    (hfew : ((backTo cpos (starEach (e :: es) X.env)).all (fun x => !x.1) && (backToKw cpos (keywordEach [] X.env)).all (fun x => x.1.isSome)
      && decide ((e :: es).length + ([] : List Keyword).length + (if ([] : List Keyword).isEmpty then 0 else 1) < 30)) = true := by rfl)
    (hline : (apos.endLine == cpos.line) = true := by rfl) (hs : starEach (e :: es) X.env = (false, eval e X.env) :: starEach es X.env := by rfl) (hplain : (backTo cpos (starEach es X.env)).any (·.1) = false := by rfl) :
    PE (X.inH pins a oe) (.Call (.Attribute o name apos) (e :: es) [] cpos) (tBM X.K T r to t) := pe_bm (X := X.inH pins a oe) pa slot hty hm ho ha hbase hfew hline hs hplain
end
section
variable {σ : St} {H : Hp} {Q : VK} {K : PySem.W.Frag}
theorem rd_ints {ns : List Int} {R : List V → Hp → Prop} (h : R (ns.map V.int) H) : tInts ns σ H R := h
theorem rd_countB {a : Addr} (bs : List Bool) {k : Nat} (h1 : H a = some (.lst (bs.map V.bl))) (hk : bs.countP id = k) (h : Q (.int k) H) : rCountB (.ref a) [.bl true] H Q := ⟨a, bs, rfl, rfl, h1, by rw [hk]; exact h⟩
theorem rd_indexB {a : Addr} (bs : List Bool) (j : Nat) (h1 : H a = some (.lst (bs.map V.bl))) (hj : bs[j]? = some true) (hno : ∀ i, i < j → bs[i]? = some false) (h : Q (.int j) H) : rIndexB (.ref a) [.bl true] H Q := ⟨a, bs, j, rfl, rfl, h1, hj, hno, h⟩
end
end L2
set_option maxRecDepth 100000
set_option maxHeartbeats 4000000
namespace L2
open PySem PySem.Spec PyProof.Rows
section
variable {X : Cx}
end
section
variable {σ : St} {H : Hp} {Q : VK} {K : PySem.W.Frag}
end
end L2
set_option maxRecDepth 100000
set_option maxHeartbeats 4000000
namespace L2
open PySem PySem.Spec PyProof.Rows
section
variable {X : Cx} {tg : Expr}
end
section
variable {σ : St} {H : Hp} {Q : VK} {K : PySem.W.Frag}
end
end L2
set_option maxRecDepth 100000
set_option maxHeartbeats 4000000
namespace L2
open PySem PySem.Spec PyProof.Rows
section
variable {X : Cx} {pins : List (Addr × Obj)} {σ : St} {H : Hp} {s : Shared} {h' : Heap}
theorem Inv.turnedL {t' : Nat} {ch : List Addr} (I : Inv X pins σ H s) (k : ∀ b o, b ∉ ch → s.heap.get? b = some o → h'.get? b = some o) (hf : ∀ b ∈ ch, FpOk X pins H b) : Inv X pins σ H { s with heap := h', toks := t' } := by
  have nit : ∀ b u, H b = some u → b ∉ ch := fun b u e z => by rw [(hf b z).1] at e; cases e
  refine I.step (g' := s.gens) (d' := s.drawn) (ch := ch) (fun b hb => ?_) (fun b o _ _ hc e _ => k b o hc e) (fun b o _ _ hc e _ => ⟨o.slots, k b o hc e⟩) (fun _ _ _ _ n => n)
    (fun b o hc e => ⟨o, k b o hc e⟩) (fun _ _ e => e) (fun _ _ _ e => e) (fun b ps e => ⟨#[], by rw [e]; simp⟩) (fun m hm => ?_) (fun b u e => ?_) I.bare
  · obtain ⟨f0, f1, f2, f3, f4, f5⟩ := hf b hb
    exact ⟨f3, f1, f4, f5⟩
  · obtain ⟨o, es, ep, ho, r⟩ := hm
    exact ⟨o, es, ep, k _ o (fun z => (hf _ z).2.1 rfl) ho, r⟩
  · refine (I.hok b u e).stay (fun c v hc q => k c v ?_ q) (fun _ q => q) fun _ _ q => q
    rcases hc with z | z
    · rw [z]; exact nit b u e
    · exact nit c _ z
end
def Itz (K : PySem.W.Frag) (a b : Addr) : It := ⟨fun i H => ∃ xs ys x y, SqL K H a xs ∧ SqL K H b ys ∧ xs[i]? = some x ∧ ys[i]? = some y,
  fun i H v H' => ∃ T, v = .ref T ∧ H T = none ∧ ∀ xs ys x y, SqL K H a xs → SqL K H b ys → xs[i]? = some x → ys[i]? = some y → H' = upd H T (.tup [x, y]),
  fun i H => ∃ xs ys, SqL K H a xs ∧ SqL K H b ys ∧ (xs.length ≤ i ∨ ys.length ≤ i)⟩
theorem turn_zip {P : Program} {w : World} {K : PySem.W.Frag} {elts : List Expr} {kt : Nat} {tp : Pos} {z TI TO i1 i2 l1 l2 : Addr} (D : ZipApart z TI TO i1 i2 l1 l2) :
    Turn P w K (.Tuple elts kt tp) (Itz K l1 l2) [z, TI, TO, i1, i2] z (fun i h => IsZip h z TI TO .none ∧ IsPair h TI (.ref i1) (.ref i2) ∧ (∃ a b, IsPair h TO a b) ∧ h.IsListIter i1 l1 i ∧ h.IsListIter i2 l2 i) where
  mem := by simp
  obj := fun i h st b hb => by
    obtain ⟨hz, hTI, ⟨a, c, hTO⟩, ⟨o1, e1, c1, d1⟩, ⟨o2, e2, c2, d2⟩⟩ := st
    have hb' : b = z ∨ b = TI ∨ b = TO ∨ b = i1 ∨ b = i2 := by simpa using hb
    rcases hb' with rfl | rfl | rfl | rfl | rfl
    · exact ⟨_, hz, fun v y => by have y' : Data.fields _ = Data.cell v := y; cases y'⟩
    · exact ⟨_, hTI, fun v y => by have y' : Data.seq _ _ = Data.cell v := y; cases y'⟩
    · exact ⟨_, hTO, fun v y => by have y' : Data.seq _ _ = Data.cell v := y; cases y'⟩
    · exact ⟨o1, e1, fun v y => by rw [d1] at y; cases y⟩
    · exact ⟨o2, e2, fun v y => by rw [d2] at y; cases y⟩
  keep := fun i h h' st k => by
    obtain ⟨hz, hTI, ⟨a, c, hTO⟩, h1, h2⟩ := st
    exact ⟨k z (by simp) _ hz, k TI (by simp) _ hTI, ⟨a, c, k TO (by simp) _ hTO⟩, h1.at fun o e => k i1 (by simp) o e, h2.at fun o e => k i2 (by simp) o e⟩
  item := by
    intro X hP hw hK hc i pins s σ H E I hf st hg
    subst hP hw hK
    obtain ⟨xs, ys, x, y, q1, q2, hx, hy⟩ := hg
    obtain ⟨us, r1, p1, z1⟩ := I.list q1
    obtain ⟨vs, r2, p2, z2⟩ := I.list q2
    obtain ⟨u, hu, ru⟩ := r1.get hx
    obtain ⟨v, hv, rv⟩ := r2.get hy
    obtain ⟨hz, hTI, ⟨a, c, hTO⟩, h1, h2⟩ := st
    refine wpAny_pyNext_zip_item D hz hTI hTO h1 h2 p1.isList p2.isList (x := u) (y := v) (by simpa using hu) (by simpa using hv) fun h' a1 a2 a3 a4 a5 a6 a7 => ?_
    refine ⟨_, rfl, wpAny_letOwnedTupleGo_zip (s := { s with heap := h' }) a1 fun h2' b1 b2 => ?_⟩
    have nT : H s.heap.objs.size = none := I.hok.fresh (Nat.le_refl _)
    have lt : ∀ b ∈ [z, TI, TO, i1, i2], b < s.heap.objs.size := fun b hb => by
      have hb' : b = z ∨ b = TI ∨ b = TO ∨ b = i1 ∨ b = i2 := by simpa using hb
      obtain ⟨o1, e1, _⟩ := id h1
      obtain ⟨o2, e2, _⟩ := id h2
      rcases hb' with rfl | rfl | rfl | rfl | rfl
      · exact Heap.lt_size hz
      · exact Heap.lt_size hTI
      · exact Heap.lt_size hTO
      · exact Heap.lt_size e1
      · exact Heap.lt_size e2
    have I1 : Inv X pins σ (upd H s.heap.objs.size (.tup [x, y])) { s with heap := s.heap.push { cls := .type "tuple", data := .seq #[u, v] } } :=
      I.laid (t' := s.toks) (fun b o e => Heap.get?_push_of_some _ e) (Nat.le_refl _) ⟨by show 2 ≤ sizeLine; decide, [u, v], .cons ru (.cons rv .nil), ⟨_, Heap.get?_push_size _ rfl, rfl, _, rfl⟩⟩
    have f1 : ∀ b ∈ [z, TI, TO, i1, i2], FpOk X pins (upd H s.heap.objs.size (.tup [x, y])) b := fun b hb => by
      obtain ⟨f0, r⟩ := hf b hb
      exact ⟨by rw [upd_ne (Nat.ne_of_lt (lt b hb))]; exact f0, r⟩
    have zT : s.heap.objs.size ≠ z := Ne.symm (Nat.ne_of_lt (lt z (by simp)))
    have I2 : Inv X pins σ (upd H s.heap.objs.size (.tup [x, y])) { s with heap := h2' } := by
      refine Inv.turnedL (s := { s with heap := s.heap.push { cls := .type "tuple", data := .seq #[u, v] } }) (h' := h2') (t' := s.toks) (ch := [z, TI, TO, i1, i2]) I1 (fun b o hb e => ?_) f1
      have hb' : b ≠ z ∧ b ≠ TI ∧ b ≠ TO ∧ b ≠ i1 ∧ b ≠ i2 := by simpa using hb
      obtain ⟨n1, n2, n3, n4, n5⟩ := hb'
      rw [b2.2 b n1]
      by_cases hN : b = s.heap.objs.size
      · subst hN
        have e' : (s.heap.push { cls := .type "tuple", data := .seq #[u, v] }).get? s.heap.objs.size = some _ := Heap.get?_push_size _ rfl
        have e'' : (s.heap.push { cls := .type "tuple", data := .seq #[u, v] }).get? s.heap.objs.size = some o := e
        rw [e'] at e''
        cases e''
        exact a5
      · refine a7 b o n1 n3 n4 n5 ?_
        have e'' : (s.heap.push { cls := .type "tuple", data := .seq #[u, v] }).get? b = some o := e
        exact (Heap.get?_push_ne _ _ _ hN).symm.trans e''
    refine ⟨.ref s.heap.objs.size, _, I2, rfl, ⟨s.heap.objs.size, rfl, nT, fun xs' ys' x' y' w1 w2 w3 w4 => ?_⟩, ⟨b1, ?_, ⟨u, v, ?_⟩, a3.at fun o e => (b2.2 _ D.i1z).trans e, a4.at fun o e => (b2.2 _ D.i2z).trans e⟩, fun b hb => (f1 b hb).1⟩
    · rw [I.list_inj w1 q1, hx] at w3
      rw [I.list_inj w2 q2, hy] at w4
      cases w3
      cases w4
      rfl
    · exact (b2.2 _ D.TIz).trans (a7 TI _ D.TIz D.TITO D.TIi1 D.TIi2 hTI)
    · exact (b2.2 _ D.TOz).trans a2
  done := by
    intro X hP hw hK hc i pins s σ H E I hf st hg
    subst hP hw hK
    obtain ⟨xs, ys, q1, q2, hend⟩ := hg
    obtain ⟨us, r1, p1, z1⟩ := I.list q1
    obtain ⟨vs, r2, p2, z2⟩ := I.list q2
    obtain ⟨hz, hTI, ⟨a, c, hTO⟩, h1, h2⟩ := st
    have l1 := r1.length
    have l2 := r2.length
    refine wpAny_pyNext_zip_end (I.ok.hd hc) D hz hTI hTO h1 h2 p1.isList p2.isList ?_ fun h' kk => ⟨rfl, I.turnedL (t' := s.toks) (ch := [z, TI, TO, i1, i2]) (fun b o hb e => ?_) hf⟩
    · rcases hend with z | z
      · exact .inl (by simp; omega)
      · exact .inr (by simp; omega)
    · have hb' : b ≠ z ∧ b ≠ TI ∧ b ≠ TO ∧ b ≠ i1 ∧ b ≠ i2 := by simpa using hb
      exact kk b o hb'.1 hb'.2.2.1 hb'.2.2.2.1 hb'.2.2.2.2 e
  self := fun _ _ _ _ _ st h => wpAny_pyIter_zip st.1 h
section
variable {X : Cx}
def iZip (K : PySem.W.Frag) (ta : TA) : TI := fun σ H R => ta σ H fun vs H1 => ∃ a b, vs = [.ref a, .ref b] ∧ (∃ xs, SqL K H1 a xs) ∧ (∃ ys, SqL K H1 b ys) ∧ R (Itz K a b) H1
theorem pi_zip {a b : Expr} {ta : TA} {p pos : Pos} {elts : List Expr} {kt : Nat} {tp : Pos} (hg : Gl X "zip") (hm : X.mg "zip" = none) (ha : PA X [a, b] ta) (hs : starEach [a, b] X.env = [(false, eval a X.env), (false, eval b X.env)] := by rfl) (hs2 : starEach [b] X.env = [(false, eval b X.env)] := by rfl) :
    PI X (.Tuple elts kt tp) (.Call (.Name "zip" p) [a, b] [] pos) (iZip X.K ta) := by
  intro pins s σ H R I h
  refine Call_ (ld_blt I hg hm boot_zip (PyProof.Rows.callWith_type1 (thn (ha pos pins s σ H _ I h) fun us s1 ⟨vs, H1, I1, r1, q1⟩ => ?_) (by rw [hs, hs2]) (by rw [hs2]; rfl)))
  obtain ⟨l1, l2, e, ⟨xs, hx⟩, ⟨ys, hy⟩, q⟩ := q1
  subst e
  obtain ⟨u, v, rfl, ru, rv⟩ := vals2 r1
  obtain rfl : u = Value.ref l1 := ru
  obtain rfl : v = Value.ref l2 := rv
  obtain ⟨us, r1, p1, z1⟩ := I1.list hx
  obtain ⟨vs, r2, p2, z2⟩ := I1.list hy
  have lt1 : l1 < s1.heap.objs.size := by obtain ⟨o, _, e, _⟩ := p1; exact Heap.lt_size e
  have lt2 : l2 < s1.heap.objs.size := by obtain ⟨o, _, e, _⟩ := p2; exact Heap.lt_size e
  refine call_zip_2 p1.isList p2.isList fun h' hz hTI hTO hi1 hi2 hsz hk => ?_
  refine wpAny_pyIter_zip (s := { s1 with heap := h' }) hz ?_
  have I2 : Inv X pins σ H1 { s1 with heap := h' } := I1.kept (t' := s1.toks) hk
  have D : ZipApart (s1.heap.objs.size + 4) (s1.heap.objs.size + 2) (s1.heap.objs.size + 3) s1.heap.objs.size (s1.heap.objs.size + 1) l1 l2 := PySem.W.ktu_apart _ _ _ lt1 lt2
  refine ⟨_, _, _, _, H1, rfl, I2, turn_zip D, ⟨hz, hTI, ⟨_, _, hTO⟩, hi1, hi2⟩, fun b hb => ?_, q⟩
  have hb' : b = s1.heap.objs.size + 4 ∨ b = s1.heap.objs.size + 2 ∨ b = s1.heap.objs.size + 3 ∨ b = s1.heap.objs.size ∨ b = s1.heap.objs.size + 1 := by simpa using hb
  have ge : s1.heap.objs.size ≤ b := by
    rcases hb' with rfl | rfl | rfl | rfl | rfl
    · exact Nat.le_add_right _ _
    · exact Nat.le_add_right _ _
    · exact Nat.le_add_right _ _
    · exact Nat.le_refl _
    · exact Nat.le_add_right _ _
  exact I1.fpOk ge (I1.hok.fresh ge)
end
section
variable {σ : St} {H : Hp} {Q : VK} {D : Ends} {K : PySem.W.Frag}
def kZip (K : PySem.W.Frag) (vs : List V) (H : Hp) (R : It → Hp → Prop) : Prop := ∃ a b, vs = [.ref a, .ref b] ∧ (∃ xs, SqL K H a xs) ∧ (∃ ys, SqL K H b ys) ∧ R (Itz K a b) H
theorem rd_forZ {ta : TA} {g : TG} {tb : TS} (h : ta σ H fun vs H1 => kZip K vs H1 fun J H2 => ∃ W : Nat → Nat → St → Hp → Prop, (∃ m, W 0 m σ H2) ∧ ∀ i m σ H, W i m σ H →
  (J.stop i H ∧ D.nx σ H) ∨ (J.go i H ∧ ∃ N : St → Hp → Prop, (∀ σ' H', N σ' H' → ∃ m', m' < m ∧ W (i + 1) m' σ' H') ∧ ∀ x H', J.yld i H x H' → g x σ H' fun σ2 H2 => tb { D with nx := N, ct := N, bk := D.nx } σ2 H2)) : tFor (iZip K ta) g tb D σ H := h
theorem rd_kZip {a b : Addr} {xs ys : List V} {R : It → Hp → Prop} (h1 : SqL K H a xs) (h2 : SqL K H b ys) (h : R (Itz K a b) H) : kZip K [.ref a, .ref b] H R := ⟨a, b, rfl, ⟨xs, h1⟩, ⟨ys, h2⟩, h⟩
theorem for_zip {a b : Addr} {xs ys : List V} {g : TG} {tb : TS} (Pv : Nat → St → Hp → Prop) (h0 : Pv 0 σ H) (hl : ∀ i σ H, Pv i σ H → SqL K H a xs ∧ SqL K H b ys)
    (hs : ∀ i x y (T : Addr) σ H H', xs[i]? = some x → ys[i]? = some y → Pv i σ H → Same H H' → H' T = some (.tup [x, y]) → g (.ref T) σ H' fun σ2 H2 => tb { D with nx := Pv (i + 1), ct := Pv (i + 1), bk := D.nx } σ2 H2)
    (hd : ∀ i σ H, i = min xs.length ys.length → Pv i σ H → D.nx σ H) :
    ∃ W : Nat → Nat → St → Hp → Prop, (∃ m, W 0 m σ H) ∧ ∀ i m σ H, W i m σ H →
      ((Itz K a b).stop i H ∧ D.nx σ H) ∨ ((Itz K a b).go i H ∧ ∃ N : St → Hp → Prop, (∀ σ' H', N σ' H' → ∃ m', m' < m ∧ W (i + 1) m' σ' H') ∧ ∀ x H', (Itz K a b).yld i H x H' → g x σ H' fun σ2 H2 => tb { D with nx := N, ct := N, bk := D.nx } σ2 H2) := by
  refine ⟨fun i m σ H => m = xs.length - i ∧ i ≤ min xs.length ys.length ∧ Pv i σ H, ⟨_, rfl, Nat.zero_le _, h0⟩, ?_⟩
  rintro i m σ H ⟨rfl, hi, p⟩
  obtain ⟨q1, q2⟩ := hl i σ H p
  by_cases hlt : i < min xs.length ys.length
  · have i1 : i < xs.length := by omega
    have i2 : i < ys.length := by omega
    refine .inr ⟨⟨xs, ys, xs[i], ys[i], q1, q2, by simp [i1], by simp [i2]⟩, Pv (i + 1), fun σ' H' p' => ⟨xs.length - (i + 1), by omega, rfl, by omega, p'⟩, ?_⟩
    rintro v H' ⟨T, rfl, nT, e⟩
    have e := e xs ys xs[i] ys[i] q1 q2 (by simp [i1]) (by simp [i2])
    subst e
    exact hs i _ _ T σ H _ (by simp [i1]) (by simp [i2]) p (Same.new nT _) upd_same
  · exact .inl ⟨⟨xs, ys, q1, q2, by omega⟩, hd i σ H (by omega) p⟩
end
end L2
set_option maxRecDepth 100000
set_option maxHeartbeats 4000000
namespace L2
open PySem PySem.Spec PyProof.Rows
section
variable {σ : St} {H : Hp} {Q : VK} {K : PySem.W.Frag}
end
def RowsL (H : Hp) (r : Addr) (rs : List (List Int)) : Prop := ∃ as : List Addr, H r = some (.lst (as.map V.ref)) ∧ as.length = rs.length ∧ ∀ (i : Nat) (x : Addr) (p : List Int), as[i]? = some x → rs[i]? = some p → H x = some (.tup (p.map V.int))
theorem RowsL.push {H H' : Hp} {r t : Addr} {rs : List (List Int)} {p : List Int} (h : RowsL H r rs) (s : Same H H') (e : H' t = some (.tup (p.map V.int))) : ∃ as : List Addr, H' r = some (.lst (as.map V.ref)) ∧ as.length = rs.length ∧ RowsL (upd H' r (.lst (as.map V.ref ++ [.ref t]))) r (rs ++ [p]) := by
  obtain ⟨as, e1, hl, hT⟩ := h
  have e1' := s.obj e1
  refine ⟨as, e1', hl, as ++ [t], by rw [List.map_append]; exact upd_same, by rw [List.length_append, List.length_append, hl]; rfl, fun i x q hx hq => ?_⟩
  have key : H' x = some (.tup (q.map V.int)) := by
    rcases Nat.lt_or_ge i as.length with hi | hi
    · rw [List.getElem?_append_left hi] at hx
      rw [List.getElem?_append_left (by omega)] at hq
      exact s.obj (hT i x q hx hq)
    · rw [List.getElem?_append_right hi] at hx
      rw [List.getElem?_append_right (by omega), ← hl] at hq
      have hi0 : i - as.length = 0 := by
        rcases Nat.eq_zero_or_pos (i - as.length) with z | z
        · exact z
        · rw [List.getElem?_eq_none (by simp; omega)] at hx
          cases hx
      rw [hi0] at hx hq
      cases hx
      cases hq
      exact e
  have ne : x ≠ r := fun z => by
    rw [z, e1'] at key
    cases key
  rw [upd_ne ne]
  exact key
theorem RowsL.same {H H' : Hp} {r : Addr} {rs : List (List Int)} (h : RowsL H r rs) (s : Same H H') : RowsL H' r rs := by
  obtain ⟨as, e1, hl, hT⟩ := h
  exact ⟨as, s.obj e1, hl, fun i x q hx hq => s.obj (hT i x q hx hq)⟩
end L2
set_option maxRecDepth 100000
set_option maxHeartbeats 4000000
namespace L2
open PySem PySem.Spec PyProof.Rows
section
variable {X : Cx}
end
end L2
set_option maxRecDepth 100000
set_option maxHeartbeats 4000000
namespace L2
open PySem PySem.Spec PyProof.Rows
section
variable {X : Cx}
end
section
variable {σ : St} {H : Hp} {Q : VK} {K : PySem.W.Frag}
end
end L2
set_option maxRecDepth 100000
set_option maxHeartbeats 4000000
namespace L2
open PySem PySem.Spec PyProof.Rows
section
variable {X : Cx} {tg : Expr}
end
section
variable {σ : St} {H : Hp} {D : Ends}
end
end L2
set_option maxRecDepth 100000
set_option maxHeartbeats 4000000
namespace L2
open PySem PySem.Spec PyProof.Rows
section
variable {σ : St} {H : Hp} {Q : VK} {K : PySem.W.Frag}
theorem rd_kCompRows {te : TE} {vs : St} {lo : Int} {n : Nat} (row : Int → List Int) (hz : n ≤ 1000) (he : ∀ (i : Nat) (k : Int) H' (Q' : VK), i < n → k = lo + i → Same H H' → (∀ t H2, Same H' H2 → H2 t = some (.tup ((row k).map V.int)) → Q' (.ref t) H2) → te (some (.int k) :: vs) H' Q')
    (h : ∀ D H', Same H H' → H D = none → RowsL H' D ((List.range n).map fun i => row (lo + (i : Nat))) → Q (.ref D) H') : kCompF te vs (Itr lo n) H Q := by
  intro D hD
  refine ⟨fun i m zs H' => m = n - i ∧ i ≤ n ∧ Same H H' ∧ ∃ as : List Addr, zs = as.map V.ref ∧ as.length = i ∧ H' D = some (.lst zs) ∧ ∀ (j : Nat) (x : Addr), as[j]? = some x → H' x = some (.tup ((row (lo + (j : Nat))).map V.int)), ⟨n, by simp, Nat.zero_le _, Same.new hD _, [], rfl, rfl, upd_same, fun j x z => by simp at z⟩, ?_⟩
  rintro i m zs H' ⟨rfl, hi, hs, as, rfl, hl, eD, hT⟩
  refine ⟨eD, ?_⟩
  by_cases hlt : i < n
  · refine .inr ⟨hlt, ?_, fun x H2 y => ?_⟩
    · rw [List.length_map, hl]
      exact small1000 (by omega)
    · obtain ⟨rfl, rfl⟩ := y
      refine he i _ _ _ hlt rfl hs fun t H2 s2 e2 => ⟨s2.obj eD, n - (i + 1), by omega, rfl, hlt, (hs.trans s2).upd hD, as ++ [t], by simp, by simp [hl], upd_same, fun j x hx => ?_⟩
      have key : H2 x = some (.tup ((row (lo + (j : Nat))).map V.int)) := by
        rcases Nat.lt_or_ge j as.length with z | z
        · rw [List.getElem?_append_left z] at hx
          exact s2.obj (hT j x hx)
        · rw [List.getElem?_append_right z] at hx
          have z0 : j - as.length = 0 := by
            rcases Nat.eq_zero_or_pos (j - as.length) with z1 | z1
            · exact z1
            · rw [List.getElem?_eq_none (by simp; omega)] at hx
              cases hx
          rw [z0] at hx
          cases hx
          rw [show j = i by omega]
          exact e2
      have ne : x ≠ D := fun z => by
        rw [z, s2.obj eD] at key
        cases key
      rw [upd_ne ne]
      exact key
  · have e : i = n := by omega
    subst e
    refine .inl ⟨Nat.le_refl _, h D H' hs hD ⟨as, eD, by simp [hl], fun j x p hx hp => ?_⟩⟩
    rw [List.getElem?_map] at hp
    obtain ⟨j', hj, rfl⟩ := Option.map_eq_some_iff.mp hp
    obtain ⟨hj1, hj2⟩ := List.getElem?_eq_some_iff.mp hj
    rw [List.getElem_range] at hj2
    rw [← hj2]
    exact hT j x hx
end
end L2
set_option maxRecDepth 100000
set_option maxHeartbeats 4000000
namespace L2
open PySem PySem.Spec PyProof.Rows
section
variable {X : Cx}
variable {H : Hp} {Q : VK}
end
end L2
set_option maxRecDepth 100000
set_option maxHeartbeats 4000000
namespace L2
open PySem PySem.Spec PyProof.Rows
section
variable {X : Cx}
end
end L2
set_option maxRecDepth 100000
set_option maxHeartbeats 4000000
namespace L2
open PySem PySem.Spec PyProof.Rows
section
variable {σ : St} {H : Hp} {Q : VK} {K : PySem.W.Frag}
end
end L2
set_option maxRecDepth 100000
set_option maxHeartbeats 4000000
namespace L2
open PySem PySem.Spec PyProof.Rows
section
variable {X : Cx}
end
section
variable {σ : St} {H : Hp} {Q : VK} {K : PySem.W.Frag}
end
end L2
set_option maxRecDepth 100000
set_option maxHeartbeats 4000000
namespace L2
open PySem PySem.Spec PyProof.Rows
section
variable {σ : St} {H : Hp} {Q : VK} {K : PySem.W.Frag}
end
end L2
set_option maxRecDepth 100000
set_option maxHeartbeats 4000000
namespace L2
open PySem PySem.Spec PyProof.Rows
section
variable {X : Cx}
variable {H : Hp} {Q : VK}
end
end L2
set_option maxRecDepth 100000
set_option maxHeartbeats 4000000
namespace L2
open PySem PySem.Spec PyProof.Rows
section
variable {H : Hp} {Q : VK}
end
end L2
set_option maxRecDepth 100000
set_option maxHeartbeats 4000000
namespace L2
open PySem PySem.Spec PyProof.Rows
section
variable {X : Cx} {pins : List (Addr × Obj)} {scope : Scope} {x : Str} {ex : List Addr} {s : Shared} {H : Hp} {tg l : Expr} {tl : TE}
end
end L2
set_option maxRecDepth 100000
set_option maxHeartbeats 4000000
namespace L2
open PySem PySem.Spec PyProof.Rows
section
variable {X : Cx} {pos : Pos}
variable {σ : St} {H : Hp} {K : PySem.W.Frag}
end
end L2
set_option maxRecDepth 100000
set_option maxHeartbeats 4000000
namespace L2
open PySem PySem.Spec PyProof.Rows
section
variable {H : Hp} {Q : VK}
end
end L2
set_option maxRecDepth 100000
set_option maxHeartbeats 4000000
namespace L2
open PySem PySem.Spec PyProof.Rows
theorem rd_kParG {σ : St} {H : Hp} {i j : Nat} {v w : V} {nx : St → Hp → Prop} (h : gName i v σ H fun σ1 H1 => gName j w σ1 H1 nx) : kPar i j [v, w] σ H nx := ⟨v, w, rfl, h⟩
end L2
set_option maxRecDepth 100000
set_option maxHeartbeats 4000000
namespace L2
open PySem PySem.Spec PyProof.Rows
section
variable {σ : St} {H : Hp} {Q : VK} {K : PySem.W.Frag}
end
end L2
set_option maxRecDepth 100000
set_option maxHeartbeats 4000000
namespace L2
open PySem PySem.Spec PyProof.Rows
section
variable {σ : St} {H : Hp} {Q : VK} {K : PySem.W.Frag} {D : Ends}
end
end L2
set_option maxRecDepth 100000
set_option maxHeartbeats 4000000
namespace L2
open PySem PySem.Spec PyProof.Rows
section
variable {σ : St} {H : Hp} {Q : VK} {K : PySem.W.Frag}
end
end L2
set_option maxRecDepth 100000
set_option maxHeartbeats 4000000
namespace L2
open PySem PySem.Spec PyProof.Rows
section
variable {σ : St} {H : Hp} {Q : VK} {K : PySem.W.Frag} {D : Ends}
end
end L2
set_option maxRecDepth 100000
set_option maxHeartbeats 4000000
namespace L2
open PySem PySem.Spec PyProof.Rows
section
variable {X : Cx}
end
section
variable {σ : St} {H : Hp} {Q : VK} {K : PySem.W.Frag}
end
end L2
set_option maxRecDepth 100000
set_option maxHeartbeats 4000000
namespace L2
open PySem PySem.Spec PyProof.Rows
section
variable {prog : Program} {w : World} {A : Around} {E : Value → Shared → Prop} {s : Shared} {it t : Addr} {i : Nat} {items : Array Value}
end
section
variable {X : Cx}
end
section
variable {σ : St} {H : Hp} {Q : VK} {D : Ends} {K : PySem.W.Frag}
end
end L2
set_option maxRecDepth 100000
set_option maxHeartbeats 4000000
namespace L2
open PySem PySem.Spec PyProof.Rows
section
variable {X : Cx}
end
section
variable {σ : St} {H : Hp} {Q : VK} {K : PySem.W.Frag}
end
end L2
set_option maxRecDepth 100000
set_option maxHeartbeats 4000000
namespace L2
open PySem PySem.Spec PyProof.Rows
section
variable {X : Cx}
end
section
variable {σ : St} {H : Hp} {Q : VK} {K : PySem.W.Frag}
end
end L2
set_option maxRecDepth 100000
set_option maxHeartbeats 4000000
namespace L2
open PySem PySem.Spec PyProof.Rows
section
variable {prog : Program} {w : World} {A : Around} {E : Value → Shared → Prop} {s : Shared} {r : Addr} {n : Nat} {t u v : Tok} {j : Int}
end
section
variable {X : Cx}
end
section
variable {σ : St} {H : Hp} {Q : VK} {K : PySem.W.Frag}
end
end L2
set_option maxRecDepth 100000
set_option maxHeartbeats 4000000
namespace L2
open PySem PySem.Spec PyProof.Rows
section
variable {X : Cx}
end
section
variable {σ : St} {H : Hp} {Q : VK} {K : PySem.W.Frag}
end
end L2
set_option maxRecDepth 100000
set_option maxHeartbeats 4000000
namespace L2
open PySem PySem.Spec PyProof.Rows
section
variable {X : Cx}
variable {H : Hp} {Q : VK}
end
end L2
set_option maxRecDepth 100000
set_option maxHeartbeats 4000000
namespace L2
open PySem PySem.Spec PyProof.Rows
section
variable {X : Cx}
variable {H : Hp} {Q : VK} {K : PySem.W.Frag}
end
end L2
set_option maxRecDepth 100000
set_option maxHeartbeats 4000000
namespace L2
open PySem PySem.Spec PyProof.Rows
section
variable {X : Cx}
end
section
variable {X : Cx} {pins : List (Addr × Obj)} {scope : Scope} {x : Str} {ys : List Str} {cl : List (Str × Addr)} {ex : List Addr} {s : Shared} {H : Hp}
end
section
variable {σ : St} {H : Hp} {Q : VK} {K : PySem.W.Frag}
end
end L2
set_option maxRecDepth 100000
set_option maxHeartbeats 4000000
namespace L2
open PySem PySem.Spec PyProof.Rows
inductive Cmp (K : PySem.W.Frag) (H : Hp) : Nat → V → V → Bool → Prop
  | flat {d : Nat} {x y : V} (fx : flatV x = true) (fy : flatV y = true) : Cmp K H d x y (eqV x y)
  | tup {d : Nat} {a b : Addr} {xs ys : List V} (e : Nat → Bool) (h1 : SqT K H a xs) (h2 : SqT K H b ys) (hl : xs.length = ys.length) (he : ∀ (i : Nat) x y, xs[i]? = some x → ys[i]? = some y → Cmp K H d x y (e i)) : Cmp K H (d + 1) (.ref a) (.ref b) ((List.range xs.length).all e)
  | lst {d : Nat} {a b : Addr} {xs ys : List V} (e : Nat → Bool) (h1 : SqL K H a xs) (h2 : SqL K H b ys) (hl : xs.length = ys.length) (he : ∀ (i : Nat) x y, xs[i]? = some x → ys[i]? = some y → Cmp K H d x y (e i)) : Cmp K H (d + 1) (.ref a) (.ref b) ((List.range xs.length).all e)
  | lens {d : Nat} {a b : Addr} {xs ys : List V} (h1 : SqL K H a xs) (h2 : SqL K H b ys) (hl : xs.length ≠ ys.length) : Cmp K H (d + 1) (.ref a) (.ref b) false
theorem eqV_refl {x : V} (f : flatV x = true) : eqV x x = true := by
  cases x <;> simp [flatV] at f <;> simp [eqV]
theorem allR {n : Nat} {e : Nat → Bool} (h : ∀ i, i < n → e i = true) : (List.range n).all e = true :=
  List.all_eq_true.mpr fun i hi => h i (List.mem_range.mp hi)
section
variable {X : Cx} {pins : List (Addr × Obj)} {σ : St} {H : Hp} {s : Shared}
theorem Cmp.self (I : Inv X pins σ H s) {d : Nat} {x y : V} {b : Bool} (c : Cmp X.K H d x y b) : x = y → b = true := by
  induction c with
  | flat fx fy => intro e; subst e; exact eqV_refl fx
  | @tup d a b xs ys e h1 h2 hl he ih =>
    intro q
    cases q
    have := I.tuple_inj h1 h2
    subst this
    exact allR fun i hi => ih i xs[i] xs[i] (List.getElem?_eq_getElem hi) (List.getElem?_eq_getElem hi) rfl
  | @lst d a b xs ys e h1 h2 hl he ih =>
    intro q
    cases q
    have := I.list_inj h1 h2
    subst this
    exact allR fun i hi => ih i xs[i] xs[i] (List.getElem?_eq_getElem hi) (List.getElem?_eq_getElem hi) rfl
  | lens h1 h2 hl =>
    intro q
    cases q
    exact absurd (by rw [I.list_inj h1 h2]) hl
theorem Cmp.items {d : Nat} {xs ys : List V} {us vs : List Value} {e : Nat → Bool} {A : Around} (r1 : Vals xs us) (r2 : Vals ys vs) (he : ∀ (i : Nat) x y, xs[i]? = some x → ys[i]? = some y → ∀ {u v : Value}, RelV x u → RelV y v → SeqAt.EqAt A s u v (e i))
    (j : Nat) (g1 : j < us.toArray.size) (g2 : j < vs.toArray.size) : SeqAt.EqAt A s us.toArray[j] vs.toArray[j] (e j) := by
  have l1 := r1.length
  have l2 := r2.length
  rw [List.size_toArray] at g1 g2
  obtain ⟨x, hx⟩ : ∃ x, xs[j]? = some x := ⟨_, List.getElem?_eq_getElem (by omega)⟩
  obtain ⟨y, hy⟩ : ∃ y, ys[j]? = some y := ⟨_, List.getElem?_eq_getElem (by omega)⟩
  obtain ⟨u, hu', ru⟩ := r1.get hx
  obtain ⟨v, hv', rv⟩ := r2.get hy
  have eu : us.toArray[j] = u := by
    have := List.getElem?_eq_some_iff.mp hu'
    simpa using this.2
  have ev : vs.toArray[j] = v := by
    have := List.getElem?_eq_some_iff.mp hv'
    simpa using this.2
  rw [eu, ev]
  exact he j x y hx hy ru rv
theorem Cmp.at (I : Inv X pins σ H s) {d : Nat} {x y : V} {b : Bool} (c : Cmp X.K H d x y b) : ∀ {A : Around} {u v : Value}, A.units + d < cLine → RelV x u → RelV y v → SeqAt.EqAt A s u v b := by
  induction c with
  | flat fx fy => intro A u v _ ru rv; exact eqAt_V ru rv fx fy
  | @tup d a b xs ys e h1 h2 hl he ih =>
    intro A u v hu ru rv
    cases ru
    cases rv
    by_cases q : a = b
    · subst q
      rw [(Cmp.tup e h1 h2 hl he).self I rfl]
      exact SeqAt.EqAt.same _
    · obtain ⟨us, r1, t1, _⟩ := I.tuple h1
      obtain ⟨vs, r2, t2, _⟩ := I.tuple h2
      have h := SeqAt.EqAt.of_refs q (SeqAt.RcAt.tuples t1 t2 (by omega) (Cmp.items (s := s) (A := A.in1) (e := e) (d := d) r1 r2 fun i x y hx hy u v ru rv => ih i x y hx hy (A := A.in1) (by show A.units + 1 + d < _; omega) ru rv))
      have l1 := r1.length
      have l2 := r2.length
      rw [List.size_toArray, List.size_toArray, ← l1, ← l2, ← hl, Nat.min_self, beq_self_eq_true, Bool.and_true] at h
      exact h
  | @lst d a b xs ys e h1 h2 hl he ih =>
    intro A u v hu ru rv
    cases ru
    cases rv
    by_cases q : a = b
    · subst q
      rw [(Cmp.lst e h1 h2 hl he).self I rfl]
      exact SeqAt.EqAt.same _
    · obtain ⟨us, r1, t1, _⟩ := I.list h1
      obtain ⟨vs, r2, t2, _⟩ := I.list h2
      have l1 := r1.length
      have l2 := r2.length
      have h := SeqAt.EqAt.of_refs q (SeqAt.RcAt.lists t1.isList t2.isList (by rw [List.size_toArray, List.size_toArray]; omega) (by omega) (Cmp.items (s := s) (A := A.in1) (e := e) (d := d) r1 r2 fun i x y hx hy u v ru rv => ih i x y hx hy (A := A.in1) (by show A.units + 1 + d < _; omega) ru rv))
      rw [List.size_toArray, ← l1] at h
      exact h
  | @lens d a b xs ys h1 h2 hl =>
    intro A u v hu ru rv
    cases ru
    cases rv
    by_cases q : a = b
    · subst q
      exact absurd (by rw [I.list_inj h1 h2]) hl
    · obtain ⟨us, r1, t1, _⟩ := I.list h1
      obtain ⟨vs, r2, t2, _⟩ := I.list h2
      have l1 := r1.length
      have l2 := r2.length
      exact SeqAt.EqAt.of_refs q (SeqAt.RcAt.lists_lengths t1.isList t2.isList (by rw [List.size_toArray, List.size_toArray, ← l1, ← l2]; simpa using hl) (by omega))
end
theorem Room.units3 {k : Nat} {A : Around} (h : Room k A) : A.units + 5 < cLine := by
  have := h.un
  omega
def rEqF (K : PySem.W.Frag) : R2 := fun x y H Q => rEqA K x y H Q ∨ ∃ a c b, x = .ref a ∧ y = .ref c ∧ Cmp K H 4 (.ref a) (.ref c) b ∧ Q (.bl b) H
def rNeF (K : PySem.W.Frag) : R2 := fun x y H Q => rNeA K x y H Q ∨ ∃ a c b, x = .ref a ∧ y = .ref c ∧ Cmp K H 4 (.ref a) (.ref c) b ∧ Q (.bl (!b)) H
section
variable {X : Cx}
theorem op_eqF (hu : X.A.units + 5 < cLine) : OpR X (compareOp .Eq) (rEqF X.K) := by
  refine (op_eqA (by omega)).or ?_
  intro pins s σ H x y v u Q I rx ry h
  obtain ⟨a, c, b, rfl, rfl, hc, q⟩ := h
  cases rx
  cases ry
  cases hc with
  | flat f1 f2 => cases f1
  | @tup d a b xs ys e h1 h2 hl he =>
    obtain ⟨us, r1, t1, _⟩ := I.tuple h1
    obtain ⟨vs, r2, t2, _⟩ := I.tuple h2
    have l1 := r1.length
    have l2 := r2.length
    refine SeqAt.eq_tupleAt (e := e) t1 t2 (by omega) (Cmp.items (d := 3) r1 r2 fun i x y hx hy u v ru rv => (he i x y hx hy).at I (by show X.A.units + 1 + 3 < _; omega) ru rv) ⟨.bl _, H, I, ?_, q⟩
    show Value.bool _ = Value.bool _
    rw [List.size_toArray, List.size_toArray, ← l1, ← l2, ← hl, Nat.min_self, beq_self_eq_true, Bool.and_true]
  | @lst d a b xs ys e h1 h2 hl he =>
    obtain ⟨us, r1, t1, _⟩ := I.list h1
    obtain ⟨vs, r2, t2, _⟩ := I.list h2
    have l1 := r1.length
    have l2 := r2.length
    refine SeqAt.eq_listAt (e := e) t1.isList t2.isList (by rw [List.size_toArray, List.size_toArray]; omega) (by omega) (Cmp.items (d := 3) r1 r2 fun i x y hx hy u v ru rv => (he i x y hx hy).at I (by show X.A.units + 1 + 3 < _; omega) ru rv) ⟨.bl _, H, I, ?_, q⟩
    show Value.bool _ = Value.bool _
    rw [List.size_toArray, ← l1]
  | @lens d a b xs ys h1 h2 hl =>
    obtain ⟨us, r1, t1, _⟩ := I.list h1
    obtain ⟨vs, r2, t2, _⟩ := I.list h2
    have l1 := r1.length
    have l2 := r2.length
    exact SeqAt.eq_list_lengthsAt t1.isList t2.isList (by rw [List.size_toArray, List.size_toArray, ← l1, ← l2]; simpa using hl) (by omega) ⟨.bl _, H, I, rfl, q⟩
theorem op_neF (hu : X.A.units + 5 < cLine) : OpR X (compareOp .NotEq) (rNeF X.K) := by
  refine (op_neA (by omega)).or ?_
  intro pins s σ H x y v u Q I rx ry h
  obtain ⟨a, c, b, rfl, rfl, hc, q⟩ := h
  cases rx
  cases ry
  cases hc with
  | flat f1 f2 => cases f1
  | @tup d a b xs ys e h1 h2 hl he =>
    obtain ⟨us, r1, t1, _⟩ := I.tuple h1
    obtain ⟨vs, r2, t2, _⟩ := I.tuple h2
    have l1 := r1.length
    have l2 := r2.length
    refine SeqAt.RcNeAt.tuples (e := e) t1 t2 (by omega) (Cmp.items (d := 3) r1 r2 fun i x y hx hy u v ru rv => (he i x y hx hy).at I (by show X.A.units + 1 + 3 < _; omega) ru rv) _ _ _ _ ⟨.bl _, H, I, ?_, q⟩
    show Value.bool _ = Value.bool _
    rw [List.size_toArray, List.size_toArray, ← l1, ← l2, ← hl, Nat.min_self, beq_self_eq_true, Bool.and_true]
  | @lst d a b xs ys e h1 h2 hl he =>
    obtain ⟨us, r1, t1, _⟩ := I.list h1
    obtain ⟨vs, r2, t2, _⟩ := I.list h2
    have l1 := r1.length
    have l2 := r2.length
    refine SeqAt.RcNeAt.lists (e := e) t1.isList t2.isList (by rw [List.size_toArray, List.size_toArray]; omega) (by omega) (Cmp.items (d := 3) r1 r2 fun i x y hx hy u v ru rv => (he i x y hx hy).at I (by show X.A.units + 1 + 3 < _; omega) ru rv) _ _ _ _ ⟨.bl _, H, I, ?_, q⟩
    show Value.bool _ = Value.bool _
    rw [List.size_toArray, ← l1]
  | @lens d a b xs ys h1 h2 hl =>
    obtain ⟨us, r1, t1, _⟩ := I.list h1
    obtain ⟨vs, r2, t2, _⟩ := I.list h2
    have l1 := r1.length
    have l2 := r2.length
    exact SeqAt.RcNeAt.lists_lengths t1.isList t2.isList (by rw [List.size_toArray, List.size_toArray, ← l1, ← l2]; simpa using hl) (by omega) _ _ _ _ ⟨.bl _, H, I, rfl, q⟩
end
section
variable {σ : St} {H : Hp} {Q : VK} {K : PySem.W.Frag}
theorem rd_neFS {i j : Str} (h : rNe (.str i) (.str j) H Q) : rNeF K (.str i) (.str j) H Q := .inl (rd_neAS h)
theorem rd_eqFS {i j : Str} (h : rEqA K (.str i) (.str j) H Q) : rEqF K (.str i) (.str j) H Q := .inl h
theorem rd_neF {a c : Addr} {b : Bool} (hc : Cmp K H 4 (.ref a) (.ref c) b) (h : Q (.bl (!b)) H) : rNeF K (.ref a) (.ref c) H Q := .inr ⟨a, c, b, rfl, rfl, hc, h⟩
theorem Cmp.to {d : Nat} {x y : V} {b b' : Bool} (h : Cmp K H d x y b) (e : b = b') : Cmp K H d x y b' := e ▸ h
end
end L2
set_option maxRecDepth 100000
set_option maxHeartbeats 4000000
namespace L2
open PySem PySem.Spec PyProof.Rows
section
variable {X : Cx} {pins : List (Addr × Obj)} {scope : Scope} {x : Str} {ys : List Str} {cl : List (Str × Addr)} {ex : List Addr} {s : Shared} {H : Hp}
end
end L2
set_option maxRecDepth 100000
set_option maxHeartbeats 4000000
namespace L2
open PySem PySem.Spec PyProof.Rows
section
variable {prog : Program} {w : World} {A : Around} {E : Value → Shared → Prop} {s : Shared} {z TI TO i1 i2 : Addr} {f1 f2 : List Addr} {n1 n2 i : Nat} {P1 P2 : Nat → Value → Prop} {S1 S2 : Nat → Heap → Prop} {a b : Value}
end
section
variable {prog : Program} {w : World} {A : Around} {E : Value → Shared → Prop} {s : Shared}
variable {z TI TO i1 i2 : Addr} {f1 f2 : List Addr} {n1 n2 i : Nat} {P1 P2 : Nat → Value → Prop} {S1 S2 : Nat → Heap → Prop} {a b : Value}
end
section
variable {X : Cx}
end
section
variable {σ : St} {H : Hp} {Q : VK} {D : Ends} {K : PySem.W.Frag}
end
end L2
set_option maxRecDepth 100000
set_option maxHeartbeats 4000000
namespace HT
open PySem PySem.Spec PyProof.Rows
section
variable {prog : Program} {w : World} {A : Around} {E : Value → Shared → Prop} {s : Shared}
end
end HT
namespace L2
open PySem PySem.Spec PyProof.Rows
section
variable {X : Cx}
variable {H : Hp} {Q : VK} {K : PySem.W.Frag}
end
end L2
set_option maxRecDepth 100000
set_option maxHeartbeats 4000000
namespace L2
open PySem PySem.Spec PyProof.Rows
section
variable {X : Cx} {pins : List (Addr × Obj)} {scope : Scope} {x : Str} {ex : List Addr} {s : Shared} {H : Hp}
end
section
variable {X : Cx}
end
section
variable {σ : St} {H : Hp} {Q : VK} {K : PySem.W.Frag} {D : Ends}
end
end L2
set_option maxRecDepth 100000
set_option maxHeartbeats 4000000
namespace L2
open PySem PySem.Spec PyProof.Rows
section
variable {X : Cx} {pins : List (Addr × Obj)} {scope : Scope} {x : Str} {ys : List Str} {cl : List (Str × Addr)} {ex : List Addr} {s : Shared} {H : Hp}
end
section
variable {σ : St} {H : Hp} {Q : VK} {K : PySem.W.Frag} {D : Ends}
end
end L2
set_option maxRecDepth 100000
set_option maxHeartbeats 4000000
namespace L2
open PySem PySem.Spec PyProof.Rows
section
variable {X : Cx} {pins : List (Addr × Obj)} {scope : Scope} {x : Str} {ys : List Str} {cl : List (Str × Addr)} {ex : List Addr} {s : Shared} {H : Hp}
end
section
variable {X : Cx}
variable {pins : List (Addr × Obj)} {W : Value → Option Addr → St → Hp → Prop}
end
section
variable {σ : St} {H : Hp} {Q : VK} {K : PySem.W.Frag} {D : Ends}
end
end L2
set_option maxRecDepth 100000
set_option maxHeartbeats 4000000
namespace L2
open PySem PySem.Spec PyProof.Rows
section
variable {prog : Program} {w : World} {A : Around} {s : Shared}
end
section
variable {X : Cx}
end
end L2
set_option maxRecDepth 100000
set_option maxHeartbeats 4000000
namespace L2
open PySem PySem.Spec PyProof.Rows
section
variable {X : Cx}
end
end L2
set_option maxRecDepth 100000
set_option maxHeartbeats 4000000
namespace L2
open PySem PySem.Spec PyProof.Rows
section
variable {X : Cx} {pins : List (Addr × Obj)} {scope : Scope} {x : Str} {ys : List Str} {cl : List (Str × Addr)} {ex : List Addr} {s : Shared} {H : Hp}
end
section
variable {σ : St} {H : Hp} {Q : VK} {K : PySem.W.Frag}
end
end L2
set_option maxRecDepth 100000
set_option maxHeartbeats 4000000
namespace L2
open PySem PySem.Spec PyProof.Rows
section
variable {X : Cx}
end
section
variable {X : Cx} {P0 : List (Addr × Obj)} {S0 : Scope} {x0 : Str} {Y0 : List Str} {C0 : List (Str × Addr)} {E0 : List Addr} {s0 : Shared} {H0 : Hp}
end
end L2
set_option maxRecDepth 100000
set_option maxHeartbeats 4000000
namespace L2
open PySem PySem.Spec PyProof.Rows
section
variable {κ : Type} [DecidableEq κ]
end
section
variable {P : Program} {w : World} {H : Hp} {h : Heap} {a : Addr}
end
section
variable {X : Cx} {pins : List (Addr × Obj)} {σ : St} {H : Hp} {s : Shared} {a : Addr} {y v : V} {u r : Value} {o : Option V} {A : Around} {E : Value → Shared → Prop}
end
section
variable {X : Cx} {pins : List (Addr × Obj)} {σ : St} {H : Hp} {s : Shared} {a : Addr} {kvs : List (Key × V)} {k : Key} {u : Value} {A : Around} {E : Value → Shared → Prop}
end
section
variable {X : Cx} {o i e value : Expr} {pos pos' tpos : Pos} {td ty tv : TE}
end
section
variable {X : Cx} {pos : Pos}
end
structure M1 (X : Cx) (o : Expr) (m : Str) (apos : Pos) (e : Expr) (cpos : Pos) : Prop where
  base : attributeBase o m X.env (eval o X.env) = eval o X.env
  few : ((backTo cpos (starEach [e] X.env)).all (fun x => !x.1) && (backToKw cpos (keywordEach [] X.env)).all (fun x => x.1.isSome)
    && decide (([e] : List Expr).length + ([] : List Keyword).length + (if ([] : List Keyword).isEmpty then 0 else 1) < 30)) = true
  line : (apos.endLine == cpos.line) = true
  trees : backTo cpos (starEach [e] X.env) = [(false, eval e X.env)]
structure M2 (X : Cx) (o : Expr) (m : Str) (apos : Pos) (e f : Expr) (cpos : Pos) : Prop where
  base : attributeBase o m X.env (eval o X.env) = eval o X.env
  few : ((backTo cpos (starEach [e, f] X.env)).all (fun x => !x.1) && (backToKw cpos (keywordEach [] X.env)).all (fun x => x.1.isSome)
    && decide (([e, f] : List Expr).length + ([] : List Keyword).length + (if ([] : List Keyword).isEmpty then 0 else 1) < 30)) = true
  line : (apos.endLine == cpos.line) = true
  trees : backTo cpos (starEach [e, f] X.env) = [(false, eval e X.env), (false, eval f X.env)]
section
variable {X : Cx} {pins : List (Addr × Obj)} {σ : St} {H : Hp} {s : Shared} {a : Addr} {y d : V} {u r : Value} {o : Option V} {A : Around} {E : Value → Shared → Prop}
end
section
variable {X : Cx} {o e f : Expr} {apos cpos : Pos} {td ty tx : TE}
end
section
variable {X : Cx} {pins : List (Addr × Obj)} {σ : St} {H : Hp} {s : Shared} {a : Addr} {kvs : List (Key × V)} {A : Around} {E : Value → Shared → Prop}
end
section
variable {X : Cx} {pins : List (Addr × Obj)} {σ : St} {H : Hp} {s : Shared} {a : Addr} {y : V} {u : Value} {A : Around} {E : Value → Shared → Prop}
end
section
variable {X : Cx}
end
section
variable {κ : Type} [DecidableEq κ]
end
end L2
set_option maxRecDepth 100000
set_option maxHeartbeats 4000000
namespace L2
open PySem PySem.Spec PyProof.Rows
structure VKind (prog : Program) (w : World) (K : Type) [DecidableEq K] where
  is : Heap → K → Value → Prop
  hash : K → Int
  draws : K → Nat
  deep : Nat
  like : K → K → Prop
  inj : ∀ {h : Heap} {v : Value} {x y : K}, is h x v → is h y v → x = y
  keeps : ∀ {h h' : Heap} {k : K} {v : Value} {d : Addr} {o : Obj} {es ep}, is h k v → h.get? d = some o → o.data = .dict es ep → Heap.SameBut d h h' → is h' k v
  pyHash : ∀ {A : Around} {E : Value → Shared → Prop} {s : Shared} {k : K} {v : Value} {Q : Int → Shared → Prop}, A.units + deep < cLine → is s.heap k v → Q (hash k) { s with toks := s.toks + draws k } → wpAny (model prog w) A (PySem.pyHash v) Q E s
  eqBool : ∀ {A : Around} {E : Value → Shared → Prop} {s : Shared} {x y : K} {u v : Value} {Q : Bool → Shared → Prop}, A.units + deep < cLine → like x y → is s.heap x u → is s.heap y v → Q (decide (x = y)) s → wpAny (model prog w) A (PySem.eqBool u v) Q E s
  quiet : ∀ {A : Around} {E : Value → Shared → Prop} {s : Shared} {k : K} {v : Value} {n : Nat} {Q : Bool → Shared → Prop}, deep ≤ n → is s.heap k v → Q true s → wpAny (model prog w) A (eqIsQuiet n v) Q E s
section
variable {prog : Program} {w : World} {K : Type} [DecidableEq K] (knd : VKind prog w K)
variable {knd}
variable {A : Around} {E : Value → Shared → Prop} {s : Shared}
end
end L2
set_option maxRecDepth 100000
set_option maxHeartbeats 4000000
namespace L2
open PySem PySem.Spec PyProof.Rows
abbrev PRow := Int × Int × List (Int × Int)
section
variable (P : Program) (w : World)
end
section
variable {P : Program} {w : World} {H : Hp} {h : Heap}
end
section
variable (P : Program) (w : World)
end
section
variable {P : Program} {w : World} {H : Hp} {h : Heap} {a : Addr} {xs : List (PRow × Addr × Value)}
end
section
variable {X : Cx} {o i value : Expr} {pos pos' : Pos} {td ty tv : TE}
end
section
variable {P : Program} {w : World} {K : PySem.W.Frag} {σ : St} {H : Hp} {Q : VK} {D : Ends} {td ty tv : TE}
end
end L2
set_option maxRecDepth 100000
set_option maxHeartbeats 4000000
namespace L2
open PySem PySem.Spec PyProof.Rows
theorem ints_are : ∀ {ns : List Int} {its : List Value}, Vals (ns.map V.int) its → IntsAre its ns
  | [], _, h => by cases h; exact .nil
  | _ :: _, _, h => by
    cases h with
    | cons r t =>
      obtain ⟨tk, rfl⟩ := r
      exact .cons _ _ (ints_are t)
theorem vals_intsA : ∀ {ns : List Int} {its : List Value}, IntsAre its ns → Vals (ns.map V.int) its := by
  intro ns its h
  induction h with
  | nil => exact .nil
  | cons _ _ _ ih => exact .cons ⟨_, rfl⟩ ih
section
variable {K : PySem.W.Frag} {H : Hp} {Q : VK}
end
end L2
set_option maxRecDepth 100000
set_option maxHeartbeats 4000000
namespace L2
open PySem PySem.Spec PyProof.Rows
section
variable {X : Cx}
end
section
variable {σ : St} {H : Hp} {Q : VK} {K : PySem.W.Frag}
end
end L2
set_option maxRecDepth 100000
set_option maxHeartbeats 4000000
namespace L2
open PySem PySem.Spec PyProof.Rows
end L2
set_option maxRecDepth 100000
set_option maxHeartbeats 4000000
namespace L2
open PySem PySem.Spec PyProof.Rows
end L2
set_option maxRecDepth 100000
set_option maxHeartbeats 4000000
namespace L2
open PySem PySem.Spec PyProof.Rows
section
variable {X : Cx} {e : Expr} {te : TE} {st : Expr} {ts : TO} {p2 pos : Pos}
end
section
variable {σ : St} {H : Hp} {Q : VK} {K : PySem.W.Frag}
end
end L2
set_option maxRecDepth 100000
set_option maxHeartbeats 4000000
namespace L2
open PySem PySem.Spec PyProof.Rows
section
variable {prog : Program} {w : World} {A : Around} {E : Value → Shared → Prop} {s : Shared}
end
section
variable {K : PySem.W.Frag} {H : Hp} {Q : VK}
end
end L2
set_option maxRecDepth 100000
set_option maxHeartbeats 4000000
namespace L2
open PySem PySem.Spec PyProof.Rows
end L2
set_option maxRecDepth 100000
set_option maxHeartbeats 4000000
namespace L2
open PySem PySem.Spec PyProof.Rows
section
variable {prog : Program} {w : World} {A : Around} {E : Value → Shared → Prop} {s : Shared} {it l a : Addr} {oe : Obj}
end
section
variable {X : Cx} {a : Addr} {oe : Obj} {pins : List (Addr × Obj)} {σ : St} {H : Hp} {s : Shared}
end
end L2
set_option maxRecDepth 100000
set_option maxHeartbeats 4000000
namespace L2
open PySem PySem.Spec PyProof.Rows
section
variable {X : Cx}
end
end L2
set_option maxRecDepth 100000
set_option maxHeartbeats 4000000
namespace L2
open PySem PySem.Spec PyProof.Rows
section
variable {X : Cx}
end
section
variable {σ : St} {H : Hp} {Q : VK} {K : PySem.W.Frag}
end
end L2
set_option maxRecDepth 100000
set_option maxHeartbeats 4000000
namespace L2
open PySem PySem.Spec PyProof.Rows
section
variable {X : Cx}
end
section
variable {H : Hp} {Q : VK}
end
end L2
set_option maxRecDepth 100000
set_option maxHeartbeats 4000000
namespace L2
open PySem PySem.Spec PyProof.Rows PySem.W
section
variable {prog : Program} {w : World} {A : Around} {E : Value → Shared → Prop} {hp : Heap} {gn : Array GenState} {dr : Drawn} {tk : Nat} {oS : OsState}
variable {nm qn : Str} {C N : Addr} {bs tl bmB : List Value} {hd0 : Bool} {sn : List Str} {sb : List Value} {ab : Bool} {col : Option Bool} {dd : Option Addr} {k0 k1 k2 k3 k5 : Option Value} {B nI iI : String}
end
end L2
set_option maxRecDepth 100000
set_option maxHeartbeats 4000000
namespace L2
open PySem PySem.Spec PyProof.Rows PySem.W Builtin Builtin.ObjectAttr
section
variable {prog : Program} {w : World} {A : Around} {E : Value → Shared → Prop} {hp : Heap} {gn : Array GenState} {dr : Drawn} {tk : Nat} {oS : OsState}
variable {nm qn : Str} {C N : Addr} {bs tl bmB : List Value} {hd0 : Bool} {sn : List Str} {sb : List Value} {ab : Bool} {col : Option Bool} {dd : Option Addr} {k0 k1 k2 k3 k5 : Option Value} {B nI iI : String}
end
section
variable {prog : Program} {w : World} {A : Around} {E : Value → Shared → Prop} {s : Shared} {K : PySem.W.Frag} {e C t : Addr} {fld : Str} {v : Value}
end
end L2
set_option maxRecDepth 100000
set_option maxHeartbeats 4000000
namespace L2
open PySem PySem.Spec PyProof.Rows PySem.W
section
variable {X : Cx} {pins : List (Addr × Obj)} {σ : St} {H : Hp} {s : Shared}
end
section
variable {X : Cx} {W : Value → Option Addr → St → Hp → Prop} {x : Str} {pos : Pos} {e : Expr} {es : List Expr} {t : TA}
end
end L2
set_option maxRecDepth 100000
set_option maxHeartbeats 4000000
namespace L2
open PySem PySem.Spec PyProof.Rows PySem.W
section
variable {P : Program} {w : World} {K : PySem.W.Frag} {mg : Str → Option Value} {base : Heap} {CX : CXT}
end
section
variable {X : Cx} {W : Value → Option Addr → St → Hp → Prop} {x : Str} {pos : Pos} {e : Expr} {es : List Expr} {t : TA}
end
end L2
set_option maxRecDepth 100000
set_option maxHeartbeats 4000000
namespace L2
open PySem PySem.Spec PyProof.Rows PySem.W
section
variable {X : Cx}
end
end L2
set_option maxRecDepth 100000
set_option maxHeartbeats 4000000
namespace L2
open PySem PySem.Spec PyProof.Rows PySem.W Builtin Builtin.Str
section
variable {X : Cx}
end
end L2
set_option maxRecDepth 100000
set_option maxHeartbeats 4000000
namespace L2
open PySem PySem.Spec PyProof.Rows PySem.W
section
variable {X : Cx} {tg : Expr}
end
section
variable {σ : St} {H : Hp} {Q : VK}
end
end L2
set_option maxRecDepth 100000
set_option maxHeartbeats 4000000
namespace L2
open PySem PySem.Spec PyProof.Rows PySem.W
section
variable {X : Cx} {pos : Pos}
end
section
variable {σ : St} {H : Hp} {Q : VK}
end
section
variable {X : Cx} {e : Expr} {te : TE} {lo st : Expr} {tl ts : TO} {p2 pos : Pos}
end
section
variable {σ : St} {H : Hp} {Q : VK} {K : PySem.W.Frag}
end
end L2
set_option maxRecDepth 100000
set_option maxHeartbeats 4000000
namespace L2
open PySem PySem.Spec PyProof.Rows PySem.W
section
variable {X : Cx}
end
section
variable {H : Hp} {Q : VK}
end
end L2
set_option maxRecDepth 100000
set_option maxHeartbeats 4000000
namespace L2
open PySem PySem.Spec PyProof.Rows PySem.W
end L2
set_option maxRecDepth 100000
set_option maxHeartbeats 4000000
namespace L2
open PySem PySem.Spec PyProof.Rows PySem.W PySem.NumText
def numOf (t : Str) : Int := (PySem.intText? t).getD 0
end L2
set_option maxRecDepth 100000
set_option maxHeartbeats 4000000
namespace L2
open PySem PySem.Spec PyProof.Rows
section
variable {σ : St} {H : Hp} {Q : VK} {K : PySem.W.Frag}
end
end L2
set_option maxRecDepth 100000
set_option maxHeartbeats 4000000
namespace L2
open PySem PyProof.Rows
def gal : Bool → Keyed → Array Keyed → Nat → Nat → Nat → StateT SortSt Sem (Option Nat) := sortPriv% PySem.Builtin.gallop
def mLo : Array Keyed → Array Keyed → StateT SortSt Sem (Array Keyed) := sortPriv% PySem.Builtin.mergeLo
def mHi : Array Keyed → Array Keyed → StateT SortSt Sem (Array Keyed) := sortPriv% PySem.Builtin.mergeHi
def ky (p : Keyed) : Int := PyProof.Rows.numOf p.1
def isI (p : Keyed) : Prop := ∃ n t, p.1 = Value.int n t
def bey (l : Bool) (key p : Keyed) : Bool := if l then decide (ky p < ky key) else !decide (ky key < ky p)
section
variable {prog : Program} {w : World} {A : Around} {E : Value → Shared → Prop} {s : Shared}
theorem wpS_lt {st : SortSt} {x y : Keyed} {Q : Option Bool → SortSt → Prop} (hk : kindOf st = oneType') (hx : isI x) (hy : isI y) (h : Q (some (decide (ky x < ky y))) st) : wpS (model prog w) A E s (lt' x y) Q st := by
  obtain ⟨a, t, hx⟩ := hx
  obtain ⟨b, u, hy⟩ := hy
  rw [lt'_eq]
  refine wpS_bind (wpS_get ?_)
  unfold ky at h
  rw [hx, hy] at h
  rw [hk, keyLt'_oneType, hx, hy]
  refine wpS_bind (wpS_lift (wpAny_attempt (oneLt_int ⟨rfl, ?_⟩)))
  exact wpS_pure h
theorem wpS_elem {st : SortSt} {arr : Array Keyed} {i : Nat} {p : Keyed} {Q : Keyed → SortSt → Prop} (hi : arr[i]? = some p) (h : Q p st) : wpS (model prog w) A E s (elem' arr i) Q st := by
  rw [elem'_eq, hi]; exact wpS_pure h
theorem wpS_bey {st : SortSt} {l : Bool} {key p : Keyed} {arr : Array Keyed} {j : Nat} {Q : Option Bool → SortSt → Prop} (hk : kindOf st = oneType') (hj : arr[j]? = some p) (hp : isI p) (hy : isI key) (h : Q (some (bey l key p)) st) :
    wpS (model prog w) A E s (do let x ← elem' arr j; if l = true then lt' x key else do let r ← lt' key x; pure (Option.map (fun x => !x) r)) Q st := by
  refine wpS_bind (wpS_elem hj ?_)
  cases l with
  | true => exact wpS_lt hk hp hy h
  | false => exact wpS_bind (wpS_lt hk hy hp (wpS_pure h))
theorem wpS_gal {st : SortSt} {l : Bool} {key : Keyed} {arr : Array Keyed} {base n hint : Nat} {B : Nat → Bool} {Q : Option Nat → SortSt → Prop} (hk : kindOf st = oneType') (hy : isI key)
    (hB : ∀ i, i < n → ∃ p, arr[base + i]? = some p ∧ isI p ∧ bey l key p = B i) (hm : ∀ i j, i ≤ j → j < n → B j = true → B i = true) (hh : hint < n)
    (h : ∀ k, k ≤ n → (∀ i, i < k → B i = true) → (∀ i, k ≤ i → i < n → B i = false) → Q (some k) st) : wpS (model prog w) A E s (gal l key arr base n hint) Q st := by
  have hd : ∀ i j, i ≤ j → j < n → B i = false → B j = false := fun i j hij hj hb => by
    cases e : B j with
    | false => rfl
    | true => rw [hm i j hij hj e] at hb; exact hb
  have ask : ∀ i, i < n → ∀ {R : Option Bool → SortSt → Prop}, R (some (B i)) st → wpS (model prog w) A E s (do let x ← elem' arr (base + i); if l = true then lt' x key else do let r ← lt' key x; pure (Option.map (fun x => !x) r)) R st := fun i hi R hR => by
    obtain ⟨p, h1, h2, h3⟩ := hB i hi
    exact wpS_bey hk h1 h2 hy (by rw [h3]; exact hR)
  refine wpS_bind (ask hint hh ?_)
  have fin : ∀ (lo hi : Nat), lo ≤ hi → hi ≤ n → (∀ i, i < lo → B i = true) → (∀ i, hi ≤ i → i < n → B i = false) → ∀ {f : Nat → (Option (Option Nat) × Nat × Nat) → StateT SortSt Sem (ForInStep (Option (Option Nat) × Nat × Nat))} {g : (Option (Option Nat) × Nat × Nat) → StateT SortSt Sem (Option Nat)},
      (∀ x lo hi st', st' = st → lo < hi → hi ≤ n → ∀ {R : ForInStep (Option (Option Nat) × Nat × Nat) → SortSt → Prop}, R (.yield (if B (lo + (hi - lo) / 2) = true then (none, lo + (hi - lo) / 2 + 1, hi) else (none, lo, lo + (hi - lo) / 2))) st' → wpS (model prog w) A E s (f x (none, lo, hi)) R st') →
      (∀ x lo hi, lo ≥ hi → f x (none, lo, hi) = pure (.done (none, lo, hi))) → (∀ lo hi, g (none, lo, hi) = pure (some hi)) →
      wpS (model prog w) A E s (do let c ← forIn [:n] (none, lo, hi) f; g c) Q st := by
    intro lo hi h1 h2 h3 h4 f g hf hf2 hg
    refine wpS_bind (wpS_mono (wpS_forRange (I := fun x c st' => st' = st ∧ ∃ lo hi, c = (none, lo, hi) ∧ lo ≤ hi ∧ hi ≤ n ∧ hi - lo ≤ n - x ∧ (∀ i, i < lo → B i = true) ∧ (∀ i, hi ≤ i → i < n → B i = false))
      (Q := fun c st' => st' = st ∧ ∃ k, c = (none, k, k) ∧ k ≤ n ∧ (∀ i, i < k → B i = true) ∧ (∀ i, k ≤ i → i < n → B i = false)) ?step ?fin ⟨rfl, lo, hi, rfl, h1, h2, by omega, h3, h4⟩) ?post)
    case post =>
      rintro c st' ⟨rfl, k, rfl, a1, a2, a3⟩
      rw [hg]
      exact wpS_pure (h k a1 a2 a3)
    case fin =>
      rintro c st' ⟨rfl, lo, hi, rfl, a1, a2, a3, a4, a5⟩
      have : lo = hi := by omega
      subst this
      exact ⟨rfl, lo, rfl, a2, a4, a5⟩
    case step =>
      rintro x c st' _ hx ⟨rfl, lo, hi, rfl, a1, a2, a3, a4, a5⟩
      by_cases hge : lo ≥ hi
      · rw [hf2 _ _ _ hge]
        have : lo = hi := by omega
        subst this
        exact wpS_pure ⟨rfl, lo, rfl, a2, a4, a5⟩
      · refine hf x lo hi _ rfl (by omega) a2 ?_
        by_cases hb : B (lo + (hi - lo) / 2) = true
        · rw [if_pos hb]
          exact ⟨rfl, _, _, rfl, by omega, a2, by omega, fun i hi' => hm i _ (by omega) (by omega) hb, a5⟩
        · rw [if_neg hb]
          exact ⟨rfl, _, _, rfl, by omega, by omega, by omega, a4, fun i h1 h2 => hd _ i h1 h2 (by simpa using hb)⟩
  have tl : ∀ (lo hi : Nat), lo < hi → hi ≤ n → lo + (hi - lo) / 2 < n := by intros; omega
  cases hb : B hint with
  | true =>
    dsimp only
    rw [if_pos rfl]
    refine wpS_bind (wpS_mono (wpS_forRange (I := fun x c st' => st' = st ∧ ∃ la o, c = (none, la, o) ∧ x + 1 ≤ o ∧ la < o ∧ hint + la < n ∧ B (hint + la) = true)
      (Q := fun c st' => st' = st ∧ ∃ la o, c = (none, la, o) ∧ la < o ∧ hint + la < n ∧ B (hint + la) = true ∧ (n - hint ≤ o ∨ (hint + o < n ∧ B (hint + o) = false))) ?step ?fin ⟨rfl, 0, 1, rfl, by omega, by omega, by omega, hb⟩) ?post)
    case fin =>
      rintro c st' ⟨rfl, la, o, rfl, a1, a2, a3, a4⟩
      exact ⟨rfl, la, o, rfl, a2, a3, a4, .inl (by omega)⟩
    case step =>
      rintro x c st' _ hx ⟨rfl, la, o, rfl, a1, a2, a3, a4⟩
      dsimp only
      by_cases hge : o ≥ n - hint
      · rw [if_pos hge]
        exact wpS_pure ⟨rfl, la, o, rfl, a2, a3, a4, .inl hge⟩
      · rw [if_neg hge]
        refine wpS_bind (ask (hint + o) (by omega) ?_)
        cases hc : B (hint + o) with
        | true =>
          dsimp only
          rw [if_neg (by simp)]
          exact wpS_pure ⟨rfl, o, 2 * o + 1, rfl, by omega, by omega, by omega, hc⟩
        | false =>
          dsimp only
          rw [if_pos (by simp)]
          exact wpS_pure ⟨rfl, la, o, rfl, a2, a3, a4, .inr ⟨by omega, hc⟩⟩
    case post =>
      rintro c st' ⟨rfl, la, o, rfl, a1, a2, a3, a4⟩
      dsimp only
      refine fin _ _ ?_ ?_ ?_ ?_ ?_ ?_ ?_
      · omega
      · omega
      · exact fun i hi => hm i _ (by omega) a2 a3
      · intro i h1 h2
        rcases a4 with a4 | ⟨a4, a5⟩
        · omega
        · exact hd _ i (by omega) h2 a5
      · rintro x lo hi _ rfl h1 h2 R hR
        dsimp only
        rw [if_neg (by omega)]
        refine wpS_bind (ask _ (tl _ _ h1 h2) ?_)
        cases hc : B (lo + (hi - lo) / 2) with
        | true => rw [hc] at hR; exact wpS_pure hR
        | false => rw [hc] at hR; exact wpS_pure hR
      · intro x lo hi hge
        dsimp only
        rw [if_pos hge]
      · intro lo hi; rfl
  | false =>
    dsimp only
    rw [if_neg (by simp)]
    refine wpS_bind (wpS_mono (wpS_forRange (I := fun x c st' => st' = st ∧ ∃ la o, c = (none, la, o) ∧ x + 1 ≤ o ∧ la < o ∧ la ≤ hint ∧ B (hint - la) = false)
      (Q := fun c st' => st' = st ∧ ∃ la o, c = (none, la, o) ∧ la < o ∧ la ≤ hint ∧ B (hint - la) = false ∧ (hint + 1 ≤ o ∨ (o ≤ hint ∧ B (hint - o) = true))) ?step2 ?fin2 ⟨rfl, 0, 1, rfl, by omega, by omega, by omega, hb⟩) ?post2)
    case fin2 =>
      rintro c st' ⟨rfl, la, o, rfl, a1, a2, a3, a4⟩
      exact ⟨rfl, la, o, rfl, a2, a3, a4, .inl (by omega)⟩
    case step2 =>
      rintro x c st' _ hx ⟨rfl, la, o, rfl, a1, a2, a3, a4⟩
      dsimp only
      by_cases hge : o ≥ hint + 1
      · rw [if_pos hge]
        exact wpS_pure ⟨rfl, la, o, rfl, a2, a3, a4, .inl hge⟩
      · rw [if_neg hge]
        refine wpS_bind (ask (hint - o) (by omega) ?_)
        cases hc : B (hint - o) with
        | false =>
          dsimp only
          rw [if_neg (by simp)]
          exact wpS_pure ⟨rfl, o, 2 * o + 1, rfl, by omega, by omega, by omega, hc⟩
        | true =>
          dsimp only
          rw [if_pos rfl]
          exact wpS_pure ⟨rfl, la, o, rfl, a2, a3, a4, .inr ⟨by omega, hc⟩⟩
    case post2 =>
      rintro c st' ⟨rfl, la, o, rfl, a1, a2, a3, a4⟩
      dsimp only
      refine fin _ _ ?_ ?_ ?_ ?_ ?_ ?_ ?_
      · omega
      · omega
      · intro i hi
        rcases a4 with a4 | ⟨a4, a5⟩
        · omega
        · exact hm i _ (by omega) (by omega) a5
      · exact fun i h1 h2 => hd _ i h1 h2 a3
      · rintro x lo hi _ rfl h1 h2 R hR
        dsimp only
        rw [if_neg (by omega)]
        refine wpS_bind (ask _ (tl _ _ h1 h2) ?_)
        cases hc : B (lo + (hi - lo) / 2) with
        | true => rw [hc] at hR; exact wpS_pure hR
        | false => rw [hc] at hR; exact wpS_pure hR
      · intro x lo hi hge
        dsimp only
        rw [if_pos hge]
      · intro lo hi; rfl
end
def lek (x y : Keyed) : Prop := ky x ≤ ky y
def gek (x y : Keyed) : Prop := ky y ≤ ky x
structure Mg (R : Keyed → Keyed → Prop) (T o ra rb : List Keyed) : Prop where
  perm : (o ++ (ra ++ rb)).Perm T
  so : o.Pairwise R
  fr : ∀ x, x ∈ o → ∀ y, y ∈ ra ∨ y ∈ rb → R x y
  sa : ra.Pairwise R
  sb : rb.Pairwise R
def Okm (R : Keyed → Keyed → Prop) (T l : List Keyed) : Prop := l.Perm T ∧ l.Pairwise R
section
variable {R : Keyed → Keyed → Prop} {T o ra rb xs : List Keyed}
theorem Mg.takesA (h : Mg R T o (xs ++ ra) rb) (hx : ∀ x, x ∈ xs → ∀ y, y ∈ rb → R x y) : Mg R T (o ++ xs) ra rb := by
  have hs := List.pairwise_append.mp h.sa
  refine ⟨?_, ?_, ?_, hs.2.1, h.sb⟩
  · simpa [List.append_assoc] using h.perm
  · exact List.pairwise_append.mpr ⟨h.so, hs.1, fun x hx y hy => h.fr x hx y (.inl (List.mem_append_left _ hy))⟩
  · intro x hxm y hy
    rcases List.mem_append.mp hxm with hxo | hxx
    · exact h.fr x hxo y (hy.imp (List.mem_append_right _) id)
    · rcases hy with hy | hy
      · exact hs.2.2 x hxx y hy
      · exact hx x hxx y hy
theorem Mg.takesB (h : Mg R T o ra (xs ++ rb)) (hx : ∀ x, x ∈ xs → ∀ y, y ∈ ra → R x y) : Mg R T (o ++ xs) ra rb := by
  have hs := List.pairwise_append.mp h.sb
  refine ⟨?_, ?_, ?_, h.sa, hs.2.1⟩
  · refine List.Perm.trans ?_ h.perm
    rw [List.append_assoc]
    refine List.Perm.append_left o ?_
    rw [← List.append_assoc, ← List.append_assoc]
    exact List.Perm.append_right rb List.perm_append_comm
  · exact List.pairwise_append.mpr ⟨h.so, hs.1, fun x hx y hy => h.fr x hx y (.inr (List.mem_append_left _ hy))⟩
  · intro x hxm y hy
    rcases List.mem_append.mp hxm with hxo | hxx
    · exact h.fr x hxo y (hy.imp id (List.mem_append_right _))
    · rcases hy with hy | hy
      · exact hx x hxx y hy
      · exact hs.2.2 x hxx y hy
theorem Mg.fin (h : Mg R T o ra rb) (hx : ∀ x, x ∈ ra → ∀ y, y ∈ rb → R x y) : Okm R T (o ++ ra ++ rb) := by
  refine ⟨by simpa [List.append_assoc] using h.perm, ?_⟩
  rw [List.append_assoc]
  exact List.pairwise_append.mpr ⟨h.so, List.pairwise_append.mpr ⟨h.sa, h.sb, hx⟩, fun x hx y hy => h.fr x hx y (List.mem_append.mp hy)⟩
theorem Mg.finB (h : Mg R T o ra rb) (hx : ∀ x, x ∈ rb → ∀ y, y ∈ ra → R x y) : Okm R T (o ++ rb ++ ra) := by
  refine ⟨?_, ?_⟩
  · refine List.Perm.trans ?_ h.perm
    rw [List.append_assoc]
    exact List.Perm.append_left o List.perm_append_comm
  · rw [List.append_assoc]
    exact List.pairwise_append.mpr ⟨h.so, List.pairwise_append.mpr ⟨h.sb, h.sa, hx⟩, fun x hx y hy => h.fr x hx y ((List.mem_append.mp hy).symm)⟩
end
theorem ext_drop (a : Array Keyed) (i : Nat) : (a.extract i a.size).toList = a.toList.drop i := by
  rw [Array.toList_extract, List.extract_eq_take_drop]
  rw [List.take_of_length_le (by simp)]
theorem ext_mid {a : Array Keyed} {i : Nat} {xs ys : List Keyed} (h : a.toList.drop i = xs ++ ys) : (a.extract i (i + xs.length)).toList = xs := by
  rw [Array.toList_extract, List.extract_eq_take_drop, h, show i + xs.length - i = xs.length by omega, List.take_left']
  rfl
theorem drop_mid {l : List Keyed} {i : Nat} {xs ys : List Keyed} (h : l.drop i = xs ++ ys) : l.drop (i + xs.length) = ys := by
  rw [← List.drop_drop, h, List.drop_left' rfl]
theorem at_drop {a : Array Keyed} {i : Nat} (h : i < a.size) : ∃ p, a[i]? = some p ∧ a.toList.drop i = p :: a.toList.drop (i + 1) ∧ p ∈ a.toList :=
  ⟨a[i], getElem?_pos a i h, by rw [List.drop_eq_getElem_cons (by simpa using h)]; simp, by simp⟩
theorem ext_take (a : Array Keyed) (i : Nat) : (a.extract 0 i).toList = a.toList.take i := by
  rw [Array.toList_extract, List.extract_eq_take_drop]; simp
theorem ext_rev {a : Array Keyed} {i j : Nat} {xs ys : List Keyed} (h : (a.toList.take i).reverse = xs ++ ys) (hi : i ≤ a.size) (hj : j + xs.length = i) : (a.extract j i).reverse.toList = xs := by
  have h2 : a.toList.take i = ys.reverse ++ xs.reverse := by rw [← List.reverse_append, ← h, List.reverse_reverse]
  have hl : ys.length = j := by
    have := congrArg List.length h
    rw [List.length_reverse, List.length_take, List.length_append] at this
    have e : a.toList.length = a.size := by simp
    omega
  rw [Array.toList_reverse, Array.toList_extract, List.extract_eq_take_drop, ← List.drop_take, h2, List.drop_left' (by simp [hl]), List.reverse_reverse]
theorem take_mid {l : List Keyed} {i j : Nat} {xs ys : List Keyed} (h : (l.take i).reverse = xs ++ ys) (hi : i ≤ l.length) (hj : j + xs.length = i) : (l.take j).reverse = ys := by
  have h2 : l.take i = ys.reverse ++ xs.reverse := by rw [← List.reverse_append, ← h, List.reverse_reverse]
  have hl : ys.length = j := by
    have := congrArg List.length h
    rw [List.length_reverse, List.length_take, List.length_append] at this
    omega
  have : l.take j = (l.take i).take j := by rw [List.take_take, Nat.min_eq_left (by omega)]
  rw [this, h2, List.take_left' (by simp [hl]), List.reverse_reverse]
theorem at_take {a : Array Keyed} {i : Nat} (h : i < a.size) : ∃ p, a[i]? = some p ∧ (a.toList.take (i + 1)).reverse = p :: (a.toList.take i).reverse ∧ p ∈ a.toList :=
  ⟨a[i], getElem?_pos a i h, by rw [List.take_succ_eq_append_getElem (by simpa using h)]; simp, by simp⟩
theorem okm_rev {T l : List Keyed} (h : Okm gek T l) : Okm lek T l.reverse :=
  ⟨(List.reverse_perm l).trans h.1, List.pairwise_reverse.mpr h.2⟩
def Kp (st0 st : SortSt) : Prop := kindOf st = kindOf st0 ∧ arrOf st = arrOf st0 ∧ pendingOf st = pendingOf st0 ∧ failedOf st = failedOf st0
theorem Kp.refl (st : SortSt) : Kp st st := ⟨rfl, rfl, rfl, rfl⟩
section
variable {prog : Program} {w : World} {A : Around} {E : Value → Shared → Prop} {s : Shared}
theorem wpS_galL {st : SortSt} {l : Bool} {key : Keyed} {arr : Array Keyed} {base n hint : Nat} {ra : List Keyed} {Q : Option Nat → SortSt → Prop} (hk : kindOf st = oneType') (hy : isI key)
    (hr : ∀ i (h : i < ra.length), arr[base + i]? = some ra[i]) (hI : ∀ p, p ∈ ra → isI p) (hs : ra.Pairwise lek) (hn : n = ra.length) (hh : hint < n)
    (h : ∀ xs ys, ra = xs ++ ys → (∀ x, x ∈ xs → bey l key x = true) → (∀ y, y ∈ ys → bey l key y = false) → Q (some xs.length) st) : wpS (model prog w) A E s (gal l key arr base n hint) Q st := by
  subst hn
  refine wpS_gal (B := fun i => match ra[i]? with | some p => bey l key p | none => false) hk hy ?_ ?_ hh ?_
  · intro i hi
    exact ⟨ra[i], hr i hi, hI _ (List.getElem_mem hi), by simp [List.getElem?_eq_getElem hi]⟩
  · intro i j hij hj hb
    have hi : i < ra.length := by omega
    simp only [List.getElem?_eq_getElem hi, List.getElem?_eq_getElem hj] at hb ⊢
    rcases Nat.lt_or_eq_of_le hij with hlt | rfl
    · have hle : ky ra[i] ≤ ky ra[j] := List.pairwise_iff_getElem.mp hs i j hi hj hlt
      unfold bey at hb ⊢
      cases l with
      | true => simp only [if_true, decide_eq_true_eq] at hb ⊢; omega
      | false => simp only [Bool.false_eq_true, if_false, Bool.not_eq_true', decide_eq_false_iff_not] at hb ⊢; omega
    · exact hb
  · intro k hk1 h1 h2
    have e : k = (ra.take k).length := by rw [List.length_take]; omega
    rw [e]
    refine h (ra.take k) (ra.drop k) (List.take_append_drop k ra).symm ?_ ?_
    · intro x hx
      obtain ⟨i, hi, rfl⟩ := List.getElem_of_mem hx
      have hi' : i < k := by rw [List.length_take] at hi; omega
      have := h1 i hi'
      simp only [List.getElem?_eq_getElem (show i < ra.length by omega)] at this
      rw [List.getElem_take]; exact this
    · intro x hx
      obtain ⟨i, hi, rfl⟩ := List.getElem_of_mem hx
      have hi' : k + i < ra.length := by rw [List.length_drop] at hi; omega
      have := h2 (k + i) (by omega) hi'
      simp only [List.getElem?_eq_getElem hi'] at this
      rw [List.getElem_drop]; exact this
end
section
variable {prog : Program} {w : World} {A : Around} {E : Value → Shared → Prop} {s : Shared}
section
variable {a b out : Array Keyed} {T xs ys : List Keyed} {ia ib : Nat} {p : Keyed}
abbrev MgL (a b : Array Keyed) (T : List Keyed) (out : Array Keyed) (ia ib : Nat) : Prop := Mg lek T out.toList (a.toList.drop ia) (b.toList.drop ib)
theorem MgL.b1 (h : MgL a b T out ia ib) (e : b.toList.drop ib = p :: b.toList.drop (ib + 1)) (hp : ∀ y, y ∈ a.toList.drop ia → lek p y) : MgL a b T (out.push p) ia (ib + 1) := by
  unfold MgL at h ⊢
  rw [e] at h
  rw [Array.toList_push]
  exact Mg.takesB (xs := [p]) h fun x hx y hy => by rw [List.mem_singleton.mp hx]; exact hp y hy
theorem MgL.a1 (h : MgL a b T out ia ib) (e : a.toList.drop ia = p :: a.toList.drop (ia + 1)) (hp : ∀ y, y ∈ b.toList.drop ib → lek p y) : MgL a b T (out.push p) (ia + 1) ib := by
  unfold MgL at h ⊢
  rw [e] at h
  rw [Array.toList_push]
  exact Mg.takesA (xs := [p]) h fun x hx y hy => by rw [List.mem_singleton.mp hx]; exact hp y hy
theorem MgL.as (h : MgL a b T out ia ib) (e : a.toList.drop ia = xs ++ ys) (hp : ∀ x, x ∈ xs → ∀ y, y ∈ b.toList.drop ib → lek x y) : MgL a b T (out ++ a.extract ia (ia + xs.length)) (ia + xs.length) ib := by
  unfold MgL at h ⊢
  rw [Array.toList_append, ext_mid e, drop_mid e]
  rw [e] at h
  exact h.takesA hp
theorem MgL.bs (h : MgL a b T out ia ib) (e : b.toList.drop ib = xs ++ ys) (hp : ∀ x, x ∈ xs → ∀ y, y ∈ a.toList.drop ia → lek x y) : MgL a b T (out ++ b.extract ib (ib + xs.length)) ia (ib + xs.length) := by
  unfold MgL at h ⊢
  rw [Array.toList_append, ext_mid e, drop_mid e]
  rw [e] at h
  exact h.takesB hp
theorem MgL.doneB (h : MgL a b T out ia ib) (e : ib = b.size) : Okm lek T (out ++ a.extract ia a.size ++ b.extract ib b.size).toList := by
  rw [Array.toList_append, Array.toList_append, ext_drop, ext_drop]
  refine Mg.fin h fun x _ y hy => ?_
  rw [List.drop_of_length_le (by simp [e])] at hy
  cases hy
theorem MgL.last (h : MgL a b T out ia ib) (e : ia + 1 = a.size) (hl : ∀ x, a[a.size - 1]? = some x → ∀ y, y ∈ b.toList → lek y x) : Okm lek T (out ++ b.extract ib b.size ++ a.extract ia a.size).toList := by
  rw [Array.toList_append, Array.toList_append, ext_drop, ext_drop]
  refine Mg.finB h fun x hx y hy => ?_
  obtain ⟨p, h1, h2, h3⟩ := at_drop (a := a) (i := ia) (by omega)
  rw [h2, List.drop_of_length_le (by simp [e])] at hy
  rw [List.mem_singleton.mp hy]
  exact hl p (by rw [show a.size - 1 = ia by omega]; exact h1) x (List.mem_of_mem_drop hx)
end
theorem le_cons {p : Keyed} {l : List Keyed} (h : (p :: l).Pairwise lek) : ∀ y, y ∈ p :: l → lek p y := fun y hy => by
  rcases List.mem_cons.mp hy with rfl | hy
  · exact Int.le_refl _
  · exact (List.pairwise_cons.mp h).1 y hy
theorem lek_trans {x y z : Keyed} (h1 : lek x y) (h2 : lek y z) : lek x z := Int.le_trans h1 h2
structure LoI (st0 : SortSt) (a b : Array Keyed) (T : List Keyed) (st : SortSt) (out : Array Keyed) (ia ib : Nat) : Prop where
  kp : Kp st0 st
  m : MgL a b T out ia ib
  ha : ia + 1 < a.size
  hb : ib < b.size
theorem wpS_mLo {st0 : SortSt} {a b : Array Keyed} {Q : Array Keyed → SortSt → Prop} (hk : kindOf st0 = oneType') (ia : ∀ p, p ∈ a.toList → isI p) (ib : ∀ p, p ∈ b.toList → isI p) (sa : a.toList.Pairwise lek) (sb : b.toList.Pairwise lek)
    (na : 0 < a.size) (nb : 0 < b.size) (hf : ∀ p, b[0]? = some p → ∀ y, y ∈ a.toList → lek p y) (hl : ∀ x, a[a.size - 1]? = some x → ∀ y, y ∈ b.toList → ky y < ky x)
    (h : ∀ out st, Kp st0 st → Okm lek (a.toList ++ b.toList) out.toList → Q out st) : wpS (model prog w) A E s (mLo a b) Q st0 := by
  have hl' : ∀ x, a[a.size - 1]? = some x → ∀ y, y ∈ b.toList → lek y x := fun x hx y hy => Int.le_of_lt (hl x hx y hy)
  refine wpS_bind (wpS_lift (wpAny_rule ⟨rfl, ?_⟩))
  dsimp only
  obtain ⟨p0, e0, d0, m0⟩ := at_drop nb
  refine wpS_bind (wpS_elem e0 ?_)
  have M0 : MgL a b (a.toList ++ b.toList) #[] 0 0 := ⟨List.Perm.refl _, List.Pairwise.nil, fun _ hx => (by cases hx), sa, sb⟩
  have M1 : MgL a b (a.toList ++ b.toList) #[p0] 0 1 := M0.b1 d0 (fun y hy => hf p0 e0 y hy)
  by_cases h1 : 1 = b.size
  · rw [if_pos (by simpa using h1)]
    exact wpS_pure (h _ _ (Kp.refl _) (M1.doneB h1))
  rw [if_neg (by simpa using h1)]
  by_cases h2 : 0 + 1 = a.size
  · rw [if_pos (by simpa using h2)]
    exact wpS_pure (h _ _ (Kp.refl _) (M1.last h2 hl'))
  rw [if_neg (by simpa using h2)]
  refine wpS_bind (wpS_get ?_)
  refine wpS_bind (wpS_mono (wpS_forRange
    (I := fun x c st => ∃ out ia ib g, c = (none, out, ia, ib, g) ∧ LoI st0 a b (a.toList ++ b.toList) st out ia ib ∧ x + 1 ≤ ia + ib)
    (Q := fun c st => ∃ r, c.1 = some r ∧ Kp st0 st ∧ Okm lek (a.toList ++ b.toList) r.toList) ?step ?fin ⟨_, _, _, _, rfl, ⟨Kp.refl _, M1, by omega, by omega⟩, by omega⟩) ?post)
  case post =>
    rintro ⟨c1, c2⟩ st ⟨r, hr, hkp, hok⟩
    obtain rfl : c1 = some r := hr
    exact wpS_pure (h _ _ hkp hok)
  case fin =>
    rintro c st ⟨out, ia, ib, g, rfl, hI, hx⟩
    have := hI.ha
    have := hI.hb
    omega
  case step =>
    rintro X c st _ hX ⟨out, ja, jb, g, rfl, hI, hx⟩
    dsimp only
    refine wpS_bind (wpS_mono (wpS_forRange
      (I := fun x c st => ∃ out ia ib ac bc, c = (none, out, ia, ib, ac, bc) ∧ LoI st0 a b (a.toList ++ b.toList) st out ia ib ∧ X + 1 ≤ ia + ib)
      (Q := fun c st => (∃ r, c.1 = some r ∧ Kp st0 st ∧ Okm lek (a.toList ++ b.toList) r.toList) ∨ ∃ out ia ib ac bc, c = (none, out, ia, ib, ac, bc) ∧ LoI st0 a b (a.toList ++ b.toList) st out ia ib ∧ X + 1 ≤ ia + ib) ?step1 ?fin1 ⟨_, _, _, _, _, rfl, hI, hx⟩) ?post1)
    case fin1 => rintro c st hc; exact .inr hc
    case step1 =>
      rintro x c st _ _ ⟨out, ja, jb, ac, bc, rfl, hI, hx⟩
      dsimp only
      obtain ⟨pa, ea, da, ma⟩ := at_drop (show ja < a.size by have := hI.ha; omega)
      obtain ⟨pb, eb, db, mb⟩ := at_drop hI.hb
      have hka : kindOf st = oneType' := hI.kp.1.trans hk
      refine wpS_bind (wpS_elem eb (wpS_bind (wpS_elem ea (wpS_bind (wpS_lt hka (ib pb mb) (ia pa ma) ?_)))))
      by_cases hw : ky pb < ky pa
      · simp only [hw, decide_true, if_true]
        refine wpS_bind (wpS_elem eb ?_)
        have M2 := hI.m.b1 db (fun y hy => by
          rw [da] at hy
          exact lek_trans (Int.le_of_lt hw) (le_cons (by rw [← da]; exact hI.m.sa) y hy))
        by_cases h3 : jb + 1 = b.size
        · rw [if_pos (by simpa using h3)]
          exact wpS_pure (.inl ⟨_, rfl, hI.kp, M2.doneB h3⟩)
        · rw [if_neg (by simpa using h3)]
          have hI2 : LoI st0 a b (a.toList ++ b.toList) st (out.push pb) ja (jb + 1) := ⟨hI.kp, M2, hI.ha, by have := hI.hb; omega⟩
          split
          · exact wpS_pure (.inr ⟨_, _, _, _, _, rfl, hI2, by omega⟩)
          · exact wpS_pure ⟨_, _, _, _, _, rfl, hI2, by omega⟩
      · simp only [hw, decide_false, Bool.false_eq_true, if_false]
        refine wpS_bind (wpS_elem ea ?_)
        have M2 := hI.m.a1 da (fun y hy => by
          rw [db] at hy
          exact lek_trans (Int.not_lt.mp hw) (le_cons (by rw [← db]; exact hI.m.sb) y hy))
        by_cases h3 : ja + 1 + 1 = a.size
        · rw [if_pos (by simpa using h3)]
          exact wpS_pure (.inl ⟨_, rfl, hI.kp, M2.last h3 hl'⟩)
        · rw [if_neg (by simpa using h3)]
          have hI2 : LoI st0 a b (a.toList ++ b.toList) st (out.push pa) (ja + 1) jb := ⟨hI.kp, M2, by have := hI.ha; omega, hI.hb⟩
          split
          · exact wpS_pure (.inr ⟨_, _, _, _, _, rfl, hI2, by omega⟩)
          · exact wpS_pure ⟨_, _, _, _, _, rfl, hI2, by omega⟩
    case post1 =>
      rintro ⟨c1, c2⟩ st1 (⟨r, hr, hkp, hok⟩ | ⟨out, ja, jb, ac, bc, e, hI, hx⟩)
      · obtain rfl : c1 = some r := hr
        exact wpS_pure ⟨r, rfl, hkp, hok⟩
      · obtain ⟨rfl, rfl⟩ := Prod.mk.inj e
        dsimp only
        refine wpS_bind (wpS_lift (wpAny_rule ⟨rfl, ?_⟩))
        refine wpS_bind (wpS_mono (wpS_forRange
          (I := fun x c st => ∃ out ia ib g ac bc, c = (none, out, ia, ib, g, ac, bc) ∧ LoI st0 a b (a.toList ++ b.toList) st out ia ib ∧ X + 1 + x ≤ ia + ib)
          (Q := fun c st => (∃ r, c.1 = some r ∧ Kp st0 st ∧ Okm lek (a.toList ++ b.toList) r.toList) ∨ ∃ out ia ib g ac bc, c = (none, out, ia, ib, g, ac, bc) ∧ LoI st0 a b (a.toList ++ b.toList) st out ia ib ∧ X + 2 ≤ ia + ib) ?step2 ?fin2 ⟨_, _, _, _, _, _, rfl, hI, hx⟩) ?post2)
        case fin2 =>
          rintro c st ⟨out, ja, jb, g, ac, bc, rfl, hI, hx⟩
          have := hI.ha
          have := hI.hb
          omega
        case post2 =>
          rintro ⟨c1, c2⟩ st1 (⟨r, hr, hkp, hok⟩ | ⟨out, ja, jb, g, ac, bc, e, hI, hx⟩)
          · obtain rfl : c1 = some r := hr
            exact wpS_pure ⟨r, rfl, hkp, hok⟩
          · obtain ⟨rfl, rfl⟩ := Prod.mk.inj e
            dsimp only
            refine wpS_bind (wpS_modify (wpS_pure ⟨_, _, _, _, rfl, ⟨hI.kp, hI.m, hI.ha, hI.hb⟩, by omega⟩))
        case step2 =>
          rintro x c st _ _ ⟨out, ja, jb, g, ac, bc, rfl, hI, hx⟩
          dsimp only
          have hja := hI.ha
          have hjb := hI.hb
          obtain ⟨pb, eb, db, mb⟩ := at_drop hI.hb
          have lenA : ∀ j, (a.toList.drop j).length = a.size - j := fun j => by simp
          have lenB : ∀ j, (b.toList.drop j).length = b.size - j := fun j => by simp
          have gA : ∀ j i (h : i < (a.toList.drop j).length), a[j + i]? = some (a.toList.drop j)[i] := fun j i h => by
            rw [List.getElem_drop, ← Array.getElem?_toList]; exact List.getElem?_eq_getElem _
          have gB : ∀ j i (h : i < (b.toList.drop j).length), b[j + i]? = some (b.toList.drop j)[i] := fun j i h => by
            rw [List.getElem_drop, ← Array.getElem?_toList]; exact List.getElem?_eq_getElem _
          rcases Nat.lt_or_ge 1 g with hg | hg
          case' inl => rw [if_pos hg]
          case' inr => rw [if_neg (by omega)]
          all_goals
            refine wpS_bind (wpS_modify ?_)
            refine wpS_bind (wpS_elem eb ?_)
            refine wpS_bind (wpS_galL (ra := a.toList.drop ja) (hI.kp.1.trans hk) (ib pb mb) (gA ja) (fun p hp => ia p (List.mem_of_mem_drop hp)) hI.m.sa (lenA ja).symm (by omega) fun xs ys exy hxs hys => ?_)
            dsimp only
            have hlen : xs.length + ys.length = a.size - ja := by rw [← lenA ja, exy, List.length_append]
            have M2 := hI.m.as exy (fun x hx y hy => by
              have h5 : ky x ≤ ky pb := by simpa [bey] using hxs x hx
              rw [db] at hy
              exact lek_trans h5 (le_cons (by rw [← db]; exact hI.m.sb) y hy))
            have hys' : ∀ y, y ∈ a.toList.drop (ja + xs.length) → lek pb y := fun y hy => by
              rw [drop_mid exy] at hy
              have : ky pb < ky y := by simpa [bey] using hys y hy
              exact Int.le_of_lt this
            have hne : ja + xs.length ≠ a.size := by
              intro hc
              obtain ⟨pl, el, dl, ml⟩ := at_drop (show a.size - 1 < a.size by omega)
              have h6 := hl pl el pb mb
              have h7 : pl ∈ xs := by
                have h8 : ys = [] := List.length_eq_zero_iff.mp (by omega)
                rw [h8, List.append_nil] at exy
                rw [← exy]
                have : a.toList.drop (a.size - 1) <:+ a.toList.drop ja := List.drop_suffix_drop_left _ (by omega)
                exact this.subset (by rw [dl]; exact List.mem_cons_self)
              have h9 : ky pl ≤ ky pb := by simpa [bey] using hxs pl h7
              omega
            have hkp := hI.kp
            rcases Nat.lt_or_ge 0 xs.length with hk0 | hk0
            case' inl =>
              rw [if_pos hk0]
              by_cases h3 : ja + xs.length + 1 = a.size
              · rw [if_pos (by simpa using h3)]
                exact wpS_pure (.inl ⟨_, rfl, hI.kp, M2.last h3 hl'⟩)
              rw [if_neg (by simpa using h3), if_neg (by simpa using hne)]
              have P1 : MgL a b (a.toList ++ b.toList) (out ++ a.extract ja (ja + xs.length)) (ja + xs.length) jb ∧ ja + xs.length + 1 < a.size ∧ X + 1 + x ≤ ja + xs.length + jb ∧ ∀ y, y ∈ a.toList.drop (ja + xs.length) → lek pb y := ⟨M2, by omega, by omega, hys'⟩
              clear M2 hys' hI exy hlen hja hne h3
              generalize ja + xs.length = ja' at P1 ⊢
              generalize out ++ a.extract ja ja' = out' at P1 ⊢
            case' inr =>
              rw [if_neg (by omega)]
              have P1 : MgL a b (a.toList ++ b.toList) out ja jb ∧ ja + 1 < a.size ∧ X + 1 + x ≤ ja + jb ∧ ∀ y, y ∈ a.toList.drop ja → lek pb y := by
                have h8 : xs = [] := List.length_eq_zero_iff.mp (by omega)
                subst h8
                exact ⟨hI.m, by omega, by omega, hys'⟩
              clear M2 hys' hI exy hlen hja hne hx
              generalize ja = ja' at P1 ⊢
              generalize out = out' at P1 ⊢
            all_goals
              obtain ⟨M3, q1, q2, q3⟩ := P1
              refine wpS_bind (wpS_elem eb ?_)
              have M4 := M3.b1 db q3
              by_cases h3 : jb + 1 = b.size
              · rw [if_pos (by simpa using h3)]
                exact wpS_pure (.inl ⟨_, rfl, hkp, M4.doneB h3⟩)
              rw [if_neg (by simpa using h3)]
              obtain ⟨pa, ea, da, ma⟩ := at_drop (show ja' < a.size by omega)
              refine wpS_bind (wpS_elem ea ?_)
              refine wpS_bind (wpS_galL (ra := b.toList.drop (jb + 1)) (hkp.1.trans hk) (ia pa ma) (gB (jb + 1)) (fun p hp => ib p (List.mem_of_mem_drop hp)) M4.sb (lenB (jb + 1)).symm (by omega) fun xs2 ys2 exy2 hxs2 hys2 => ?_)
              dsimp only
              have hlen2 : xs2.length + ys2.length = b.size - (jb + 1) := by rw [← lenB (jb + 1), exy2, List.length_append]
              have M5 := M4.bs exy2 (fun x hx y hy => by
                have h5 : ky x < ky pa := by simpa [bey] using hxs2 x hx
                rw [da] at hy
                exact lek_trans (Int.le_of_lt h5) (le_cons (by rw [← da]; exact M4.sa) y hy))
              have hys2' : ∀ y, y ∈ b.toList.drop (jb + 1 + xs2.length) → lek pa y := fun y hy => by
                rw [drop_mid exy2] at hy
                have : ky pa ≤ ky y := by simpa [bey] using hys2 y hy
                exact this
              rcases Nat.lt_or_ge 0 xs2.length with hk2 | hk2
              case' inl =>
                rw [if_pos hk2]
                by_cases h5 : jb + 1 + xs2.length = b.size
                · rw [if_pos (by simpa using h5)]
                  exact wpS_pure (.inl ⟨_, rfl, hkp, M5.doneB h5⟩)
                rw [if_neg (by simpa using h5)]
                have P2 : MgL a b (a.toList ++ b.toList) (out'.push pb ++ b.extract (jb + 1) (jb + 1 + xs2.length)) ja' (jb + 1 + xs2.length) ∧ jb + 1 + xs2.length < b.size ∧ X + 1 + x ≤ ja' + (jb + 1 + xs2.length) ∧ ∀ y, y ∈ b.toList.drop (jb + 1 + xs2.length) → lek pa y := ⟨M5, by omega, by omega, hys2'⟩
                generalize jb + 1 + xs2.length = jb' at P2 ⊢
                generalize out'.push pb ++ b.extract (jb + 1) jb' = out2 at P2 ⊢
              case' inr =>
                rw [if_neg (by omega)]
                have P2 : MgL a b (a.toList ++ b.toList) (out'.push pb) ja' (jb + 1) ∧ jb + 1 < b.size ∧ X + 1 + x ≤ ja' + (jb + 1) ∧ ∀ y, y ∈ b.toList.drop (jb + 1) → lek pa y := by
                  have h8 : xs2 = [] := List.length_eq_zero_iff.mp (by omega)
                  subst h8
                  exact ⟨M4, by omega, by omega, hys2'⟩
                generalize jb + 1 = jb' at P2 ⊢
                generalize out'.push pb = out2 at P2 ⊢
              all_goals
                obtain ⟨M6, r1, r2, r3⟩ := P2
                refine wpS_bind (wpS_elem ea ?_)
                have M7 := M6.a1 da r3
                by_cases h4 : ja' + 1 + 1 = a.size
                · rw [if_pos (by simpa using h4)]
                  exact wpS_pure (.inl ⟨_, rfl, hkp, M7.last h4 hl'⟩)
                rw [if_neg (by simpa using h4)]
                have hI2 : ∀ st', Kp st0 st' → LoI st0 a b (a.toList ++ b.toList) st' (out2.push pa) (ja' + 1) jb' := fun st' hkp => ⟨hkp, M7, by omega, r1⟩
                split
                · exact wpS_pure (.inr ⟨_, _, _, _, _, _, rfl, hI2 _ hkp, by omega⟩)
                · exact wpS_pure ⟨_, _, _, _, _, _, rfl, hI2 _ hkp, by omega⟩
end
section
variable {prog : Program} {w : World} {A : Around} {E : Value → Shared → Prop} {s : Shared}
section
variable {a b out : Array Keyed} {T xs ys : List Keyed} {na nb : Nat} {p : Keyed}
abbrev MgH (a b : Array Keyed) (T : List Keyed) (out : Array Keyed) (na nb : Nat) : Prop := Mg gek T out.toList (a.toList.take na).reverse (b.toList.take nb).reverse
theorem at_takeP {a : Array Keyed} {i : Nat} (h1 : 1 ≤ i) (h2 : i ≤ a.size) : ∃ p, a[i - 1]? = some p ∧ (a.toList.take i).reverse = p :: (a.toList.take (i - 1)).reverse ∧ p ∈ a.toList := by
  obtain ⟨p, e1, e2, e3⟩ := at_take (a := a) (i := i - 1) (by omega)
  rw [show i - 1 + 1 = i by omega] at e2
  exact ⟨p, e1, e2, e3⟩
theorem MgH.b1 (h : MgH a b T out na nb) (e : (b.toList.take nb).reverse = p :: (b.toList.take (nb - 1)).reverse) (hp : ∀ y, y ∈ a.toList.take na → lek y p) : MgH a b T (out.push p) na (nb - 1) := by
  unfold MgH at h ⊢
  rw [e] at h
  rw [Array.toList_push]
  exact Mg.takesB (xs := [p]) h fun x hx y hy => by rw [List.mem_singleton.mp hx]; exact hp y (List.mem_reverse.mp hy)
theorem MgH.a1 (h : MgH a b T out na nb) (e : (a.toList.take na).reverse = p :: (a.toList.take (na - 1)).reverse) (hp : ∀ y, y ∈ b.toList.take nb → lek y p) : MgH a b T (out.push p) (na - 1) nb := by
  unfold MgH at h ⊢
  rw [e] at h
  rw [Array.toList_push]
  exact Mg.takesA (xs := [p]) h fun x hx y hy => by rw [List.mem_singleton.mp hx]; exact hp y (List.mem_reverse.mp hy)
theorem rev_cut {l : List Keyed} (e : l = xs ++ ys) : l.reverse = ys.reverse ++ xs.reverse := by rw [e, List.reverse_append]
theorem len_cut {a : Array Keyed} {n : Nat} (e : a.toList.take n = xs ++ ys) (hn : n ≤ a.size) : xs.length + ys.length = n := by
  rw [← List.length_append, ← e, List.length_take]; simp; omega
theorem MgH.as (h : MgH a b T out na nb) (hn : na ≤ a.size) (e : a.toList.take na = xs ++ ys) (hp : ∀ x, x ∈ ys → ∀ y, y ∈ b.toList.take nb → lek y x) : MgH a b T (out ++ (a.extract xs.length na).reverse) xs.length nb := by
  have hl := len_cut e hn
  unfold MgH at h ⊢
  rw [Array.toList_append, ext_rev (rev_cut e) hn (by rw [List.length_reverse]; omega), take_mid (rev_cut e) (by simpa using hn) (by rw [List.length_reverse]; omega)]
  rw [rev_cut e] at h
  exact h.takesA fun x hx y hy => hp x (List.mem_reverse.mp hx) y (List.mem_reverse.mp hy)
theorem MgH.bs (h : MgH a b T out na nb) (hn : nb ≤ b.size) (e : b.toList.take nb = xs ++ ys) (hp : ∀ x, x ∈ ys → ∀ y, y ∈ a.toList.take na → lek y x) : MgH a b T (out ++ (b.extract xs.length nb).reverse) na xs.length := by
  have hl := len_cut e hn
  unfold MgH at h ⊢
  rw [Array.toList_append, ext_rev (rev_cut e) hn (by rw [List.length_reverse]; omega), take_mid (rev_cut e) (by simpa using hn) (by rw [List.length_reverse]; omega)]
  rw [rev_cut e] at h
  exact h.takesB fun x hx y hy => hp x (List.mem_reverse.mp hx) y (List.mem_reverse.mp hy)
theorem take_of_cut {l : List Keyed} {n : Nat} (e : l.take n = xs ++ ys) : l.take xs.length = xs := by
  have h1 : xs.length ≤ n := by
    have := congrArg List.length e
    rw [List.length_take, List.length_append] at this
    omega
  have : l.take xs.length = (l.take n).take xs.length := by rw [List.take_take, Nat.min_eq_left h1]
  rw [this, e, List.take_left' rfl]
theorem MgH.done (h : MgH a b T out na nb) (e : na = 0 ∨ nb = 0) : Okm lek T (a.extract 0 na ++ b.extract 0 nb ++ out.reverse).toList := by
  rw [Array.toList_append, Array.toList_append, ext_take, ext_take, Array.toList_reverse]
  have := okm_rev (Mg.finB h fun x hx y hy => by
    rcases e with rfl | rfl
    · simp at hy
    · simp at hx)
  simpa [List.append_assoc] using this
theorem MgH.first (h : MgH a b T out na nb) (e : nb = 1) (hl : ∀ x, b[0]? = some x → ∀ y, y ∈ a.toList → lek x y) (hb : 0 < b.size) : Okm lek T (b.extract 0 nb ++ a.extract 0 na ++ out.reverse).toList := by
  rw [Array.toList_append, Array.toList_append, ext_take, ext_take, Array.toList_reverse]
  have := okm_rev (Mg.fin h fun x hx y hy => by
    obtain ⟨p, h1, h2, h3⟩ := at_takeP (a := b) (i := nb) (by omega) (by omega)
    subst e
    rw [h2] at hy
    rw [show y = p by simpa using hy]
    exact hl p h1 x (List.mem_of_mem_take (List.mem_reverse.mp hx)))
  simpa [List.append_assoc] using this
theorem ge_cons {l : List Keyed} {p : Keyed} {m : List Keyed} (e : l.reverse = p :: m) (h : l.reverse.Pairwise gek) : ∀ y, y ∈ l → lek y p := fun y hy => by
  rw [e] at h
  rcases List.mem_cons.mp (e ▸ List.mem_reverse.mpr hy) with rfl | hy
  · exact Int.le_refl _
  · exact (List.pairwise_cons.mp h).1 y hy
theorem asc_of {l : List Keyed} (h : l.reverse.Pairwise gek) : l.Pairwise lek := by
  have := List.pairwise_reverse.mp h
  exact this
end
structure HiI (st0 : SortSt) (a b : Array Keyed) (T : List Keyed) (st : SortSt) (out : Array Keyed) (na nb : Nat) : Prop where
  kp : Kp st0 st
  m : MgH a b T out na nb
  ha : 1 ≤ na
  hb : 2 ≤ nb
  la : na ≤ a.size
  lb : nb ≤ b.size
theorem wpS_mHi {st0 : SortSt} {a b : Array Keyed} {Q : Array Keyed → SortSt → Prop} (hk : kindOf st0 = oneType') (ia : ∀ p, p ∈ a.toList → isI p) (ib : ∀ p, p ∈ b.toList → isI p) (sa : a.toList.Pairwise lek) (sb : b.toList.Pairwise lek)
    (na : 0 < a.size) (nb : 0 < b.size) (hf : ∀ p, b[0]? = some p → ∀ y, y ∈ a.toList → lek p y) (hl : ∀ x, a[a.size - 1]? = some x → ∀ y, y ∈ b.toList → lek y x)
    (h : ∀ out st, Kp st0 st → Okm lek (a.toList ++ b.toList) out.toList → Q out st) : wpS (model prog w) A E s (mHi a b) Q st0 := by
  refine wpS_bind (wpS_lift (wpAny_rule ⟨rfl, ?_⟩))
  dsimp only
  obtain ⟨p0, e0, d0, m0⟩ := at_takeP (a := a) (i := a.size) na (Nat.le_refl _)
  refine wpS_bind (wpS_elem e0 ?_)
  have M0 : MgH a b (a.toList ++ b.toList) #[] a.size b.size := by
    have ea : a.toList.take a.size = a.toList := List.take_of_length_le (by simp)
    have eb : b.toList.take b.size = b.toList := List.take_of_length_le (by simp)
    refine ⟨?_, List.Pairwise.nil, fun _ hx => (by cases hx), ?_, ?_⟩
    · rw [ea, eb]; show (a.toList.reverse ++ b.toList.reverse).Perm _; exact List.Perm.append (List.reverse_perm _) (List.reverse_perm _)
    · rw [ea]; exact List.pairwise_reverse.mpr sa
    · rw [eb]; exact List.pairwise_reverse.mpr sb
  have M1 : MgH a b (a.toList ++ b.toList) #[p0] (a.size - 1) b.size := M0.a1 d0 (fun y hy => hl p0 e0 y (List.mem_of_mem_take hy))
  by_cases h1 : a.size - 1 = 0
  · rw [if_pos (by simpa using h1)]
    exact wpS_pure (h _ _ (Kp.refl _) (M1.done (.inl h1)))
  rw [if_neg (by simpa using h1)]
  by_cases h2 : b.size = 1
  · rw [if_pos (by simpa using h2)]
    exact wpS_pure (h _ _ (Kp.refl _) (M1.first h2 hf nb))
  rw [if_neg (by simpa using h2)]
  refine wpS_bind (wpS_get ?_)
  refine wpS_bind (wpS_mono (wpS_forRange
    (I := fun x c st => ∃ out ia ib g, c = (none, ia, ib, out, g) ∧ HiI st0 a b (a.toList ++ b.toList) st out ia ib ∧ x + 1 + ia + ib ≤ a.size + b.size)
    (Q := fun c st => ∃ r, c.1 = some r ∧ Kp st0 st ∧ Okm lek (a.toList ++ b.toList) r.toList) ?step ?fin ⟨_, _, _, _, rfl, ⟨Kp.refl _, M1, by omega, by omega, by omega, by omega⟩, by omega⟩) ?post)
  case post =>
    rintro ⟨c1, c2⟩ st ⟨r, hr, hkp, hok⟩
    obtain rfl : c1 = some r := hr
    exact wpS_pure (h _ _ hkp hok)
  case fin =>
    rintro c st ⟨out, ia, ib, g, rfl, hI, hx⟩
    have := hI.ha
    have := hI.hb
    omega
  case step =>
    rintro X c st _ hX ⟨out, ja, jb, g, rfl, hI, hx⟩
    dsimp only
    refine wpS_bind (wpS_mono (wpS_forRange
      (I := fun x c st => ∃ out ia ib ac bc, c = (none, ia, ib, out, ac, bc) ∧ HiI st0 a b (a.toList ++ b.toList) st out ia ib ∧ X + 1 + ia + ib ≤ a.size + b.size)
      (Q := fun c st => (∃ r, c.1 = some r ∧ Kp st0 st ∧ Okm lek (a.toList ++ b.toList) r.toList) ∨ ∃ out ia ib ac bc, c = (none, ia, ib, out, ac, bc) ∧ HiI st0 a b (a.toList ++ b.toList) st out ia ib ∧ X + 1 + ia + ib ≤ a.size + b.size) ?step1 ?fin1 ⟨_, _, _, _, _, rfl, hI, hx⟩) ?post1)
    case fin1 => rintro c st hc; exact .inr hc
    case step1 =>
      rintro x c st _ _ ⟨out, ja, jb, ac, bc, rfl, hI, hx⟩
      dsimp only
      have h1a := hI.ha
      have h1b := hI.hb
      have h2a := hI.la
      have h2b := hI.lb
      obtain ⟨pa, ea, da, ma⟩ := at_takeP hI.ha hI.la
      obtain ⟨pb, eb, db, mb⟩ := at_takeP (show 1 ≤ jb by omega) hI.lb
      have hka : kindOf st = oneType' := hI.kp.1.trans hk
      refine wpS_bind (wpS_elem eb (wpS_bind (wpS_elem ea (wpS_bind (wpS_lt hka (ib pb mb) (ia pa ma) ?_)))))
      by_cases hw : ky pb < ky pa
      · simp only [hw, decide_true, if_true]
        refine wpS_bind (wpS_elem ea ?_)
        have M2 := hI.m.a1 da (fun y hy => lek_trans (ge_cons db hI.m.sb y hy) (Int.le_of_lt hw))
        by_cases h3 : ja - 1 = 0
        · rw [if_pos (by simpa using h3)]
          exact wpS_pure (.inl ⟨_, rfl, hI.kp, M2.done (.inl h3)⟩)
        · rw [if_neg (by simpa using h3)]
          have hI2 : HiI st0 a b (a.toList ++ b.toList) st (out.push pa) (ja - 1) jb := ⟨hI.kp, M2, by omega, hI.hb, by omega, by omega⟩
          split
          · exact wpS_pure (.inr ⟨_, _, _, _, _, rfl, hI2, by omega⟩)
          · exact wpS_pure ⟨_, _, _, _, _, rfl, hI2, by omega⟩
      · simp only [hw, decide_false, Bool.false_eq_true, if_false]
        refine wpS_bind (wpS_elem eb ?_)
        have M2 := hI.m.b1 db (fun y hy => lek_trans (ge_cons da hI.m.sa y hy) (Int.not_lt.mp hw))
        by_cases h3 : jb - 1 = 1
        · rw [if_pos (by simpa using h3)]
          exact wpS_pure (.inl ⟨_, rfl, hI.kp, M2.first h3 hf nb⟩)
        · rw [if_neg (by simpa using h3)]
          have hI2 : HiI st0 a b (a.toList ++ b.toList) st (out.push pb) ja (jb - 1) := ⟨hI.kp, M2, hI.ha, by omega, by omega, by omega⟩
          split
          · exact wpS_pure (.inr ⟨_, _, _, _, _, rfl, hI2, by omega⟩)
          · exact wpS_pure ⟨_, _, _, _, _, rfl, hI2, by omega⟩
    case post1 =>
      rintro ⟨c1, c2⟩ st1 (⟨r, hr, hkp, hok⟩ | ⟨out, ja, jb, ac, bc, e, hI, hx⟩)
      · obtain rfl : c1 = some r := hr
        exact wpS_pure ⟨r, rfl, hkp, hok⟩
      · obtain ⟨rfl, rfl⟩ := Prod.mk.inj e
        dsimp only
        refine wpS_bind (wpS_lift (wpAny_rule ⟨rfl, ?_⟩))
        refine wpS_bind (wpS_mono (wpS_forRange
          (I := fun x c st => ∃ out ia ib g ac bc, c = (none, ia, ib, out, g, ac, bc) ∧ HiI st0 a b (a.toList ++ b.toList) st out ia ib ∧ X + 1 + x + ia + ib ≤ a.size + b.size)
          (Q := fun c st => (∃ r, c.1 = some r ∧ Kp st0 st ∧ Okm lek (a.toList ++ b.toList) r.toList) ∨ ∃ out ia ib g ac bc, c = (none, ia, ib, out, g, ac, bc) ∧ HiI st0 a b (a.toList ++ b.toList) st out ia ib ∧ X + 2 + ia + ib ≤ a.size + b.size) ?step2 ?fin2 ⟨_, _, _, _, _, _, rfl, hI, hx⟩) ?post2)
        case fin2 =>
          rintro c st ⟨out, ja, jb, g, ac, bc, rfl, hI, hx⟩
          have := hI.ha
          have := hI.hb
          omega
        case post2 =>
          rintro ⟨c1, c2⟩ st1 (⟨r, hr, hkp, hok⟩ | ⟨out, ja, jb, g, ac, bc, e, hI, hx⟩)
          · obtain rfl : c1 = some r := hr
            exact wpS_pure ⟨r, rfl, hkp, hok⟩
          · obtain ⟨rfl, rfl⟩ := Prod.mk.inj e
            dsimp only
            refine wpS_bind (wpS_modify (wpS_pure ⟨_, _, _, _, rfl, ⟨hI.kp, hI.m, hI.ha, hI.hb, hI.la, hI.lb⟩, by omega⟩))
        case step2 =>
          rintro x c st _ _ ⟨out, ja, jb, g, ac, bc, rfl, hI, hx⟩
          dsimp only
          have h1a := hI.ha
          have h1b := hI.hb
          have h2a := hI.la
          have h2b := hI.lb
          obtain ⟨pb, eb, db, mb⟩ := at_takeP (show 1 ≤ jb by omega) hI.lb
          have lenA : ∀ j, j ≤ a.size → (a.toList.take j).length = j := fun j hj => by rw [List.length_take]; simp; omega
          have lenB : ∀ j, j ≤ b.size → (b.toList.take j).length = j := fun j hj => by rw [List.length_take]; simp; omega
          have gA : ∀ j i (h : i < (a.toList.take j).length), a[0 + i]? = some (a.toList.take j)[i] := fun j i h => by
            rw [List.getElem_take, ← Array.getElem?_toList, Nat.zero_add]; exact List.getElem?_eq_getElem _
          have gB : ∀ j i (h : i < (b.toList.take j).length), b[0 + i]? = some (b.toList.take j)[i] := fun j i h => by
            rw [List.getElem_take, ← Array.getElem?_toList, Nat.zero_add]; exact List.getElem?_eq_getElem _
          rcases Nat.lt_or_ge 1 g with hg | hg
          case' inl => rw [if_pos hg]
          case' inr => rw [if_neg (by omega)]
          all_goals
            refine wpS_bind (wpS_modify ?_)
            refine wpS_bind (wpS_elem eb ?_)
            refine wpS_bind (wpS_galL (ra := a.toList.take ja) (hI.kp.1.trans hk) (ib pb mb) (gA ja) (fun p hp => ia p (List.mem_of_mem_take hp)) (asc_of hI.m.sa) (lenA ja h2a).symm (by omega) fun xs ys exy hxs hys => ?_)
            dsimp only
            have hlen := len_cut exy h2a
            have M2 := hI.m.as h2a exy (fun x hx y hy => by
              have h5 : ky pb < ky x := by simpa [bey] using hys x hx
              exact lek_trans (ge_cons db hI.m.sb y hy) (Int.le_of_lt h5))
            have hxs' : ∀ y, y ∈ a.toList.take xs.length → lek y pb := fun y hy => by
              rw [take_of_cut exy] at hy
              have : ky y ≤ ky pb := by simpa [bey] using hxs y hy
              exact this
            have hkp := hI.kp
            rcases Nat.lt_or_ge 0 (ja - xs.length) with hk0 | hk0
            case' inl =>
              rw [if_pos hk0]
              by_cases h3 : xs.length = 0
              · rw [if_pos (by simpa using h3)]
                exact wpS_pure (.inl ⟨_, rfl, hI.kp, M2.done (.inl h3)⟩)
              rw [if_neg (by simpa using h3)]
              have P1 : MgH a b (a.toList ++ b.toList) (out ++ (a.extract xs.length ja).reverse) xs.length jb ∧ 1 ≤ xs.length ∧ xs.length ≤ a.size ∧ X + 1 + x + xs.length + jb ≤ a.size + b.size ∧ ∀ y, y ∈ a.toList.take xs.length → lek y pb := ⟨M2, by omega, by omega, by omega, hxs'⟩
              clear M2 hxs' hI exy hlen h3 hk0
              generalize ja - xs.length = ac' at *
              generalize xs.length = ja' at P1 ⊢
              generalize out ++ (a.extract ja' ja).reverse = out' at P1 ⊢
            case' inr =>
              rw [if_neg (by omega)]
              have P1 : MgH a b (a.toList ++ b.toList) out ja jb ∧ 1 ≤ ja ∧ ja ≤ a.size ∧ X + 1 + x + ja + jb ≤ a.size + b.size ∧ ∀ y, y ∈ a.toList.take ja → lek y pb := by
                have h8 : xs.length = ja := by omega
                rw [h8] at hxs'
                exact ⟨hI.m, by omega, by omega, by omega, hxs'⟩
              clear M2 hxs' hI exy hlen hx h1a h2a hk0
              generalize ja - xs.length = ac' at *
              generalize ja = ja' at P1 ⊢
              generalize out = out' at P1 ⊢
            all_goals
              obtain ⟨M3, q0, q1, q2, q3⟩ := P1
              refine wpS_bind (wpS_elem eb ?_)
              have M4 := M3.b1 db q3
              by_cases h3 : jb - 1 = 1
              · rw [if_pos (by simpa using h3)]
                exact wpS_pure (.inl ⟨_, rfl, hkp, M4.first h3 hf nb⟩)
              rw [if_neg (by simpa using h3)]
              obtain ⟨pa, ea, da, ma⟩ := at_takeP q0 q1
              refine wpS_bind (wpS_elem ea ?_)
              refine wpS_bind (wpS_galL (ra := b.toList.take (jb - 1)) (hkp.1.trans hk) (ia pa ma) (gB (jb - 1)) (fun p hp => ib p (List.mem_of_mem_take hp)) (asc_of M4.sb) (lenB (jb - 1) (by omega)).symm (by omega) fun xs2 ys2 exy2 hxs2 hys2 => ?_)
              dsimp only
              have hlen2 := len_cut exy2 (by omega)
              have M5 := M4.bs (by omega) exy2 (fun x hx y hy => by
                have h5 : ky pa ≤ ky x := by simpa [bey] using hys2 x hx
                exact lek_trans (ge_cons da M4.sa y hy) h5)
              have hxs2' : ∀ y, y ∈ b.toList.take xs2.length → lek y pa := fun y hy => by
                rw [take_of_cut exy2] at hy
                have : ky y < ky pa := by simpa [bey] using hxs2 y hy
                exact Int.le_of_lt this
              rcases Nat.lt_or_ge 0 (jb - 1 - xs2.length) with hk2 | hk2
              case' inl =>
                rw [if_pos hk2]
                by_cases h5 : xs2.length = 1
                · rw [if_pos (by simpa using h5)]
                  exact wpS_pure (.inl ⟨_, rfl, hkp, M5.first h5 hf nb⟩)
                rw [if_neg (by simpa using h5)]
                by_cases h6 : xs2.length = 0
                · rw [if_pos (by simpa using h6)]
                  exact wpS_pure (.inl ⟨_, rfl, hkp, M5.done (.inr h6)⟩)
                rw [if_neg (by simpa using h6)]
                have P2 : MgH a b (a.toList ++ b.toList) (out'.push pb ++ (b.extract xs2.length (jb - 1)).reverse) ja' xs2.length ∧ 2 ≤ xs2.length ∧ xs2.length ≤ b.size ∧ X + 1 + x + ja' + xs2.length ≤ a.size + b.size ∧ ∀ y, y ∈ b.toList.take xs2.length → lek y pa := ⟨M5, by omega, by omega, by omega, hxs2'⟩
                generalize jb - 1 - xs2.length = bc' at *
                generalize xs2.length = jb' at P2 ⊢
                generalize out'.push pb ++ (b.extract jb' (jb - 1)).reverse = out2 at P2 ⊢
              case' inr =>
                rw [if_neg (by omega)]
                have P2 : MgH a b (a.toList ++ b.toList) (out'.push pb) ja' (jb - 1) ∧ 2 ≤ jb - 1 ∧ jb - 1 ≤ b.size ∧ X + 1 + x + ja' + (jb - 1) ≤ a.size + b.size ∧ ∀ y, y ∈ b.toList.take (jb - 1) → lek y pa := by
                  have h8 : xs2.length = jb - 1 := by omega
                  rw [h8] at hxs2'
                  exact ⟨M4, by omega, by omega, by omega, hxs2'⟩
                generalize jb - 1 - xs2.length = bc' at *
                generalize jb - 1 = jb' at P2 ⊢
                generalize out'.push pb = out2 at P2 ⊢
              all_goals
                obtain ⟨M6, r0, r1, r2, r3⟩ := P2
                refine wpS_bind (wpS_elem ea ?_)
                have M7 := M6.a1 da r3
                by_cases h4 : ja' - 1 = 0
                · rw [if_pos (by simpa using h4)]
                  exact wpS_pure (.inl ⟨_, rfl, hkp, M7.done (.inl h4)⟩)
                rw [if_neg (by simpa using h4)]
                have hI2 : ∀ st', Kp st0 st' → HiI st0 a b (a.toList ++ b.toList) st' (out2.push pa) (ja' - 1) jb' := fun st' hkp => ⟨hkp, M7, by omega, r0, by omega, r1⟩
                split
                · exact wpS_pure (.inr ⟨_, _, _, _, _, _, rfl, hI2 _ hkp, by omega⟩)
                · exact wpS_pure ⟨_, _, _, _, _, _, rfl, hI2 _ hkp, by omega⟩
end
structure SBm (a₀ : Array Keyed) (lo : Nat) (b0 : Array Keyed) (pd : Array (Nat × Nat × Nat)) (st : SortSt) : Prop where
  perm : (arrOf st).Perm a₀
  kind : kindOf st = oneType'
  failed : failedOf st = none
  pend : pendingOf st = pd
  frame : ∀ i, i < lo → (arrOf st)[i]? = b0[i]?
def Sgm (xs : Array Keyed) (lo k : Nat) : Prop := ∀ i j, lo ≤ i → i ≤ j → j < k → K xs i ≤ K xs j
def Dk (xs : Array Keyed) : Prop := (xs.toList.map ky).Nodup
section
variable {a₀ b0 : Array Keyed} {lo : Nat} {pd : Array (Nat × Nat × Nat)} {st : SortSt}
theorem SBm.size (h : SBm a₀ lo b0 pd st) : (arrOf st).size = a₀.size := h.perm.size_eq
theorem SBm.base (h : SBm a₀ lo b0 pd st) : SBase a₀ (setPending st #[]) := ⟨h.perm, h.kind, h.failed, rfl⟩
theorem SBm.set (h : SBm a₀ lo b0 pd st) {xs : Array Keyed} (hp : xs.Perm (arrOf st)) (hf : ∀ i, i < lo → xs[i]? = (arrOf st)[i]?) : SBm a₀ lo b0 pd (setArr st xs) :=
  ⟨hp.trans h.perm, h.kind, h.failed, h.pend, fun i hi => (hf i hi).trans (h.frame i hi)⟩
theorem SBm.mirror (h : SBm a₀ lo b0 pd st) {j : Nat} (hj : j ≤ a₀.size) : SBm a₀ lo b0 pd (setArr st (mirror (arrOf st) lo j ((j - lo) / 2))) :=
  h.set (mirror_perm _ _ _ _) fun i hi => by rw [getElem?_mirror_all (by rw [h.size]; exact hj), if_neg (by omega)]
theorem Dk.perm {xs ys : Array Keyed} (h : Dk ys) (hp : xs.Perm ys) : Dk xs := by
  unfold Dk at h ⊢
  exact ((Array.perm_iff_toList_perm.mp hp).map ky).nodup_iff.mpr h
theorem K_ky {xs : Array Keyed} {i : Nat} (hi : i < xs.size) : K xs i = ky xs[i] := by
  unfold K ky; rw [getElem?_pos xs i hi]
theorem Dk.ne {xs : Array Keyed} (h : Dk xs) {i j : Nat} (hij : i < j) (hj : j < xs.size) : K xs i ≠ K xs j := by
  rw [K_ky (by omega), K_ky hj]
  have := List.pairwise_iff_getElem.mp h i j (by simpa using (by omega : i < xs.size)) (by simpa using hj) hij
  simpa using this
end
section
variable {prog : Program} {w : World} {A : Around} {E : Value → Shared → Prop} {s : Shared} {a₀ b0 : Array Keyed} {lo : Nat} {pd : Array (Nat × Nat × Nat)}
theorem wpS_ltS {st : SortSt} {i j : Nat} {Q : Option Bool → SortSt → Prop} (hB : SBm a₀ lo b0 pd st) (h0 : IntKeys a₀) (hi : i < a₀.size) (hj : j < a₀.size)
    (h : Q (some (decide (K (arrOf st) i < K (arrOf st) j))) st) : wpS (model prog w) A E s (ltAt' i j) Q st := by
  obtain ⟨t, p, e1⟩ := hB.base.at h0 hi
  obtain ⟨u, q, e2⟩ := hB.base.at h0 hj
  exact wpS_ltAt hB.kind e1 e2 h
theorem wpS_asc {st : SortSt} {a nrem : Nat} {f : Nat → AscSt → StateT SortSt Sem (ForInStep AscSt)} {Q : AscSt → SortSt → Prop} (h0 : IntKeys a₀) (hn : lo + nrem ≤ a₀.size) (ha : 1 ≤ a) (han : a ≤ nrem) (hB : SBm a₀ lo b0 pd st)
    (hs : Sgm (arrOf st) lo (lo + a))
    (hf : ∀ x n, a ≤ n → n < nrem → ∀ {R : ForInStep AscSt → SortSt → Prop}, R (if K (arrOf st) (lo + n) < K (arrOf st) (lo + n - 1) then .done (none, n) else .yield (none, n + 1)) st → wpS (model prog w) A E s (f x (none, n)) R st)
    (h : ∀ n, a ≤ n → n ≤ nrem → Sgm (arrOf st) lo (lo + n) → (n = nrem ∨ K (arrOf st) (lo + n) < K (arrOf st) (lo + n - 1)) → Q (none, n) st) :
    wpS (model prog w) A E s (forIn [a:nrem] ((none, a) : AscSt) f) Q st := by
  refine wpS_forRange (I := fun x c st' => st' = st ∧ c = (none, x) ∧ Sgm (arrOf st) lo (lo + x)) ?step ?fin ⟨rfl, rfl, hs⟩
  case fin =>
    rintro c st' ⟨rfl, rfl, hs'⟩
    rw [show max a nrem = nrem by omega] at hs' ⊢
    exact h nrem han (Nat.le_refl _) hs' (.inl rfl)
  case step =>
    rintro x c st' hax hxn ⟨rfl, rfl, hs'⟩
    refine hf x x hax hxn ?_
    by_cases hless : K (arrOf st') (lo + x) < K (arrOf st') (lo + x - 1)
    · rw [if_pos hless]
      exact h x hax (by omega) hs' (.inr hless)
    · rw [if_neg hless]
      refine ⟨rfl, rfl, fun i j hi hij hj => ?_⟩
      by_cases hjx : j < lo + x
      · exact hs' i j hi hij hjx
      · have hj' : j = lo + x := by omega
        subst hj'
        by_cases hi' : i = lo + x
        · subst hi'; exact Int.le_refl _
        · exact Int.le_trans (hs' i (lo + x - 1) hi (by omega) (by omega)) (Int.not_lt.mp hless)
theorem wpS_countS {st : SortSt} {nrem : Nat} {Q : Option Nat → SortSt → Prop} (h0 : IntKeys a₀) (hd : Dk a₀) (hn : lo + nrem ≤ a₀.size) (h1 : 1 ≤ nrem) (hB : SBm a₀ lo b0 pd st)
    (h : ∀ m st', SBm a₀ lo b0 pd st' → 1 ≤ m → m ≤ nrem → Sgm (arrOf st') lo (lo + m) → Q (some m) st') :
    wpS (model prog w) A E s (countRun' lo nrem) Q st := by
  refine wpS_bind (wpS_asc h0 hn (Nat.le_refl 1) h1 hB (fun i j h1 h2 h3 => by
    have : i = j := by omega
    subst this; exact Int.le_refl _) ?hf fun n hn1 hn2 hsn hor => ?_)
  case hf =>
    intro x n hx1 hx2 R hR
    refine wpS_bind (wpS_ltS hB h0 (by omega) (by omega) ?_)
    by_cases hless : K (arrOf st) (lo + n) < K (arrOf st) (lo + n - 1)
    · rw [if_pos hless] at hR
      simp only [hless, decide_true, if_true]
      exact wpS_pure hR
    · rw [if_neg hless] at hR
      simp only [hless, decide_false, Bool.false_eq_true, if_false]
      exact wpS_pure hR
  dsimp only
  by_cases hnn : n = nrem
  · rw [if_pos (by simpa using hnn)]
    exact wpS_pure (h n st hB hn1 hn2 hsn)
  rw [if_neg (by simpa using hnn)]
  have hlt : K (arrOf st) (lo + n) < K (arrOf st) (lo + n - 1) := hor.resolve_left hnn
  by_cases hgt : n > 1
  · rw [if_pos hgt]
    refine wpS_bind (wpS_ltS hB h0 (by omega) (by omega) ?_)
    have hne := (hd.perm hB.perm).ne (i := lo) (j := lo + n - 1) (by omega) (by rw [hB.size]; omega)
    have hle := hsn lo (lo + n - 1) (by omega) (by omega) (by omega)
    have hrose : K (arrOf st) lo < K (arrOf st) (lo + n - 1) := by omega
    simp only [hrose, decide_true, if_true]
    exact wpS_pure (h n st hB hn1 hn2 hsn)
  rw [if_neg hgt]
  obtain rfl : n = 1 := by omega
  refine wpS_bind (wpS_lift (wpAny_rule ⟨rfl, ?_⟩))
  refine wpS_bind (wpS_mono (wpS_forRange (I := fun x c st' => st' = st ∧ c = (none, x, 0) ∧ ∀ i j, lo ≤ i → i ≤ j → j < lo + x → K (arrOf st) j ≤ K (arrOf st) i)
    (Q := fun c st' => st' = st ∧ ∃ m, c = (none, m, 0) ∧ 2 ≤ m ∧ m ≤ nrem ∧ ∀ i j, lo ≤ i → i ≤ j → j < lo + m → K (arrOf st) j ≤ K (arrOf st) i) ?step ?fin ⟨rfl, rfl, ?init⟩) ?post)
  case init =>
    intro i j h1 h2 h3
    by_cases hi' : i = j
    · subst hi'; exact Int.le_refl _
    · have hi0 : i = lo := by omega
      have hj1 : j = lo + 1 := by omega
      subst hi0; subst hj1
      exact Int.le_of_lt hlt
  case fin =>
    rintro c st' ⟨rfl, rfl, hs'⟩
    rw [show max (1 + 1) nrem = nrem by omega] at hs' ⊢
    exact ⟨rfl, nrem, rfl, by omega, Nat.le_refl _, hs'⟩
  case step =>
    rintro x c st' hax hxn ⟨rfl, rfl, hs'⟩
    dsimp only
    refine wpS_bind (wpS_ltS hB h0 (by omega) (by omega) ?_)
    by_cases hless : K (arrOf st') (lo + x) < K (arrOf st') (lo + x - 1)
    · simp only [hless, decide_true, if_true]
      rw [if_neg (by omega)]
      refine wpS_pure ⟨rfl, rfl, fun i j hi hij hj => ?_⟩
      by_cases hjx : j < lo + x
      · exact hs' i j hi hij hjx
      · have hj' : j = lo + x := by omega
        subst hj'
        by_cases hi' : i = lo + x
        · subst hi'; exact Int.le_refl _
        · exact Int.le_trans (Int.le_of_lt hless) (hs' i (lo + x - 1) hi (by omega) (by omega))
    · simp only [hless, decide_false, Bool.false_eq_true, if_false]
      refine wpS_bind (wpS_ltS hB h0 (by omega) (by omega) ?_)
      have hne := (hd.perm hB.perm).ne (i := lo + x - 1) (j := lo + x) (by omega) (by rw [hB.size]; omega)
      have hlarger : K (arrOf st') (lo + x - 1) < K (arrOf st') (lo + x) := by omega
      simp only [hlarger, decide_true, if_true]
      exact wpS_pure ⟨rfl, x, rfl, by omega, by omega, hs'⟩
  case post =>
    rintro c st' ⟨rfl, m, rfl, hm1, hm2, hs'⟩
    dsimp only
    rw [if_neg (by omega)]
    refine wpS_bind (wpS_reverse ?_)
    have hB2 := hB.mirror (j := lo + m) (by omega)
    have hsz : lo + m ≤ (arrOf st').size := by rw [hB.size]; omega
    refine wpS_bind (wpS_asc h0 hn (show 1 ≤ m by omega) hm2 hB2 ?_ ?hf2 fun n hn1 hn2 hsn hor => ?_)
    · intro i j hi hij hj
      show K (PyProof.Rows.mirror (arrOf st') lo (lo + m) ((lo + m - lo) / 2)) i ≤ K (PyProof.Rows.mirror (arrOf st') lo (lo + m) ((lo + m - lo) / 2)) j
      rw [K_mirror hsz, K_mirror hsz, if_pos (by omega), if_pos (by omega)]
      exact hs' _ _ (by omega) (by omega) (by omega)
    case hf2 =>
      intro x n hx1 hx2 R hR
      refine wpS_bind (wpS_ltS hB2 h0 (by omega) (by omega) ?_)
      split at hR
      · rename_i hless
        simp only [hless, decide_true, if_true]
        exact wpS_pure hR
      · rename_i hless
        simp only [hless, decide_false, Bool.false_eq_true, if_false]
        exact wpS_pure hR
    exact wpS_pure (h n _ hB2 (by omega) hn2 hsn)
theorem wpS_binS {st : SortSt} {n ok : Nat} {Q : Bool → SortSt → Prop} (h0 : IntKeys a₀) (hn : lo + n ≤ a₀.size) (hok : ok ≤ n) (hok1 : 1 ≤ ok) (hB : SBm a₀ lo b0 pd st) (hs : Sgm (arrOf st) lo (lo + ok))
    (h : ∀ st', SBm a₀ lo b0 pd st' → Sgm (arrOf st') lo (lo + n) → Q true st') : wpS (model prog w) A E s (binarySort' lo n ok) Q st := by
  refine wpS_bind (wpS_mono (wpS_forRange (I := fun k c st' => c = (none, ()) ∧ SBm a₀ lo b0 pd st' ∧ Sgm (arrOf st') lo (lo + min k n))
    (Q := fun c st' => c = (none, ()) ∧ SBm a₀ lo b0 pd st' ∧ Sgm (arrOf st') lo (lo + n)) ?step ?fin ?init) ?post)
  case post =>
    rintro c st' ⟨rfl, hB', hs'⟩
    exact wpS_pure (h st' hB' hs')
  case init => exact ⟨rfl, hB, fun i j h1 h2 h3 => hs i j h1 h2 (by omega)⟩
  case fin =>
    rintro c st' ⟨hc, hB', hs'⟩
    refine ⟨hc, hB', ?_⟩
    rwa [show min (max (max ok 1) n) n = n by omega] at hs'
  case step =>
    rintro k c st' hak hkn ⟨rfl, hB', hs'⟩
    rw [show min k n = k by omega] at hs'
    have hk : lo + k < a₀.size := by omega
    refine wpS_bind (wpS_mono (wpS_forRange (I := fun x c st'' => st'' = st' ∧ ∃ l r, c = (none, l, r) ∧ l ≤ r ∧ r ≤ k ∧ r - l ≤ k - x ∧
        (∀ i, i < l → K (arrOf st') (lo + i) ≤ K (arrOf st') (lo + k)) ∧ (∀ i, r ≤ i → i < k → K (arrOf st') (lo + k) < K (arrOf st') (lo + i)))
      (Q := fun c st'' => st'' = st' ∧ ∃ l r, c = (none, l, r) ∧ l ≤ k ∧
        (∀ i, i < l → K (arrOf st') (lo + i) ≤ K (arrOf st') (lo + k)) ∧ (∀ i, l ≤ i → i < k → K (arrOf st') (lo + k) < K (arrOf st') (lo + i))) ?istep ?ifin ?iinit) ?ipost)
    case iinit => exact ⟨rfl, 0, k, rfl, by omega, by omega, by omega, fun i hi => by omega, fun i h1 h2 => by omega⟩
    case ifin =>
      rintro c st'' ⟨rfl, l, r, rfl, hlr, hrk, hm, hlo, hhi⟩
      have : l = r := by omega
      subst this
      exact ⟨rfl, l, l, rfl, hrk, hlo, hhi⟩
    case istep =>
      rintro x c st'' _ hxk ⟨rfl, l, r, rfl, hlr, hrk, hm, hlo, hhi⟩
      dsimp only
      by_cases hge : l ≥ r
      · rw [if_pos hge]
        have : l = r := by omega
        subst this
        exact wpS_pure ⟨rfl, l, l, rfl, hrk, hlo, hhi⟩
      · rw [if_neg hge]
        refine wpS_bind (wpS_ltS hB' h0 hk (by omega) ?_)
        by_cases hless : K (arrOf st'') (lo + k) < K (arrOf st'') (lo + (l + r) / 2)
        · simp only [hless, decide_true, if_true]
          refine wpS_pure ⟨rfl, l, (l + r) / 2, rfl, by omega, by omega, by omega, hlo, fun i h1 h2 => ?_⟩
          exact Int.lt_of_lt_of_le hless (hs' _ _ (by omega) (by omega) (by omega))
        · simp only [hless, decide_false, Bool.false_eq_true, if_false]
          refine wpS_pure ⟨rfl, (l + r) / 2 + 1, r, rfl, by omega, by omega, by omega, fun i h1 => ?_, hhi⟩
          exact Int.le_trans (hs' (lo + i) (lo + (l + r) / 2) (by omega) (by omega) (by omega)) (Int.not_lt.mp hless)
    case ipost =>
      rintro c st'' ⟨rfl, l, r, rfl, hlk, hlo, hhi⟩
      have hks : lo + k < (arrOf st'').size := by rw [hB'.size]; exact hk
      have hlo' : ∀ i, lo ≤ i → i < lo + l → K (arrOf st'') i ≤ K (arrOf st'') (lo + k) := fun i h1 h2 => by
        have := hlo (i - lo) (by omega)
        rwa [show lo + (i - lo) = i by omega] at this
      have hhi' : ∀ i, lo + l ≤ i → i < lo + k → K (arrOf st'') (lo + k) < K (arrOf st'') i := fun i h1 h2 => by
        have := hhi (i - lo) (by omega) (by omega)
        rwa [show lo + (i - lo) = i by omega] at this
      show wpS _ _ _ _ (do moveDown' (lo + k) (lo + l); pure (ForInStep.yield (none, ()))) _ _
      rw [moveDown'_eq]
      refine wpS_bind (wpS_modify (wpS_pure ⟨rfl, hB'.set (bubble_perm _ _ _) (fun i hi => ?_), ?_⟩))
      · rw [getElem?_bubble hks _ (by omega), if_neg (by omega), if_neg (by omega)]
      rw [show min (k + 1) n = k + 1 by omega]
      intro i j hi hij hj
      show K (bubble (arrOf st'') (lo + k) (lo + k - (lo + l))) i ≤ K (bubble (arrOf st'') (lo + k) (lo + k - (lo + l))) j
      rw [K_bubble hks (by omega), K_bubble hks (by omega), show lo + k - (lo + k - (lo + l)) = lo + l by omega]
      repeat' split
      all_goals first
        | (exfalso; omega)
        | exact Int.le_refl _
        | exact hlo' _ (by omega) (by omega)
        | exact Int.le_of_lt (hhi' _ (by omega) (by omega))
        | exact hs' _ _ (by omega) (by omega) (by omega)
end
theorem set_lst (o : Nat) : ∀ (M B A C : List Keyed) (j : Nat) (arr : Array Keyed), arr.toList = A ++ B ++ C → A.length = o + j → B.length = M.length →
    ((M.zipIdx j).foldl (fun a (x : Keyed × Nat) => a.setIfInBounds (o + x.2) x.1) arr).toList = A ++ M ++ C
  | [], B, A, C, j, arr, h1, h2, h3 => by
    have : B = [] := List.length_eq_zero_iff.mp h3
    subst this
    exact h1
  | p :: M, B, A, C, j, arr, h1, h2, h3 => by
    cases B with
    | nil => simp at h3
    | cons b B =>
      rw [List.zipIdx_cons, List.foldl_cons]
      have := set_lst o M B (A ++ [p]) C (j + 1) (arr.setIfInBounds (o + j) p) (by
        rw [Array.toList_setIfInBounds, h1, ← h2]
        simp) (by simp [h2]; omega) (by simpa using h3)
      rw [this]
      simp
theorem sg_list {xs : Array Keyed} {lo hi : Nat} (h : Sgm xs lo hi) (hh : hi ≤ xs.size) : ((xs.toList.take hi).drop lo).Pairwise lek := by
  refine List.pairwise_iff_getElem.mpr fun i j hi' hj' hij => ?_
  rw [List.length_drop, List.length_take] at hi' hj'
  have e : xs.toList.length = xs.size := by simp
  have := h (lo + i) (lo + j) (by omega) (by omega) (by omega)
  rw [K_ky (by omega), K_ky (by omega)] at this
  rw [List.getElem_drop, List.getElem_drop, List.getElem_take, List.getElem_take]
  simpa [lek] using this
theorem list_sg {xs : Array Keyed} (h : xs.toList.Pairwise lek) : SortedTo xs xs.size := by
  intro i j hij hj
  rw [K_ky (by omega), K_ky hj]
  rcases Nat.lt_or_eq_of_le hij with h1 | rfl
  · have := List.pairwise_iff_getElem.mp h i j (by simpa using (by omega : i < xs.size)) (by simpa using hj) h1
    simpa [lek] using this
  · exact Int.le_refl _
section
variable {prog : Program} {w : World} {A : Around} {E : Value → Shared → Prop} {s : Shared} {a₀ b0 : Array Keyed} {lo : Nat} {pd : Array (Nat × Nat × Nat)}
theorem wpS_set {σ : Type} {M : Model} {x : σ} {Q : PUnit → σ → Prop} {st : σ} (h : Q ⟨⟩ x) : wpS M A E s (set x : StateT σ Sem PUnit) Q st := by
  unfold wpS; rw [StateT.run_set]; exact wpAny_pure ⟨rfl, h⟩
theorem wpS_merge {st : SortSt} {n1 n2 pw q : Nat} {Q : Bool → SortSt → Prop} (h0 : IntKeys a₀) (hp : (arrOf st).Perm a₀) (hk : kindOf st = oneType') (hf : failedOf st = none) (hpd : pendingOf st = #[(0, n1, pw), (n1, n2, q)])
    (hn : n1 + n2 = a₀.size) (hn1 : 1 ≤ n1) (hn2 : 1 ≤ n2) (s1 : Sgm (arrOf st) 0 n1) (s2 : Sgm (arrOf st) n1 a₀.size)
    (h : ∀ st', (arrOf st').Perm a₀ → failedOf st' = none → (pendingOf st').size ≤ 1 → SortedTo (arrOf st') a₀.size → Q true st') : wpS (model prog w) A E s (mergeAt' 0) Q st := by
  have hsz : (arrOf st).size = a₀.size := hp.size_eq
  have hI : ∀ p, p ∈ (arrOf st).toList → isI p := fun p hm => h0 p ((Array.perm_iff_toList_perm.mp hp).mem_iff.mp hm)
  have el : (arrOf st).toList.length = a₀.size := by simpa using hsz
  obtain ⟨L1, hL1⟩ : ∃ l, (arrOf st).toList.take n1 = l := ⟨_, rfl⟩
  obtain ⟨L2, hL2⟩ : ∃ l, (arrOf st).toList.drop n1 = l := ⟨_, rfl⟩
  have hL : (arrOf st).toList = L1 ++ L2 := by rw [← hL1, ← hL2, List.take_append_drop]
  have l1 : L1.length = n1 := by rw [← hL1, List.length_take]; omega
  have l2 : L2.length = n2 := by rw [← hL2, List.length_drop]; omega
  have p1 : L1.Pairwise lek := by
    have := sg_list s1 (by omega)
    rwa [List.drop_zero, hL1] at this
  have p2 : L2.Pairwise lek := by
    have := sg_list s2 (by omega)
    rwa [List.take_of_length_le (by omega), hL2] at this
  obtain ⟨b, B', hb⟩ : ∃ b B', L2 = b :: B' := by
    cases L2 with
    | nil => simp at l2; omega
    | cons b B' => exact ⟨b, B', rfl⟩
  have gL1 : ∀ i (h : i < L1.length), (arrOf st)[0 + i]? = some L1[i] := fun i h => by
    rw [Nat.zero_add, ← Array.getElem?_toList, hL, List.getElem?_append_left h]; exact List.getElem?_eq_getElem _
  have gL2 : ∀ i (h : i < L2.length), (arrOf st)[n1 + i]? = some L2[i] := fun i h => by
    rw [← Array.getElem?_toList, hL, List.getElem?_append_right (by omega), show n1 + i - L1.length = i by omega]; exact List.getElem?_eq_getElem _
  have gb : (arrOf st)[n1]? = some b := by
    have := gL2 0 (by omega)
    rw [Nat.add_zero] at this
    rw [this]
    simp [hb]
  have mL1 : ∀ p, p ∈ L1 → isI p := fun p hm => hI p (by rw [hL]; exact List.mem_append_left _ hm)
  have mL2 : ∀ p, p ∈ L2 → isI p := fun p hm => hI p (by rw [hL]; exact List.mem_append_right _ hm)
  have bL2 : ∀ y, y ∈ L2 → lek b y := by rw [hb] at p2 ⊢; exact le_cons p2
  have whole : (∀ x, x ∈ L1 → ∀ y, y ∈ L2 → lek x y) → SortedTo (arrOf st) a₀.size := fun hx => by
    rw [← hsz]
    exact list_sg (by rw [hL]; exact List.pairwise_append.mpr ⟨p1, p2, hx⟩)
  refine wpS_bind (wpS_get ?_)
  have e1 : (pendingOf st)[0]? = some (0, n1, pw) := by rw [hpd]; rfl
  have e2 : (pendingOf st)[0 + 1]? = some (n1, n2, q) := by rw [hpd]; rfl
  dsimp only
  rw [e1, e2]
  dsimp only
  refine wpS_bind (wpS_set ?_)
  have hpe : (((pendingOf st).setIfInBounds 0 (0, n1 + n2, pw)).eraseIdxIfInBounds (0 + 1)).size ≤ 1 := by rw [hpd]; simp [Array.eraseIdxIfInBounds]
  refine wpS_bind (wpS_elem gb ?_)
  refine wpS_bind (wpS_galL (ra := L1) hk (mL2 b (by rw [hb]; exact List.mem_cons_self)) gL1 mL1 p1 l1.symm (by omega) fun xs ys exy hxs hys => ?_)
  dsimp only
  have hlen : xs.length + ys.length = n1 := by rw [← l1, exy, List.length_append]
  have hxb : ∀ x, x ∈ xs → lek x b := fun x hx => by
    have : ky x ≤ ky b := by simpa [bey] using hxs x hx
    exact this
  by_cases hy0 : n1 - xs.length = 0
  · rw [if_pos (by simpa using hy0)]
    have h8 : ys = [] := List.length_eq_zero_iff.mp (by omega)
    refine wpS_pure (h _ hp hf hpe (whole fun x hx y hy => ?_))
    rw [exy, h8, List.append_nil] at hx
    exact lek_trans (hxb x hx) (bL2 y hy)
  rw [if_neg (by simpa using hy0)]
  obtain ⟨pl, hpl⟩ : ∃ pl, ys[ys.length - 1]? = some pl := ⟨_, List.getElem?_eq_getElem (by omega)⟩
  have gpl : (arrOf st)[0 + xs.length + (n1 - xs.length) - 1]? = some pl := by
    have := gL1 (n1 - 1) (by omega)
    rw [show 0 + xs.length + (n1 - xs.length) - 1 = 0 + (n1 - 1) by omega, this, ← List.getElem?_eq_getElem, exy, List.getElem?_append_right (by omega), ← hpl]
    congr 1; omega
  have mpl : pl ∈ ys := List.mem_of_getElem? hpl
  have mpl1 : pl ∈ L1 := by rw [exy]; exact List.mem_append_right _ mpl
  have hle : ∀ x, x ∈ L1 → lek x pl := fun x hx => by
    obtain ⟨i, hi, rfl⟩ := List.getElem_of_mem hx
    have e3 : L1[n1 - 1]? = some pl := by rw [exy, List.getElem?_append_right (by omega), ← hpl]; congr 1; omega
    obtain ⟨h4, e4⟩ := List.getElem?_eq_some_iff.mp e3
    rw [← e4]
    rcases Nat.lt_or_eq_of_le (show i ≤ n1 - 1 by omega) with h5 | rfl
    · exact List.pairwise_iff_getElem.mp p1 i (n1 - 1) hi h4 h5
    · exact Int.le_refl _
  refine wpS_bind (wpS_elem gpl ?_)
  refine wpS_bind (wpS_galL (ra := L2) hk (mL1 pl mpl1) gL2 mL2 p2 l2.symm (by omega) fun xs2 ys2 exy2 hxs2 hys2 => ?_)
  dsimp only
  have hlen2 : xs2.length + ys2.length = n2 := by rw [← l2, exy2, List.length_append]
  have hyl : ∀ y, y ∈ ys2 → lek pl y := fun y hy => by
    have : ky pl ≤ ky y := by simpa [bey] using hys2 y hy
    exact this
  by_cases hx0 : xs2.length = 0
  · rw [if_pos (by simpa using hx0)]
    have h8 : xs2 = [] := List.length_eq_zero_iff.mp hx0
    refine wpS_pure (h _ hp hf hpe (whole fun x hx y hy => ?_))
    rw [exy2, h8, List.nil_append] at hy
    exact lek_trans (hle x hx) (hyl y hy)
  rw [if_neg (by simpa using hx0)]
  have eX : ((arrOf st).extract (0 + xs.length) n1).toList = ys := by
    rw [Array.toList_extract, List.extract_eq_take_drop, ← List.drop_take, hL1, exy, Nat.zero_add, List.drop_left' rfl]
  have eY : ((arrOf st).extract n1 (n1 + xs2.length)).toList = xs2 := ext_mid (hL2.trans exy2)
  have szX : ((arrOf st).extract (0 + xs.length) n1).size = ys.length := by rw [← Array.length_toList, eX]
  have szY : ((arrOf st).extract n1 (n1 + xs2.length)).size = xs2.length := by rw [← Array.length_toList, eY]
  have q1 : ys.Pairwise lek := by rw [exy] at p1; exact (List.pairwise_append.mp p1).2.1
  have q2 : xs2.Pairwise lek := by rw [exy2] at p2; exact (List.pairwise_append.mp p2).1
  have hfX : ∀ p, ((arrOf st).extract n1 (n1 + xs2.length))[0]? = some p → ∀ y, y ∈ ((arrOf st).extract (0 + xs.length) n1).toList → lek p y := fun p hp y hy => by
    rw [eX] at hy
    rw [← Array.getElem?_toList, eY] at hp
    have : p = b := by
      cases xs2 with
      | nil => simp at hx0
      | cons c cs =>
        rw [hb] at exy2
        have := (List.cons.inj exy2).1
        simp at hp
        rw [← hp, this]
    subst this
    have : ky p < ky y := by simpa [bey] using hys y hy
    exact Int.le_of_lt this
  have hlX : ∀ x, ((arrOf st).extract (0 + xs.length) n1)[((arrOf st).extract (0 + xs.length) n1).size - 1]? = some x → ∀ y, y ∈ ((arrOf st).extract n1 (n1 + xs2.length)).toList → ky y < ky x := fun x hx y hy => by
    rw [eY] at hy
    rw [szX, ← Array.getElem?_toList, eX, hpl] at hx
    obtain rfl := Option.some.inj hx
    simpa [bey] using hxs2 y hy
  have fin : ∀ (M : Array Keyed) (st' : SortSt), kindOf st' = kindOf st ∧ arrOf st' = arrOf st ∧ failedOf st' = failedOf st → Okm lek (ys ++ xs2) M.toList → ∀ st'' : SortSt, failedOf st'' = failedOf st' → pendingOf st'' = pendingOf st' →
      arrOf st'' = M.toList.zipIdx.foldl (fun a (x : Keyed × Nat) => a.setIfInBounds (0 + xs.length + x.2) x.1) (arrOf st') → (arrOf st'').Perm a₀ ∧ failedOf st'' = none ∧ SortedTo (arrOf st'') a₀.size := by
    intro M st' hkp hok st'' e1 e2 e3
    have hl : M.toList.length = ys.length + xs2.length := by rw [hok.1.length_eq, List.length_append]
    have e4 : (arrOf st'').toList = xs ++ M.toList ++ ys2 := by
      rw [e3]
      refine set_lst _ M.toList (ys ++ xs2) xs ys2 0 (arrOf st') ?_ (by omega) (by rw [List.length_append]; omega)
      rw [hkp.2.1, hL, exy, exy2]
      simp
    have e5 : (arrOf st'').toList.Perm (arrOf st).toList := by
      rw [e4, hL, exy, exy2]
      have := (hok.1.append_left xs).append_right ys2
      simpa [List.append_assoc] using this
    have pm : (arrOf st'').Perm a₀ := (Array.perm_iff_toList_perm.mpr e5).trans hp
    refine ⟨pm, e1.trans (hkp.2.2.trans hf), ?_⟩
    rw [← pm.size_eq]
    refine list_sg ?_
    rw [e4]
    have hM : ∀ y, y ∈ M.toList → y ∈ ys ∨ y ∈ xs2 := fun y hy => List.mem_append.mp (hok.1.mem_iff.mp hy)
    have p1' := p1
    have p2' := p2
    rw [exy] at p1'
    rw [exy2] at p2'
    refine List.pairwise_append.mpr ⟨List.pairwise_append.mpr ⟨(List.pairwise_append.mp p1').1, hok.2, fun x hx y hy => ?_⟩, (List.pairwise_append.mp p2').2.1, fun x hx y hy => ?_⟩
    · rcases hM y hy with hy | hy
      · exact (List.pairwise_append.mp p1').2.2 x hx y hy
      · exact lek_trans (hxb x hx) (bL2 y (by rw [exy2]; exact List.mem_append_left _ hy))
    · rcases List.mem_append.mp hx with hx | hx
      · exact lek_trans (hle x (by rw [exy]; exact List.mem_append_left _ hx)) (hyl y hy)
      · rcases hM x hx with hx | hx
        · exact lek_trans (hle x (by rw [exy]; exact List.mem_append_right _ hx)) (hyl y hy)
        · exact (List.pairwise_append.mp p2').2.2 x hx y hy
  split
  · refine wpS_bind (wpS_mLo hk (by rw [eX]; exact fun p hm => mL1 p (by rw [exy]; exact List.mem_append_right _ hm)) (by rw [eY]; exact fun p hm => mL2 p (by rw [exy2]; exact List.mem_append_left _ hm))
      (by rw [eX]; exact q1) (by rw [eY]; exact q2) (by rw [szX]; omega) (by rw [szY]; omega) hfX hlX fun M st' hkp hok => ?_)
    refine wpS_bind (wpS_modify ?_)
    refine wpS_bind (wpS_get ?_)
    rw [eX, eY] at hok
    obtain ⟨r1, r2, r3⟩ := fin M st' ⟨hkp.1, hkp.2.1, hkp.2.2.2⟩ hok (setArr st' (M.toList.zipIdx.foldl (fun a (x : Keyed × Nat) => a.setIfInBounds (0 + xs.length + x.2) x.1) (arrOf st'))) rfl rfl rfl
    have hfs : failedOf st' = none := hkp.2.2.2.trans hf
    have hps : (pendingOf st').size ≤ 1 := by rw [hkp.2.2.1]; exact hpe
    refine wpS_pure ?_
    show Q ((failedOf st').isNone) _
    have e9 : (failedOf st').isNone = true := by rw [hfs]; rfl
    rw [e9]
    exact h _ r1 r2 hps r3
  · refine wpS_bind (wpS_mHi hk (by rw [eX]; exact fun p hm => mL1 p (by rw [exy]; exact List.mem_append_right _ hm)) (by rw [eY]; exact fun p hm => mL2 p (by rw [exy2]; exact List.mem_append_left _ hm))
      (by rw [eX]; exact q1) (by rw [eY]; exact q2) (by rw [szX]; omega) (by rw [szY]; omega) hfX (fun x hx y hy => Int.le_of_lt (hlX x hx y hy)) fun M st' hkp hok => ?_)
    refine wpS_bind (wpS_modify ?_)
    refine wpS_bind (wpS_get ?_)
    rw [eX, eY] at hok
    obtain ⟨r1, r2, r3⟩ := fin M st' ⟨hkp.1, hkp.2.1, hkp.2.2.2⟩ hok (setArr st' (M.toList.zipIdx.foldl (fun a (x : Keyed × Nat) => a.setIfInBounds (0 + xs.length + x.2) x.1) (arrOf st'))) rfl rfl rfl
    have hfs : failedOf st' = none := hkp.2.2.2.trans hf
    have hps : (pendingOf st').size ≤ 1 := by rw [hkp.2.2.1]; exact hpe
    refine wpS_pure ?_
    show Q ((failedOf st').isNone) _
    have e9 : (failedOf st').isNone = true := by rw [hfs]; rfl
    rw [e9]
    exact h _ r1 r2 hps r3
end
def RunD (a₀ : Array Keyed) (st : SortSt) : Prop := (arrOf st).Perm a₀ ∧ kindOf st = oneType' ∧ failedOf st = none ∧
  ((pendingOf st).size ≤ 1 ∧ SortedTo (arrOf st) a₀.size ∨ ∃ n1 n2 pw, pendingOf st = #[(0, n1, pw), (n1, n2, 0)] ∧ n1 + n2 = a₀.size ∧ 1 ≤ n1 ∧ 1 ≤ n2 ∧ Sgm (arrOf st) 0 n1 ∧ Sgm (arrOf st) n1 a₀.size)
def RunI (a₀ : Array Keyed) (mr x : Nat) (c : Option Unit × Nat) (st : SortSt) : Prop :=
  (x = 0 ∧ c = (none, 0) ∧ SBase a₀ st) ∨ (x = 1 ∧ ∃ n, c = (none, n) ∧ mr ≤ n ∧ n < a₀.size ∧ SBm a₀ 0 #[] #[(0, n, 0)] st ∧ Sgm (arrOf st) 0 n) ∨ (1 ≤ x ∧ c = (none, a₀.size) ∧ RunD a₀ st)
section
variable {prog : Program} {w : World} {A : Around} {E : Value → Shared → Prop} {s : Shared} {a₀ : Array Keyed}
theorem minRun_mid {n : Nat} (h1 : 64 ≤ n) (h2 : n < 128) : minRun' n n 0 = n / 2 + n % 2 := by
  obtain ⟨f, hf⟩ : ∃ f, n = f + 1 + 1 := ⟨n - 2, by omega⟩
  have : minRun' (f + 1 + 1) n 0 = n / 2 + n % 2 := by
    rw [minRun'_succ, if_neg (by omega), minRun'_succ, if_pos (by omega)]
    omega
  rwa [← hf] at this
theorem wpS_sortMid {st : SortSt} {Q : Unit → SortSt → Prop} (h0 : IntKeys a₀) (hd : Dk a₀) (hB : SBase a₀ st) (h64 : 64 ≤ a₀.size) (h128 : a₀.size < 128)
    (h : ∀ st', (arrOf st').Perm a₀ → failedOf st' = none → SortedTo (arrOf st') a₀.size → Q () st') : wpS (model prog w) A E s sortRuns' Q st := by
  rw [sortRuns'_eq]
  refine wpS_bind (wpS_get ?_)
  dsimp only
  simp only [hB.size, minRun_mid h64 h128]
  generalize hmr : a₀.size / 2 + a₀.size % 2 = mr
  refine wpS_bind (wpS_mono (wpS_forRange
    (I := fun x c st' => RunI a₀ mr x c st')
    (Q := fun c st' => c = (none, a₀.size) ∧ RunD a₀ st') ?step ?fin (.inl ⟨rfl, rfl, hB⟩)) ?post)
  case fin =>
    rintro c st' (⟨hx, _, _⟩ | ⟨hx, _⟩ | ⟨_, hc, hD⟩)
    · omega
    · omega
    · exact ⟨hc, hD⟩
  case step =>
    rintro x c st' _ hx (⟨rfl, rfl, hB'⟩ | ⟨rfl, n, rfl, hn1, hn2, hS, hs1⟩ | ⟨hx1, rfl, hD⟩)
    · dsimp only
      rw [if_neg (by omega)]
      have hS0 : SBm a₀ 0 #[] #[] st' := ⟨hB'.perm, hB'.kind, hB'.failed, hB'.pend, fun i hi => by omega⟩
      refine wpS_bind (wpS_countS h0 hd (by omega) (by omega) hS0 fun m st2 hB2 hm1 hm2 hs2 => ?_)
      rw [Nat.zero_add] at hs2
      dsimp only
      have push : ∀ (n : Nat) (st3 : SortSt), SBm a₀ 0 #[] #[] st3 → mr ≤ n → n ≤ a₀.size → Sgm (arrOf st3) 0 n → RunI a₀ mr (0 + 1) (none, 0 + n) (setPending st3 ((pendingOf st3).push (0, n, 0))) := by
        intro n st3 hB3 h1 h2 h3
        have hp3 : (pendingOf st3).push (0, n, 0) = #[(0, n, 0)] := by rw [hB3.pend]; rfl
        by_cases h4 : n = a₀.size
        · subst h4
          refine .inr (.inr ⟨Nat.le_refl 1, by rw [Nat.zero_add], hB3.perm, hB3.kind, hB3.failed, .inl ⟨?_, fun i j hij hj => h3 i j (Nat.zero_le _) hij hj⟩⟩)
          show ((pendingOf st3).push _).size ≤ 1
          rw [hp3]; exact Nat.le_refl 1
        · exact .inr (.inl ⟨rfl, n, by rw [Nat.zero_add], h1, by omega, ⟨hB3.perm, hB3.kind, hB3.failed, hp3, fun i hi => by omega⟩, h3⟩)
      by_cases hlt : m < mr
      · rw [if_pos hlt]
        refine wpS_bind (wpS_lift (wpAny_rule ⟨rfl, ?_⟩))
        rw [show min (a₀.size - 0) mr = mr by omega]
        refine wpS_bind (wpS_binS h0 (by omega) (by omega) hm1 hB2 (by rw [Nat.zero_add]; exact hs2) fun st3 hB3 hs3 => ?_)
        rw [Nat.zero_add] at hs3
        simp only [Bool.not_true, Bool.false_eq_true, if_false]
        refine wpS_bind (wpS_get ?_)
        have hb : (pendingOf st3).back? = none := by rw [hB3.pend]; rfl
        rw [hb]
        dsimp only
        exact wpS_bind (wpS_modify (wpS_pure (push mr st3 hB3 (Nat.le_refl _) (by omega) hs3)))
      · rw [if_neg hlt]
        refine wpS_bind (wpS_get ?_)
        have hb : (pendingOf st2).back? = none := by rw [hB2.pend]; rfl
        rw [hb]
        dsimp only
        exact wpS_bind (wpS_modify (wpS_pure (push m st2 hB2 (by omega) (by omega) hs2)))
    · dsimp only
      rw [if_neg (by omega)]
      have hS0 : SBm a₀ n (arrOf st') #[(0, n, 0)] st' := ⟨hS.perm, hS.kind, hS.failed, hS.pend, fun i hi => rfl⟩
      have hsz := hS.size
      refine wpS_bind (wpS_countS h0 hd (by omega) (by omega) hS0 fun m st2 hB2 hm1 hm2 hs2 => ?_)
      dsimp only
      have s1of : ∀ st3 : SortSt, SBm a₀ n (arrOf st') #[(0, n, 0)] st3 → Sgm (arrOf st3) 0 n := fun st3 hB3 i j hi hij hj => by
        rw [K_congr (hB3.frame i (by omega)), K_congr (hB3.frame j hj)]
        exact hs1 i j hi hij hj
      have tail : ∀ (k : Nat) (st3 : SortSt), SBm a₀ n (arrOf st') #[(0, n, 0)] st3 → k = a₀.size - n → Sgm (arrOf st3) n (n + k) → ∀ pw : Nat, ∀ st4 : SortSt, arrOf st4 = arrOf st3 → kindOf st4 = kindOf st3 → failedOf st4 = failedOf st3 → pendingOf st4 = #[(0, n, pw), (n, k, 0)] →
          RunI a₀ mr (1 + 1) (none, n + k) st4 := by
        intro k st3 hB3 hk hs3 pw st4 e1 e2 e3 e4
        have hnk : n + k = a₀.size := by omega
        refine .inr (.inr ⟨by omega, by rw [hnk], by rw [e1]; exact hB3.perm, by rw [e2]; exact hB3.kind, by rw [e3]; exact hB3.failed, .inr ⟨n, k, pw, e4, hnk, by omega, by omega, ?_, ?_⟩⟩)
        · rw [e1]; exact s1of st3 hB3
        · rw [e1, ← hnk]; exact hs3
      have brk : ∀ (st3 : SortSt), SBm a₀ n (arrOf st') #[(0, n, 0)] st3 → (pendingOf st3).back? = some (0, n, 0) := fun st3 hB3 => by rw [hB3.pend]; rfl
      have sz1 : ∀ (st3 : SortSt), SBm a₀ n (arrOf st') #[(0, n, 0)] st3 → ¬ (pendingOf st3).size > 1 := fun st3 hB3 => by rw [hB3.pend]; exact Nat.lt_irrefl 1
      have pd2 : ∀ (st3 : SortSt), SBm a₀ n (arrOf st') #[(0, n, 0)] st3 → ∀ pw k, ((pendingOf st3).modify ((pendingOf st3).size - 1) fun (x : Nat × Nat × Nat) => (x.1, x.2.1, pw)).push (n, k, 0) = #[(0, n, pw), (n, k, 0)] := fun st3 hB3 pw k => by rw [hB3.pend]; rfl
      by_cases hlt : m < mr
      · rw [if_pos hlt]
        refine wpS_bind (wpS_lift (wpAny_rule ⟨rfl, ?_⟩))
        rw [show min (a₀.size - n) mr = a₀.size - n by omega]
        refine wpS_bind (wpS_binS h0 (by omega) (by omega) hm1 hB2 hs2 fun st3 hB3 hs3 => ?_)
        simp only [Bool.not_true, Bool.false_eq_true, if_false]
        refine wpS_bind (wpS_get ?_)
        rw [brk st3 hB3]
        dsimp only
        refine wpS_bind (wpS_mono (wpS_forRange (I := fun x c st'' => st'' = st3 ∧ c = (none, ())) (Q := fun c st'' => st'' = st3 ∧ c = (none, ())) ?_ (fun _ _ hh => hh) ⟨rfl, rfl⟩) ?_)
        · rintro x c st'' _ _ ⟨rfl, rfl⟩
          refine wpS_bind (wpS_get ?_)
          rw [if_neg (sz1 _ hB3)]
          exact wpS_pure ⟨rfl, rfl⟩
        · rintro c st'' ⟨rfl, rfl⟩
          dsimp only
          refine wpS_bind (wpS_modify ?_)
          exact wpS_bind (wpS_modify (wpS_pure (tail (a₀.size - n) st'' hB3 rfl hs3 _ _ rfl rfl rfl (pd2 _ hB3 _ _))))
      · rw [if_neg hlt]
        refine wpS_bind (wpS_get ?_)
        rw [brk st2 hB2]
        dsimp only
        refine wpS_bind (wpS_mono (wpS_forRange (I := fun x c st'' => st'' = st2 ∧ c = (none, ())) (Q := fun c st'' => st'' = st2 ∧ c = (none, ())) ?_ (fun _ _ hh => hh) ⟨rfl, rfl⟩) ?_)
        · rintro x c st'' _ _ ⟨rfl, rfl⟩
          refine wpS_bind (wpS_get ?_)
          rw [if_neg (sz1 _ hB2)]
          exact wpS_pure ⟨rfl, rfl⟩
        · rintro c st'' ⟨rfl, rfl⟩
          dsimp only
          refine wpS_bind (wpS_modify ?_)
          exact wpS_bind (wpS_modify (wpS_pure (tail m st'' hB2 (by omega) hs2 _ _ rfl rfl rfl (pd2 _ hB2 _ _))))
    · dsimp only
      rw [if_pos (Nat.le_refl _)]
      exact wpS_pure ⟨rfl, hD⟩
  case post =>
    rintro c st' ⟨rfl, hp, hk, hf, hD⟩
    dsimp only
    refine wpS_bind (wpS_mono (wpS_forRange (I := fun x c st'' => c = (none, ()) ∧ (arrOf st'').Perm a₀ ∧ failedOf st'' = none ∧
        ((pendingOf st'').size ≤ 1 ∧ SortedTo (arrOf st'') a₀.size ∨ x = 0 ∧ kindOf st'' = oneType' ∧ ∃ n1 n2 pw, pendingOf st'' = #[(0, n1, pw), (n1, n2, 0)] ∧ n1 + n2 = a₀.size ∧ 1 ≤ n1 ∧ 1 ≤ n2 ∧ Sgm (arrOf st'') 0 n1 ∧ Sgm (arrOf st'') n1 a₀.size))
      (Q := fun c st'' => c = (none, ()) ∧ (arrOf st'').Perm a₀ ∧ failedOf st'' = none ∧ SortedTo (arrOf st'') a₀.size) ?_ ?_ ⟨rfl, hp, hf, hD.imp id fun hh => ⟨rfl, hk, hh⟩⟩) ?_)
    · rintro x c st'' _ _ ⟨rfl, hp, hf, (⟨hD1, hD2⟩ | ⟨rfl, hk, n1, n2, pw, hpd, a1, a2, a3, a4, a5⟩)⟩
      · refine wpS_bind (wpS_get ?_)
        rw [if_pos hD1]
        exact wpS_pure ⟨rfl, hp, hf, hD2⟩
      · refine wpS_bind (wpS_get ?_)
        have hsz2 : (pendingOf st'').size = 2 := by rw [hpd]; rfl
        rw [if_neg (by omega)]
        simp only [hsz2, Nat.sub_self, gt_iff_lt, Nat.lt_irrefl, if_false, Option.any_none, Bool.false_eq_true]
        refine wpS_bind (wpS_merge h0 hp hk hf hpd a1 a2 a3 a4 a5 fun st3 b1 b2 b3 b4 => ?_)
        simp only [Bool.not_true, Bool.false_eq_true, if_false]
        exact wpS_pure ⟨rfl, b1, b2, .inl ⟨b3, b4⟩⟩
    · rintro c st'' ⟨hc, hp, hf, (⟨hD1, hD2⟩ | ⟨hx, _⟩)⟩
      · exact ⟨hc, hp, hf, hD2⟩
      · omega
    · rintro c st'' ⟨rfl, hp, hf, hD⟩
      exact wpS_pure (h _ hp hf hD)
end
theorem ky_ints : ∀ {vs : List Value} {ns : List Int}, IntsAre vs ns → (vs.zip vs).map ky = ns := by
  intro vs ns h
  induction h with
  | nil => rfl
  | cons n t _ ih => rw [List.zip_cons_cons, List.map_cons, ih]; rfl
theorem dk_ints {vs : List Value} {ns : List Int} (h : IntsAre vs ns) (hn : ns.Nodup) : Dk (pairsOf vs) := by
  unfold Dk; rw [pairsOf_toList, ky_ints h]; exact hn
section
variable {prog : Program} {w : World} {A : Around} {E : Value → Shared → Prop} {s : Shared}
theorem sort_mid {a : Addr} {vs : List Value} {ns : List Int} {n : Nat} {P : Fin → Shared → Prop} (ho : s.heap.get? a = some (seqObj "list" vs.toArray n))
    (hI : IntsAre vs ns) (hd : ns.Nodup) (h64 : 64 ≤ vs.length) (h128 : vs.length < 128)
    (h : ∀ (out : Array Value) (ns' : List Int), IntsAre out.toList ns' → ns'.Perm ns → ns'.Pairwise (· ≤ ·) → P (.done (.ret .none)) { s with heap := sortedHeap s.heap a vs out }) :
    wpAny (model prog w) A (Builtin.«list.sort» ⟨[.ref a], []⟩) P E s := by
  rw [list_sort_plain]
  have ha : a < s.heap.objs.size := Heap.lt_size ho
  obtain ⟨v₁, v₂, rest, rfl⟩ : ∃ v₁ v₂ rest, vs = v₁ :: v₂ :: rest := by
    match vs, h64 with
    | [], h => simp at h
    | [_], h => simp at h
    | v₁ :: v₂ :: rest, _ => exact ⟨v₁, v₂, rest, rfl⟩
  generalize hvs : v₁ :: v₂ :: rest = vs at *
  have big : ¬ vs.toArray.size < 2 := by simp; omega
  refine wpAny_bind (listItems_at ho rfl (wpAny_bind (listUpdate_at ho rfl ?_)))
  obtain ⟨ep, ho1⟩ : ∃ ep, (s.heap.update a (Obj.mapSeq fun _ => #[])).get? a = some (seqObj "list" #[] ep) := ⟨_, get?_update_seq ho (fun _ => #[])⟩
  refine wpAny_bind (seqEpoch_at ho1 rfl (wpAny_bind (wpAny_newTuple (wpAny_bind (wpAny_newList (wpAny_holding ?_))))))
  have ho6 : (((s.heap.update a (Obj.mapSeq fun _ => #[])).push (seqObj "tuple" vs.toArray 0)).push (seqObj "list" #[] 0)).get? a = some (seqObj "list" #[] ep) := by
    rw [Heap.get?_push_ne _ _ _ (by rw [size_push', Heap.size_update]; exact Nat.ne_of_lt (Nat.lt_succ_of_lt ha)), Heap.get?_push_ne _ _ _ (by rw [Heap.size_update]; exact Nat.ne_of_lt ha)]
    exact ho1
  show wpAny (model prog w) A _ P E { s with heap := ((s.heap.update a (Obj.mapSeq fun _ => #[])).push (seqObj "tuple" vs.toArray 0)).push (seqObj "list" #[] 0) }
  dsimp only
  rw [if_neg big, if_neg big]
  subst hvs
  rw [keyKind_ints hI]
  refine wpAny_bind (wpAny_pure ?_)
  refine wpAny_bind (wpAny_mono (wpS_sortMid (a₀ := pairsOf (v₁ :: v₂ :: rest)) (st := SortSt.mk' oneType' ((v₁ :: v₂ :: rest).toArray.zip (v₁ :: v₂ :: rest).toArray) #[] 7 none)
    (Q := fun _ st' => (arrOf st').Perm (pairsOf (v₁ :: v₂ :: rest)) ∧ failedOf st' = none ∧ SortedTo (arrOf st') (pairsOf (v₁ :: v₂ :: rest)).size)
    hI.intKeys (dk_ints hI hd) ⟨Array.Perm.refl _, rfl, rfl, rfl⟩ (by rw [pairsOf_size]; exact h64) (by rw [pairsOf_size]; exact h128) fun st' a1 a2 a3 => ⟨a1, a2, a3⟩) ?_ fun _ _ e => e)
  rintro ⟨⟨⟩, st'⟩ s' ⟨rfl, hp, hf, hs⟩
  dsimp only
  obtain ⟨ns', r1, r2, r3⟩ := sorted_out hI hp hs
  refine wpAny_bind (seqEpoch_at ho6 rfl ?_)
  refine wpAny_bind (listUpdate_at ho6 rfl ?_ (hsz2 := by refine Nat.le_trans (Nat.le_of_eq ((Array.size_map ..).trans (hp.size_eq.trans (pairsOf_size _)))) ?_; rw [sizeLine_eq]; omega))
  rw [hf]
  simp only [bne_self_eq_false, Bool.false_eq_true, if_false]
  exact wpAny_pure (h _ ns' r1 r2 r3)
theorem sorted_mid {l : Addr} {vs : List Value} {ns : List Int} {Q : Value → Shared → Prop} (hl : s.heap.IsList l vs.toArray) (hI : IntsAre vs ns) (hd : ns.Nodup) (h64 : 64 ≤ vs.length) (h128 : vs.length < 128)
    (h : ∀ (out : Array Value) (ns' : List Int), IntsAre out.toList ns' → ns'.Perm ns → ns'.Pairwise (· ≤ ·) → Q (.ref (s.heap.objs.size + 1)) { s with heap := sortedAll s.heap vs out }) :
    wpAny (model prog w) A (call (.builtin "sorted") [.ref l]) Q E s := by
  refine Calls.call_function_entry kind_sorted plain_sorted entry_sorted (args_sorted1 _) ?_
  unfold Builtin.«sorted»
  refine wpAny_bind (m := checkCount "sorted" 1 1 _) (wpAny_pure ?_)
  refine wpAny_bind (collect_list hl (wpAny_bind (wpAny_newList ?_)) (by rw [sizeLine_eq]; omega))
  have hz : ((s.heap.push (seqObj "list" #[] 0)).update s.heap.objs.size (Obj.mapSeq (· ++ vs.toArray))).objs.size = s.heap.objs.size + 1 := by rw [Heap.size_update, size_push']
  have hoL : (((s.heap.push (seqObj "list" #[] 0)).update s.heap.objs.size (Obj.mapSeq (· ++ vs.toArray))).push (seqObj "list" vs.toArray 0)).get? (s.heap.objs.size + 1) = some (seqObj "list" vs.toArray 0) := by
    rw [← hz]; exact Heap.get?_push_size _ rfl
  show wpAny _ _ _ _ _ { s with heap := ((s.heap.push (seqObj "list" #[] 0)).update s.heap.objs.size (Obj.mapSeq (· ++ vs.toArray))).push (seqObj "list" vs.toArray 0) }
  rw [hz]
  refine wpAny_bind (wpAny_holding (wpAny_call_entry slot_list_sort ⟨_, hoL, rfl⟩ entry_list_sort (sort_mid hoL hI hd h64 h128 fun out ns' a1 a2 a3 => ⟨_, rfl, ?_⟩) (args_list_sort _)))
  exact wpAny_pure ⟨_, rfl, h out ns' a1 a2 a3⟩
end
end L2
namespace L2
open PySem PySem.Spec PyProof.Rows
def rSortedM (K : PySem.W.Frag) : List V → Hp → VK → Prop := fun xs H Q => ∃ (a : Addr) (ns : List Int), xs = [.ref a] ∧ SqL K H a (ns.map V.int) ∧ ns.Nodup ∧ ns.length < 128 ∧ ∀ (p : Addr) (ms : List Int), H p = none → ms.Perm ns → ms.Pairwise (· ≤ ·) → Q (.ref p) (upd H p (.lst (ms.map V.int)))
theorem call_sortedM {X : Cx} : CallR X (.builtin "sorted") (rSortedM X.K) := by
  intro pins s σ H xs us Q I r h
  obtain ⟨a, ns, e, hq, hd, h128, q⟩ := h
  subst e
  obtain ⟨u, rfl, ru⟩ := vals1 r
  obtain rfl : u = Value.ref a := ru
  obtain ⟨its, rv, pl, hz⟩ := I.list hq
  have hl : its.length = ns.length := by have := rv.length; rw [List.length_map] at this; omega
  rcases Nat.lt_or_ge ns.length 64 with h64 | h64
  · refine sorted_ints pl.isList (ints_are rv) (by omega) fun out ms a1 a2 a3 => ?_
    obtain ⟨e, he⟩ := sortedAll_at s.heap its out
    have hm := a2.length_eq
    exact ⟨.ref (s.heap.objs.size + 1), _, I.laid (a := s.heap.objs.size + 1) (o := .lst (ms.map V.int)) (t' := s.toks) (fun b o hb => sortedAll_old hb) (Nat.le_succ _) (show ObjOk X.prog X.w _ _ _ (.lst (ms.map V.int)) from ⟨by rw [List.length_map]; rw [List.length_map] at hz; omega, out.toList, e, vals_intsA a1, he⟩), rfl, q _ _ (I.hok.fresh (Nat.le_succ _)) a2 a3⟩
  · refine sorted_mid pl.isList (ints_are rv) hd (by omega) (by omega) fun out ms a1 a2 a3 => ?_
    obtain ⟨e, he⟩ := sortedAll_at s.heap its out
    have hm := a2.length_eq
    exact ⟨.ref (s.heap.objs.size + 1), _, I.laid (a := s.heap.objs.size + 1) (o := .lst (ms.map V.int)) (t' := s.toks) (fun b o hb => sortedAll_old hb) (Nat.le_succ _) (show ObjOk X.prog X.w _ _ _ (.lst (ms.map V.int)) from ⟨by rw [List.length_map]; rw [List.length_map] at hz; omega, out.toList, e, vals_intsA a1, he⟩), rfl, q _ _ (I.hok.fresh (Nat.le_succ _)) a2 a3⟩
section
variable {K : PySem.W.Frag} {H : Hp} {Q : VK}
theorem rd_sortedM {a : Addr} {ns : List Int} (h1 : SqL K H a (ns.map V.int)) (hd : ns.Nodup) (h2 : ns.length < 128) (h : ∀ p H' (ms : List Int), Same H H' → H p = none → ms.Perm ns → ms.Pairwise (· ≤ ·) → H' p = some (.lst (ms.map V.int)) → Q (.ref p) H') : rSortedM K [.ref a] H Q := ⟨a, ns, rfl, h1, hd, h2, fun p ms hp a b => h p _ ms (Same.new hp _) hp a b upd_same⟩
end
end L2
set_option maxRecDepth 100000
set_option maxHeartbeats 4000000
namespace L2
open PySem PySem.Spec PyProof.Rows
def irL (lo : Int) (n : Nat) : List Int := (List.range n).map fun i : Nat => lo + (i : Int)
theorem irL_len (lo : Int) (n : Nat) : (irL lo n).length = n := by unfold irL; simp
def tListRng2 (ta : TA) : TE := fun σ H Q => ta σ H fun vs H1 => ∃ i j : Int, vs = [.int i, .int j] ∧ i ≤ j ∧ 0 ≤ i ∧ j ≤ 1000 ∧ ∀ D, H1 D = none → Q (.ref D) (upd H1 D (.lst ((irL i (j - i).toNat).map V.int)))
theorem vals_rangeL {lo : Int} : ∀ {n : Nat} {us : List Value}, us.length = n → (∀ (j : Nat) (v : Value), us[j]? = some v → ∃ t, v = Value.int (lo + (j : Int)) t) → Vals ((irL lo n).map V.int) us := by
  intro n us hl h
  subst hl
  unfold irL
  induction us generalizing lo with
  | nil => exact .nil
  | cons u us ih =>
    rw [List.length_cons, List.range_succ_eq_map, List.map_cons, List.map_cons, List.map_map (f := Nat.succ)]
    refine .cons ?_ ?_
    · obtain ⟨t, rfl⟩ := h 0 u rfl
      exact ⟨t, rfl⟩
    · have := ih (lo := lo + 1) fun j v hv => by
        obtain ⟨t, rfl⟩ := h (j + 1) v hv
        exact ⟨t, by congr 1; omega⟩
      have e : ((fun i : Nat => lo + (i : Int)) ∘ Nat.succ) = fun i : Nat => lo + 1 + (i : Int) := by
        funext i
        show lo + ((i + 1 : Nat) : Int) = _
        omega
      rw [e]
      exact this
section
variable {X : Cx}
theorem pe_listRng2 {a b : Expr} {ta : TA} {p p2 pos pos2 : Pos} (hc : X.calm = true) (hgl : Gl X "list") (hml : X.mg "list" = none) (hg : Gl X "range") (hm : X.mg "range" = none) (ha : PA X [a, b] ta) (hs2 : starEach [a, b] X.env = [(false, eval a X.env), (false, eval b X.env)] := by rfl) (hs3 : starEach [b] X.env = [(false, eval b X.env)] := by rfl)
    (hs : starEach [.Call (.Name "range" p2) [a, b] [] pos2] X.env = [(false, eval (.Call (.Name "range" p2) [a, b] [] pos2) X.env)] := by rfl) :
    PE X (.Call (.Name "list" p) [.Call (.Name "range" p2) [a, b] [] pos2] [] pos) (tListRng2 ta) := by
  intro pins s σ H Q I h
  refine wpAny_Call_Name_kw (ld_blt I hgl hml boot_list ?_ (by decide) (by decide))
  refine PyProof.Rows.callWith_type1 ?_ (by rw [hs]; rfl) rfl
  rw [hs]
  refine Calls.spliced_cons ?_
  refine Call_ (ld_blt I hg hm boot_range (PyProof.Rows.callWith_type1 (thn (ha pos2 pins s σ H _ I h) fun us s1 ⟨vs, H1, I1, r1, q1⟩ => ?_) (by rw [hs2, hs3]) (by rw [hs3]; rfl)))
  obtain ⟨i, j, e, q0, q1, q2, q⟩ := q1
  subst e
  cases r1 with
  | cons r rr =>
    cases rr with
    | cons r' rr =>
    cases rr
    obtain ⟨t, rfl⟩ := r
    obtain ⟨t', rfl⟩ := r'
    refine call_range_2 (Calls.spliced_nil ?_)
    refine call_list_range (n := (j - i).toNat) (I1.ok.hd hc) (IsRange.new ..) (small_one (by omega) (by omega) (by omega) (by omega)) (by rw [rangeSize_one]; split <;> omega) (by omega) fun h' tk acc c' k1 k2 k3 => ?_
    have I2 := I1.kept (h' := s1.heap.push { cls := .type "range", data := .fields #[.int i t, .int j t', .int 1 s1.toks] }) (t' := s1.toks + 1) fun b o e => Heap.get?_push_of_some _ e
    have V0 : Vals ((irL i (j - i).toNat).map V.int) acc.toList := vals_rangeL (by simpa using k3.1) fun k v hv => by
      obtain ⟨t, e⟩ := k3.2 k v (by simpa using hv)
      exact ⟨t, by rw [e]; congr 1; omega⟩
    refine ⟨.ref _, _, I2.laid (t' := tk) k1 (Nat.le_refl _) (show ObjOk X.prog X.w _ h' _ (.lst ((irL i (j - i).toNat).map V.int)) from ⟨by rw [List.length_map, irL_len]; exact Nat.le_of_lt (small1000 (by omega)), acc.toList, c', V0, ?_⟩), rfl, q _ (I2.hok.fresh (Nat.le_refl _))⟩
    simpa using k2
end
section
variable {σ : St} {H : Hp} {Q : VK} {K : PySem.W.Frag}
def kLR2 (vs : List V) (H : Hp) (Q : VK) : Prop := ∃ i j : Int, vs = [.int i, .int j] ∧ i ≤ j ∧ 0 ≤ i ∧ j ≤ 1000 ∧ ∀ D, H D = none → Q (.ref D) (upd H D (.lst ((irL i (j - i).toNat).map V.int)))
theorem rd_listRng2 {ta : TA} (h : ta σ H fun vs H1 => kLR2 vs H1 Q) : tListRng2 ta σ H Q := h
theorem rd_kLR2 {i j : Int} (h0 : i ≤ j) (h1 : 0 ≤ i) (h2 : j ≤ 1000) (h : ∀ D H', Same H H' → H D = none → H' D = some (.lst ((irL i (j - i).toNat).map V.int)) → Q (.ref D) H') : kLR2 [.int i, .int j] H Q := ⟨i, j, rfl, h0, h1, h2, fun D hD => h D _ (Same.new hD _) hD upd_same⟩
end
end L2
set_option exponentiation.threshold 2000
namespace Mth
theorem gcd_fmod (a b : Int) : Int.gcd b (a.fmod b) = Int.gcd a b := by
  rw [Int.fmod_def, Int.sub_eq_add_neg, ← Int.mul_neg, Int.gcd_add_mul_left_right, Int.gcd_comm]
theorem gcd_emod (a b : Int) : Int.gcd b (a % b) = Int.gcd a b := by
  rw [Int.emod_def, Int.sub_eq_add_neg, ← Int.mul_neg, Int.gcd_add_mul_left_right, Int.gcd_comm]
theorem fmod_neg_bounds (a b : Int) (h : b < 0) : b < a.fmod b ∧ a.fmod b ≤ 0 := by
  have e : a.fmod b = - ((-a).fmod (-b)) := by
    rw [Int.neg_fmod_neg]; omega
  have h1 := Int.fmod_nonneg_of_pos (-a) (show 0 < -b by omega)
  have h2 := Int.fmod_lt_of_pos (-a) (show 0 < -b by omega)
  omega
theorem natAbs_fmod_lt (a b : Int) (h : b ≠ 0) : (a.fmod b).natAbs < b.natAbs := by
  rcases Int.lt_or_gt_of_ne h with hb | hb
  · have := fmod_neg_bounds a b hb
    omega
  · have h1 := Int.fmod_nonneg_of_pos a hb
    have h2 := Int.fmod_lt_of_pos a hb
    omega
end Mth
set_option exponentiation.threshold 4000
namespace Mth
end Mth
namespace Mth
end Mth
namespace Mth
end Mth
set_option exponentiation.threshold 4000
namespace Mth
end Mth
namespace Mth
end Mth
set_option exponentiation.threshold 4000
namespace Mth
end Mth
namespace Mth
end Mth
set_option exponentiation.threshold 4000
namespace Mth
end Mth
set_option exponentiation.threshold 4000
namespace Mth
end Mth
set_option exponentiation.threshold 4000
namespace Mth
end Mth
namespace Mth
theorem dvd_apart {q p y : Int} (h : q ∣ p * y) (g : Int.gcd q p = 1) : q ∣ y := by
  rw [← Int.natAbs_dvd_natAbs] at *
  rw [Int.natAbs_mul] at h
  exact Nat.Coprime.dvd_of_dvd_mul_left g h
end Mth
namespace Mth
end Mth
namespace Mth
def eps (a m : Int) (i : Nat) : Int := if m < 2 * (a * i % m) then -1 else 1
def nea (a m : Int) (i : Nat) : Nat := (if m < 2 * (a * i % m) then m - a * i % m else a * i % m).toNat
def hn (m : Int) : Nat := ((m + 1) / 2).toNat
theorem eps_pm (a m : Int) (i : Nat) : eps a m i = 1 ∨ eps a m i = -1 := by unfold eps; split <;> simp
theorem nea_spec {a m : Int} (hm : 0 < m) (om : m % 2 = 1) (i : Nat) : nea a m i < hn m ∧ ∃ k, a * i = eps a m i * (nea a m i : Nat) + m * k := by
  have r0 := Int.emod_nonneg (a * i) (show m ≠ 0 by omega)
  have r1 := Int.emod_lt_of_pos (a * i) hm
  have e := Int.emod_add_mul_ediv (a * i) m
  unfold nea eps hn
  generalize a * i = x at *
  generalize x / m = q at *
  generalize x % m = r at *
  by_cases c : m < 2 * r
  · rw [if_pos c, if_pos c]
    refine ⟨by omega, q + 1, ?_⟩
    rw [show (((m - r).toNat : Nat) : Int) = m - r by omega]
    grind
  · rw [if_neg c, if_neg c]
    refine ⟨by omega, q, ?_⟩
    rw [show ((r.toNat : Nat) : Int) = r by omega]
    omega
theorem hn_le {m : Int} (hm : 0 < m) (om : m % 2 = 1) {i : Nat} (h : i < hn m) : 2 * (i : Int) < m := by unfold hn at h; omega
theorem dvd_small {m x : Int} (h : m ∣ x) (h0 : 0 ≤ x) (h1 : x < m) : x = 0 := by
  obtain ⟨k, rfl⟩ := h
  have h2 : k < 1 := Int.lt_of_mul_lt_mul_left (a := m) (by omega) (by omega)
  by_cases c : k < 0
  · have : m * k ≤ m * (-1) := Int.mul_le_mul_of_nonneg_left (by omega) (by omega)
    omega
  · have : k = 0 := by omega
    rw [this, Int.mul_zero]
theorem nea_inj {a m : Int} (hm : 0 < m) (om : m % 2 = 1) (hg : Int.gcd a m = 1) {i j : Nat} (hi : i < hn m) (hj : j < hn m) (e : nea a m i = nea a m j) : i = j := by
  obtain ⟨_, k, hk⟩ := nea_spec (a := a) hm om i
  obtain ⟨_, l, hl⟩ := nea_spec (a := a) hm om j
  have h1 := hn_le hm om hi
  have h2 := hn_le hm om hj
  have gm : Int.gcd m a = 1 := by rw [Int.gcd_comm]; exact hg
  rw [e] at hk
  by_cases c : eps a m i = eps a m j
  · rw [c] at hk
    rcases Nat.le_total i j with z | z
    · have d : m ∣ a * ((j : Int) - i) := ⟨l - k, by rw [Int.mul_sub, hk, hl]; grind⟩
      have := dvd_small (dvd_apart d gm) (by omega) (by omega)
      omega
    · have d : m ∣ a * ((i : Int) - j) := ⟨k - l, by rw [Int.mul_sub, hk, hl]; grind⟩
      have := dvd_small (dvd_apart d gm) (by omega) (by omega)
      omega
  · have c' : eps a m i = - eps a m j := by
      rcases eps_pm a m i with p | p <;> rcases eps_pm a m j with r | r <;> omega
    rw [c'] at hk
    have d : m ∣ a * ((i : Int) + j) := ⟨k + l, by rw [Int.mul_add, hk, hl]; grind⟩
    have := dvd_small (dvd_apart d gm) (by omega) (by omega)
    omega
theorem eps_zero (a m : Int) (hm : 0 < m) : eps a m 0 = 1 ∧ nea a m 0 = 0 := by
  unfold eps nea
  rw [show a * ((0 : Nat) : Int) % m = 0 by simp]
  rw [if_neg (by omega), if_neg (by omega)]
  exact ⟨rfl, rfl⟩
end Mth
namespace Mth
end Mth
namespace Mth
end Mth
namespace Mth
end Mth
namespace Mth
end Mth
namespace Mth
end Mth
namespace Mth
end Mth
namespace Mth
end Mth
namespace Mth
end Mth
namespace Mth
end Mth
namespace Mth
end Mth
namespace Mth
end Mth
namespace Mth
end Mth
namespace Mth
def bl (m : Int) : Nat → List Int
  | 0 => []
  | h + 1 => ((h : Int) + 1) :: (m - ((h : Int) + 1)) :: bl m h
end Mth
namespace Mth
end Mth
namespace Mth
end Mth
set_option exponentiation.threshold 4000
namespace Mth
end Mth
namespace Mth
end Mth
namespace Mth
end Mth
set_option exponentiation.threshold 4000
namespace Mth
end Mth
namespace Mth
end Mth
set_option exponentiation.threshold 4000
namespace Mth
section
variable {a0 b0 c0 d0 a b c d : Int} {ws : List (Bool × Int)}
end
end Mth
namespace Mth
end Mth
namespace Mth
end Mth
set_option exponentiation.threshold 4000
namespace Mth
end Mth
set_option exponentiation.threshold 4000
namespace Mth
end Mth
set_option exponentiation.threshold 4000
namespace Mth
end Mth
set_option exponentiation.threshold 4000
namespace Mth
end Mth
set_option exponentiation.threshold 4000
namespace Mth
end Mth
set_option exponentiation.threshold 4000
namespace Mth
end Mth
set_option exponentiation.threshold 4000
namespace Mth
end Mth
set_option exponentiation.threshold 4000
namespace Mth
end Mth
set_option exponentiation.threshold 4000
namespace Mth
end Mth
set_option exponentiation.threshold 4000
namespace Mth
end Mth
set_option exponentiation.threshold 4000
namespace Mth
end Mth
set_option exponentiation.threshold 4000
namespace Mth
end Mth
set_option exponentiation.threshold 4000
namespace Mth
end Mth
set_option exponentiation.threshold 4000
namespace Mth
end Mth
set_option exponentiation.threshold 4000
namespace Mth
end Mth
namespace Mth
end Mth
set_option maxRecDepth 100000
set_option maxHeartbeats 4000000
set_option exponentiation.threshold 4000
namespace Mth
end Mth
set_option maxRecDepth 100000
set_option maxHeartbeats 4000000
set_option exponentiation.threshold 4000
local macro_rules | `(tactic| walk_at "lo") => `(tactic| first | exact .inl rfl | exact .inr rfl | assumption)
local macro_rules | `(tactic| walk_at "mulok") => `(tactic| first
  | exact PySem.IntMulOk.of_right (PySem.intBits_le_64 (by omega) (by omega))
  | exact PySem.IntMulOk.of_left (PySem.intBits_le_64 (by omega) (by omega))
  | exact L2.Bd.mulOk (m := 2000) (n := 2000) (by show Int.natAbs _ < _; omega) (by show Int.natAbs _ < _; omega) (by decide) (by decide))
local macro_rules | `(tactic| walk_at "bd") => `(tactic| (show Int.natAbs _ < _; omega))
local macro_rules | `(tactic| walk_at "hp") => `(tactic| first
  | assumption
  | exact L2.SqL.of (by assumption)
  | exact L2.SqT.of (by assumption)
  | exact L2.upd_same
  | (refine' L2.Same.seq (by assumption) ?z; (case z => walk_at "hp"))
  | (refine' L2.Same.tup (by assumption) ?z; (case z => walk_at "hp"))
  | (refine' L2.Same.obj (by assumption) ?z; (case z => walk_at "hp")))
local macro_rules | `(tactic| walk_at "lenle") => `(tactic| first | exact (show _ ≤ 40 from by decide +kernel) | assumption | ((refine' L2.len_app ?p ?q); (case p => walk_at "lenle"); (case q => walk_at "lenle")))
local macro_rules | `(tactic| walk_at "strsz") => `(tactic| first | decide +kernel | (refine' L2.sz_of ?a ?b; (case a => walk_at "lenle"); (case b => decide)))
local macro_rules | `(tactic| walk_at "tsz") => `(tactic| first | assumption | decide +kernel | (exact Nat.le_trans (by assumption) (by decide)) | (exact Nat.le_of_lt (L2.small1000 (by omega))))
local macro_rules | `(tactic| walk_at "fmtsz") => `(tactic| first | assumption | decide +kernel)
local macro_rules | `(tactic| walk_at "sm") => `(tactic| first
  | exact L2.Same.refl _
  | assumption
  | (refine' L2.Same.trans ?z (by assumption); (case z => walk_at "sm")))
local macro_rules | `(tactic| walk_at "sz") => `(tactic| first | decide | (simp only [List.length_cons, List.length_nil]; decide) | (simp; decide))
local macro_rules | `(tactic| walk_at "rdvar") => `(tactic| first
  | with_reducible refine L2.rd_var0 ?_
  | with_reducible refine L2.rd_var1 ?_
  | with_reducible refine L2.rd_var2 ?_
  | with_reducible refine L2.rd_var3 ?_
  | with_reducible refine L2.rd_var4 ?_
  | with_reducible refine L2.rd_var5 ?_
  | with_reducible refine L2.rd_var6 ?_
  | with_reducible refine L2.rd_var7 ?_
  | with_reducible refine L2.rd_var8 ?_
  | with_reducible refine L2.rd_var9 ?_
  | with_reducible refine L2.rd_var10 ?_
  | with_reducible refine L2.rd_var11 ?_
  | with_reducible refine L2.rd_var12 ?_
  | with_reducible refine L2.rd_var13 ?_
  | with_reducible refine L2.rd_var14 ?_
  | with_reducible refine L2.rd_var15 ?_
  | with_reducible refine L2.rd_var16 ?_
  | with_reducible refine L2.rd_var17 ?_
  | with_reducible refine L2.rd_var18 ?_
  | with_reducible refine L2.rd_var19 ?_
  | with_reducible refine L2.rd_var20 ?_
  | with_reducible refine L2.rd_var21 ?_
  | with_reducible refine L2.rd_var22 ?_
  | with_reducible refine L2.rd_var23 ?_
  | with_reducible refine L2.rd_var24 ?_
  | with_reducible refine L2.rd_var25 ?_
  | with_reducible refine L2.rd_set0 ?_
  | with_reducible refine L2.rd_set1 ?_
  | with_reducible refine L2.rd_set2 ?_
  | with_reducible refine L2.rd_set3 ?_
  | with_reducible refine L2.rd_set4 ?_
  | with_reducible refine L2.rd_set5 ?_
  | with_reducible refine L2.rd_set6 ?_
  | with_reducible refine L2.rd_set7 ?_
  | with_reducible refine L2.rd_set8 ?_
  | with_reducible refine L2.rd_set9 ?_
  | with_reducible refine L2.rd_set10 ?_
  | with_reducible refine L2.rd_set11 ?_
  | with_reducible refine L2.rd_set12 ?_
  | with_reducible refine L2.rd_set13 ?_
  | with_reducible refine L2.rd_set14 ?_
  | with_reducible refine L2.rd_set15 ?_
  | with_reducible refine L2.rd_set16 ?_
  | with_reducible refine L2.rd_set17 ?_
  | with_reducible refine L2.rd_set18 ?_
  | with_reducible refine L2.rd_set19 ?_
  | with_reducible refine L2.rd_set20 ?_
  | with_reducible refine L2.rd_set21 ?_
  | with_reducible refine L2.rd_set22 ?_
  | with_reducible refine L2.rd_set23 ?_
  | with_reducible refine L2.rd_set24 ?_
  | with_reducible refine L2.rd_set25 ?_
  | with_reducible refine L2.rd_del0 ?_
  | with_reducible refine L2.rd_del1 ?_
  | with_reducible refine L2.rd_del2 ?_
  | with_reducible refine L2.rd_del3 ?_
  | with_reducible refine L2.rd_del4 ?_
  | with_reducible refine L2.rd_del5 ?_
  | with_reducible refine L2.rd_del6 ?_
  | with_reducible refine L2.rd_del7 ?_
  | with_reducible refine L2.rd_del8 ?_
  | with_reducible refine L2.rd_del9 ?_
  | with_reducible refine L2.rd_del10 ?_
  | with_reducible refine L2.rd_del11 ?_
  | with_reducible refine L2.rd_del12 ?_
  | with_reducible refine L2.rd_del13 ?_
  | with_reducible refine L2.rd_del14 ?_
  | with_reducible refine L2.rd_del15 ?_
  | with_reducible refine L2.rd_del16 ?_
  | with_reducible refine L2.rd_del17 ?_
  | with_reducible refine L2.rd_del18 ?_
  | with_reducible refine L2.rd_del19 ?_
  | with_reducible refine L2.rd_del20 ?_
  | with_reducible refine L2.rd_del21 ?_
  | with_reducible refine L2.rd_del22 ?_
  | with_reducible refine L2.rd_del23 ?_
  | with_reducible refine L2.rd_del24 ?_
  | with_reducible refine L2.rd_del25 ?_)
local macro_rules | `(tactic| walk_at "rd1") => `(tactic| first
  | with_reducible refine L2.rd_find ?_
  | with_reducible refine L2.rd_notInS ?_
  | with_reducible refine L2.rd_forS ?_
  | with_reducible refine L2.rd_repl ?_
  | with_reducible refine L2.rd_tyS ?_
  | with_reducible refine L2.rd_starts ?_
  | with_reducible refine L2.rd_compS ?_
  | with_reducible refine L2.rd_fmtS ?_
  | with_reducible refine L2.rd_inS ?_
  | with_reducible refine L2.rd_slTwo ?_
  | with_reducible refine L2.rd_raiseI ?_
  | with_reducible refine L2.rd_base ?_
  | with_reducible refine L2.rd_fldX ?_
  | with_reducible refine L2.rd_xf ?_
  | with_reducible refine L2.rd_slRv ?_
  | with_reducible refine L2.rd_dIn ?_
  | with_reducible refine L2.rd_dNotIn ?_
  | with_reducible refine L2.rd_dPut ?_
  | with_reducible refine L2.rd_dGet ?_
  | with_reducible refine L2.rd_hNotIn ?_
  | with_reducible refine L2.rd_hPut ?_
  | with_reducible refine L2.rd_callS ?_
  | with_reducible refine L2.rd_raise ?_
  | with_reducible refine L2.rd_kRaise ?_
  | with_reducible refine L2.rd_jnil ?_
  | with_reducible refine L2.rd_jcons ?_
  | with_reducible refine L2.rd_fmt ?_
  | with_reducible refine L2.rd_seq ?_
  | with_reducible refine L2.rd_asg ?_
  | with_reducible refine L2.rd_ret ?_
  | with_reducible refine L2.rd_retN ?_
  | with_reducible refine L2.rd_drop ?_
  | with_reducible refine L2.rd_ifS ?_
  | with_reducible refine L2.rd_op ?_
  | with_reducible refine L2.rd_un ?_
  | with_reducible refine L2.rd_c ?_
  | with_reducible refine L2.rd_test ?_
  | with_reducible refine L2.rd_tB ?_
  | with_reducible refine L2.rd_kB ?_
  | with_reducible refine L2.rd_and ?_
  | with_reducible refine L2.rd_or ?_
  | with_reducible refine L2.rd_not ?_
  | with_reducible refine L2.rd_andV ?_
  | with_reducible refine L2.rd_orV ?_
  | with_reducible refine L2.rd_notV ?_
  | with_reducible refine L2.rd_ifE ?_
  | with_reducible refine L2.rd_chain ?_
  | with_reducible refine L2.rd_nil ?_
  | with_reducible refine L2.rd_cons ?_
  | with_reducible refine L2.rd_lst ?_
  | with_reducible refine L2.rd_tup ?_
  | with_reducible refine L2.rd_cB ?_
  | with_reducible refine L2.rd_call ?_
  | with_reducible refine L2.rd_next ?_
  | with_reducible refine L2.rd_par ?_
  | with_reducible refine L2.rd_kParG ?_
  | with_reducible refine L2.rd_lenSet ?_
  | with_reducible refine L2.rd_add ?_
  | with_reducible refine L2.rd_sub ?_
  | with_reducible refine L2.rd_lt ?_
  | with_reducible refine L2.rd_le ?_
  | with_reducible refine L2.rd_gt ?_
  | with_reducible refine L2.rd_ge ?_
  | with_reducible refine L2.rd_eqAI ?_
  | with_reducible refine L2.rd_eqAS ?_
  | with_reducible refine L2.rd_eqAB ?_
  | with_reducible refine L2.rd_neAI ?_
  | with_reducible refine L2.rd_neAS ?_
  | with_reducible refine L2.rd_neAB ?_
  | with_reducible refine L2.rd_gSub ?_
  | with_reducible refine L2.rd_eqI ?_
  | with_reducible refine L2.rd_neI ?_
  | with_reducible refine L2.rd_eqS ?_
  | with_reducible refine L2.rd_neS ?_
  | with_reducible refine L2.rd_eqB ?_
  | with_reducible refine L2.rd_neB ?_
  | with_reducible refine L2.rd_isB ?_
  | with_reducible refine L2.rd_isNI ?_
  | with_reducible refine L2.rd_isNR ?_
  | with_reducible refine L2.rd_isNN ?_
  | with_reducible refine L2.rd_neBI ?_
  | with_reducible refine L2.rd_neBS ?_
  | with_reducible refine L2.rd_neBB ?_
  | with_reducible refine L2.rd_eqBI ?_
  | with_reducible refine L2.rd_eqBS ?_
  | with_reducible refine L2.rd_eqBB ?_
  | with_reducible refine L2.rd_u ?_
  | with_reducible refine L2.rd_i0 ?_
  | with_reducible refine L2.rd_sl ?_
  | with_reducible refine L2.rd_noPart ?_
  | with_reducible refine L2.rd_part ?_
  | with_reducible refine L2.rd_kPart ?_
  | with_reducible refine L2.rd_gNil ?_
  | with_reducible refine L2.rd_gCons ?_
  | with_reducible refine L2.rd_forR ?_
  | with_reducible refine L2.rd_forR2 ?_
  | with_reducible refine L2.rd_forZ ?_
  | with_reducible refine L2.rd_neDI ?_
  | with_reducible refine L2.rd_neDS ?_
  | with_reducible refine L2.rd_augS ?_
  | with_reducible refine L2.rd_ipI ?_
  | with_reducible refine L2.rd_eqRSS ?_
  | with_reducible refine L2.rd_eqRSI ?_
  | with_reducible refine L2.rd_eqRSB ?_
  | with_reducible refine L2.rd_eqRSN ?_
  | with_reducible refine L2.rd_neFI ?_
  | with_reducible refine L2.rd_neFS ?_
  | with_reducible refine L2.rd_neFB ?_
  | with_reducible refine L2.rd_eqFI ?_
  | with_reducible refine L2.rd_eqFS ?_
  | with_reducible refine L2.rd_addU ?_
  | with_reducible refine L2.rd_isnB ?_
  | with_reducible refine L2.rd_tupRng ?_
  | with_reducible refine L2.rd_listRng ?_
  | with_reducible refine L2.rd_listRng2 ?_
  | with_reducible refine L2.rd_forE ?_
  | with_reducible refine L2.rd_forT ?_
  | with_reducible refine L2.rd_forL ?_
  | with_reducible refine L2.rd_neCI ?_
  | with_reducible refine L2.rd_neCS ?_
  | with_reducible refine L2.rd_neCB ?_
  | with_reducible refine L2.rd_eqCI ?_
  | with_reducible refine L2.rd_eqCS ?_
  | with_reducible refine L2.rd_forV ?_
  | with_reducible refine L2.rd_forD ?_
  | with_reducible refine L2.rd_bm ?_
  | with_reducible refine L2.rd_bm0 ?_
  | with_reducible refine L2.rd_turn ?_
  | with_reducible refine L2.rd_iteT ?_
  | with_reducible refine L2.rd_iteF ?_
  | with_reducible refine L2.rd_iteNT ?_
  | with_reducible refine L2.rd_iteNF ?_
  | with_reducible refine L2.rd_ints ?_
  | with_reducible refine L2.rd_kRng2B ?_
  | with_reducible refine L2.rd_sp1 ?_
  | with_reducible refine L2.rd_sp2 ?_
  | with_reducible refine L2.rd_sp3 ?_
  | with_reducible refine L2.rd_sp4 ?_
  | with_reducible refine L2.rd_sp5 ?_
  | walk_at "rdvar"
  | ((with_reducible refine L2.rd_kIts ?c ?_); (case c => assumption))
  | ((with_reducible refine L2.rd_addT ?c ?_); (case c => walk_at "strsz"))
  | ((with_reducible refine L2.rd_lenTx ?c ?_); (case c => walk_at "tsz"))
  | ((with_reducible refine L2.rd_slS ?c ?_); (case c => walk_at "tsz"))
  | ((with_reducible refine L2.rd_kFmtS ?c ?_); (case c => walk_at "tsz"))
  | ((with_reducible refine L2.rd_strI ?c ?_); (case c => walk_at "fmtsz"))
  | ((with_reducible refine' L2.rd_kBase ?c ?_); (case c => walk_at "hp"))
  | ((with_reducible refine' L2.rd_kFldX ?c ?_); (case c => walk_at "hp"); intro _ _)
  | ((with_reducible refine' L2.rd_kRv ?c ?_); (case c => walk_at "hp"); intro _ _ _ _ _)
  | ((with_reducible refine L2.rd_min2 ?_); intro _ _)
  | ((with_reducible refine L2.rd_dNewK ?_); intro _ _ _ _ _)
  | ((with_reducible refine L2.rd_disp1 ?_); intro _ _ _ _ _)
  | ((with_reducible refine' L2.rd_kDIn ?c ?_); (case c => walk_at "hp"))
  | ((with_reducible refine' L2.rd_kDNotIn ?c ?_); (case c => walk_at "hp"))
  | ((with_reducible refine L2.rd_mul ?c ?_); (case c => walk_at "mulok"))
  | ((with_reducible refine L2.rd_modP ?c ?_); (case c => omega))
  | ((with_reducible refine L2.rd_modN ?c ?_); (case c => omega))
  | ((with_reducible refine L2.rd_divP ?c ?d ?_); (case c => omega); (case d => walk_at "bd"))
  | ((with_reducible refine L2.rd_divN ?c ?d ?_); (case c => omega); (case d => walk_at "bd"))
  | ((with_reducible refine' L2.rd_lenL ?c ?_); (case c => walk_at "hp"))
  | ((with_reducible refine' L2.rd_lenT ?c ?_); (case c => walk_at "hp"))
  | ((with_reducible refine L2.rd_abs ?_); intro _ _)
  | ((with_reducible refine L2.rd_max ?_); intro _ _)
  | ((with_reducible refine L2.rd_min4 ?_); intro _ _ _ _ _ _)
  | ((with_reducible refine L2.rd_intB ?_); intro _ _ _)
  | ((with_reducible refine L2.rd_kLst ?c ?_); (case c => walk_at "sz"); intro _ _ _ _ _)
  | ((with_reducible refine L2.rd_kLstI ?c ?_); (case c => decide); intro _ _ _ _ _)
  | ((with_reducible refine L2.rd_kTup ?c ?_); (case c => walk_at "sz"); intro _ _ _ _ _)
  | ((with_reducible refine' L2.rd_slL ?c ?_); (case c => walk_at "hp"); intro _ _ _ _ _)
  | ((with_reducible refine' L2.rd_listOf ?c ?_); (case c => walk_at "hp"); intro _ _ _ _ _)
  | ((with_reducible refine' L2.rd_tupOf ?c ?_); (case c => walk_at "hp"); intro _ _ _ _ _)
  | ((with_reducible refine' L2.rd_sum ?c ?_); (case c => walk_at "hp"))
  | ((with_reducible refine' L2.rd_kItl ?c ?_); (case c => walk_at "hp"))
  | ((with_reducible refine' L2.rd_aug ?c ?_); (case c => rfl))
  | (with_reducible refine L2.rd_kIp ?_)
  | ((with_reducible refine L2.rd_kTR ?c ?d ?_); (case c => omega); (case d => omega); intro _ _ _ _ _)
  | ((with_reducible refine L2.rd_kLR ?c ?d ?_); (case c => omega); (case d => omega); intro _ _ _ _ _)
  | ((with_reducible refine L2.rd_kLR2 ?c ?d ?e ?_); (case c => omega); (case d => omega); (case e => omega); intro _ _ _ _ _)
  | ((with_reducible refine' L2.rd_kEnum ?c ?_); (case c => walk_at "hp"))
  | ((with_reducible refine' L2.rd_kItt ?c ?_); (case c => walk_at "hp"))
  | ((with_reducible refine' L2.rd_in2 ?c ?_); (case c => walk_at "hp"))
  | ((with_reducible refine' L2.rd_kZip ?c ?d ?_); (case c => walk_at "hp"); (case d => walk_at "hp"))
  | ((with_reducible refine' L2.rd_kZipT ?c ?d ?_); (case c => walk_at "hp"); (case d => walk_at "hp"))
  | ((with_reducible refine' L2.rd_slF ?c ?_); (case c => walk_at "hp"); intro _ _ _ _)
  | ((with_reducible refine' L2.rd_eqRST ?c ?_); (case c => walk_at "hp"))
  | ((with_reducible refine' L2.rd_eqRSL ?c ?_); (case c => walk_at "hp"))
  | ((with_reducible refine' L2.rd_kItv ?c ?_); (case c => walk_at "hp"))
  | ((with_reducible refine' L2.rd_tyL ?c ?_); (case c => walk_at "hp"))
  | ((with_reducible refine' L2.rd_cat ?a ?b ?c ?_); (case a => walk_at "hp"); (case b => walk_at "hp"); (case c => walk_at "sz"); intro _ _ _ _ _)
  | ((with_reducible refine' L2.rd_rep ?a ?b ?c ?d ?_); (case a => walk_at "hp"); (case b => omega); (case c => omega); (case d => walk_at "sz"); intro _ _ _ _ _)
  | ((with_reducible refine L2.rd_kRng1 ?c ?d ?_); (case c => omega); (case d => omega))
  | ((with_reducible refine L2.rd_kRngD ?c ?d ?e ?f ?_); (case c => omega); (case d => omega); (case e => omega); (case f => omega))
  | ((with_reducible refine L2.rd_kRng2 ?c ?d ?e ?f ?_); (case c => omega); (case d => omega); (case e => omega); (case f => omega))
  | ((with_reducible refine' L2.rd_gTup ?c ?d ?_); (case c => walk_at "hp"); (case d => rfl))
  | ((with_reducible refine' L2.rd_isi ?c ?d ?_); (case c => first | exact .int _ | exact .bl _ | exact .non | exact .str _ | exact .tup (by walk_at "hp") | exact .lst (by walk_at "hp") | constructor); (case d => rfl))
  | ((with_reducible refine' L2.rd_isX ?c ?d ?_); (case c => assumption); (case d => assumption))
  | ((with_reducible refine' L2.rd_isXT ?c ?d ?_); (case c => assumption); (case d => assumption))
  | ((with_reducible refine' L2.rd_isXA ?c ?d ?e ?f ?_); (case c => assumption); (case d => walk_at "hp"); (case e => assumption); (case f => rfl))
  | ((with_reducible refine L2.rd_thT ?c ?_); (case c => assumption))
  | ((with_reducible refine L2.rd_thF ?c ?_); (case c => assumption))
  | ((with_reducible refine L2.rd_kStr ?c ?_); (case c => walk_at "strsz"))
  | ((with_reducible refine L2.rd_kFmt ?c ?_); (case c => walk_at "fmtsz"))
  | ((with_reducible refine' L2.rd_ixL ?c ?d ?_); (case c => walk_at "hp"); (case d => rfl))
  | ((with_reducible refine' L2.rd_ixT ?c ?d ?_); (case c => walk_at "hp"); (case d => rfl))
  | walk_at "rdcall"
  | with_reducible refine L2.rd_nx ?_
  | with_reducible refine L2.rd_rt ?_
  | with_reducible refine L2.rd_bk ?_
  | with_reducible refine L2.rd_ct ?_)
local macro_rules | `(tactic| walk_at "rdcall") => `(tactic| fail "no call")
local macro_rules | `(tactic| walk_at "rd") => `(tactic| repeat (walk_at "rd1"))
local macro_rules | `(tactic| walk_at "ite") => `(tactic| first
  | (with_reducible refine L2.rd_ite (fun _ => ?_) (fun _ => ?_))
  | (with_reducible refine L2.rd_iteN (fun _ => ?_) (fun _ => ?_))
  | (with_reducible refine L2.rd_iteNN (fun _ => ?_) (fun _ => ?_))
  | (with_reducible refine L2.rd_iteb (fun _ => ?_) (fun _ => ?_)))
local macro_rules | `(tactic| walk_at "rdi") => `(tactic| repeat' (first | walk_at "rd1" | (walk_at "ite" <;> (try (exfalso; omega)))))
namespace My
open PySem L2
abbrev s_need_from : Stmt := top 18
theorem sc_need_from : FnScope ["least", "number"] ["least", "number"] (defScope s_need_from) := ⟨rfl, rfl, rfl, by decide +kernel, rfl, by decide +kernel, by decide +kernel⟩
abbrev s_need_odd : Stmt := top 19
theorem sc_need_odd : FnScope ["m"] ["m"] (defScope s_need_odd) := ⟨rfl, rfl, rfl, by decide +kernel, rfl, by decide +kernel, by decide +kernel⟩
abbrev s_need_to : Stmt := top 20
theorem sc_need_to : FnScope ["most", "number"] ["most", "number"] (defScope s_need_to) := ⟨rfl, rfl, rfl, by decide +kernel, rfl, by decide +kernel, by decide +kernel⟩
abbrev s_shared : Stmt := top 22
theorem sc_shared : FnScope ["a", "b", "high", "low", "rest"] ["a", "b"] (defScope s_shared) := ⟨rfl, rfl, rfl, by decide +kernel, rfl, by decide +kernel, by decide +kernel⟩
abbrev s_need_apart : Stmt := top 23
theorem sc_need_apart : FnScope ["a", "m"] ["a", "m"] (defScope s_need_apart) := ⟨rfl, rfl, rfl, by decide +kernel, rfl, by decide +kernel, by decide +kernel⟩
abbrev s_half_row : Stmt := top 26
theorem sc_half_row : FnScope ["k", "rest", "m"] ["k", "rest", "m"] (defScope s_half_row) := ⟨rfl, rfl, rfl, by decide +kernel, rfl, by decide +kernel, by decide +kernel⟩
abbrev s_half_rows : Stmt := top 27
theorem sc_half_rows : FnScope ["a", "m"] ["a", "m"] (defScope s_half_rows) := ⟨rfl, rfl, rfl, by decide +kernel, rfl, by decide +kernel, by decide +kernel⟩
abbrev s__law_cell : Stmt := top 29
theorem sc__law_cell : FnScope ["_law_script", "_law_k"] ["_law_script", "_law_k"] (defScope s__law_cell) := ⟨rfl, rfl, rfl, by decide +kernel, rfl, by decide +kernel, by decide +kernel⟩
abbrev s__law_mixed : Stmt := top 30
theorem sc__law_mixed : FnScope ["_law_cell_here", "_law_k", "_law_prime", "_law_far_here"] ["_law_cell_here", "_law_k", "_law_prime"] (defScope s__law_mixed) := ⟨rfl, rfl, rfl, by decide +kernel, rfl, by decide +kernel, by decide +kernel⟩
abbrev s__law_draws : Stmt := top 31
theorem sc__law_draws : FnScope ["_law_cell_here", "_law_widths", "_law_prime", "_law_left", "_law_found", "_law_k"] ["_law_cell_here", "_law_widths", "_law_prime"] (defScope s__law_draws) := ⟨rfl, rfl, rfl, by decide +kernel, rfl, by decide +kernel, by decide +kernel⟩
abbrev s__law_count : Stmt := top 32
theorem sc__law_count : FnScope ["_law_cell_here", "_law_prime", "_law_draws_here", "_law_far_here", "_law_part"] ["_law_cell_here", "_law_prime"] (defScope s__law_count) := ⟨rfl, rfl, rfl, by decide +kernel, rfl, by decide +kernel, by decide +kernel⟩
abbrev s__law_far : Stmt := top 33
theorem sc__law_far : FnScope ["_law_cell_here", "_law_prime", "_law_draws_here", "_law_far_here", "_law_part"] ["_law_cell_here", "_law_prime"] (defScope s__law_far) := ⟨rfl, rfl, rfl, by decide +kernel, rfl, by decide +kernel, by decide +kernel⟩
abbrev s__law_short : Stmt := top 34
theorem sc__law_short : FnScope ["_law_cell_here", "_law_prime", "_law_draws_here"] ["_law_cell_here", "_law_prime"] (defScope s__law_short) := ⟨rfl, rfl, rfl, by decide +kernel, rfl, by decide +kernel, by decide +kernel⟩
abbrev s__law_shared : Stmt := top 35
theorem sc__law_shared : FnScope ["_law_a", "_law_b"] ["_law_a", "_law_b"] (defScope s__law_shared) := ⟨rfl, rfl, rfl, by decide +kernel, rfl, by decide +kernel, by decide +kernel⟩
abbrev s__law_apart : Stmt := top 36
theorem sc__law_apart : FnScope ["_law_a", "_law_m", "_law_both"] ["_law_a", "_law_m"] (defScope s__law_apart) := ⟨rfl, rfl, rfl, by decide +kernel, rfl, by decide +kernel, by decide +kernel⟩
abbrev s__law_whole : Stmt := top 37
theorem sc__law_whole : FnScope ["_law_found"] ["_law_found"] (defScope s__law_whole) := ⟨rfl, rfl, rfl, by decide +kernel, rfl, by decide +kernel, by decide +kernel⟩
abbrev s__law_row : Stmt := top 38
theorem sc__law_row : FnScope ["_law_found", "_law_many"] ["_law_found", "_law_many"] (defScope s__law_row) := ⟨rfl, rfl, rfl, by decide +kernel, rfl, by decide +kernel, by decide +kernel⟩
abbrev s__law_lists : Stmt := top 39
theorem sc__law_lists : FnScope ["_law_found", "_law_due", "_law_one", "_law_other"] ["_law_found", "_law_due"] (defScope s__law_lists) := ⟨rfl, rfl, rfl, by decide +kernel, rfl, by decide +kernel, by decide +kernel⟩
abbrev s__law_asked : Stmt := top 40
theorem sc__law_asked : FnScope ["_law_a", "_law_m", "_law_told", "e", "_law_sorts"] ["_law_a", "_law_m"] (defScope s__law_asked) := ⟨rfl, rfl, rfl, by decide +kernel, rfl, by decide +kernel, by decide +kernel⟩
abbrev s_law : Stmt := top 41
theorem sc_law : FnScope ["_law_script", "_law_m", "_law_a", "_law_due", "_law_k", "_law_one", "_law_found", "_law_far_here", "_law_odd", "_law_bad", "_law_other", "_law_word"] ["_law_script"] (defScope s_law) := ⟨rfl, rfl, rfl, by decide +kernel, rfl, by decide +kernel, by decide +kernel⟩
structure Blt (mg : Str → Option Value) : Prop where
  ValueError : mg "ValueError" = none
  abs : mg "abs" = none
  all : mg "all" = none
  bool : mg "bool" = none
  int : mg "int" = none
  isinstance : mg "isinstance" = none
  len : mg "len" = none
  list : mg "list" = none
  range : mg "range" = none
  sorted : mg "sorted" = none
  tuple : mg "tuple" = none
  zip : mg "zip" = none
structure Cls (K : PySem.W.Frag) (mg : Str → Option Value) (base : Heap) : Type where
  SawError : CK K mg base "SawError"
  NoCount : CK K mg base "NoCount"
  NotOdd : CK K mg base "NotOdd"
  TooMany : CK K mg base "TooMany"
  NotApart : CK K mg base "NotApart"
  NoShuffle : CG mg "NoShuffle"
  NoPaper : CG mg "NoPaper"
  NoPrime : CG mg "NoPrime"
  NoFraction : CG mg "NoFraction"
  NoTable : CG mg "NoTable"
  NoWord : CG mg "NoWord"
  NoRow : CG mg "NoRow"
  NoText : CG mg "NoText"
  NoLine : CG mg "NoLine"
  NoName : CG mg "NoName"
  NoDeed : CG mg "NoDeed"
structure Rel (K : PySem.W.Frag) (mg : Str → Option Value) (base : Heap) (C : Cls K mg base) : Prop where
  r_NoCount_sw : PySem.W.kitOne K (.ref C.NoCount.addr) (.ref C.SawError.addr) = some true
  r_NoCount_ve : PySem.W.kitOne K (.ref C.NoCount.addr) (.type "ValueError") = some true
  r_NoCount_NoCount : PySem.W.kitOne K (.ref C.NoCount.addr) (.ref C.NoCount.addr) = some true
  r_NoCount_NotOdd : PySem.W.kitOne K (.ref C.NoCount.addr) (.ref C.NotOdd.addr) = some false
  r_NoCount_TooMany : PySem.W.kitOne K (.ref C.NoCount.addr) (.ref C.TooMany.addr) = some false
  r_NoCount_NotApart : PySem.W.kitOne K (.ref C.NoCount.addr) (.ref C.NotApart.addr) = some false
  r_NoCount_NoTable : PySem.W.kitOne K (.ref C.NoCount.addr) (.ref C.NoTable.addr) = some false
  r_NoCount_NoText : PySem.W.kitOne K (.ref C.NoCount.addr) (.ref C.NoText.addr) = some false
  r_NoCount_NoShuffle : PySem.W.kitOne K (.ref C.NoCount.addr) (.ref C.NoShuffle.addr) = some false
  r_NoCount_NoWord : PySem.W.kitOne K (.ref C.NoCount.addr) (.ref C.NoWord.addr) = some false
  r_NoCount_NoRow : PySem.W.kitOne K (.ref C.NoCount.addr) (.ref C.NoRow.addr) = some false
  r_NoCount_NoPaper : PySem.W.kitOne K (.ref C.NoCount.addr) (.ref C.NoPaper.addr) = some false
  r_NoCount_NoFraction : PySem.W.kitOne K (.ref C.NoCount.addr) (.ref C.NoFraction.addr) = some false
  r_NoCount_NoPrime : PySem.W.kitOne K (.ref C.NoCount.addr) (.ref C.NoPrime.addr) = some false
  r_NoCount_NoLine : PySem.W.kitOne K (.ref C.NoCount.addr) (.ref C.NoLine.addr) = some false
  r_NoCount_NoName : PySem.W.kitOne K (.ref C.NoCount.addr) (.ref C.NoName.addr) = some false
  r_NoCount_NoDeed : PySem.W.kitOne K (.ref C.NoCount.addr) (.ref C.NoDeed.addr) = some false
  r_NotOdd_sw : PySem.W.kitOne K (.ref C.NotOdd.addr) (.ref C.SawError.addr) = some true
  r_NotOdd_ve : PySem.W.kitOne K (.ref C.NotOdd.addr) (.type "ValueError") = some true
  r_NotOdd_NoCount : PySem.W.kitOne K (.ref C.NotOdd.addr) (.ref C.NoCount.addr) = some false
  r_NotOdd_NotOdd : PySem.W.kitOne K (.ref C.NotOdd.addr) (.ref C.NotOdd.addr) = some true
  r_NotOdd_TooMany : PySem.W.kitOne K (.ref C.NotOdd.addr) (.ref C.TooMany.addr) = some false
  r_NotOdd_NotApart : PySem.W.kitOne K (.ref C.NotOdd.addr) (.ref C.NotApart.addr) = some false
  r_NotOdd_NoTable : PySem.W.kitOne K (.ref C.NotOdd.addr) (.ref C.NoTable.addr) = some false
  r_NotOdd_NoText : PySem.W.kitOne K (.ref C.NotOdd.addr) (.ref C.NoText.addr) = some false
  r_NotOdd_NoShuffle : PySem.W.kitOne K (.ref C.NotOdd.addr) (.ref C.NoShuffle.addr) = some false
  r_NotOdd_NoWord : PySem.W.kitOne K (.ref C.NotOdd.addr) (.ref C.NoWord.addr) = some false
  r_NotOdd_NoRow : PySem.W.kitOne K (.ref C.NotOdd.addr) (.ref C.NoRow.addr) = some false
  r_NotOdd_NoPaper : PySem.W.kitOne K (.ref C.NotOdd.addr) (.ref C.NoPaper.addr) = some false
  r_NotOdd_NoFraction : PySem.W.kitOne K (.ref C.NotOdd.addr) (.ref C.NoFraction.addr) = some false
  r_NotOdd_NoPrime : PySem.W.kitOne K (.ref C.NotOdd.addr) (.ref C.NoPrime.addr) = some false
  r_NotOdd_NoLine : PySem.W.kitOne K (.ref C.NotOdd.addr) (.ref C.NoLine.addr) = some false
  r_NotOdd_NoName : PySem.W.kitOne K (.ref C.NotOdd.addr) (.ref C.NoName.addr) = some false
  r_NotOdd_NoDeed : PySem.W.kitOne K (.ref C.NotOdd.addr) (.ref C.NoDeed.addr) = some false
  r_TooMany_sw : PySem.W.kitOne K (.ref C.TooMany.addr) (.ref C.SawError.addr) = some true
  r_TooMany_ve : PySem.W.kitOne K (.ref C.TooMany.addr) (.type "ValueError") = some true
  r_TooMany_NoCount : PySem.W.kitOne K (.ref C.TooMany.addr) (.ref C.NoCount.addr) = some false
  r_TooMany_NotOdd : PySem.W.kitOne K (.ref C.TooMany.addr) (.ref C.NotOdd.addr) = some false
  r_TooMany_TooMany : PySem.W.kitOne K (.ref C.TooMany.addr) (.ref C.TooMany.addr) = some true
  r_TooMany_NotApart : PySem.W.kitOne K (.ref C.TooMany.addr) (.ref C.NotApart.addr) = some false
  r_TooMany_NoTable : PySem.W.kitOne K (.ref C.TooMany.addr) (.ref C.NoTable.addr) = some false
  r_TooMany_NoText : PySem.W.kitOne K (.ref C.TooMany.addr) (.ref C.NoText.addr) = some false
  r_TooMany_NoShuffle : PySem.W.kitOne K (.ref C.TooMany.addr) (.ref C.NoShuffle.addr) = some false
  r_TooMany_NoWord : PySem.W.kitOne K (.ref C.TooMany.addr) (.ref C.NoWord.addr) = some false
  r_TooMany_NoRow : PySem.W.kitOne K (.ref C.TooMany.addr) (.ref C.NoRow.addr) = some false
  r_TooMany_NoPaper : PySem.W.kitOne K (.ref C.TooMany.addr) (.ref C.NoPaper.addr) = some false
  r_TooMany_NoFraction : PySem.W.kitOne K (.ref C.TooMany.addr) (.ref C.NoFraction.addr) = some false
  r_TooMany_NoPrime : PySem.W.kitOne K (.ref C.TooMany.addr) (.ref C.NoPrime.addr) = some false
  r_TooMany_NoLine : PySem.W.kitOne K (.ref C.TooMany.addr) (.ref C.NoLine.addr) = some false
  r_TooMany_NoName : PySem.W.kitOne K (.ref C.TooMany.addr) (.ref C.NoName.addr) = some false
  r_TooMany_NoDeed : PySem.W.kitOne K (.ref C.TooMany.addr) (.ref C.NoDeed.addr) = some false
  r_NotApart_sw : PySem.W.kitOne K (.ref C.NotApart.addr) (.ref C.SawError.addr) = some true
  r_NotApart_ve : PySem.W.kitOne K (.ref C.NotApart.addr) (.type "ValueError") = some true
  r_NotApart_NoCount : PySem.W.kitOne K (.ref C.NotApart.addr) (.ref C.NoCount.addr) = some false
  r_NotApart_NotOdd : PySem.W.kitOne K (.ref C.NotApart.addr) (.ref C.NotOdd.addr) = some false
  r_NotApart_TooMany : PySem.W.kitOne K (.ref C.NotApart.addr) (.ref C.TooMany.addr) = some false
  r_NotApart_NotApart : PySem.W.kitOne K (.ref C.NotApart.addr) (.ref C.NotApart.addr) = some true
  r_NotApart_NoTable : PySem.W.kitOne K (.ref C.NotApart.addr) (.ref C.NoTable.addr) = some false
  r_NotApart_NoText : PySem.W.kitOne K (.ref C.NotApart.addr) (.ref C.NoText.addr) = some false
  r_NotApart_NoShuffle : PySem.W.kitOne K (.ref C.NotApart.addr) (.ref C.NoShuffle.addr) = some false
  r_NotApart_NoWord : PySem.W.kitOne K (.ref C.NotApart.addr) (.ref C.NoWord.addr) = some false
  r_NotApart_NoRow : PySem.W.kitOne K (.ref C.NotApart.addr) (.ref C.NoRow.addr) = some false
  r_NotApart_NoPaper : PySem.W.kitOne K (.ref C.NotApart.addr) (.ref C.NoPaper.addr) = some false
  r_NotApart_NoFraction : PySem.W.kitOne K (.ref C.NotApart.addr) (.ref C.NoFraction.addr) = some false
  r_NotApart_NoPrime : PySem.W.kitOne K (.ref C.NotApart.addr) (.ref C.NoPrime.addr) = some false
  r_NotApart_NoLine : PySem.W.kitOne K (.ref C.NotApart.addr) (.ref C.NoLine.addr) = some false
  r_NotApart_NoName : PySem.W.kitOne K (.ref C.NotApart.addr) (.ref C.NoName.addr) = some false
  r_NotApart_NoDeed : PySem.W.kitOne K (.ref C.NotApart.addr) (.ref C.NoDeed.addr) = some false
structure Cst (K : PySem.W.Frag) (mg : Str → Option Value) : Prop where
  MOST_RESTS : ∃ t, mg "MOST_RESTS" = some (.int 200 t)
def spLaw (K : PySem.W.Frag) : Sp := fun vs H Q _ => ∃ (a : Addr) (ns : List Int), vs = [.ref a] ∧ SqL K H a (ns.map V.int) ∧ ns.length ≤ 63 ∧ ∀ H', Q (.bl true) H'
section
variable {P : Program} {w : World} {K : PySem.W.Frag} {mg : Str → Option Value} {base : Heap}
structure Hide (p : Prop) : Prop where
  out : p
def spGcd : Sp := fun vs H Q _ => ∃ a b : Int, vs = [.int a, .int b] ∧ Q (.int (Int.gcd a b)) H
theorem use_gcd {a b : Int} {H : Hp} {Q : VK} {E : XK} (h : Q (.int (Int.gcd a b)) H) : spGcd [.int a, .int b] H Q E := ⟨a, b, rfl, h⟩
local macro_rules | `(tactic| walk_at "rdcall") => `(tactic| (with_reducible refine use_gcd ?_))
def spNeed (c : Addr) : Sp := fun vs H Q E => ∃ l n : Int, vs = [.int l, .int n] ∧ (l = 0 ∨ l = 1) ∧ (n < l → E (.ref c) none H) ∧ (l ≤ n → Q .non H)
theorem use_need {c : Addr} {l n : Int} {H : Hp} {Q : VK} {E : XK} (hl : l = 0 ∨ l = 1) (h1 : n < l → E (.ref c) none H) (h2 : l ≤ n → Q .non H) : spNeed c [.int l, .int n] H Q E := ⟨l, n, rfl, hl, h1, h2⟩
theorem ok_need_from (F : Src K mg "need_from" s_need_from ["least", "number"]) (B : Blt mg) (C : Cls K mg base) (R : Rel K mg base C) (Kc : Cst K mg)  : Def P w K mg base (CXE P w) 1 "need_from" ["least", "number"] (spNeed C.NoCount.addr) := by
  refine F.okX (CX := CXE P w) (k := 0) sc_need_from (fun vs H Q E h => ?_) (fun f cdv A outer s H vs Q E hr h => ?_)
  · obtain ⟨_, _, rfl, _⟩ := h
    rfl
  have nd := sc_need_from.nd
  obtain ⟨l, n, rfl, hl, h1, h2⟩ := h
  refine ⟨_, (@pss_one _ _ _ (@ps_if _ _ _ _ _ _ _ _ (@pt_cmpR _ _ _ _ _ _ _ _ op_ltI (pv 1) (pv 0) (nomark _)) (@pss_one _ _ _ (@ps_raise _ _ _ _ _ _ _ _ _ _ _ _ _ _ (C.NoCount).own PySem.F.excBase_ValueError rfl rfl xmade_cx (@pa_cons _ _ _ _ _ (@pe_joined _ _ _ _ _ _ (@PJ.cons _ _ _ _ _ pe_str (@PJ.cons _ _ _ _ _ (@pe_fmtI _ _ _ _ (pv 0)) (@PJ.cons _ _ _ _ _ pe_str PJ.nil)))) pa_nil (by rfl)) (by decide) (by rfl) (by rfl))) pss_nil)), ?_⟩
  try dsimp only [cxOf, Cx.inH, Cx.tried]
  refine rd_start [some (.int l), some (.int n)] rfl ?_
  walk_at "rd"
  walk_at "ite"
  · rename_i c
    rcases hl with rfl | rfl
    · walk_at "rd"
      exact h1 c
    · walk_at "rd"
      exact h1 c
  · walk_at "rd"
    exact h2 (by omega)
def spOdd (cN cO : Addr) : Sp := fun vs H Q E => ∃ m : Int, vs = [.int m] ∧ (m < 1 → E (.ref cN) none H) ∧ (1 ≤ m → m % 2 = 0 → E (.ref cO) none H) ∧ (1 ≤ m → m % 2 = 1 → Q .non H)
theorem use_odd {cN cO : Addr} {m : Int} {H : Hp} {Q : VK} {E : XK} (h1 : m < 1 → E (.ref cN) none H) (h2 : 1 ≤ m → m % 2 = 0 → E (.ref cO) none H) (h3 : 1 ≤ m → m % 2 = 1 → Q .non H) : spOdd cN cO [.int m] H Q E := ⟨m, rfl, h1, h2, h3⟩
theorem ok_need_odd (F : Src K mg "need_odd" s_need_odd ["m"]) (B : Blt mg) (C : Cls K mg base) (R : Rel K mg base C) (Kc : Cst K mg) (D_need_from : Def P w K mg base (CXE P w) 1 "need_from" ["least", "number"] (spNeed C.NoCount.addr)) : Def P w K mg base (CXE P w) 2 "need_odd" ["m"] (spOdd C.NoCount.addr C.NotOdd.addr) := by
  refine F.okX (CX := CXE P w) (k := 1) sc_need_odd (fun vs H Q E h => ?_) (fun f cdv A outer s H vs Q E hr h => ?_)
  · obtain ⟨_, rfl, _⟩ := h
    rfl
  have nd := sc_need_odd.nd
  obtain ⟨m, rfl, h1, h2, h3⟩ := h
  refine ⟨_, (@pss_cons _ _ _ _ _ (@ps_expr _ _ _ _ (@pe_defS _ _ _ _ _ _ _ _ _ _ _ D_need_from (hr.mono (by decide)) rfl xpass_cx (@pa_cons _ _ _ _ _ pe_int (@pa_cons _ _ _ _ _ (pv 0) pa_nil (by rfl)) (by rfl)) (by decide) (by rfl) (by rfl)) (by rfl)) (@pss_one _ _ _ (@ps_if _ _ _ _ _ _ _ _ (@pt_cmpR _ _ _ _ _ _ _ _ (op_eqA hr.units0) (@pe_op _ _ _ _ _ _ _ _ op_modA (pv 0) pe_int) pe_int (nomark _)) (@pss_one _ _ _ (@ps_raise _ _ _ _ _ _ _ _ _ _ _ _ _ _ (C.NotOdd).own PySem.F.excBase_ValueError rfl rfl xmade_cx (@pa_cons _ _ _ _ _ pe_str pa_nil (by rfl)) (by decide) (by rfl) (by rfl))) pss_nil))), ?_⟩
  try dsimp only [cxOf, Cx.inH, Cx.tried]
  refine rd_start [some (.int m)] rfl ?_
  walk_at "rd"
  refine use_need (by omega) h1 fun hm => ?_
  walk_at "rd"
  walk_at "ite"
  · rename_i c
    walk_at "rd"
    exact h2 hm c
  · walk_at "rd"
    exact h3 hm (by omega)
def spTo (cT : Addr) : Sp := fun vs H Q E => ∃ l n : Int, vs = [.int l, .int n] ∧ (l = 200 ∨ l = 60 ∨ l = 999999) ∧ (l < n → E (.ref cT) none H) ∧ (n ≤ l → Q .non H)
theorem use_to {cT : Addr} {l n : Int} {H : Hp} {Q : VK} {E : XK} (hl : l = 200 ∨ l = 60 ∨ l = 999999) (h1 : l < n → E (.ref cT) none H) (h2 : n ≤ l → Q .non H) : spTo cT [.int l, .int n] H Q E := ⟨l, n, rfl, hl, h1, h2⟩
theorem ok_need_to (F : Src K mg "need_to" s_need_to ["most", "number"]) (B : Blt mg) (C : Cls K mg base) (R : Rel K mg base C) (Kc : Cst K mg)  : Def P w K mg base (CXE P w) 1 "need_to" ["most", "number"] (spTo C.TooMany.addr) := by
  refine F.okX (CX := CXE P w) (k := 0) sc_need_to (fun vs H Q E h => ?_) (fun f cdv A outer s H vs Q E hr h => ?_)
  · obtain ⟨_, _, rfl, _⟩ := h
    rfl
  have nd := sc_need_to.nd
  obtain ⟨l, n, rfl, hl, h1, h2⟩ := h
  refine ⟨_, (@pss_one _ _ _ (@ps_if _ _ _ _ _ _ _ _ (@pt_cmpR _ _ _ _ _ _ _ _ op_gtI (pv 1) (pv 0) (nomark _)) (@pss_one _ _ _ (@ps_raise _ _ _ _ _ _ _ _ _ _ _ _ _ _ (C.TooMany).own PySem.F.excBase_ValueError rfl rfl xmade_cx (@pa_cons _ _ _ _ _ (@pe_joined _ _ _ _ _ _ (@PJ.cons _ _ _ _ _ pe_str (@PJ.cons _ _ _ _ _ (@pe_fmtI _ _ _ _ (pv 0)) (@PJ.cons _ _ _ _ _ pe_str PJ.nil)))) pa_nil (by rfl)) (by decide) (by rfl) (by rfl))) pss_nil)), ?_⟩
  try dsimp only [cxOf, Cx.inH, Cx.tried]
  refine rd_start [some (.int l), some (.int n)] rfl ?_
  walk_at "rd"
  walk_at "ite"
  · rename_i c
    rcases hl with rfl | rfl | rfl
    · walk_at "rd"
      exact h1 c
    · walk_at "rd"
      exact h1 c
    · walk_at "rd"
      exact h1 c
  · walk_at "rd"
    exact h2 (by omega)
theorem ok_shared (F : Src K mg "shared" s_shared ["a", "b"]) (B : Blt mg) (C : Cls K mg base) (R : Rel K mg base C) (Kc : Cst K mg)  : Def P w K mg base (CXE P w) 1 "shared" ["a", "b"] spGcd := by
  refine F.ok (CX := CXE P w) (k := 0) sc_shared (fun vs H Q E h => ?_) (fun f cdv A outer s H vs Q E hr h => ?_)
  · obtain ⟨_, _, rfl, _⟩ := h
    rfl
  have nd := sc_shared.nd
  obtain ⟨a, b, rfl, q⟩ := h
  refine ⟨_, (@pss_cons _ _ _ _ _ (@ps_set _ _ 2 _ _ _ _ nd rfl (Or.inl rfl) (@pe_callB _ _ _ _ _ _ _ _ _ call_absI rfl B.abs PyProof.Rows.boot_abs (@pa_cons _ _ _ _ _ (pv 0) pa_nil (by rfl)) (by decide) (by decide) (by rfl) (by rfl)) (by rfl) (by walk_at "lo")) (@pss_cons _ _ _ _ _ (@ps_set _ _ 3 _ _ _ _ nd rfl (Or.inl rfl) (@pe_callB _ _ _ _ _ _ _ _ _ call_absI rfl B.abs PyProof.Rows.boot_abs (@pa_cons _ _ _ _ _ (pv 1) pa_nil (by rfl)) (by decide) (by decide) (by rfl) (by rfl)) (by rfl) (by walk_at "lo")) (@pss_cons _ _ _ _ _ (@ps_while _ _ _ _ _ _ PassesOwn.never (@pt_cmpR _ _ _ _ _ _ _ _ (op_neA hr.units0) (pv 3) pe_int (nomark _)) (@pss_cons _ _ _ _ _ (@ps_set _ _ 4 _ _ _ _ nd rfl (Or.inl rfl) (@pe_op _ _ _ _ _ _ _ _ op_modA (pv 2) (pv 3)) (by rfl) (by walk_at "lo")) (@pss_cons _ _ _ _ _ (@ps_set _ _ 2 _ _ _ _ nd rfl (Or.inl rfl) (pv 3) (by rfl) (by walk_at "lo")) (@pss_one _ _ _ (@ps_set _ _ 3 _ _ _ _ nd rfl (Or.inl rfl) (pv 4) (by rfl) (by walk_at "lo")))))) (@pss_one _ _ _ (@ps_ret _ _ _ _ (pv 2)))))), ?_⟩
  try dsimp only [cxOf, Cx.inH, Cx.tried]
  refine rd_start [some (.int a), some (.int b), none, none, none] rfl ?_
  walk_at "rd"
  rename_i x0 e0 y0 e1
  refine rd_while (fun m σ H' => H' = H ∧ ∃ (x y : Int) (z : Option V), m = y.natAbs ∧ σ = [some (.int a), some (.int b), some (.int x), some (.int y), z] ∧ 0 ≤ x ∧ 0 ≤ y ∧ Int.gcd x y = Int.gcd a b) _ ⟨rfl, x0, y0, _, rfl, rfl, by omega, by omega, by rw [e0, e1]; simp [Int.gcd]⟩ ?_
  rintro m σ H' ⟨rfl, x, y, z, rfl, rfl, hx, hy, hg⟩
  walk_at "rd"
  walk_at "ite"
  · rename_i c
    walk_at "rd"
    have h1 := Int.emod_nonneg x c
    have h2 := Int.emod_lt_of_pos x (show 0 < y by omega)
    exact ⟨_, by omega, rfl, _, _, _, rfl, rfl, hy, h1, (Mth.gcd_emod x y).trans hg⟩
  · rename_i c
    subst c
    walk_at "rd"
    have e : x = (Int.gcd a b : Int) := by
      rw [← hg, Int.gcd_zero_right]; omega
    rw [e]
    exact q
def spNA (cA : Addr) : Sp := fun vs H Q E => ∃ a m : Int, vs = [.int a, .int m] ∧ (Int.gcd a m ≠ 1 → E (.ref cA) none H) ∧ (Int.gcd a m = 1 → Q .non H)
theorem use_NA {cA : Addr} {a m : Int} {H : Hp} {Q : VK} {E : XK} (h1 : Int.gcd a m ≠ 1 → E (.ref cA) none H) (h2 : Int.gcd a m = 1 → Q .non H) : spNA cA [.int a, .int m] H Q E := ⟨a, m, rfl, h1, h2⟩
theorem ok_need_apart (F : Src K mg "need_apart" s_need_apart ["a", "m"]) (B : Blt mg) (C : Cls K mg base) (R : Rel K mg base C) (Kc : Cst K mg) (D_shared : Def P w K mg base (CXE P w) 1 "shared" ["a", "b"] spGcd) : Def P w K mg base (CXE P w) 2 "need_apart" ["a", "m"] (spNA C.NotApart.addr) := by
  refine F.okX (CX := CXE P w) (k := 1) sc_need_apart (fun vs H Q E h => ?_) (fun f cdv A outer s H vs Q E hr h => ?_)
  · obtain ⟨_, _, rfl, _⟩ := h
    rfl
  have nd := sc_need_apart.nd
  obtain ⟨a, m, rfl, h1, h2⟩ := h
  refine ⟨_, (@pss_one _ _ _ (@ps_if _ _ _ _ _ _ _ _ (@pt_cmpR _ _ _ _ _ _ _ _ (op_neA hr.units0) (@pe_defS _ _ _ _ _ _ _ _ _ _ _ D_shared (hr.mono (by decide)) rfl xpass_cx (@pa_cons _ _ _ _ _ (pv 0) (@pa_cons _ _ _ _ _ (pv 1) pa_nil (by rfl)) (by rfl)) (by decide) (by rfl) (by rfl)) pe_int (nomark _)) (@pss_one _ _ _ (@ps_raise _ _ _ _ _ _ _ _ _ _ _ _ _ _ (C.NotApart).own PySem.F.excBase_ValueError rfl rfl xmade_cx (@pa_cons _ _ _ _ _ pe_str pa_nil (by rfl)) (by decide) (by rfl) (by rfl))) pss_nil)), ?_⟩
  try dsimp only [cxOf, Cx.inH, Cx.tried]
  refine rd_start [some (.int a), some (.int m)] rfl ?_
  walk_at "rd"
  walk_at "ite"
  · rename_i c
    walk_at "rd"
    exact h1 (by omega)
  · rename_i c
    walk_at "rd"
    exact h2 (by omega)
def hrw (k r m : Int) : List Int := [k, if 2 * r < m then r else m - r, if 2 * r < m then 1 else -1]
def spHRow : Sp := fun vs H Q _ => ∃ k r m : Int, vs = [.int k, .int r, .int m] ∧ ∀ t H', Same H H' → H t = none → H' t = some (.tup ((hrw k r m).map V.int)) → Q (.ref t) H'
theorem use_hrow {k r m : Int} {H : Hp} {Q : VK} {E : XK} (h : ∀ t H', Same H H' → H t = none → H' t = some (.tup ((hrw k r m).map V.int)) → Q (.ref t) H') : spHRow [.int k, .int r, .int m] H Q E := ⟨k, r, m, rfl, h⟩
theorem ok_half_row (F : Src K mg "half_row" s_half_row ["k", "rest", "m"]) (B : Blt mg) (C : Cls K mg base) (R : Rel K mg base C) (Kc : Cst K mg)  : Def P w K mg base (CXE P w) 1 "half_row" ["k", "rest", "m"] spHRow := by
  refine F.ok (CX := CXE P w) (k := 0) sc_half_row (fun vs H Q E h => ?_) (fun f cdv A outer s H vs Q E hr h => ?_)
  · obtain ⟨_, _, _, rfl, _⟩ := h
    rfl
  have nd := sc_half_row.nd
  obtain ⟨k, r, m, rfl, q⟩ := h
  unfold hrw at q
  refine ⟨_, (@pss_cons _ _ _ _ _ (@ps_if _ _ _ _ _ _ _ _ (@pt_cmpR _ _ _ _ _ _ _ _ op_ltI (@pe_op _ _ _ _ _ _ _ _ op_mulA pe_int (pv 1)) (pv 2) (nomark _)) (@pss_one _ _ _ (@ps_ret _ _ _ _ (@pe_tup _ _ _ _ _ (@pa_cons _ _ _ _ _ (pv 0) (@pa_cons _ _ _ _ _ (pv 1) (@pa_cons _ _ _ _ _ pe_int pa_nil (by rfl)) (by rfl)) (by rfl))))) pss_nil) (@pss_one _ _ _ (@ps_ret _ _ _ _ (@pe_tup _ _ _ _ _ (@pa_cons _ _ _ _ _ (pv 0) (@pa_cons _ _ _ _ _ (@pe_op _ _ _ _ _ _ _ _ op_subI (pv 2) (pv 1)) (@pa_cons _ _ _ _ _ (@pe_un _ _ _ _ _ _ un_neg pe_int) pa_nil (by rfl)) (by rfl)) (by rfl)))))), ?_⟩
  try dsimp only [cxOf, Cx.inH, Cx.tried]
  refine rd_start [some (.int k), some (.int r), some (.int m)] rfl ?_
  walk_at "rd"
  walk_at "ite"
  · rename_i c
    rw [if_pos c, if_pos c] at q
    walk_at "rd"
    rename_i t H1 s1 n1 e1
    exact q t H1 s1 n1 e1
  · rename_i c
    rw [if_neg c, if_neg c] at q
    walk_at "rd"
    rename_i t H1 s1 n1 e1
    exact q t H1 s1 n1 e1
def hrows (a m : Int) : List (List Int) := (List.range ((m + 1) / 2 - 1).toNat).map fun i => hrw (1 + (i : Nat)) (a * (1 + (i : Nat)) % m) m
def spHRs (cN cO cT cA : Addr) : Sp := fun vs H Q E => ∃ a m : Int, vs = [.int a, .int m] ∧ (m < 1 → E (.ref cN) none H) ∧ (1 ≤ m → m % 2 = 0 → E (.ref cO) none H) ∧ (1 ≤ m → m % 2 = 1 → 200 < m → E (.ref cT) none H) ∧ (1 ≤ m → m % 2 = 1 → m ≤ 200 → Int.gcd a m ≠ 1 → E (.ref cA) none H) ∧ (1 ≤ m → m % 2 = 1 → m ≤ 200 → Int.gcd a m = 1 → ∀ D H', Same H H' → H D = none → RowsL H' D (hrows a m) → Q (.ref D) H')
theorem use_hrs {cN cO cT cA : Addr} {a m : Int} {H : Hp} {Q : VK} {E : XK} (h1 : m < 1 → E (.ref cN) none H) (h2 : 1 ≤ m → m % 2 = 0 → E (.ref cO) none H) (h3 : 1 ≤ m → m % 2 = 1 → 200 < m → E (.ref cT) none H) (h4 : 1 ≤ m → m % 2 = 1 → m ≤ 200 → Int.gcd a m ≠ 1 → E (.ref cA) none H) (h5 : 1 ≤ m → m % 2 = 1 → m ≤ 200 → Int.gcd a m = 1 → ∀ D H', Same H H' → H D = none → RowsL H' D (hrows a m) → Q (.ref D) H') : spHRs cN cO cT cA [.int a, .int m] H Q E := ⟨a, m, rfl, h1, h2, h3, h4, h5⟩
theorem ok_half_rows (F : Src K mg "half_rows" s_half_rows ["a", "m"]) (B : Blt mg) (C : Cls K mg base) (R : Rel K mg base C) (Kc : Cst K mg) (D_need_odd : Def P w K mg base (CXE P w) 2 "need_odd" ["m"] (spOdd C.NoCount.addr C.NotOdd.addr)) (D_need_to : Def P w K mg base (CXE P w) 1 "need_to" ["most", "number"] (spTo C.TooMany.addr)) (D_need_apart : Def P w K mg base (CXE P w) 2 "need_apart" ["a", "m"] (spNA C.NotApart.addr)) (D_half_row : Def P w K mg base (CXE P w) 1 "half_row" ["k", "rest", "m"] spHRow) : Def P w K mg base (CXE P w) 3 "half_rows" ["a", "m"] (spHRs C.NoCount.addr C.NotOdd.addr C.TooMany.addr C.NotApart.addr) := by
  refine F.okX (CX := CXE P w) (k := 2) sc_half_rows (fun vs H Q E h => ?_) (fun f cdv A outer s H vs Q E hr h => ?_)
  · obtain ⟨_, _, rfl, _⟩ := h
    rfl
  have nd := sc_half_rows.nd
  obtain ⟨a, m, rfl, h1, h2, h3, h4, h5⟩ := h
  refine ⟨_, (@pss_cons _ _ _ _ _ (@ps_expr _ _ _ _ (@pe_defS _ _ _ _ _ _ _ _ _ _ _ D_need_odd (hr.mono (by decide)) rfl xpass_cx (@pa_cons _ _ _ _ _ (pv 1) pa_nil (by rfl)) (by decide) (by rfl) (by rfl)) (by rfl)) (@pss_cons _ _ _ _ _ (@ps_expr _ _ _ _ (@pe_defS _ _ _ _ _ _ _ _ _ _ _ D_need_to (hr.mono (by decide)) rfl xpass_cx (@pa_cons _ _ _ _ _ (@pe_glob _ _ (.int 200) _ _ rfl Kc.MOST_RESTS.choose_spec ⟨_, rfl⟩ (by decide)) (@pa_cons _ _ _ _ _ (pv 1) pa_nil (by rfl)) (by rfl)) (by decide) (by rfl) (by rfl)) (by rfl)) (@pss_cons _ _ _ _ _ (@ps_expr _ _ _ _ (@pe_defS _ _ _ _ _ _ _ _ _ _ _ D_need_apart (hr.mono (by decide)) rfl xpass_cx (@pa_cons _ _ _ _ _ (pv 0) (@pa_cons _ _ _ _ _ (pv 1) pa_nil (by rfl)) (by rfl)) (by decide) (by rfl) (by rfl)) (by rfl)) (@pss_one _ _ _ (@ps_ret _ _ _ _ (@pe_compF _ _ _ _ _ _ _ _ _ [1, 0] ["m", "a"] rfl (@pi_range2 _ _ _ _ _ _ _ rfl B.range (@pa_cons _ _ _ _ _ pe_int (@pa_cons _ _ _ _ _ (@pe_op _ _ _ _ _ _ _ _ op_divA (@pe_op _ _ _ _ _ _ _ _ op_addA (pv 1) pe_int) pe_int) pa_nil (by rfl)) (by rfl)) (by rfl) (by rfl)) (fun pins cl ex s H => (@pe_defS _ _ _ _ _ _ _ _ _ _ _ D_half_row (hr.mono (by decide)) rfl xpass_wn (@pa_cons _ _ _ _ _ (pv 0) (@pa_cons _ _ _ _ _ (@pe_op _ _ _ _ _ _ _ _ op_modA (@pe_op _ _ _ _ _ _ _ _ op_mulA (pv 2) (pv 0)) (pv 1)) (@pa_cons _ _ _ _ _ (pv 1) pa_nil (by rfl)) (by rfl)) (by rfl)) (by decide) (by rfl) (by rfl))) rfl rfl rfl (by decide +kernel) (by decide +kernel) rfl (by decide +kernel) rfl (by decide +kernel) (by intro _; rfl))))))), ?_⟩
  try dsimp only [cxOf, Cx.inH, Cx.tried]
  refine rd_start [some (.int a), some (.int m)] rfl ?_
  walk_at "rd"
  refine use_odd h1 h2 fun hm hm2 => ?_
  walk_at "rd"
  refine use_to (by omega) (h3 hm hm2) fun hm3 => ?_
  walk_at "rd"
  refine use_NA (h4 hm hm2 hm3) fun hg => ?_
  walk_at "rd"
  refine rd_compR2 [some (.int m), some (.int a)] rfl ?_
  walk_at "rd"
  refine rd_kCompRows (fun k => hrw k (a * k % m) m) (by omega) (fun i k H' Q' hi hk s q => ?_) (fun D H2 s2 n2 e2 => ?_)
  · walk_at "rd"
    exact use_hrow fun t H2 s2 n2 e2 => q t H2 s2 e2
  walk_at "rd"
  exact h5 hm hm2 hm3 hg D H2 s2 n2 e2
def spCell (K : PySem.W.Frag) : Sp := fun vs H Q _ => ∃ (a : Addr) (ns : List Int) (k : Int), vs = [.ref a, .int k] ∧ SqL K H a (ns.map V.int) ∧ 0 ≤ k ∧ k ≤ 1000 ∧ ∀ v : Int, Q (.int v) H
theorem use_cell {K : PySem.W.Frag} {k : Int} {a : Addr} {ns : List Int} {H : Hp} {Q : VK} {E : XK} (h1 : SqL K H a (ns.map V.int)) (h0 : 0 ≤ k) (h2 : k ≤ 1000) (h : ∀ v : Int, Q (.int v) H) : spCell K [.ref a, .int k] H Q E := ⟨a, ns, k, rfl, h1, h0, h2, h⟩
local macro_rules | `(tactic| walk_at "rdcall") => `(tactic| ((with_reducible refine' use_cell ?a ?b ?c ?_); (case a => walk_at "hp"); (case b => omega); (case c => omega); intro _))
theorem ok__law_cell (F : Src K mg "_law_cell" s__law_cell ["_law_script", "_law_k"]) (B : Blt mg) (C : Cls K mg base) (R : Rel K mg base C) (Kc : Cst K mg)  : Def P w K mg base (CXE P w) 1 "_law_cell" ["_law_script", "_law_k"] (spCell K) := by
  refine F.ok (CX := CXE P w) (k := 0) sc__law_cell (fun vs H Q E h => ?_) (fun f cdv A outer s H vs Q E hr h => ?_)
  · obtain ⟨_, _, _, rfl, _⟩ := h
    rfl
  have nd := sc__law_cell.nd
  obtain ⟨a, ns, k, rfl, hS, h0, h1, q⟩ := h
  refine ⟨_, (@pss_cons _ _ _ _ _ (@ps_if _ _ _ _ _ _ _ _ (@pt_cmpR _ _ _ _ _ _ _ _ (op_eqA hr.units0) (@pe_callB _ _ _ _ _ _ _ _ _ call_lenA rfl B.len PySem.boot_len (@pa_cons _ _ _ _ _ (pv 0) pa_nil (by rfl)) (by decide) (by decide) (by rfl) (by rfl)) pe_int (nomark _)) (@pss_one _ _ _ (@ps_ret _ _ _ _ (@pe_op _ _ _ _ _ _ _ _ op_mulA pe_int (@pe_op _ _ _ _ _ _ _ _ op_addA (pv 1) pe_int)))) pss_nil) (@pss_cons _ _ _ _ _ (@ps_if _ _ _ _ _ _ _ _ (@pt_cmpR _ _ _ _ _ _ _ _ op_ltI (pv 1) (@pe_callB _ _ _ _ _ _ _ _ _ call_lenA rfl B.len PySem.boot_len (@pa_cons _ _ _ _ _ (pv 0) pa_nil (by rfl)) (by decide) (by decide) (by rfl) (by rfl)) (nomark _)) (@pss_one _ _ _ (@ps_ret _ _ _ _ (@pe_ix _ _ _ _ _ _ _ ix_A (pv 0) (pv 1) (fun _ _ => rfl)))) pss_nil) (@pss_one _ _ _ (@ps_ret _ _ _ _ (@pe_op _ _ _ _ _ _ _ _ op_addA (@pe_ix _ _ _ _ _ _ _ ix_A (pv 0) (@pe_op _ _ _ _ _ _ _ _ op_modA (pv 1) (@pe_callB _ _ _ _ _ _ _ _ _ call_lenA rfl B.len PySem.boot_len (@pa_cons _ _ _ _ _ (pv 0) pa_nil (by rfl)) (by decide) (by decide) (by rfl) (by rfl))) (fun _ _ => rfl)) (@pe_op _ _ _ _ _ _ _ _ op_mulA pe_int (pv 1))))))), ?_⟩
  try dsimp only [cxOf, Cx.inH, Cx.tried]
  refine rd_start [some (.ref a), some (.int k)] rfl ?_
  have hl : (ns.map V.int).length = ns.length := List.length_map _
  walk_at "rd"
  walk_at "ite"
  · walk_at "rd"
    exact q _
  · rename_i c0
    walk_at "rd"
    walk_at "ite"
    · rename_i c1
      walk_at "rd"
      refine rd_ixM hS (by omega) (by omega) fun v _ _ => ?_
      walk_at "rd"
      exact q _
    · rename_i c1
      walk_at "rd"
      refine rd_ixM hS (Int.emod_nonneg _ (by omega)) (by have := Int.emod_lt_of_pos k (show (0:Int) < ((ns.map V.int).length : Int) by omega); omega) fun v _ _ => ?_
      walk_at "rd"
      exact q _
def spMixed : Sp := fun vs H Q _ => ∃ c k p : Int, vs = [.int c, .int k, .int p] ∧ 0 ≤ k ∧ k ≤ 1000 ∧ 0 < p ∧ ∀ v : Int, 0 ≤ v → v < p → Q (.int v) H
theorem use_mixed {c k p : Int} {H : Hp} {Q : VK} {E : XK} (h0 : 0 ≤ k) (h1 : k ≤ 1000) (hp : 0 < p) (h : ∀ v : Int, 0 ≤ v → v < p → Q (.int v) H) : spMixed [.int c, .int k, .int p] H Q E := ⟨c, k, p, rfl, h0, h1, hp, h⟩
local macro_rules | `(tactic| walk_at "rdcall") => `(tactic| ((with_reducible refine use_mixed ?a ?b ?c ?_); (case a => omega); (case b => omega); (case c => omega); intro _ _ _))
theorem ok__law_mixed (F : Src K mg "_law_mixed" s__law_mixed ["_law_cell_here", "_law_k", "_law_prime"]) (B : Blt mg) (C : Cls K mg base) (R : Rel K mg base C) (Kc : Cst K mg)  : Def P w K mg base (CXE P w) 1 "_law_mixed" ["_law_cell_here", "_law_k", "_law_prime"] spMixed := by
  refine F.ok (CX := CXE P w) (k := 0) sc__law_mixed (fun vs H Q E h => ?_) (fun f cdv A outer s H vs Q E hr h => ?_)
  · obtain ⟨_, _, _, rfl, _⟩ := h
    rfl
  have nd := sc__law_mixed.nd
  obtain ⟨c, k, p, rfl, h0, h1, hp, q⟩ := h
  refine ⟨_, (@pss_cons _ _ _ _ _ (@ps_set _ _ 3 _ _ _ _ nd rfl (Or.inl rfl) (@pe_op _ _ _ _ _ _ _ _ op_modA (@pe_op _ _ _ _ _ _ _ _ op_mulA (@pe_op _ _ _ _ _ _ _ _ op_addA (@pe_op _ _ _ _ _ _ _ _ op_addA (@pe_op _ _ _ _ _ _ _ _ op_addA (pv 0) (@pe_op _ _ _ _ _ _ _ _ op_mulA (@pe_op _ _ _ _ _ _ _ _ op_mulA pe_int (pv 1)) (pv 1))) (@pe_op _ _ _ _ _ _ _ _ op_mulA pe_int (pv 1))) pe_int) pe_int) pe_int) (by rfl) (by walk_at "lo")) (@pss_cons _ _ _ _ _ (@ps_set _ _ 3 _ _ _ _ nd rfl (Or.inl rfl) (@pe_op _ _ _ _ _ _ _ _ op_modA (@pe_op _ _ _ _ _ _ _ _ op_mulA (pv 3) (pv 3)) pe_int) (by rfl) (by walk_at "lo")) (@pss_one _ _ _ (@ps_ret _ _ _ _ (@pe_op _ _ _ _ _ _ _ _ op_modA (@pe_op _ _ _ _ _ _ _ _ op_mulA (pv 3) pe_int) (pv 2)))))), ?_⟩
  try dsimp only [cxOf, Cx.inH, Cx.tried]
  refine rd_start [some (.int c), some (.int k), some (.int p), none] rfl ?_
  walk_at "rd"
  exact q _ (Int.emod_nonneg _ (by omega)) (Int.emod_lt_of_pos _ hp)
def DrawOk (fs ws : List Int) : Prop := fs.length = ws.length ∧ ∀ (i : Nat) (v w : Int), fs[i]? = some v → ws[i]? = some w → 0 ≤ v ∧ v < w
def spDraws (K : PySem.W.Frag) : Sp := fun vs H Q _ => ∃ (c : Int) (a : Addr) (ws : List Int) (p : Int), vs = [.int c, .ref a, .int p] ∧ SqL K H a (ws.map V.int) ∧ ws.length ≤ 100 ∧ (∀ x ∈ ws, 0 < x ∧ x < 2 ^ 60) ∧ 0 < p ∧
  ∀ (r : Addr) (H' : Hp) (fs : List Int), Same H H' → H r = none → H' r = some (.lst (fs.map V.int)) → DrawOk fs ws → Q (.ref r) H'
theorem use_draws {K : PySem.W.Frag} {c p : Int} {a : Addr} {H : Hp} {Q : VK} {E : XK} (ws : List Int) (h1 : SqL K H a (ws.map V.int)) (h2 : ws.length ≤ 100) (h3 : ∀ x ∈ ws, 0 < x ∧ x < 2 ^ 60) (hp : 0 < p)
    (h : ∀ (r : Addr) (H' : Hp) (fs : List Int), Same H H' → H r = none → H' r = some (.lst (fs.map V.int)) → DrawOk fs ws → Q (.ref r) H') : spDraws K [.int c, .ref a, .int p] H Q E := ⟨c, a, ws, p, rfl, h1, h2, h3, hp, h⟩
theorem ok__law_draws (F : Src K mg "_law_draws" s__law_draws ["_law_cell_here", "_law_widths", "_law_prime"]) (B : Blt mg) (C : Cls K mg base) (R : Rel K mg base C) (Kc : Cst K mg) (D__law_mixed : Def P w K mg base (CXE P w) 1 "_law_mixed" ["_law_cell_here", "_law_k", "_law_prime"] spMixed) : Def P w K mg base (CXE P w) 2 "_law_draws" ["_law_cell_here", "_law_widths", "_law_prime"] (spDraws K) := by
  refine F.ok (CX := CXE P w) (k := 1) sc__law_draws (fun vs H Q E h => ?_) (fun f cdv A outer s H vs Q E hr h => ?_)
  · obtain ⟨_, _, _, _, rfl, _⟩ := h
    rfl
  have nd := sc__law_draws.nd
  obtain ⟨c, a, ws, p, rfl, hS, h100, hw, hp, q⟩ := h
  have hl : (ws.map V.int).length = ws.length := List.length_map _
  refine ⟨_, (@pss_cons _ _ _ _ _ (@ps_set _ _ 3 _ _ _ _ nd rfl (Or.inl rfl) pe_int (by rfl) (by walk_at "lo")) (@pss_consE _ _ _ _ _ (@ps_if _ _ _ _ _ _ _ _ (@pt_cmpR _ _ _ _ _ _ _ _ op_geI (pv 0) (@pe_powc _ _ 18 _ _ _ _ _ (by decide) (by decide)) (nomark _)) (@pss_one _ _ _ (@ps_set _ _ 3 _ _ _ _ nd rfl (Or.inl rfl) (@pe_op _ _ _ _ _ _ _ _ op_subI (pv 0) (@pe_powc _ _ 18 _ _ _ _ _ (by decide) (by decide))) (by rfl) (by walk_at "lo"))) pss_nil) (@pss_cons _ _ _ _ _ (@ps_set _ _ 4 _ _ _ _ nd rfl (Or.inl rfl) (@pe_lst _ _ _ _ pa_nil) (by rfl) (by walk_at "lo")) (@pss_cons _ _ _ _ _ (@ps_for _ _ _ _ _ _ _ _ PassesOwn.never rfl (@pi_range1 _ _ _ _ _ _ rfl B.range (@pa_cons _ _ _ _ _ (@pe_callB _ _ _ _ _ _ _ _ _ call_lenA rfl B.len PySem.boot_len (@pa_cons _ _ _ _ _ (pv 1) pa_nil (by rfl)) (by decide) (by decide) (by rfl) (by rfl)) pa_nil (by rfl)) (by rfl)) (@pg_name _ _ 5 _ nd rfl (Or.inl rfl) (by walk_at "lo")) (@pss_one _ _ _ (@ps_if _ _ _ _ _ _ _ _ (@pt_cmpR _ _ _ _ _ _ _ _ op_gtI (pv 3) pe_int (nomark _)) (@pss_cons _ _ _ _ _ (@ps_expr _ _ _ _ (@pe_bm _ _ _ _ _ _ _ _ _ _ _ _ PySem.F.plainAttrs_list PySem.F.slot_list_append PySem.F.type_list_append mt_append (pv 4) (@pa_cons _ _ _ _ _ (@pe_op _ _ _ _ _ _ _ _ op_modA (pv 3) (@pe_ix _ _ _ _ _ _ _ ix_A (pv 1) (pv 5) (fun _ _ => rfl))) pa_nil (by rfl)) (by rfl) (by rfl) (by rfl) (by rfl) (by rfl)) (by rfl)) (@pss_one _ _ _ (@ps_set _ _ 3 _ _ _ _ nd rfl (Or.inl rfl) (@pe_op _ _ _ _ _ _ _ _ op_divA (pv 3) (@pe_ix _ _ _ _ _ _ _ ix_A (pv 1) (pv 5) (fun _ _ => rfl))) (by rfl) (by walk_at "lo")))) (@pss_one _ _ _ (@ps_expr _ _ _ _ (@pe_bm _ _ _ _ _ _ _ _ _ _ _ _ PySem.F.plainAttrs_list PySem.F.slot_list_append PySem.F.type_list_append mt_append (pv 4) (@pa_cons _ _ _ _ _ (@pe_op _ _ _ _ _ _ _ _ op_modA (@pe_defS _ _ _ _ _ _ _ _ _ _ _ D__law_mixed (hr.mono (by decide)) rfl xpass_nox (@pa_cons _ _ _ _ _ (pv 0) (@pa_cons _ _ _ _ _ (pv 5) (@pa_cons _ _ _ _ _ (pv 2) pa_nil (by rfl)) (by rfl)) (by rfl)) (by decide) (by rfl) (by rfl)) (@pe_ix _ _ _ _ _ _ _ ix_A (pv 1) (pv 5) (fun _ _ => rfl))) pa_nil (by rfl)) (by rfl) (by rfl) (by rfl) (by rfl) (by rfl)) (by rfl))))) (by intro _; rfl)) (@pss_one _ _ _ (@ps_ret _ _ _ _ (pv 4))))))), ?_⟩
  try dsimp only [cxOf, Cx.inH, Cx.tried]
  refine rd_start [some (.int c), some (.ref a), some (.int p), none, none, none] rfl ?_
  walk_at "rd"
  refine rd_join (fun σ H' => H = H' ∧ ∃ x : Int, σ = [some (.int c), some (.ref a), some (.int p), some (.int x), none, none]) ?_ ?_
  · walk_at "rd"
    walk_at "ite"
    · walk_at "rd"
      exact ⟨rfl, _, rfl⟩
    · walk_at "rd"
      exact ⟨rfl, _, rfl⟩
  rintro σ _ ⟨rfl, x0, rfl⟩
  walk_at "rd"
  rename_i r H1 s1 hn1 e1
  refine for_range (n := ((ws.map V.int).length : Int).toNat) (fun i σ H2 => Same H H2 ∧ i ≤ ws.length ∧ ∃ (x : Int) (fs : List Int) (z : Option V), σ = [some (.int c), some (.ref a), some (.int p), some (.int x), some (.ref r), z] ∧
    H2 r = some (.lst (fs.map V.int)) ∧ fs.length = i ∧ ∀ (i : Nat) (v w : Int), fs[i]? = some v → ws[i]? = some w → 0 ≤ v ∧ v < w) ⟨s1, Nat.zero_le _, x0, [], _, rfl, e1, rfl, fun i v w h => by simp at h⟩ ?_ ?_
  · rintro i σ H2 hi ⟨s2, hi', x, fs, z, rfl, e2, hfl, hfs⟩
    have hi2 : i < ws.length := by omega
    obtain ⟨y, hy⟩ : ∃ y, ws[i]? = some y := ⟨_, List.getElem?_eq_getElem hi2⟩
    have hyp := hw y (List.mem_of_getElem? hy)
    have hS2 : SqL K H2 a (ws.map V.int) := s2.seq hS
    have grow : ∀ v : Int, 0 ≤ v → v < y → (fs ++ [v]).length = i + 1 ∧ ∀ (i : Nat) (v' w : Int), (fs ++ [v])[i]? = some v' → ws[i]? = some w → 0 ≤ v' ∧ v' < w := fun v h0 h1 => by
      refine ⟨by rw [List.length_append, hfl]; rfl, fun j v' w hv hw' => ?_⟩
      rcases Nat.lt_trichotomy j i with hj | hj | hj
      · rw [List.getElem?_append_left (by omega)] at hv
        exact hfs j v' w hv hw'
      · subst hj
        rw [List.getElem?_append_right (by omega), hfl, Nat.sub_self] at hv
        rw [hy] at hw'
        cases hv
        cases hw'
        exact ⟨h0, h1⟩
      · rw [List.getElem?_eq_none (by rw [List.length_append, hfl]; simp; omega)] at hv
        cases hv
    have em : ∀ v : Int, (fs.map V.int) ++ [.int v] = (fs ++ [v]).map V.int := fun v => by rw [List.map_append]; rfl
    have ei : (0 : Int) + (i : Int) = (i : Int) := by omega
    have hz : (fs.map V.int).length < sizeLine := by rw [List.length_map, hfl]; exact small1000 (by omega)
    rw [ei]
    walk_at "rd"
    walk_at "ite"
    · walk_at "rd"
      refine rd_ixM hS2 (by omega) (by omega) fun v _ hv => ?_
      rw [Int.toNat_natCast, hy] at hv
      cases hv
      walk_at "rd"
      refine rd_append e2 hz ?_
      walk_at "rd"
      refine rd_ixM ((s2.upd hn1).seq hS) (by omega) (by omega) fun v _ hv => ?_
      rw [Int.toNat_natCast, hy] at hv
      cases hv
      walk_at "rd"
      exact ⟨s2.upd hn1, hi2, _, _, _, rfl, by rw [em]; exact upd_same, grow _ (Int.emod_nonneg _ (by omega)) (Int.emod_lt_of_pos _ (by omega))⟩
    · walk_at "rd"
      refine rd_ixM hS2 (by omega) (by omega) fun v _ hv => ?_
      rw [Int.toNat_natCast, hy] at hv
      cases hv
      walk_at "rd"
      refine rd_append e2 hz ?_
      walk_at "rd"
      exact ⟨s2.upd hn1, hi2, _, _, _, rfl, by rw [em]; exact upd_same, grow _ (Int.emod_nonneg _ (by omega)) (Int.emod_lt_of_pos _ (by omega))⟩
  · rintro σ H2 ⟨s2, hi', x, fs, z, rfl, e2, hfl, hfs⟩
    walk_at "rd"
    exact q r H2 fs s2 hn1 e2 ⟨by omega, hfs⟩
def spCount : Sp := fun vs H Q _ => ∃ c p : Int, vs = [.int c, .int p] ∧ 0 < p ∧ ∀ (H' : Hp) (v : Int), Same H H' → 1 ≤ v → v ≤ 10 ^ 60 → Q (.int v) H'
theorem use_count {c p : Int} {H : Hp} {Q : VK} {E : XK} (hp : 0 < p) (h : ∀ (H' : Hp) (v : Int), Same H H' → 1 ≤ v → v ≤ 10 ^ 60 → Q (.int v) H') : spCount [.int c, .int p] H Q E := ⟨c, p, rfl, hp, h⟩
local macro_rules | `(tactic| walk_at "rdcall") => `(tactic| ((with_reducible refine use_count ?a ?_); (case a => omega); intro _ _ _ _ _))
theorem ok__law_count (F : Src K mg "_law_count" s__law_count ["_law_cell_here", "_law_prime"]) (B : Blt mg) (C : Cls K mg base) (R : Rel K mg base C) (Kc : Cst K mg) (D__law_draws : Def P w K mg base (CXE P w) 2 "_law_draws" ["_law_cell_here", "_law_widths", "_law_prime"] (spDraws K)) : Def P w K mg base (CXE P w) 3 "_law_count" ["_law_cell_here", "_law_prime"] spCount := by
  refine F.ok (CX := CXE P w) (k := 2) sc__law_count (fun vs H Q E h => ?_) (fun f cdv A outer s H vs Q E hr h => ?_)
  · obtain ⟨_, _, rfl, _⟩ := h
    rfl
  have nd := sc__law_count.nd
  obtain ⟨c, p, rfl, hp, q⟩ := h
  refine ⟨_, (@pss_cons _ _ _ _ _ (@ps_set _ _ 2 _ _ _ _ nd rfl (Or.inl rfl) (@pe_defS _ _ _ _ _ _ _ _ _ _ _ D__law_draws (hr.mono (by decide)) rfl xpass_nox (@pa_cons _ _ _ _ _ (pv 0) (@pa_cons _ _ _ _ _ (@pe_op _ _ _ _ _ _ _ _ op_addA (@pe_lst _ _ _ _ (@pa_cons _ _ _ _ _ pe_int pa_nil (by rfl))) (@pe_op _ _ _ _ _ _ _ _ op_mulA (@pe_lst _ _ _ _ (@pa_cons _ _ _ _ _ (@pe_powc _ _ 8 _ _ _ _ _ (by decide) (by decide)) pa_nil (by rfl))) pe_int)) (@pa_cons _ _ _ _ _ (pv 1) pa_nil (by rfl)) (by rfl)) (by rfl)) (by decide) (by rfl) (by rfl)) (by rfl) (by walk_at "lo")) (@pss_cons _ _ _ _ _ (@ps_set _ _ 3 _ _ _ _ nd rfl (Or.inl rfl) pe_int (by rfl) (by walk_at "lo")) (@pss_cons _ _ _ _ _ (@ps_for _ _ _ _ _ _ _ _ PassesOwn.never rfl (@pi_list _ _ _ _ (@pe_slice _ _ _ _ _ _ _ _ _ _ sl_A (pv 2) (@po_some _ _ _ pe_int) po_none)) (@pg_name _ _ 4 _ nd rfl (Or.inl rfl) (by walk_at "lo")) (@pss_one _ _ _ (@ps_set _ _ 3 _ _ _ _ nd rfl (Or.inl rfl) (@pe_op _ _ _ _ _ _ _ _ op_addA (@pe_op _ _ _ _ _ _ _ _ op_mulA (pv 3) (@pe_powc _ _ 8 _ _ _ _ _ (by decide) (by decide))) (pv 4)) (by rfl) (by walk_at "lo"))) (by intro _; rfl)) (@pss_one _ _ _ (@ps_ret _ _ _ _ (@pe_op _ _ _ _ _ _ _ _ op_addA pe_int (@pe_op _ _ _ _ _ _ _ _ op_modA (pv 3) (@pe_ix _ _ _ _ _ _ _ ix_A (@pe_lst _ _ _ _ (@pa_cons _ _ _ _ _ pe_int (@pa_cons _ _ _ _ _ pe_int (@pa_cons _ _ _ _ _ (@pe_powc _ _ 9 _ _ _ _ _ (by decide) (by decide)) (@pa_cons _ _ _ _ _ (@pe_powc _ _ 20 _ _ _ _ _ (by decide) (by decide)) (@pa_cons _ _ _ _ _ (@pe_op _ _ _ _ _ _ _ _ op_subI (@pe_powc _ _ 60 _ _ _ _ _ (by decide) (by decide)) pe_int) pa_nil (by rfl)) (by rfl)) (by rfl)) (by rfl)) (by rfl))) (@pe_ix _ _ _ _ _ _ _ ix_A (pv 2) pe_int (fun _ _ => rfl)) (fun _ _ => rfl))))))))), ?_⟩
  try dsimp only [cxOf, Cx.inH, Cx.tried]
  refine rd_start [some (.int c), some (.int p), none, none, none] rfl ?_
  walk_at "rd"
  refine use_draws [5, 10 ^ 8, 10 ^ 8, 10 ^ 8, 10 ^ 8, 10 ^ 8, 10 ^ 8, 10 ^ 8, 10 ^ 8] (by walk_at "hp") (by decide) (by decide) hp ?_
  intro r H6 fs s6 n6 e6 hD
  walk_at "rd"
  rename_i p7 H7 s7 n7 e7
  obtain ⟨ms, hms, _⟩ := cut_map fs (some 1) none
  rw [hms] at e7
  have hf : fs.length = 9 := hD.1
  refine for_ints (ns := ms) (fun i σ H' => H7 = H' ∧ ∃ (x : Int) (z : Option V), σ = [some (.int c), some (.int p), some (.ref r), some (.int x), z]) ⟨rfl, 0, _, rfl⟩ (fun i σ H' _ h => ?_) ?_ ?_
  · obtain ⟨rfl, _⟩ := h
    walk_at "hp"
  · rintro i n σ H' _ ⟨rfl, x, z, rfl⟩
    walk_at "rd"
    exact ⟨rfl, _, _, rfl⟩
  rintro σ H' ⟨rfl, x, z, rfl⟩
  walk_at "rd"
  refine rd_ixM (ns := fs) (by walk_at "hp") (by omega) (by omega) fun v0 _ hv0 => ?_
  have b0 := hD.2 0 v0 5 hv0 rfl
  walk_at "rd"
  refine rd_ixM (ns := [12, 200, 10 ^ 9, 10 ^ 20, 10 ^ 60 - 1]) (by walk_at "hp") (by omega) (by show v0 < 5; omega) fun m hm _ => ?_
  have hm1 : 0 < m ∧ m ≤ 10 ^ 60 - 1 := by
    simp at hm
    omega
  have b1 := Int.emod_nonneg x (show m ≠ 0 by omega)
  have b2 := Int.emod_lt_of_pos x hm1.1
  walk_at "rd"
  exact q _ _ (by walk_at "sm") (by omega) (by omega)
def spFar : Sp := fun vs H Q _ => ∃ c p : Int, vs = [.int c, .int p] ∧ 0 < p ∧ ∀ (H' : Hp) (v : Int), Same H H' → -(10 ^ 60) < v → v < 10 ^ 60 → Q (.int v) H'
theorem use_far {c p : Int} {H : Hp} {Q : VK} {E : XK} (hp : 0 < p) (h : ∀ (H' : Hp) (v : Int), Same H H' → -(10 ^ 60) < v → v < 10 ^ 60 → Q (.int v) H') : spFar [.int c, .int p] H Q E := ⟨c, p, rfl, hp, h⟩
local macro_rules | `(tactic| walk_at "rdcall") => `(tactic| ((with_reducible refine use_far ?a ?_); (case a => omega); intro _ _ _ _ _))
theorem ok__law_far (F : Src K mg "_law_far" s__law_far ["_law_cell_here", "_law_prime"]) (B : Blt mg) (C : Cls K mg base) (R : Rel K mg base C) (Kc : Cst K mg) (D__law_draws : Def P w K mg base (CXE P w) 2 "_law_draws" ["_law_cell_here", "_law_widths", "_law_prime"] (spDraws K)) : Def P w K mg base (CXE P w) 3 "_law_far" ["_law_cell_here", "_law_prime"] spFar := by
  refine F.ok (CX := CXE P w) (k := 2) sc__law_far (fun vs H Q E h => ?_) (fun f cdv A outer s H vs Q E hr h => ?_)
  · obtain ⟨_, _, rfl, _⟩ := h
    rfl
  have nd := sc__law_far.nd
  obtain ⟨c, p, rfl, hp, q⟩ := h
  refine ⟨_, (@pss_cons _ _ _ _ _ (@ps_set _ _ 2 _ _ _ _ nd rfl (Or.inl rfl) (@pe_defS _ _ _ _ _ _ _ _ _ _ _ D__law_draws (hr.mono (by decide)) rfl xpass_nox (@pa_cons _ _ _ _ _ (pv 0) (@pa_cons _ _ _ _ _ (@pe_op _ _ _ _ _ _ _ _ op_addA (@pe_op _ _ _ _ _ _ _ _ op_addA (@pe_lst _ _ _ _ (@pa_cons _ _ _ _ _ pe_int pa_nil (by rfl))) (@pe_op _ _ _ _ _ _ _ _ op_mulA (@pe_lst _ _ _ _ (@pa_cons _ _ _ _ _ (@pe_powc _ _ 8 _ _ _ _ _ (by decide) (by decide)) pa_nil (by rfl))) pe_int)) (@pe_lst _ _ _ _ (@pa_cons _ _ _ _ _ pe_int pa_nil (by rfl)))) (@pa_cons _ _ _ _ _ (pv 1) pa_nil (by rfl)) (by rfl)) (by rfl)) (by decide) (by rfl) (by rfl)) (by rfl) (by walk_at "lo")) (@pss_cons _ _ _ _ _ (@ps_set _ _ 3 _ _ _ _ nd rfl (Or.inl rfl) pe_int (by rfl) (by walk_at "lo")) (@pss_cons _ _ _ _ _ (@ps_for _ _ _ _ _ _ _ _ PassesOwn.never rfl (@pi_list _ _ _ _ (@pe_slice _ _ _ _ _ _ _ _ _ _ sl_A (pv 2) (@po_some _ _ _ pe_int) (@po_some _ _ _ pe_int))) (@pg_name _ _ 4 _ nd rfl (Or.inl rfl) (by walk_at "lo")) (@pss_one _ _ _ (@ps_set _ _ 3 _ _ _ _ nd rfl (Or.inl rfl) (@pe_op _ _ _ _ _ _ _ _ op_addA (@pe_op _ _ _ _ _ _ _ _ op_mulA (pv 3) (@pe_powc _ _ 8 _ _ _ _ _ (by decide) (by decide))) (pv 4)) (by rfl) (by walk_at "lo"))) (by intro _; rfl)) (@pss_cons _ _ _ _ _ (@ps_set _ _ 3 _ _ _ _ nd rfl (Or.inl rfl) (@pe_op _ _ _ _ _ _ _ _ op_modA (pv 3) (@pe_ix _ _ _ _ _ _ _ ix_A (@pe_lst _ _ _ _ (@pa_cons _ _ _ _ _ pe_int (@pa_cons _ _ _ _ _ pe_int (@pa_cons _ _ _ _ _ (@pe_powc _ _ 9 _ _ _ _ _ (by decide) (by decide)) (@pa_cons _ _ _ _ _ (@pe_powc _ _ 20 _ _ _ _ _ (by decide) (by decide)) (@pa_cons _ _ _ _ _ (@pe_powc _ _ 60 _ _ _ _ _ (by decide) (by decide)) pa_nil (by rfl)) (by rfl)) (by rfl)) (by rfl)) (by rfl))) (@pe_ix _ _ _ _ _ _ _ ix_A (pv 2) pe_int (fun _ _ => rfl)) (fun _ _ => rfl))) (by rfl) (by walk_at "lo")) (@pss_one _ _ _ (@ps_ret _ _ _ _ (@pe_op _ _ _ _ _ _ _ _ op_mulA (pv 3) (@pe_op _ _ _ _ _ _ _ _ op_subI pe_int (@pe_op _ _ _ _ _ _ _ _ op_mulA pe_int (@pe_ix _ _ _ _ _ _ _ ix_A (pv 2) pe_int (fun _ _ => rfl))))))))))), ?_⟩
  try dsimp only [cxOf, Cx.inH, Cx.tried]
  refine rd_start [some (.int c), some (.int p), none, none, none] rfl ?_
  walk_at "rd"
  refine use_draws [5, 10 ^ 8, 10 ^ 8, 10 ^ 8, 10 ^ 8, 10 ^ 8, 10 ^ 8, 10 ^ 8, 10 ^ 8, 2] (by walk_at "hp") (by decide) (by decide) hp ?_
  intro r H6 fs s6 n6 e6 hD
  walk_at "rd"
  rename_i p7 H7 s7 n7 e7
  obtain ⟨ms, hms, _⟩ := cut_map fs (some 1) (some 9)
  rw [hms] at e7
  have hf : fs.length = 10 := hD.1
  refine for_ints (ns := ms) (fun i σ H' => H7 = H' ∧ ∃ (x : Int) (z : Option V), σ = [some (.int c), some (.int p), some (.ref r), some (.int x), z]) ⟨rfl, 0, _, rfl⟩ (fun i σ H' _ h => ?_) ?_ ?_
  · obtain ⟨rfl, _⟩ := h
    walk_at "hp"
  · rintro i n σ H' _ ⟨rfl, x, z, rfl⟩
    walk_at "rd"
    exact ⟨rfl, _, _, rfl⟩
  rintro σ H' ⟨rfl, x, z, rfl⟩
  walk_at "rd"
  refine rd_ixM (ns := fs) (by walk_at "hp") (by omega) (by omega) fun v0 _ hv0 => ?_
  have b0 := hD.2 0 v0 5 hv0 rfl
  walk_at "rd"
  refine rd_ixM (ns := [13, 201, 10 ^ 9, 10 ^ 20, 10 ^ 60]) (by walk_at "hp") (by omega) (by show v0 < 5; omega) fun m hm _ => ?_
  have hm1 : 0 < m ∧ m ≤ 10 ^ 60 := by
    simp at hm
    omega
  have b1 := Int.emod_nonneg x (show m ≠ 0 by omega)
  have b2 := Int.emod_lt_of_pos x hm1.1
  walk_at "rd"
  refine rd_ixM (ns := fs) (by walk_at "hp") (by omega) (by omega) fun v9 _ hv9 => ?_
  have b9 := hD.2 9 v9 2 hv9 rfl
  walk_at "rd"
  have e9 : v9 = 0 ∨ v9 = 1 := by omega
  refine q _ _ (by walk_at "sm") ?_ ?_
  · rcases e9 with rfl | rfl <;> omega
  · rcases e9 with rfl | rfl <;> omega
def spShort : Sp := fun vs H Q _ => ∃ c p : Int, vs = [.int c, .int p] ∧ 0 < p ∧ ∀ (H' : Hp) (v : Int), Same H H' → 1 ≤ v → v ≤ 200 → Q (.int v) H'
theorem use_short {c p : Int} {H : Hp} {Q : VK} {E : XK} (hp : 0 < p) (h : ∀ (H' : Hp) (v : Int), Same H H' → 1 ≤ v → v ≤ 200 → Q (.int v) H') : spShort [.int c, .int p] H Q E := ⟨c, p, rfl, hp, h⟩
local macro_rules | `(tactic| walk_at "rdcall") => `(tactic| ((with_reducible refine use_short ?a ?_); (case a => omega); intro _ _ _ _ _))
theorem ok__law_short (F : Src K mg "_law_short" s__law_short ["_law_cell_here", "_law_prime"]) (B : Blt mg) (C : Cls K mg base) (R : Rel K mg base C) (Kc : Cst K mg) (D__law_draws : Def P w K mg base (CXE P w) 2 "_law_draws" ["_law_cell_here", "_law_widths", "_law_prime"] (spDraws K)) : Def P w K mg base (CXE P w) 3 "_law_short" ["_law_cell_here", "_law_prime"] spShort := by
  refine F.ok (CX := CXE P w) (k := 2) sc__law_short (fun vs H Q E h => ?_) (fun f cdv A outer s H vs Q E hr h => ?_)
  · obtain ⟨_, _, rfl, _⟩ := h
    rfl
  have nd := sc__law_short.nd
  obtain ⟨c, p, rfl, hp, q⟩ := h
  refine ⟨_, (@pss_cons _ _ _ _ _ (@ps_set _ _ 2 _ _ _ _ nd rfl (Or.inl rfl) (@pe_defS _ _ _ _ _ _ _ _ _ _ _ D__law_draws (hr.mono (by decide)) rfl xpass_nox (@pa_cons _ _ _ _ _ (pv 0) (@pa_cons _ _ _ _ _ (@pe_lst _ _ _ _ (@pa_cons _ _ _ _ _ pe_int (@pa_cons _ _ _ _ _ pe_int (@pa_cons _ _ _ _ _ pe_int pa_nil (by rfl)) (by rfl)) (by rfl))) (@pa_cons _ _ _ _ _ (pv 1) pa_nil (by rfl)) (by rfl)) (by rfl)) (by decide) (by rfl) (by rfl)) (by rfl) (by walk_at "lo")) (@pss_cons _ _ _ _ _ (@ps_if _ _ _ _ _ _ _ _ (@pt_cmpR _ _ _ _ _ _ _ _ (op_eqA hr.units0) (@pe_ix _ _ _ _ _ _ _ ix_A (pv 2) pe_int (fun _ _ => rfl)) pe_int (nomark _)) (@pss_one _ _ _ (@ps_ret _ _ _ _ (@pe_ix _ _ _ _ _ _ _ ix_A (@pe_lst _ _ _ _ (@pa_ints _ _ [1, 2, 3, 4, 8, 9, 15, 25, 197, 198, 199, 200] rfl)) (@pe_ix _ _ _ _ _ _ _ ix_A (pv 2) pe_int (fun _ _ => rfl)) (fun _ _ => rfl)))) pss_nil) (@pss_cons _ _ _ _ _ (@ps_if _ _ _ _ _ _ _ _ (@pt_cmpR _ _ _ _ _ _ _ _ op_gtI (@pe_ix _ _ _ _ _ _ _ ix_A (pv 2) pe_int (fun _ _ => rfl)) pe_int (nomark _)) (@pss_one _ _ _ (@ps_ret _ _ _ _ (@pe_op _ _ _ _ _ _ _ _ op_addA pe_int (@pe_op _ _ _ _ _ _ _ _ op_modA (@pe_ix _ _ _ _ _ _ _ ix_A (pv 2) pe_int (fun _ _ => rfl)) pe_int)))) pss_nil) (@pss_one _ _ _ (@ps_ret _ _ _ _ (@pe_op _ _ _ _ _ _ _ _ op_addA pe_int (@pe_ix _ _ _ _ _ _ _ ix_A (pv 2) pe_int (fun _ _ => rfl)))))))), ?_⟩
  try dsimp only [cxOf, Cx.inH, Cx.tried]
  refine rd_start [some (.int c), some (.int p), none] rfl ?_
  walk_at "rd"
  refine use_draws [8, 200, 12] (by walk_at "hp") (by decide) (by decide) hp ?_
  intro r H6 fs s6 n6 e6 hD
  have hf : fs.length = 3 := hD.1
  walk_at "rd"
  refine rd_ixM (ns := fs) (by walk_at "hp") (by omega) (by omega) fun v0 _ hv0 => ?_
  walk_at "rd"
  walk_at "ite"
  · walk_at "rd"
    refine rd_ixM (ns := fs) (by walk_at "hp") (by omega) (by omega) fun v2 _ hv2 => ?_
    have b2 := hD.2 2 v2 12 hv2 rfl
    walk_at "rd"
    refine rd_ixM (ns := [1, 2, 3, 4, 8, 9, 15, 25, 197, 198, 199, 200]) (by walk_at "hp") (by omega) (by simp only [List.length_cons, List.length_nil]; omega) fun m hm _ => ?_
    have hm1 : 1 ≤ m ∧ m ≤ 200 := by
      simp at hm
      omega
    walk_at "rd"
    exact q _ _ (by walk_at "sm") (by omega) (by omega)
  walk_at "rd"
  refine rd_ixM (ns := fs) (by walk_at "hp") (by omega) (by omega) fun v0' _ hv0' => ?_
  walk_at "rd"
  walk_at "ite"
  · walk_at "rd"
    refine rd_ixM (ns := fs) (by walk_at "hp") (by omega) (by omega) fun v1 _ hv1 => ?_
    walk_at "rd"
    exact q _ _ (by walk_at "sm") (by omega) (by omega)
  · walk_at "rd"
    refine rd_ixM (ns := fs) (by walk_at "hp") (by omega) (by omega) fun v1 _ hv1 => ?_
    have b1 := hD.2 1 v1 200 hv1 rfl
    walk_at "rd"
    exact q _ _ (by walk_at "sm") (by omega) (by omega)
theorem ok__law_shared (F : Src K mg "_law_shared" s__law_shared ["_law_a", "_law_b"]) (B : Blt mg) (C : Cls K mg base) (R : Rel K mg base C) (Kc : Cst K mg)  : Def P w K mg base (CXE P w) 1 "_law_shared" ["_law_a", "_law_b"] spGcd := by
  refine F.ok (CX := CXE P w) (k := 0) sc__law_shared (fun vs H Q E h => ?_) (fun f cdv A outer s H vs Q E hr h => ?_)
  · obtain ⟨_, _, rfl, _⟩ := h
    rfl
  have nd := sc__law_shared.nd
  obtain ⟨a, b, rfl, q⟩ := h
  refine ⟨_, (@pss_cons _ _ _ _ _ (@ps_while _ _ _ _ _ _ PassesOwn.never (@pt_cmpR _ _ _ _ _ _ _ _ (op_neA hr.units0) (pv 1) pe_int (nomark _)) (@pss_one _ _ _ (@ps_par _ _ 0 1 _ _ _ _ _ _ _ _ _ _ _ rfl nd rfl rfl (by decide) rfl rfl (@pa_cons _ _ _ _ _ (pv 1) (@pa_cons _ _ _ _ _ (@pe_op _ _ _ _ _ _ _ _ op_modA (pv 0) (pv 1)) pa_nil (by rfl)) (by rfl)) rfl (by rfl)))) (@pss_one _ _ _ (@ps_ret _ _ _ _ (@pe_callB _ _ _ _ _ _ _ _ _ call_absI rfl B.abs PyProof.Rows.boot_abs (@pa_cons _ _ _ _ _ (pv 0) pa_nil (by rfl)) (by decide) (by decide) (by rfl) (by rfl))))), ?_⟩
  try dsimp only [cxOf, Cx.inH, Cx.tried]
  refine rd_start [some (.int a), some (.int b)] rfl ?_
  walk_at "rd"
  refine rd_while (fun m σ H' => H' = H ∧ ∃ x y : Int, m = y.natAbs ∧ σ = [some (.int x), some (.int y)] ∧ Int.gcd x y = Int.gcd a b) _ ⟨rfl, a, b, rfl, rfl, rfl⟩ ?_
  rintro m σ H' ⟨rfl, x, y, rfl, rfl, hg⟩
  walk_at "rd"
  walk_at "ite"
  · rename_i c
    walk_at "rd"
    exact ⟨_, Mth.natAbs_fmod_lt x y c, rfl, _, _, rfl, rfl, (Mth.gcd_fmod x y).trans hg⟩
  · rename_i c
    subst c
    walk_at "rd"
    rename_i j e
    rw [e, ← Int.gcd_zero_right x, hg]
    exact q
def spApart : Sp := fun vs H Q _ => ∃ a m : Int, vs = [.int a, .int m] ∧ 1 ≤ m ∧ m < 10 ^ 400 ∧ ∀ v : Int, v.natAbs ≤ max 1 a.natAbs → (1 ≤ a → 1 ≤ v) → Int.gcd v m = 1 → Q (.int v) H
theorem use_apart {a m : Int} {H : Hp} {Q : VK} {E : XK} (hm : 1 ≤ m) (hM : m < 10 ^ 400) (h : ∀ v : Int, v.natAbs ≤ max 1 a.natAbs → (1 ≤ a → 1 ≤ v) → Int.gcd v m = 1 → Q (.int v) H) : spApart [.int a, .int m] H Q E := ⟨a, m, rfl, hm, hM, h⟩
local macro_rules | `(tactic| walk_at "rdcall") => `(tactic| ((with_reducible refine use_apart ?a ?b ?_); (case a => omega); (case b => omega); intro _ _ _ _))
theorem ok__law_apart (F : Src K mg "_law_apart" s__law_apart ["_law_a", "_law_m"]) (B : Blt mg) (C : Cls K mg base) (R : Rel K mg base C) (Kc : Cst K mg) (D__law_shared : Def P w K mg base (CXE P w) 1 "_law_shared" ["_law_a", "_law_b"] spGcd) : Def P w K mg base (CXE P w) 2 "_law_apart" ["_law_a", "_law_m"] spApart := by
  refine F.ok (CX := CXE P w) (k := 1) sc__law_apart (fun vs H Q E h => ?_) (fun f cdv A outer s H vs Q E hr h => ?_)
  · obtain ⟨_, _, rfl, _⟩ := h
    rfl
  have nd := sc__law_apart.nd
  obtain ⟨a, m, rfl, hm, hM, q⟩ := h
  refine ⟨_, (@pss_consE _ _ _ _ _ (@ps_if _ _ _ _ _ _ _ _ (@pt_cmpR _ _ _ _ _ _ _ _ (op_eqA hr.units0) (pv 0) pe_int (nomark _)) (@pss_one _ _ _ (@ps_set _ _ 0 _ _ _ _ nd rfl (Or.inl rfl) pe_int (by rfl) (by walk_at "lo"))) pss_nil) (@pss_cons _ _ _ _ _ (@ps_set _ _ 2 _ _ _ _ nd rfl (Or.inl rfl) (@pe_defS _ _ _ _ _ _ _ _ _ _ _ D__law_shared (hr.mono (by decide)) rfl xpass_nox (@pa_cons _ _ _ _ _ (pv 0) (@pa_cons _ _ _ _ _ (pv 1) pa_nil (by rfl)) (by rfl)) (by decide) (by rfl) (by rfl)) (by rfl) (by walk_at "lo")) (@pss_cons _ _ _ _ _ (@ps_while _ _ _ _ _ _ PassesOwn.never (@pt_cmpR _ _ _ _ _ _ _ _ op_gtI (pv 2) pe_int (nomark _)) (@pss_cons _ _ _ _ _ (@ps_set _ _ 0 _ _ _ _ nd rfl (Or.inl rfl) (@pe_op _ _ _ _ _ _ _ _ op_divA (pv 0) (pv 2)) (by rfl) (by walk_at "lo")) (@pss_one _ _ _ (@ps_set _ _ 2 _ _ _ _ nd rfl (Or.inl rfl) (@pe_defS _ _ _ _ _ _ _ _ _ _ _ D__law_shared (hr.mono (by decide)) rfl xpass_nox (@pa_cons _ _ _ _ _ (pv 0) (@pa_cons _ _ _ _ _ (pv 1) pa_nil (by rfl)) (by rfl)) (by decide) (by rfl) (by rfl)) (by rfl) (by walk_at "lo"))))) (@pss_one _ _ _ (@ps_ret _ _ _ _ (pv 0)))))), ?_⟩
  try dsimp only [cxOf, Cx.inH, Cx.tried]
  refine rd_start [some (.int a), some (.int m), none] rfl ?_
  walk_at "rd"
  refine rd_join (fun σ H' => H = H' ∧ ∃ x : Int, x ≠ 0 ∧ x.natAbs ≤ max 1 a.natAbs ∧ (1 ≤ a → 1 ≤ x) ∧ σ = [some (.int x), some (.int m), none]) ?_ ?_
  · walk_at "rd"
    walk_at "ite"
    · walk_at "rd"
      exact ⟨rfl, 1, by omega, by omega, by omega, rfl⟩
    · walk_at "rd"
      exact ⟨rfl, a, by assumption, by omega, by omega, rfl⟩
  rintro σ _ ⟨rfl, x0, hx0, hb0, hp0, rfl⟩
  walk_at "rd"
  refine rd_while (fun k σ H' => H = H' ∧ ∃ x : Int, k = x.natAbs ∧ x ≠ 0 ∧ x.natAbs ≤ max 1 a.natAbs ∧ (1 ≤ a → 1 ≤ x) ∧ σ = [some (.int x), some (.int m), some (.int (Int.gcd x m))]) _ ⟨rfl, x0, rfl, hx0, hb0, hp0, rfl⟩ ?_
  rintro k σ H' ⟨rfl, x, rfl, hx, hb, hp, rfl⟩
  have gp : Int.gcd x m ≠ 0 := fun z => by
    rw [Int.gcd_eq_zero_iff] at z
    exact hx z.1
  have gl : Int.gcd x m ≤ m.natAbs := Nat.gcd_le_right _ (by omega)
  walk_at "rd"
  walk_at "ite"
  · rename_i c
    walk_at "rd"
    have hd : (Int.gcd x m : Int) ∣ x := Int.gcd_dvd_left ..
    obtain ⟨y, hy⟩ := hd
    have e : x / (Int.gcd x m : Int) = y := by
      generalize (Int.gcd x m : Int) = g at *
      rw [hy]
      exact Int.mul_ediv_cancel_left y (by omega)
    have hn : x.natAbs = Int.gcd x m * y.natAbs := by
      conv => lhs; rw [hy]
      rw [Int.natAbs_mul]; rfl
    have y0 : y ≠ 0 := fun z => hx (by rw [hy, z]; simp)
    have yl : y.natAbs < x.natAbs := by
      rw [hn]
      have h1 : 1 * y.natAbs < Int.gcd x m * y.natAbs := Nat.mul_lt_mul_of_pos_right (by omega) (by omega)
      omega
    have yp : 1 ≤ a → 1 ≤ y := fun z => by
      have x1 := hp z
      by_cases w0 : 1 ≤ y
      · exact w0
      · exfalso
        have : (Int.gcd x m : Int) * y ≤ 0 := Int.mul_nonpos_of_nonneg_of_nonpos (by omega) (by omega)
        omega
    rw [e]
    exact ⟨_, yl, rfl, y, rfl, y0, by omega, yp, rfl⟩
  · walk_at "rd"
    exact q x hb hp (by omega)
def spWhole : Sp := fun vs H Q _ => ∃ c : Int, vs = [.int c] ∧ Q (.bl true) H
theorem use_whole {c : Int} {H : Hp} {Q : VK} {E : XK} (h : Q (.bl true) H) : spWhole [.int c] H Q E := ⟨c, rfl, h⟩
local macro_rules | `(tactic| walk_at "rdcall") => `(tactic| (with_reducible refine use_whole ?_))
theorem ok__law_whole (F : Src K mg "_law_whole" s__law_whole ["_law_found"]) (B : Blt mg) (C : Cls K mg base) (R : Rel K mg base C) (Kc : Cst K mg)  : Def P w K mg base (CXE P w) 1 "_law_whole" ["_law_found"] spWhole := by
  refine F.ok (CX := CXE P w) (k := 0) sc__law_whole (fun vs H Q E h => ?_) (fun f cdv A outer s H vs Q E hr h => ?_)
  · obtain ⟨_, rfl, _⟩ := h
    rfl
  have nd := sc__law_whole.nd
  obtain ⟨c, rfl, q⟩ := h
  refine ⟨_, (@pss_one _ _ _ (@ps_ret _ _ _ _ (@pe_and _ _ _ _ _ _ _ (@pe_callB _ _ _ _ _ _ _ _ _ call_isi rfl B.isinstance PyProof.Rows.boot_isinstance (@pa_cons _ _ _ _ _ (pv 0) (@pa_cons _ _ _ _ _ (@pe_bltn _ _ (.ty "int") _ _ rfl B.int PyProof.Rows.boot_int rfl (by decide) (by decide)) pa_nil (by rfl)) (by rfl)) (by decide) (by decide) (by rfl) (by rfl)) (@pe_one _ _ _ _ _ (@pe_not _ _ _ _ (@pe_callB _ _ _ _ _ _ _ _ _ call_isi rfl B.isinstance PyProof.Rows.boot_isinstance (@pa_cons _ _ _ _ _ (pv 0) (@pa_cons _ _ _ _ _ (@pe_bltn _ _ (.ty "bool") _ _ rfl B.bool PyProof.Rows.boot_bool rfl (by decide) (by decide)) pa_nil (by rfl)) (by rfl)) (by decide) (by decide) (by rfl) (by rfl))))))), ?_⟩
  try dsimp only [cxOf, Cx.inH, Cx.tried]
  refine rd_start [some (.int c)] rfl ?_
  walk_at "rd"
  exact q
def spRow : Sp := fun vs H Q _ => ∃ (a : Addr) (ns : List Int) (m : Int), vs = [.ref a, .int m] ∧ H a = some (.tup (ns.map V.int)) ∧ (ns.length : Int) = m ∧ ns.length ≤ 1000 ∧ ∀ H', Same H H' → Q (.bl true) H'
theorem use_row {a : Addr} {m : Int} (ns : List Int) {H : Hp} {Q : VK} {E : XK} (h1 : H a = some (.tup (ns.map V.int))) (h2 : (ns.length : Int) = m) (h3 : ns.length ≤ 1000) (h : ∀ H', Same H H' → Q (.bl true) H') : spRow [.ref a, .int m] H Q E := ⟨a, ns, m, rfl, h1, h2, h3, h⟩
theorem ok__law_row (F : Src K mg "_law_row" s__law_row ["_law_found", "_law_many"]) (B : Blt mg) (C : Cls K mg base) (R : Rel K mg base C) (Kc : Cst K mg) (D__law_whole : Def P w K mg base (CXE P w) 1 "_law_whole" ["_law_found"] spWhole) : Def P w K mg base (CXE P w) 2 "_law_row" ["_law_found", "_law_many"] spRow := by
  refine F.ok (CX := CXE P w) (k := 1) sc__law_row (fun vs H Q E h => ?_) (fun f cdv A outer s H vs Q E hr h => ?_)
  · obtain ⟨_, _, _, rfl, _⟩ := h
    rfl
  have nd := sc__law_row.nd
  obtain ⟨a, ns, m, rfl, ha, hl, hz, q⟩ := h
  have hm : (ns.map V.int).length = ns.length := List.length_map _
  refine ⟨_, (@pss_cons _ _ _ _ _ (@ps_if _ _ _ _ _ _ _ _ (@PW.pt _ _ _ (@pw_or _ _ _ _ _ _ _ (@pt_not _ _ _ _ (@pt_val _ _ _ (@pe_callB _ _ _ _ _ _ _ _ _ call_isi rfl B.isinstance PyProof.Rows.boot_isinstance (@pa_cons _ _ _ _ _ (pv 0) (@pa_cons _ _ _ _ _ (@pe_bltn _ _ (.ty "tuple") _ _ rfl B.tuple PyProof.Rows.boot_tuple rfl (by decide) (by decide)) pa_nil (by rfl)) (by rfl)) (by decide) (by decide) (by rfl) (by rfl)) (by intro _; rfl))) (@pw_or1 _ _ _ _ (@pt_cmpR _ _ _ _ _ _ _ _ (op_neA hr.units0) (@pe_callB _ _ _ _ _ _ _ _ _ call_lenA rfl B.len PySem.boot_len (@pa_cons _ _ _ _ _ (pv 0) pa_nil (by rfl)) (by decide) (by decide) (by rfl) (by rfl)) (pv 1) (nomark _))))) (@pss_one _ _ _ (@ps_ret _ _ _ _ pe_bl)) pss_nil) (@pss_one _ _ _ (@ps_ret _ _ _ _ (@pe_callB _ _ _ _ _ _ _ _ _ (call_allB rfl) rfl B.all PyProof.Rows.boot_all (@pa_cons _ _ _ _ _ (@pe_comp _ _ _ _ _ _ _ _ _ rfl (@PI.or _ _ _ _ _ (@pi_list _ _ _ _ (pv 0)) (@pi_tup _ _ _ _ (pv 0))) (fun pins ex s H => (@pe_defS _ _ _ _ _ _ _ _ _ _ _ D__law_whole (hr.mono (by decide)) rfl xpass_wn (@pa_cons _ _ _ _ _ (pv 0) pa_nil (by rfl)) (by decide) (by rfl) (by rfl))) (by decide +kernel) (by decide +kernel) rfl (by decide +kernel) rfl (by intro _; rfl)) pa_nil (by rfl)) (by decide) (by decide) (by rfl) (by rfl))))), ?_⟩
  try dsimp only [cxOf, Cx.inH, Cx.tried]
  refine rd_start [some (.ref a), some (.int m)] rfl ?_
  walk_at "rd"
  walk_at "ite"
  · exfalso; omega
  · walk_at "rd"
    refine rd_compT ?_
    walk_at "rd"
    refine rd_kCompT (fun _ => .bl true) (SqT.of ha) (by omega) ?_ ?_
    · intro x H' Q' hx hq
      obtain ⟨c, _, rfl⟩ := List.mem_map.mp hx
      walk_at "rd"
      exact hq
    · intro D H' s1 nD eD
      walk_at "rd"
      refine rd_allT (xs := ns.map V.int) eD ?_
      exact q _ s1
def spLists : Sp := fun vs H Q _ => ∃ (r1 r2 : Addr) (rs : List (List Int)), vs = [.ref r1, .ref r2] ∧ RowsL H r1 rs ∧ RowsL H r2 rs ∧ (∀ p ∈ rs, p.length ≤ 1000) ∧ ∀ H', Same H H' → Q (.bl true) H'
theorem use_lists {r1 r2 : Addr} (rs : List (List Int)) {H : Hp} {Q : VK} {E : XK} (h1 : RowsL H r1 rs) (h2 : RowsL H r2 rs) (h3 : ∀ p ∈ rs, p.length ≤ 1000) (h : ∀ H', Same H H' → Q (.bl true) H') : spLists [.ref r1, .ref r2] H Q E := ⟨r1, r2, rs, rfl, h1, h2, h3, h⟩
theorem ok__law_lists (F : Src K mg "_law_lists" s__law_lists ["_law_found", "_law_due"]) (B : Blt mg) (C : Cls K mg base) (R : Rel K mg base C) (Kc : Cst K mg) (D__law_row : Def P w K mg base (CXE P w) 2 "_law_row" ["_law_found", "_law_many"] spRow) : Def P w K mg base (CXE P w) 3 "_law_lists" ["_law_found", "_law_due"] spLists := by
  refine F.ok (CX := CXE P w) (k := 2) sc__law_lists (fun vs H Q E h => ?_) (fun f cdv A outer s H vs Q E hr h => ?_)
  · obtain ⟨_, _, _, rfl, _⟩ := h
    rfl
  have nd := sc__law_lists.nd
  obtain ⟨r1, r2, rs, rfl, ⟨as, e1, l1, t1⟩, ⟨bs, e2, l2, t2⟩, h3, q⟩ := h
  have k1 : (as.map V.ref).length = rs.length := by rw [List.length_map, l1]
  have k2 : (bs.map V.ref).length = rs.length := by rw [List.length_map, l2]
  refine ⟨_, (@pss_cons _ _ _ _ _ (@ps_if _ _ _ _ _ _ _ _ (@PW.pt _ _ _ (@pw_or _ _ _ _ _ _ _ (@pt_not _ _ _ _ (@pt_val _ _ _ (@pe_callB _ _ _ _ _ _ _ _ _ call_isi rfl B.isinstance PyProof.Rows.boot_isinstance (@pa_cons _ _ _ _ _ (pv 0) (@pa_cons _ _ _ _ _ (@pe_bltn _ _ (.ty "list") _ _ rfl B.list PyProof.Rows.boot_list rfl (by decide) (by decide)) pa_nil (by rfl)) (by rfl)) (by decide) (by decide) (by rfl) (by rfl)) (by intro _; rfl))) (@pw_or1 _ _ _ _ (@pt_cmpR _ _ _ _ _ _ _ _ (op_neA hr.units0) (@pe_callB _ _ _ _ _ _ _ _ _ call_lenA rfl B.len PySem.boot_len (@pa_cons _ _ _ _ _ (pv 0) pa_nil (by rfl)) (by decide) (by decide) (by rfl) (by rfl)) (@pe_callB _ _ _ _ _ _ _ _ _ call_lenA rfl B.len PySem.boot_len (@pa_cons _ _ _ _ _ (pv 1) pa_nil (by rfl)) (by decide) (by decide) (by rfl) (by rfl)) (nomark _))))) (@pss_one _ _ _ (@ps_ret _ _ _ _ pe_bl)) pss_nil) (@pss_cons _ _ _ _ _ (@ps_for _ _ _ _ _ _ _ _ PassesOwn.never rfl (@pi_zip _ _ _ _ _ _ _ _ _ rfl B.zip (@pa_cons _ _ _ _ _ (pv 0) (@pa_cons _ _ _ _ _ (pv 1) pa_nil (by rfl)) (by rfl)) (by rfl) (by rfl)) (@pg_tup _ _ _ _ _ _ rfl (@pgs_cons _ _ _ _ _ (@pg_name _ _ 2 _ nd rfl (Or.inl rfl) (by walk_at "lo")) (@pgs_cons _ _ _ _ _ (@pg_name _ _ 3 _ nd rfl (Or.inl rfl) (by walk_at "lo")) pgs_nil (by rfl)) (by rfl)) (by rfl) (by rfl)) (@pss_one _ _ _ (@ps_if _ _ _ _ _ _ _ _ (@PW.pt _ _ _ (@pw_or _ _ _ _ _ _ _ (@pt_not _ _ _ _ (@pt_val _ _ _ (@pe_defS _ _ _ _ _ _ _ _ _ _ _ D__law_row (hr.mono (by decide)) rfl xpass_nox (@pa_cons _ _ _ _ _ (pv 2) (@pa_cons _ _ _ _ _ (@pe_callB _ _ _ _ _ _ _ _ _ call_lenA rfl B.len PySem.boot_len (@pa_cons _ _ _ _ _ (pv 3) pa_nil (by rfl)) (by decide) (by decide) (by rfl) (by rfl)) pa_nil (by rfl)) (by rfl)) (by decide) (by rfl) (by rfl)) (by intro _; rfl))) (@pw_or1 _ _ _ _ (@pt_cmpR _ _ _ _ _ _ _ _ (op_neA hr.units0) (pv 2) (pv 3) (nomark _))))) (@pss_one _ _ _ (@ps_ret _ _ _ _ pe_bl)) pss_nil)) (by intro _; rfl)) (@pss_one _ _ _ (@ps_ret _ _ _ _ pe_bl)))), ?_⟩
  try dsimp only [cxOf, Cx.inH, Cx.tried]
  refine rd_start [some (.ref r1), some (.ref r2), none, none] rfl ?_
  walk_at "rd"
  walk_at "ite"
  · exfalso; omega
  walk_at "rd"
  refine for_zip (xs := as.map V.ref) (ys := bs.map V.ref) (fun i σ H' => Same H H' ∧ ∃ z1 z2 : Option V, σ = [some (.ref r1), some (.ref r2), z1, z2]) ⟨Same.refl _, _, _, rfl⟩ (fun i σ H' h => ⟨SqL.of (h.1.obj e1), SqL.of (h.1.obj e2)⟩) ?_ ?_
  · rintro i x y T σ H1 H2 hx hy ⟨s1, z1, z2, rfl⟩ s2 eT
    rw [List.getElem?_map] at hx hy
    cases hi : as[i]? with
    | none => rw [hi] at hx; cases hx
    | some u =>
      cases hj : bs[i]? with
      | none => rw [hj] at hy; cases hy
      | some v =>
        rw [hi] at hx
        rw [hj] at hy
        cases hx
        cases hy
        have hil : i < rs.length := by have := (List.getElem?_eq_some_iff.mp hi).1; omega
        obtain ⟨p, hp⟩ : ∃ p, rs[i]? = some p := ⟨_, List.getElem?_eq_getElem hil⟩
        have f1 := s2.obj (s1.obj (t1 i u p hi hp))
        have f2 := s2.obj (s1.obj (t2 i v p hj hp))
        walk_at "rd"
        refine use_row p (by walk_at "hp") (by rw [List.length_map]) (h3 p (List.mem_of_getElem? hp)) fun H3 s3 => ?_
        walk_at "rd"
        refine rd_neAT (ns := p) (ms := p) (by walk_at "hp") (by walk_at "hp") ?_
        rw [decide_eq_true rfl]
        walk_at "rd"
        exact ⟨(s1.trans s2).trans s3, _, _, rfl⟩
  · rintro i σ H1 _ ⟨s1, z1, z2, rfl⟩
    walk_at "rd"
    exact q _ s1
def spAsk21 : Sp := fun vs H Q _ => ∃ a m : Int, vs = [.int a, .int m] ∧ ∀ (k : Str) H', Same H H' → (m < 1 → k = "count") → (1 ≤ m → m % 2 = 0 → k = "odd") → (1 ≤ m → m % 2 = 1 → 200 < m → k = "many") → (1 ≤ m → m % 2 = 1 → m ≤ 200 → Int.gcd a m ≠ 1 → k = "apart") → (1 ≤ m → m % 2 = 1 → m ≤ 200 → Int.gcd a m = 1 → k = "told") → Q (.str k) H'
theorem use_ask21 {a m : Int} {H : Hp} {Q : VK} {E : XK} (h : ∀ (k : Str) H', Same H H' → (m < 1 → k = "count") → (1 ≤ m → m % 2 = 0 → k = "odd") → (1 ≤ m → m % 2 = 1 → 200 < m → k = "many") → (1 ≤ m → m % 2 = 1 → m ≤ 200 → Int.gcd a m ≠ 1 → k = "apart") → (1 ≤ m → m % 2 = 1 → m ≤ 200 → Int.gcd a m = 1 → k = "told") → Q (.str k) H') : spAsk21 [.int a, .int m] H Q E := ⟨a, m, rfl, h⟩
theorem ok__law_asked (F : Src K mg "_law_asked" s__law_asked ["_law_a", "_law_m"]) (B : Blt mg) (C : Cls K mg base) (R : Rel K mg base C) (Kc : Cst K mg) (D_half_rows : Def P w K mg base (CXE P w) 3 "half_rows" ["a", "m"] (spHRs C.NoCount.addr C.NotOdd.addr C.TooMany.addr C.NotApart.addr)) : Def P w K mg base (CXE P w) 4 "_law_asked" ["_law_a", "_law_m"] spAsk21 := by
  refine F.ok (CX := CXE P w) (k := 3) sc__law_asked (fun vs H Q E h => ?_) (fun f cdv A outer s H vs Q E hr h => ?_)
  · obtain ⟨_, _, rfl, _⟩ := h
    rfl
  have nd := sc__law_asked.nd
  obtain ⟨a, m, rfl, q⟩ := h
  obtain ⟨r_NoCount_sw, r_NoCount_ve, r_NoCount_NoCount, r_NoCount_NotOdd, r_NoCount_TooMany, r_NoCount_NotApart, r_NoCount_NoTable, r_NoCount_NoText, r_NoCount_NoShuffle, r_NoCount_NoWord, r_NoCount_NoRow, r_NoCount_NoPaper, r_NoCount_NoFraction, r_NoCount_NoPrime, r_NoCount_NoLine, r_NoCount_NoName, r_NoCount_NoDeed, r_NotOdd_sw, r_NotOdd_ve, r_NotOdd_NoCount, r_NotOdd_NotOdd, r_NotOdd_TooMany, r_NotOdd_NotApart, r_NotOdd_NoTable, r_NotOdd_NoText, r_NotOdd_NoShuffle, r_NotOdd_NoWord, r_NotOdd_NoRow, r_NotOdd_NoPaper, r_NotOdd_NoFraction, r_NotOdd_NoPrime, r_NotOdd_NoLine, r_NotOdd_NoName, r_NotOdd_NoDeed, r_TooMany_sw, r_TooMany_ve, r_TooMany_NoCount, r_TooMany_NotOdd, r_TooMany_TooMany, r_TooMany_NotApart, r_TooMany_NoTable, r_TooMany_NoText, r_TooMany_NoShuffle, r_TooMany_NoWord, r_TooMany_NoRow, r_TooMany_NoPaper, r_TooMany_NoFraction, r_TooMany_NoPrime, r_TooMany_NoLine, r_TooMany_NoName, r_TooMany_NoDeed, r_NotApart_sw, r_NotApart_ve, r_NotApart_NoCount, r_NotApart_NotOdd, r_NotApart_TooMany, r_NotApart_NotApart, r_NotApart_NoTable, r_NotApart_NoText, r_NotApart_NoShuffle, r_NotApart_NoWord, r_NotApart_NoRow, r_NotApart_NoPaper, r_NotApart_NoFraction, r_NotApart_NoPrime, r_NotApart_NoLine, r_NotApart_NoName, r_NotApart_NoDeed⟩ := R
  refine ⟨_, (@pss_cons _ _ _ _ _ (@ps_set _ _ 2 _ _ _ _ nd rfl (Or.inl rfl) pe_str (by rfl) (by walk_at "lo")) (@pss_cons _ _ _ _ _ (@ps_try _ _ _ _ _ _ _ rfl rfl (fun pins W => (@pss_cons _ _ _ _ _ (@ps_expr _ _ _ _ (@pe_defS _ _ _ _ _ _ _ _ _ _ _ D_half_rows (hr.mono (by decide)) rfl xpass_try (@pa_cons _ _ _ _ _ (pv 0) (@pa_cons _ _ _ _ _ (pv 1) pa_nil (by rfl)) (by rfl)) (by decide) (by rfl) (by rfl)) (by rfl)) (@pss_one _ _ _ (@ps_set _ _ 2 _ _ _ _ nd rfl (Or.inl rfl) pe_str (by rfl) (by walk_at "lo"))))) (@ph_cons _ _ _ _ _ _ 3 _ _ _ _ _ rfl C.SawError.gl C.SawError.cat nd rfl rfl (fun pins a oe cls dx hcls hxo => (@pss_cons _ _ _ _ _ (@ps_set _ _ 4 _ _ _ _ nd rfl (Or.inl rfl) (@pe_lst _ _ _ _ (@pa_cons _ _ _ _ _ (@pe_callB _ _ _ _ _ _ _ _ _ (call_isiX hcls) rfl B.isinstance PyProof.Rows.boot_isinstance (@pa_cons _ _ _ _ _ (pv 3) (@pa_cons _ _ _ _ _ (@pe_glob _ _ (.ref C.NoCount.addr) _ _ rfl C.NoCount.gl rfl (by decide)) pa_nil (by rfl)) (by rfl)) (by decide) (by decide) (by rfl) (by rfl)) (@pa_cons _ _ _ _ _ (@pe_callB _ _ _ _ _ _ _ _ _ (call_isiX hcls) rfl B.isinstance PyProof.Rows.boot_isinstance (@pa_cons _ _ _ _ _ (pv 3) (@pa_cons _ _ _ _ _ (@pe_glob _ _ (.ref C.NotOdd.addr) _ _ rfl C.NotOdd.gl rfl (by decide)) pa_nil (by rfl)) (by rfl)) (by decide) (by decide) (by rfl) (by rfl)) (@pa_cons _ _ _ _ _ (@pe_callB _ _ _ _ _ _ _ _ _ (call_isiX hcls) rfl B.isinstance PyProof.Rows.boot_isinstance (@pa_cons _ _ _ _ _ (pv 3) (@pa_cons _ _ _ _ _ (@pe_glob _ _ (.ref C.TooMany.addr) _ _ rfl C.TooMany.gl rfl (by decide)) pa_nil (by rfl)) (by rfl)) (by decide) (by decide) (by rfl) (by rfl)) (@pa_cons _ _ _ _ _ (@pe_callB _ _ _ _ _ _ _ _ _ (call_isiX hcls) rfl B.isinstance PyProof.Rows.boot_isinstance (@pa_cons _ _ _ _ _ (pv 3) (@pa_cons _ _ _ _ _ (@pe_glob _ _ (.ref C.NotApart.addr) _ _ rfl C.NotApart.gl rfl (by decide)) pa_nil (by rfl)) (by rfl)) (by decide) (by decide) (by rfl) (by rfl)) pa_nil (by rfl)) (by rfl)) (by rfl)) (by rfl))) (by rfl) (by walk_at "lo")) (@pss_cons _ _ _ _ _ (@ps_set _ _ 4 _ _ _ _ nd rfl (Or.inl rfl) (@pe_op _ _ _ _ _ _ _ _ op_addA (pv 4) (@pe_lst _ _ _ _ (@pa_cons _ _ _ _ _ (@pe_callB _ _ _ _ _ _ _ _ _ (call_isiX hcls) rfl B.isinstance PyProof.Rows.boot_isinstance (@pa_cons _ _ _ _ _ (pv 3) (@pa_cons _ _ _ _ _ (@pe_glob _ _ (.ref C.NoTable.addr) _ _ rfl C.NoTable.gl rfl (by decide)) pa_nil (by rfl)) (by rfl)) (by decide) (by decide) (by rfl) (by rfl)) (@pa_cons _ _ _ _ _ (@pe_callB _ _ _ _ _ _ _ _ _ (call_isiX hcls) rfl B.isinstance PyProof.Rows.boot_isinstance (@pa_cons _ _ _ _ _ (pv 3) (@pa_cons _ _ _ _ _ (@pe_glob _ _ (.ref C.NoText.addr) _ _ rfl C.NoText.gl rfl (by decide)) pa_nil (by rfl)) (by rfl)) (by decide) (by decide) (by rfl) (by rfl)) (@pa_cons _ _ _ _ _ (@pe_callB _ _ _ _ _ _ _ _ _ (call_isiX hcls) rfl B.isinstance PyProof.Rows.boot_isinstance (@pa_cons _ _ _ _ _ (pv 3) (@pa_cons _ _ _ _ _ (@pe_glob _ _ (.ref C.NoShuffle.addr) _ _ rfl C.NoShuffle.gl rfl (by decide)) pa_nil (by rfl)) (by rfl)) (by decide) (by decide) (by rfl) (by rfl)) pa_nil (by rfl)) (by rfl)) (by rfl)))) (by rfl) (by walk_at "lo")) (@pss_cons _ _ _ _ _ (@ps_set _ _ 4 _ _ _ _ nd rfl (Or.inl rfl) (@pe_op _ _ _ _ _ _ _ _ op_addA (pv 4) (@pe_lst _ _ _ _ (@pa_cons _ _ _ _ _ (@pe_callB _ _ _ _ _ _ _ _ _ (call_isiX hcls) rfl B.isinstance PyProof.Rows.boot_isinstance (@pa_cons _ _ _ _ _ (pv 3) (@pa_cons _ _ _ _ _ (@pe_glob _ _ (.ref C.NoWord.addr) _ _ rfl C.NoWord.gl rfl (by decide)) pa_nil (by rfl)) (by rfl)) (by decide) (by decide) (by rfl) (by rfl)) (@pa_cons _ _ _ _ _ (@pe_callB _ _ _ _ _ _ _ _ _ (call_isiX hcls) rfl B.isinstance PyProof.Rows.boot_isinstance (@pa_cons _ _ _ _ _ (pv 3) (@pa_cons _ _ _ _ _ (@pe_glob _ _ (.ref C.NoRow.addr) _ _ rfl C.NoRow.gl rfl (by decide)) pa_nil (by rfl)) (by rfl)) (by decide) (by decide) (by rfl) (by rfl)) (@pa_cons _ _ _ _ _ (@pe_callB _ _ _ _ _ _ _ _ _ (call_isiX hcls) rfl B.isinstance PyProof.Rows.boot_isinstance (@pa_cons _ _ _ _ _ (pv 3) (@pa_cons _ _ _ _ _ (@pe_glob _ _ (.ref C.NoPaper.addr) _ _ rfl C.NoPaper.gl rfl (by decide)) pa_nil (by rfl)) (by rfl)) (by decide) (by decide) (by rfl) (by rfl)) pa_nil (by rfl)) (by rfl)) (by rfl)))) (by rfl) (by walk_at "lo")) (@pss_cons _ _ _ _ _ (@ps_set _ _ 4 _ _ _ _ nd rfl (Or.inl rfl) (@pe_op _ _ _ _ _ _ _ _ op_addA (pv 4) (@pe_lst _ _ _ _ (@pa_cons _ _ _ _ _ (@pe_callB _ _ _ _ _ _ _ _ _ (call_isiX hcls) rfl B.isinstance PyProof.Rows.boot_isinstance (@pa_cons _ _ _ _ _ (pv 3) (@pa_cons _ _ _ _ _ (@pe_glob _ _ (.ref C.NoFraction.addr) _ _ rfl C.NoFraction.gl rfl (by decide)) pa_nil (by rfl)) (by rfl)) (by decide) (by decide) (by rfl) (by rfl)) (@pa_cons _ _ _ _ _ (@pe_callB _ _ _ _ _ _ _ _ _ (call_isiX hcls) rfl B.isinstance PyProof.Rows.boot_isinstance (@pa_cons _ _ _ _ _ (pv 3) (@pa_cons _ _ _ _ _ (@pe_glob _ _ (.ref C.NoPrime.addr) _ _ rfl C.NoPrime.gl rfl (by decide)) pa_nil (by rfl)) (by rfl)) (by decide) (by decide) (by rfl) (by rfl)) (@pa_cons _ _ _ _ _ (@pe_callB _ _ _ _ _ _ _ _ _ (call_isiX hcls) rfl B.isinstance PyProof.Rows.boot_isinstance (@pa_cons _ _ _ _ _ (pv 3) (@pa_cons _ _ _ _ _ (@pe_glob _ _ (.ref C.NoLine.addr) _ _ rfl C.NoLine.gl rfl (by decide)) pa_nil (by rfl)) (by rfl)) (by decide) (by decide) (by rfl) (by rfl)) pa_nil (by rfl)) (by rfl)) (by rfl)))) (by rfl) (by walk_at "lo")) (@pss_cons _ _ _ _ _ (@ps_set _ _ 4 _ _ _ _ nd rfl (Or.inl rfl) (@pe_op _ _ _ _ _ _ _ _ op_addA (pv 4) (@pe_lst _ _ _ _ (@pa_cons _ _ _ _ _ (@pe_callB _ _ _ _ _ _ _ _ _ (call_isiX hcls) rfl B.isinstance PyProof.Rows.boot_isinstance (@pa_cons _ _ _ _ _ (pv 3) (@pa_cons _ _ _ _ _ (@pe_glob _ _ (.ref C.NoName.addr) _ _ rfl C.NoName.gl rfl (by decide)) pa_nil (by rfl)) (by rfl)) (by decide) (by decide) (by rfl) (by rfl)) (@pa_cons _ _ _ _ _ (@pe_callB _ _ _ _ _ _ _ _ _ (call_isiX hcls) rfl B.isinstance PyProof.Rows.boot_isinstance (@pa_cons _ _ _ _ _ (pv 3) (@pa_cons _ _ _ _ _ (@pe_glob _ _ (.ref C.NoDeed.addr) _ _ rfl C.NoDeed.gl rfl (by decide)) pa_nil (by rfl)) (by rfl)) (by decide) (by decide) (by rfl) (by rfl)) pa_nil (by rfl)) (by rfl)))) (by rfl) (by walk_at "lo")) (@pss_one _ _ _ (@ps_if _ _ _ _ _ _ _ _ (@PW.pt _ _ _ (@pw_and _ _ _ _ _ _ _ (@pt_cmpR _ _ _ _ _ _ _ _ op_eq (@pe_bmH _ _ _ _ _ _ _ _ _ _ _ _ _ _ _ PySem.F.plainAttrs_list PySem.F.slot_list_count PySem.F.type_list_count mt_countB (pv 4) (@pa_cons _ _ _ _ _ pe_bl pa_nil (by rfl)) (by rfl) (by rfl) (by rfl) (by rfl) (by rfl)) pe_int (nomark _)) (@pw_and _ _ _ _ _ _ _ (@pt_val _ _ _ (@pe_callB _ _ _ _ _ _ _ _ _ (call_isiX hcls) rfl B.isinstance PyProof.Rows.boot_isinstance (@pa_cons _ _ _ _ _ (pv 3) (@pa_cons _ _ _ _ _ (@pe_bltn _ _ (.ty "ValueError") _ _ rfl B.ValueError PyProof.Rows.Boot.«ValueError» rfl (by decide) (by decide)) pa_nil (by rfl)) (by rfl)) (by decide) (by decide) (by rfl) (by rfl)) (by intro _; rfl)) (@pw_and1 _ _ _ _ (@pt_cmpR _ _ _ _ _ _ _ _ op_ltI (@pe_bmH _ _ _ _ _ _ _ _ _ _ _ _ _ _ _ PySem.F.plainAttrs_list PySem.F.slot_list_index PySem.F.type_list_index mt_indexB (pv 4) (@pa_cons _ _ _ _ _ pe_bl pa_nil (by rfl)) (by rfl) (by rfl) (by rfl) (by rfl) (by rfl)) pe_int (nomark _)))))) (@pss_one _ _ _ (@ps_set _ _ 2 _ _ _ _ nd rfl (Or.inl rfl) (@pe_ix _ _ _ _ _ _ _ ix_AH (@pe_lst _ _ _ _ (@pa_cons _ _ _ _ _ pe_str (@pa_cons _ _ _ _ _ pe_str (@pa_cons _ _ _ _ _ pe_str (@pa_cons _ _ _ _ _ pe_str (@pa_cons _ _ _ _ _ pe_str (@pa_cons _ _ _ _ _ pe_str pa_nil (by rfl)) (by rfl)) (by rfl)) (by rfl)) (by rfl)) (by rfl))) (@pe_bmH _ _ _ _ _ _ _ _ _ _ _ _ _ _ _ PySem.F.plainAttrs_list PySem.F.slot_list_index PySem.F.type_list_index mt_indexB (pv 4) (@pa_cons _ _ _ _ _ pe_bl pa_nil (by rfl)) (by rfl) (by rfl) (by rfl) (by rfl) (by rfl)) (fun _ _ => rfl)) (by rfl) (by walk_at "lo"))) pss_nil)))))))) ph_nil (by decide))) (@pss_one _ _ _ (@ps_ret _ _ _ _ (pv 2))))), ?_⟩
  try dsimp only [cxOf, Cx.inH, Cx.tried]
  refine rd_start [some (.int a), some (.int m), none, none, none] rfl ?_
  walk_at "rd"
  refine rd_try (fun cls dx σ' H' => Same H H' ∧ σ' = [some (.int a), some (.int m), some (.str ""), none, none] ∧ ((cls = .ref C.NoCount.addr ∧ m < 1) ∨ (cls = .ref C.NotOdd.addr ∧ 1 ≤ m ∧ m % 2 = 0) ∨ (cls = .ref C.TooMany.addr ∧ 1 ≤ m ∧ m % 2 = 1 ∧ 200 < m) ∨ (cls = .ref C.NotApart.addr ∧ 1 ≤ m ∧ m % 2 = 1 ∧ m ≤ 200 ∧ Int.gcd a m ≠ 1))) ?_ ?_
  · walk_at "rd"
    refine use_hrs (fun c => ⟨Same.refl _, rfl, .inl ⟨rfl, c⟩⟩) (fun c d => ⟨Same.refl _, rfl, .inr (.inl ⟨rfl, c, d⟩)⟩) (fun c d e => ⟨Same.refl _, rfl, .inr (.inr (.inl ⟨rfl, c, d, e⟩))⟩) (fun c d e f => ⟨Same.refl _, rfl, .inr (.inr (.inr ⟨rfl, c, d, e, f⟩))⟩) fun c d e f D H1 s1 n1 L => ?_
    walk_at "rd"
    exact q _ _ s1 (fun _ => by omega) (fun _ _ => by omega) (fun _ _ _ => by omega) (fun _ _ _ g => absurd f g) fun _ _ _ _ => rfl
  · rintro cls dx ad σ' H' ⟨s', rfl, ⟨hcls, c⟩ | ⟨hcls, c, d⟩ | ⟨hcls, c, d, e⟩ | ⟨hcls, c, d, e, f⟩⟩
    · obtain rfl := hcls
      have z1 := C.NoCount.exc
      walk_at "rd"
      refine rd_countB (k := 1) [true, false, false, false, false, false, false, false, false, false, false, false, false, false, false] (by walk_at "hp") rfl ?_
      walk_at "rd"
      walk_at "ite"
      rotate_left
      · rename_i c; exact absurd rfl c
      walk_at "rd"
      refine rd_indexB [true, false, false, false, false, false, false, false, false, false, false, false, false, false, false] 0 (by walk_at "hp") rfl (by decide) ?_
      walk_at "rd"
      walk_at "ite"
      rotate_left
      · rename_i c; exact absurd (by decide) c
      walk_at "rd"
      refine rd_indexB [true, false, false, false, false, false, false, false, false, false, false, false, false, false, false] 0 (by walk_at "hp") rfl (by decide) ?_
      walk_at "rd"
      exact q _ _ (by walk_at "sm") (fun _ => rfl) (fun _ _ => by omega) (fun _ _ _ => by omega) (fun _ _ _ _ => by omega) fun _ _ _ _ => by omega
    · obtain rfl := hcls
      have z1 := C.NotOdd.exc
      walk_at "rd"
      refine rd_countB (k := 1) [false, true, false, false, false, false, false, false, false, false, false, false, false, false, false] (by walk_at "hp") rfl ?_
      walk_at "rd"
      walk_at "ite"
      rotate_left
      · rename_i c; exact absurd rfl c
      walk_at "rd"
      refine rd_indexB [false, true, false, false, false, false, false, false, false, false, false, false, false, false, false] 1 (by walk_at "hp") rfl (by decide) ?_
      walk_at "rd"
      walk_at "ite"
      rotate_left
      · rename_i c; exact absurd (by decide) c
      walk_at "rd"
      refine rd_indexB [false, true, false, false, false, false, false, false, false, false, false, false, false, false, false] 1 (by walk_at "hp") rfl (by decide) ?_
      walk_at "rd"
      exact q _ _ (by walk_at "sm") (fun _ => by omega) (fun _ _ => rfl) (fun _ _ _ => by omega) (fun _ _ _ _ => by omega) fun _ _ _ _ => by omega
    · obtain rfl := hcls
      have z1 := C.TooMany.exc
      walk_at "rd"
      refine rd_countB (k := 1) [false, false, true, false, false, false, false, false, false, false, false, false, false, false, false] (by walk_at "hp") rfl ?_
      walk_at "rd"
      walk_at "ite"
      rotate_left
      · rename_i c; exact absurd rfl c
      walk_at "rd"
      refine rd_indexB [false, false, true, false, false, false, false, false, false, false, false, false, false, false, false] 2 (by walk_at "hp") rfl (by decide) ?_
      walk_at "rd"
      walk_at "ite"
      rotate_left
      · rename_i c; exact absurd (by decide) c
      walk_at "rd"
      refine rd_indexB [false, false, true, false, false, false, false, false, false, false, false, false, false, false, false] 2 (by walk_at "hp") rfl (by decide) ?_
      walk_at "rd"
      exact q _ _ (by walk_at "sm") (fun _ => by omega) (fun _ _ => by omega) (fun _ _ _ => rfl) (fun _ _ _ _ => by omega) fun _ _ _ _ => by omega
    · obtain rfl := hcls
      have z1 := C.NotApart.exc
      walk_at "rd"
      refine rd_countB (k := 1) [false, false, false, true, false, false, false, false, false, false, false, false, false, false, false] (by walk_at "hp") rfl ?_
      walk_at "rd"
      walk_at "ite"
      rotate_left
      · rename_i c; exact absurd rfl c
      walk_at "rd"
      refine rd_indexB [false, false, false, true, false, false, false, false, false, false, false, false, false, false, false] 3 (by walk_at "hp") rfl (by decide) ?_
      walk_at "rd"
      walk_at "ite"
      rotate_left
      · rename_i c; exact absurd (by decide) c
      walk_at "rd"
      refine rd_indexB [false, false, false, true, false, false, false, false, false, false, false, false, false, false, false] 3 (by walk_at "hp") rfl (by decide) ?_
      walk_at "rd"
      exact q _ _ (by walk_at "sm") (fun _ => by omega) (fun _ _ => by omega) (fun _ _ _ => by omega) (fun _ _ _ _ => rfl) fun _ _ _ g => absurd g f
theorem asc_fill : ∀ (ms : List Int) (lo : Int), ms.Pairwise (· < ·) → (∀ x, x ∈ ms → lo ≤ x ∧ x < lo + ms.length) → ms = irL lo ms.length
  | [], _, _, _ => rfl
  | x :: ms, lo, hp, hb => by
    have hc := List.pairwise_cons.mp hp
    have h0 := hb x List.mem_cons_self
    rw [List.length_cons] at h0
    have ht := asc_fill ms (lo + 1) hc.2 fun y hy => by
      have := hc.1 y hy
      have h1 := hb y (List.mem_cons_of_mem _ hy)
      rw [List.length_cons] at h1
      omega
    have hx : x = lo := by
      cases ms with
      | nil => simp at h0; omega
      | cons y ms =>
        have h2 := hc.1 y List.mem_cons_self
        have h3 : y = lo + 1 := by
          unfold irL at ht
          rw [List.length_cons, List.range_succ_eq_map, List.map_cons] at ht
          have := (List.cons.inj ht).1
          simpa using this
        omega
    unfold irL at ht ⊢
    rw [List.length_cons, List.range_succ_eq_map, List.map_cons, List.map_map]
    subst hx
    congr 1
    · simp
    · conv => lhs; rw [ht]
      refine List.map_congr_left fun i _ => ?_
      show x + 1 + (i : Int) = x + ((i + 1 : Nat) : Int)
      omega
theorem pop0 {l : Addr} {xs : List V} {y : V} {H : Hp} {Q : VK} (h1 : H l = some (.lst xs)) (hy : xs[0]? = some y) (h : Q y (upd H l (.lst (xs.eraseIdx 0)))) : rPopAt (.ref l) [.int 0] H Q := by
  refine ⟨l, xs, 0, 0, y, rfl, rfl, h1, by decide, by decide, ?_, hy, h⟩
  have h0 : 0 < xs.length := (List.getElem?_eq_some_iff.mp hy).1
  have h3 : xs ≠ [] := fun e => by rw [e] at h0; simp at h0
  simp [seqIndex?, h3]
theorem hrw_as {a m : Int} {i : Nat} (om : m % 2 = 1) : hrw (1 + (i : Nat)) (a * (1 + (i : Nat)) % m) m = if m < 2 * (a * (1 + (i : Nat)) % m) then [1 + ((i : Nat) : Int), m - a * (1 + (i : Nat)) % m, -1] else [1 + ((i : Nat) : Int), a * (1 + (i : Nat)) % m, 1] := by
  unfold hrw
  generalize a * (1 + (i : Nat)) % m = r
  split <;> split <;> first | rfl | (exfalso; omega)
theorem hrows_len (a m : Int) : (hrows a m).length = ((m + 1) / 2 - 1).toNat := by unfold hrows; simp
theorem hrows_at {a m : Int} {i : Nat} (hi : i < ((m + 1) / 2 - 1).toNat) : (hrows a m)[i]? = some (hrw (1 + (i : Nat)) (a * (1 + (i : Nat)) % m) m) := by
  unfold hrows
  rw [List.getElem?_map, List.getElem?_range hi]
  rfl
def nears (a m : Int) : List Int := (List.range ((m + 1) / 2 - 1).toNat).map fun i => ((Mth.nea a m (i + 1) : Nat) : Int)
theorem nears_len (a m : Int) : (nears a m).length = ((m + 1) / 2 - 1).toNat := by unfold nears; simp
theorem nears_nodup {a m : Int} (hm : 0 < m) (om : m % 2 = 1) (hg : Int.gcd a m = 1) : (nears a m).Nodup := by
  unfold nears
  refine List.pairwise_map.mpr (List.Pairwise.imp_of_mem ?_ List.nodup_range)
  intro i j hi hj hij e
  have hi := List.mem_range.mp hi
  have hj := List.mem_range.mp hj
  have := Mth.nea_inj hm om hg (i := i + 1) (j := j + 1) (by unfold Mth.hn; omega) (by unfold Mth.hn; omega) (by omega)
  omega
theorem nears_fill {a m : Int} {ms : List Int} (hm : 0 < m) (om : m % 2 = 1) (hg : Int.gcd a m = 1) (hp : ms.Perm (nears a m)) (hs : ms.Pairwise (· ≤ ·)) : ms = irL 1 ((m + 1) / 2 - 1).toNat := by
  have hl : ms.length = ((m + 1) / 2 - 1).toNat := by rw [hp.length_eq, nears_len]
  have hn : ms.Nodup := hp.nodup_iff.mpr (nears_nodup hm om hg)
  have := asc_fill ms 1 (by
    refine List.Pairwise.imp₂ ?_ hs hn
    intro x y h1 h2
    omega) fun x hx => by
      obtain ⟨i, hi, rfl⟩ := List.mem_map.mp (hp.mem_iff.mp hx)
      have hi := List.mem_range.mp hi
      have h1 := (Mth.nea_spec (a := a) hm om (i + 1)).1
      have h0 : Mth.nea a m (i + 1) ≠ 0 := fun e => by
        have := Mth.nea_inj hm om hg (i := i + 1) (j := 0) (by unfold Mth.hn; omega) (by unfold Mth.hn; omega) (by rw [e, (Mth.eps_zero a m hm).2])
        omega
      unfold Mth.hn at h1
      rw [hl]
      omega
  rw [hl] at this
  exact this
theorem nears_at {a m : Int} {i : Nat} (hm : 0 < m) (om : m % 2 = 1) (hi : i < ((m + 1) / 2 - 1).toNat) : (nears a m)[i]? = (hrw (1 + (i : Nat)) (a * (1 + (i : Nat)) % m) m)[1]? := by
  unfold nears
  rw [List.getElem?_map, List.getElem?_range hi, hrw_as om]
  have r0 := Int.emod_nonneg (a * (1 + (i : Nat))) (show m ≠ 0 by omega)
  have r1 := Int.emod_lt_of_pos (a * (1 + (i : Nat))) hm
  show some ((Mth.nea a m (i + 1) : Nat) : Int) = _
  unfold Mth.nea
  rw [show (((i + 1 : Nat) : Nat) : Int) = 1 + (i : Nat) by omega]
  generalize a * (1 + (i : Nat)) % m = r at *
  split
  · simp; omega
  · simp; omega
theorem same_ints {K : PySem.W.Frag} {H : Hp} {a b : Addr} {ns : List Int} (h1 : H a = some (.lst (ns.map V.int))) (h2 : H b = some (.lst (ns.map V.int))) : Cmp K H 4 (.ref a) (.ref b) true := by
  refine (Cmp.lst (d := 3) (fun _ => true) (SqL.of h1) (SqL.of h2) rfl fun i x y hx hy => ?_).to (allR fun _ _ => rfl)
  rw [hx] at hy
  cases hy
  rw [List.getElem?_map] at hx
  cases hi : ns[i]? with
  | none => rw [hi] at hx; cases hx
  | some n =>
    rw [hi] at hx
    cases hx
    exact (Cmp.flat rfl rfl).to (eqV_refl rfl)
theorem ok_law (F : Src K mg "law" s_law ["_law_script"]) (B : Blt mg) (C : Cls K mg base) (R : Rel K mg base C) (Kc : Cst K mg) (D__law_short : Def P w K mg base (CXE P w) 3 "_law_short" ["_law_cell_here", "_law_prime"] spShort) (D__law_cell : Def P w K mg base (CXE P w) 1 "_law_cell" ["_law_script", "_law_k"] (spCell K)) (D__law_apart : Def P w K mg base (CXE P w) 2 "_law_apart" ["_law_a", "_law_m"] spApart) (D__law_far : Def P w K mg base (CXE P w) 3 "_law_far" ["_law_cell_here", "_law_prime"] spFar) (D_half_rows : Def P w K mg base (CXE P w) 3 "half_rows" ["a", "m"] (spHRs C.NoCount.addr C.NotOdd.addr C.TooMany.addr C.NotApart.addr)) (D__law_lists : Def P w K mg base (CXE P w) 3 "_law_lists" ["_law_found", "_law_due"] spLists) (D__law_count : Def P w K mg base (CXE P w) 3 "_law_count" ["_law_cell_here", "_law_prime"] spCount) (D__law_asked : Def P w K mg base (CXE P w) 4 "_law_asked" ["_law_a", "_law_m"] spAsk21) : Def P w K mg base (CXE P w) 5 "law" ["_law_script"] (spLaw K) := by
  refine F.ok (CX := CXE P w) (k := 4) sc_law (fun vs H Q E h => ?_) (fun f cdv A outer s H vs Q E hr h => ?_)
  · obtain ⟨_, _, rfl, _⟩ := h
    rfl
  have nd := sc_law.nd
  obtain ⟨a, ns, rfl, hS, h63, q⟩ := h
  refine ⟨_, (@pss_cons _ _ _ _ _ (@ps_set _ _ 1 _ _ _ _ nd rfl (Or.inl rfl) (@pe_defS _ _ _ _ _ _ _ _ _ _ _ D__law_short (hr.mono (by decide)) rfl xpass_nox (@pa_cons _ _ _ _ _ (@pe_defS _ _ _ _ _ _ _ _ _ _ _ D__law_cell (hr.mono (by decide)) rfl xpass_nox (@pa_cons _ _ _ _ _ (pv 0) (@pa_cons _ _ _ _ _ pe_int pa_nil (by rfl)) (by rfl)) (by decide) (by rfl) (by rfl)) (@pa_cons _ _ _ _ _ pe_int pa_nil (by rfl)) (by rfl)) (by decide) (by rfl) (by rfl)) (by rfl) (by walk_at "lo")) (@pss_cons _ _ _ _ _ (@ps_set _ _ 1 _ _ _ _ nd rfl (Or.inl rfl) (@pe_op _ _ _ _ _ _ _ _ op_addA (@pe_op _ _ _ _ _ _ _ _ op_subI (pv 1) pe_int) (@pe_op _ _ _ _ _ _ _ _ op_modA (pv 1) pe_int)) (by rfl) (by walk_at "lo")) (@pss_cons _ _ _ _ _ (@ps_set _ _ 2 _ _ _ _ nd rfl (Or.inl rfl) (@pe_defS _ _ _ _ _ _ _ _ _ _ _ D__law_apart (hr.mono (by decide)) rfl xpass_nox (@pa_cons _ _ _ _ _ (@pe_defS _ _ _ _ _ _ _ _ _ _ _ D__law_far (hr.mono (by decide)) rfl xpass_nox (@pa_cons _ _ _ _ _ (@pe_defS _ _ _ _ _ _ _ _ _ _ _ D__law_cell (hr.mono (by decide)) rfl xpass_nox (@pa_cons _ _ _ _ _ (pv 0) (@pa_cons _ _ _ _ _ pe_int pa_nil (by rfl)) (by rfl)) (by decide) (by rfl) (by rfl)) (@pa_cons _ _ _ _ _ pe_int pa_nil (by rfl)) (by rfl)) (by decide) (by rfl) (by rfl)) (@pa_cons _ _ _ _ _ (pv 1) pa_nil (by rfl)) (by rfl)) (by decide) (by rfl) (by rfl)) (by rfl) (by walk_at "lo")) (@pss_cons _ _ _ _ _ (@ps_set _ _ 3 _ _ _ _ nd rfl (Or.inl rfl) (@pe_lst _ _ _ _ pa_nil) (by rfl) (by walk_at "lo")) (@pss_cons _ _ _ _ _ (@ps_for _ _ _ _ _ _ _ _ PassesOwn.never rfl (@pi_range2 _ _ _ _ _ _ _ rfl B.range (@pa_cons _ _ _ _ _ pe_int (@pa_cons _ _ _ _ _ (@pe_op _ _ _ _ _ _ _ _ op_divA (@pe_op _ _ _ _ _ _ _ _ op_addA (pv 1) pe_int) pe_int) pa_nil (by rfl)) (by rfl)) (by rfl) (by rfl)) (@pg_name _ _ 4 _ nd rfl (Or.inl rfl) (by walk_at "lo")) (@pss_cons _ _ _ _ _ (@ps_set _ _ 5 _ _ _ _ nd rfl (Or.inl rfl) (@pe_op _ _ _ _ _ _ _ _ op_modA (@pe_op _ _ _ _ _ _ _ _ op_mulA (pv 2) (pv 4)) (pv 1)) (by rfl) (by walk_at "lo")) (@pss_one _ _ _ (@ps_if _ _ _ _ _ _ _ _ (@pt_cmpR _ _ _ _ _ _ _ _ op_gtI (@pe_op _ _ _ _ _ _ _ _ op_mulA pe_int (pv 5)) (pv 1) (nomark _)) (@pss_one _ _ _ (@ps_expr _ _ _ _ (@pe_bm _ _ _ _ _ _ _ _ _ _ _ _ PySem.F.plainAttrs_list PySem.F.slot_list_append PySem.F.type_list_append mt_append (pv 3) (@pa_cons _ _ _ _ _ (@pe_tup _ _ _ _ _ (@pa_cons _ _ _ _ _ (pv 4) (@pa_cons _ _ _ _ _ (@pe_op _ _ _ _ _ _ _ _ op_subI (pv 1) (pv 5)) (@pa_cons _ _ _ _ _ (@pe_un _ _ _ _ _ _ un_neg pe_int) pa_nil (by rfl)) (by rfl)) (by rfl))) pa_nil (by rfl)) (by rfl) (by rfl) (by rfl) (by rfl) (by rfl)) (by rfl))) (@pss_one _ _ _ (@ps_expr _ _ _ _ (@pe_bm _ _ _ _ _ _ _ _ _ _ _ _ PySem.F.plainAttrs_list PySem.F.slot_list_append PySem.F.type_list_append mt_append (pv 3) (@pa_cons _ _ _ _ _ (@pe_tup _ _ _ _ _ (@pa_cons _ _ _ _ _ (pv 4) (@pa_cons _ _ _ _ _ (pv 5) (@pa_cons _ _ _ _ _ pe_int pa_nil (by rfl)) (by rfl)) (by rfl))) pa_nil (by rfl)) (by rfl) (by rfl) (by rfl) (by rfl) (by rfl)) (by rfl)))))) (by intro _; rfl)) (@pss_cons _ _ _ _ _ (@ps_set _ _ 6 _ _ _ _ nd rfl (Or.inl rfl) (@pe_defS _ _ _ _ _ _ _ _ _ _ _ D_half_rows (hr.mono (by decide)) rfl xpass_nox (@pa_cons _ _ _ _ _ (pv 2) (@pa_cons _ _ _ _ _ (pv 1) pa_nil (by rfl)) (by rfl)) (by decide) (by rfl) (by rfl)) (by rfl) (by walk_at "lo")) (@pss_cons _ _ _ _ _ (@ps_if _ _ _ _ _ _ _ _ (@pt_not _ _ _ _ (@pt_val _ _ _ (@pe_defS _ _ _ _ _ _ _ _ _ _ _ D__law_lists (hr.mono (by decide)) rfl xpass_nox (@pa_cons _ _ _ _ _ (pv 6) (@pa_cons _ _ _ _ _ (pv 3) pa_nil (by rfl)) (by rfl)) (by decide) (by rfl) (by rfl)) (by intro _; rfl))) (@pss_one _ _ _ (@ps_ret _ _ _ _ pe_bl)) pss_nil) (@pss_cons _ _ _ _ _ (@ps_if _ _ _ _ _ _ _ _ (@pt_cmpR _ _ _ _ _ _ _ _ (op_neF hr.units3) (@pe_callB _ _ _ _ _ _ _ _ _ call_sortedM rfl B.sorted PyProof.Rows.boot_sorted (@pa_cons _ _ _ _ _ (@pe_comp _ _ _ _ _ _ _ _ _ rfl (@PI.or _ _ _ _ _ (@pi_list _ _ _ _ (pv 3)) (@pi_tup _ _ _ _ (pv 3))) (fun pins ex s H => (@pe_ix _ _ _ _ _ _ _ ix_Ab (pv 0) pe_int (fun _ _ => rfl))) (by decide +kernel) (by decide +kernel) rfl (by decide +kernel) rfl (by intro _; rfl)) pa_nil (by rfl)) (by decide) (by decide) (by rfl) (by rfl)) (@pe_listRng2 _ _ _ _ _ _ _ _ rfl rfl B.list rfl B.range (@pa_cons _ _ _ _ _ pe_int (@pa_cons _ _ _ _ _ (@pe_op _ _ _ _ _ _ _ _ op_divA (@pe_op _ _ _ _ _ _ _ _ op_addA (pv 1) pe_int) pe_int) pa_nil (by rfl)) (by rfl)) (by rfl) (by rfl) (by rfl)) (nomark _)) (@pss_one _ _ _ (@ps_ret _ _ _ _ pe_bl)) pss_nil) (@pss_cons _ _ _ _ _ (@ps_expr _ _ _ _ (@pe_bm _ _ _ _ _ _ _ _ _ _ _ _ PySem.F.plainAttrs_list PySem.F.slot_list_append PySem.F.type_list_append mt_append (pv 6) (@pa_cons _ _ _ _ _ pe_int pa_nil (by rfl)) (by rfl) (by rfl) (by rfl) (by rfl) (by rfl)) (by rfl)) (@pss_cons _ _ _ _ _ (@ps_expr _ _ _ _ (@pe_bm _ _ _ _ _ _ _ _ _ _ _ _ PySem.F.plainAttrs_list PySem.F.slot_list_pop PySem.F.type_list_pop mt_popAt (pv 6) (@pa_cons _ _ _ _ _ pe_int pa_nil (by rfl)) (by rfl) (by rfl) (by rfl) (by rfl) (by rfl)) (by rfl)) (@pss_cons _ _ _ _ _ (@ps_set _ _ 7 _ _ _ _ nd rfl (Or.inl rfl) (@pe_defS _ _ _ _ _ _ _ _ _ _ _ D__law_count (hr.mono (by decide)) rfl xpass_nox (@pa_cons _ _ _ _ _ (@pe_defS _ _ _ _ _ _ _ _ _ _ _ D__law_cell (hr.mono (by decide)) rfl xpass_nox (@pa_cons _ _ _ _ _ (pv 0) (@pa_cons _ _ _ _ _ pe_int pa_nil (by rfl)) (by rfl)) (by decide) (by rfl) (by rfl)) (@pa_cons _ _ _ _ _ pe_int pa_nil (by rfl)) (by rfl)) (by decide) (by rfl) (by rfl)) (by rfl) (by walk_at "lo")) (@pss_cons _ _ _ _ _ (@ps_set _ _ 8 _ _ _ _ nd rfl (Or.inl rfl) (@pe_op _ _ _ _ _ _ _ _ op_addA pe_int (@pe_op _ _ _ _ _ _ _ _ op_mulA pe_int (pv 7))) (by rfl) (by walk_at "lo")) (@pss_cons _ _ _ _ _ (@ps_set _ _ 9 _ _ _ _ nd rfl (Or.inl rfl) (@pe_lst _ _ _ _ (@pa_cons _ _ _ _ _ (@pe_tup _ _ _ _ _ (@pa_cons _ _ _ _ _ (pv 2) (@pa_cons _ _ _ _ _ pe_int (@pa_cons _ _ _ _ _ pe_str pa_nil (by rfl)) (by rfl)) (by rfl))) (@pa_cons _ _ _ _ _ (@pe_tup _ _ _ _ _ (@pa_cons _ _ _ _ _ pe_int (@pa_cons _ _ _ _ _ (@pe_op _ _ _ _ _ _ _ _ op_subI pe_int (@pe_op _ _ _ _ _ _ _ _ op_mulA pe_int (pv 7))) (@pa_cons _ _ _ _ _ pe_str pa_nil (by rfl)) (by rfl)) (by rfl))) (@pa_cons _ _ _ _ _ (@pe_tup _ _ _ _ _ (@pa_cons _ _ _ _ _ (pv 2) (@pa_cons _ _ _ _ _ (@pe_op _ _ _ _ _ _ _ _ op_subI pe_int (@pe_op _ _ _ _ _ _ _ _ op_mulA pe_int (pv 7))) (@pa_cons _ _ _ _ _ pe_str pa_nil (by rfl)) (by rfl)) (by rfl))) (@pa_cons _ _ _ _ _ (@pe_tup _ _ _ _ _ (@pa_cons _ _ _ _ _ (@pe_op _ _ _ _ _ _ _ _ op_mulA pe_int (pv 7)) (@pa_cons _ _ _ _ _ (@pe_op _ _ _ _ _ _ _ _ op_mulA pe_int (pv 7)) (@pa_cons _ _ _ _ _ pe_str pa_nil (by rfl)) (by rfl)) (by rfl))) pa_nil (by rfl)) (by rfl)) (by rfl)) (by rfl))) (by rfl) (by walk_at "lo")) (@pss_cons _ _ _ _ _ (@ps_set _ _ 9 _ _ _ _ nd rfl (Or.inl rfl) (@pe_op _ _ _ _ _ _ _ _ op_addA (pv 9) (@pe_lst _ _ _ _ (@pa_cons _ _ _ _ _ (@pe_tup _ _ _ _ _ (@pa_cons _ _ _ _ _ (pv 2) (@pa_cons _ _ _ _ _ (@pe_op _ _ _ _ _ _ _ _ op_addA pe_int (@pe_op _ _ _ _ _ _ _ _ op_mulA pe_int (pv 7))) (@pa_cons _ _ _ _ _ pe_str pa_nil (by rfl)) (by rfl)) (by rfl))) (@pa_cons _ _ _ _ _ (@pe_tup _ _ _ _ _ (@pa_cons _ _ _ _ _ pe_int (@pa_cons _ _ _ _ _ pe_int (@pa_cons _ _ _ _ _ pe_str pa_nil (by rfl)) (by rfl)) (by rfl))) (@pa_cons _ _ _ _ _ (@pe_tup _ _ _ _ _ (@pa_cons _ _ _ _ _ pe_int (@pa_cons _ _ _ _ _ (pv 8) (@pa_cons _ _ _ _ _ pe_str pa_nil (by rfl)) (by rfl)) (by rfl))) (@pa_cons _ _ _ _ _ (@pe_tup _ _ _ _ _ (@pa_cons _ _ _ _ _ (pv 8) (@pa_cons _ _ _ _ _ (pv 8) (@pa_cons _ _ _ _ _ pe_str pa_nil (by rfl)) (by rfl)) (by rfl))) (@pa_cons _ _ _ _ _ (@pe_tup _ _ _ _ _ (@pa_cons _ _ _ _ _ pe_int (@pa_cons _ _ _ _ _ pe_int (@pa_cons _ _ _ _ _ pe_str pa_nil (by rfl)) (by rfl)) (by rfl))) pa_nil (by rfl)) (by rfl)) (by rfl)) (by rfl)) (by rfl)))) (by rfl) (by walk_at "lo")) (@pss_cons _ _ _ _ _ (@ps_for _ _ _ _ _ _ _ _ PassesOwn.never rfl (@pi_list _ _ _ _ (pv 9)) (@pg_tup _ _ _ _ _ _ rfl (@pgs_cons _ _ _ _ _ (@pg_name _ _ 5 _ nd rfl (Or.inl rfl) (by walk_at "lo")) (@pgs_cons _ _ _ _ _ (@pg_name _ _ 10 _ nd rfl (Or.inl rfl) (by walk_at "lo")) (@pgs_cons _ _ _ _ _ (@pg_name _ _ 11 _ nd rfl (Or.inl rfl) (by walk_at "lo")) pgs_nil (by rfl)) (by rfl)) (by rfl)) (by rfl) (by rfl)) (@pss_one _ _ _ (@ps_if _ _ _ _ _ _ _ _ (@pt_cmpR _ _ _ _ _ _ _ _ (op_neF hr.units3) (@pe_defS _ _ _ _ _ _ _ _ _ _ _ D__law_asked (hr.mono (by decide)) rfl xpass_nox (@pa_cons _ _ _ _ _ (pv 5) (@pa_cons _ _ _ _ _ (pv 10) pa_nil (by rfl)) (by rfl)) (by decide) (by rfl) (by rfl)) (pv 11) (nomark _)) (@pss_one _ _ _ (@ps_ret _ _ _ _ pe_bl)) pss_nil)) (by intro _; rfl)) (@pss_cons _ _ _ _ _ (@ps_if _ _ _ _ _ _ _ _ (@PW.pt _ _ _ (@pw_and _ _ _ _ _ _ _ (@pt_cmpR _ _ _ _ _ _ _ _ op_gtI (pv 1) pe_int (nomark _)) (@pw_and1 _ _ _ _ (@PW.pt _ _ _ (@pw_or _ _ _ _ _ _ _ (@pt_cmpR _ _ _ _ _ _ _ _ (op_neF hr.units3) (@pe_defS _ _ _ _ _ _ _ _ _ _ _ D__law_asked (hr.mono (by decide)) rfl xpass_nox (@pa_cons _ _ _ _ _ pe_int (@pa_cons _ _ _ _ _ (pv 1) pa_nil (by rfl)) (by rfl)) (by decide) (by rfl) (by rfl)) pe_str (nomark _)) (@pw_or1 _ _ _ _ (@pt_cmpR _ _ _ _ _ _ _ _ (op_neF hr.units3) (@pe_defS _ _ _ _ _ _ _ _ _ _ _ D__law_asked (hr.mono (by decide)) rfl xpass_nox (@pa_cons _ _ _ _ _ (@pe_op _ _ _ _ _ _ _ _ op_mulA (pv 2) (pv 1)) (@pa_cons _ _ _ _ _ (pv 1) pa_nil (by rfl)) (by rfl)) (by decide) (by rfl) (by rfl)) pe_str (nomark _)))))))) (@pss_one _ _ _ (@ps_ret _ _ _ _ pe_bl)) pss_nil) (@pss_cons _ _ _ _ _ (@ps_if _ _ _ _ _ _ _ _ (@pt_cmpR _ _ _ _ _ _ _ _ (op_neF hr.units3) (@pe_defS _ _ _ _ _ _ _ _ _ _ _ D__law_asked (hr.mono (by decide)) rfl xpass_nox (@pa_cons _ _ _ _ _ pe_int (@pa_cons _ _ _ _ _ pe_int pa_nil (by rfl)) (by rfl)) (by decide) (by rfl) (by rfl)) pe_str (nomark _)) (@pss_one _ _ _ (@ps_ret _ _ _ _ pe_bl)) pss_nil) (@pss_one _ _ _ (@ps_ret _ _ _ _ (@pe_and _ _ _ _ _ _ _ (@pe_cmpR _ _ _ _ _ _ _ _ (op_eqF hr.units3) (@pe_defS _ _ _ _ _ _ _ _ _ _ _ D__law_asked (hr.mono (by decide)) rfl xpass_nox (@pa_cons _ _ _ _ _ pe_int (@pa_cons _ _ _ _ _ pe_int pa_nil (by rfl)) (by rfl)) (by decide) (by rfl) (by rfl)) pe_str (nomark _)) (@pe_one _ _ _ _ _ (@pe_defS _ _ _ _ _ _ _ _ _ _ _ D__law_lists (hr.mono (by decide)) rfl xpass_nox (@pa_cons _ _ _ _ _ (@pe_defS _ _ _ _ _ _ _ _ _ _ _ D_half_rows (hr.mono (by decide)) rfl xpass_nox (@pa_cons _ _ _ _ _ (pv 2) (@pa_cons _ _ _ _ _ (pv 1) pa_nil (by rfl)) (by rfl)) (by decide) (by rfl) (by rfl)) (@pa_cons _ _ _ _ _ (pv 3) pa_nil (by rfl)) (by rfl)) (by decide) (by rfl) (by rfl))))))))))))))))))))))), ?_⟩
  try dsimp only [cxOf, Cx.inH, Cx.tried]
  refine rd_start [some (.ref a), none, none, none, none, none, none, none, none, none, none, none] rfl ?_
  walk_at "rd"
  rename_i c1 H1 m0 s1 m1 m2 c2 H2 far0 s2 f1 f2 av g1 g2 hg du H3 s3 n3 e3
  generalize hm : m0 - 1 + m0 % 2 = m at *
  have om : m % 2 = 1 := by omega
  have mb : 1 ≤ m ∧ m ≤ 199 := by omega
  have hA : av.natAbs < 10 ^ 61 := by omega
  have rng : ((m + 1) / 2 - 1).toNat ≤ 100 := by omega
  refine for_range (n := ((m + 1) / 2 - 1).toNat) (fun i σ H' => Same H2 H' ∧ i ≤ ((m + 1) / 2 - 1).toNat ∧ ∃ (z1 z2 : Option V), σ = [some (.ref a), some (.int m), some (.int av), some (.ref du), z1, z2, none, none, none, none, none, none] ∧ RowsL H' du ((hrows av m).take i)) ⟨s3, Nat.zero_le _, _, _, rfl, ⟨[], e3, rfl, fun i x p h => by simp at h⟩⟩ ?_ ?_
  · rintro i σ H' hi ⟨sa, hi', z1, z2, rfl, hR⟩
    have r0 := Int.emod_nonneg (av * (1 + (i : Nat))) (show m ≠ 0 by omega)
    have r1 := Int.emod_lt_of_pos (av * (1 + (i : Nat))) (show 0 < m by omega)
    have tk : (hrows av m).take (i + 1) = (hrows av m).take i ++ [hrw (1 + (i : Nat)) (av * (1 + (i : Nat)) % m) m] := by
      rw [List.take_add_one, hrows_at hi]; rfl
    have ab : (av * (1 + (i : Nat))).natAbs < 10 ^ 65 := by
      rw [Int.natAbs_mul]
      have := Nat.mul_le_mul (show av.natAbs ≤ 10 ^ 61 by omega) (show (1 + ((i : Nat) : Int)).natAbs ≤ 1000 by omega)
      omega
    rw [hrw_as om] at tk
    obtain ⟨as0, eR, _, _⟩ := id hR
    walk_at "rd"
    walk_at "ite"
    · rename_i c
      rw [if_pos c] at tk
      walk_at "rd"
      rename_i t H4 s4 n4 e4
      obtain ⟨as, e5, l5, R5⟩ := hR.push (p := [1 + ((i : Nat) : Int), m - av * (1 + (i : Nat)) % m, -1]) s4 e4
      refine rd_append e5 (by rw [List.length_map, l5, List.length_take]; exact small1000 (by omega)) ?_
      walk_at "rd"
      rw [← tk] at R5
      exact ⟨(sa.trans s4).upd n3, by omega, _, _, rfl, R5⟩
    · rename_i c
      rw [if_neg c] at tk
      walk_at "rd"
      rename_i t H4 s4 n4 e4
      obtain ⟨as, e5, l5, R5⟩ := hR.push (p := [1 + ((i : Nat) : Int), av * (1 + (i : Nat)) % m, 1]) s4 e4
      refine rd_append e5 (by rw [List.length_map, l5, List.length_take]; exact small1000 (by omega)) ?_
      walk_at "rd"
      rw [← tk] at R5
      exact ⟨(sa.trans s4).upd n3, by omega, _, _, rfl, R5⟩
  rintro σ H4 ⟨s4, hi', z1, z2, rfl, hR⟩
  rw [List.take_of_length_le (by rw [hrows_len]; exact Nat.le_refl _)] at hR
  walk_at "rd"
  refine use_hrs (fun c => by exfalso; omega) (fun _ c => by exfalso; omega) (fun _ _ c => by exfalso; omega) (fun _ _ _ c => absurd hg c) fun _ _ _ _ fo H5 s5 n5 hF => ?_
  have rowlen : ∀ p ∈ hrows av m, p.length ≤ 1000 := fun p hp => by
    obtain ⟨i, _, rfl⟩ := List.mem_map.mp hp
    unfold hrw
    split <;> (show 3 ≤ 1000; decide)
  walk_at "rd"
  refine use_lists _ hF (hR.same s5) rowlen fun H6 s6 => ?_
  obtain ⟨as, eD, hal, hT⟩ := (hR.same s5).same s6
  rw [hrows_len] at hal
  walk_at "rd"
  refine rd_compL ?_
  walk_at "rd"
  refine rd_kCompL (xs := as.map V.ref) ((nears av m).map V.int) (SqL.of eD) (by rw [List.length_map, List.length_map, nears_len, hal]) (by rw [List.length_map]; omega) (fun i x y H' Q' hx hy s q => ?_) (fun D H7 s7 n7 e7 => ?_)
  · rw [List.getElem?_map] at hx
    rw [List.getElem?_map] at hy
    cases hi : as[i]? with
    | none => rw [hi] at hx; cases hx
    | some z =>
      rw [hi] at hx
      cases hx
      have hil : i < ((m + 1) / 2 - 1).toNat := by have := (List.getElem?_eq_some_iff.mp hi).1; omega
      have e := s.obj (hT i z _ hi (hrows_at hil))
      rw [nears_at (by omega) om hil] at hy
      unfold hrw at e hy
      split at e
      · rename_i c
        rw [if_pos c] at hy
        cases hy
        walk_at "rd"
        exact q _ (Same.refl _)
      · rename_i c
        rw [if_neg c] at hy
        cases hy
        walk_at "rd"
        exact q _ (Same.refl _)
  walk_at "rd"
  refine rd_sortedM (SqL.of e7) (nears_nodup (by omega) om hg) (by rw [nears_len]; omega) fun so H8 ms s8 n8 pm up e8 => ?_
  have fill := nears_fill (by omega) om hg pm up
  subst fill
  walk_at "rd"
  rename_i D9 H9 s9 n9 e9
  refine rd_neF (b := true) (same_ints (s9.obj e8) e9) ?_
  obtain ⟨fs, eF, hfl, hFT⟩ := hF
  have eF9 := s9.obj (s8.obj (s7.obj (s6.obj eF)))
  have s49 : Same H4 H9 := by walk_at "sm"
  walk_at "rd"
  refine rd_append eF9 (by rw [List.length_map, hfl, hrows_len]; exact small1000 (by omega)) ?_
  have eFa : upd H9 fo (.lst (fs.map V.ref ++ [V.int 0])) fo = some (.lst (fs.map V.ref ++ [V.int 0])) := upd_same
  walk_at "rd"
  obtain ⟨y, hy⟩ : ∃ y, (fs.map V.ref ++ [V.int 0])[0]? = some y := ⟨_, List.getElem?_eq_getElem (by simp)⟩
  refine pop0 eFa hy ?_
  clear eFa
  generalize hu : upd (upd H9 fo _) fo _ = H10
  have s10 : Same H4 H10 := by rw [← hu]; exact (s49.upd n5).upd n5
  have R10 := hR.same s10
  have S10 : SqL K H10 a (ns.map V.int) := by
    have sx := ((s1.trans s2).trans s4).trans s10
    walk_at "hp"
  clear hu eF9 s49 eF hFT e9 s9 n9 e8 s8 n8 e7 s7 n7 eD hT s6 s5 n5 pm up
  walk_at "rd"
  rename_i c3 H11 fr s11 b1 b2 p1 K1 t1 o1 w1 p2 K2 t2 o2 w2 p3 K3 t3 o3 w3 p4 K4 t4 o4 w4 L1 KL1 tL1 oL1 wL1 p5 K5 t5 o5 w5 p6 K6 t6 o6 w6 p7 K7 t7 o7 w7 p8 K8 t8 o8 w8 p9 K9 t9 o9 w9 L2 KL2 tL2 oL2 wL2 LL KLL tL oL wL
  have wp1 : KLL p1 = some (.tup [.int av, .int 0, .str "count"]) := by walk_at "hp"
  have wp2 : KLL p2 = some (.tup [.int 2, .int (0 - 2 * fr), .str "count"]) := by walk_at "hp"
  have wp3 : KLL p3 = some (.tup [.int av, .int (1 - 2 * fr), .str "count"]) := by walk_at "hp"
  have wp4 : KLL p4 = some (.tup [.int (2 * fr), .int (2 * fr), .str "odd"]) := by walk_at "hp"
  have wp5 : KLL p5 = some (.tup [.int av, .int (200 + 2 * fr), .str "odd"]) := by walk_at "hp"
  have wp6 : KLL p6 = some (.tup [.int 1, .int 2, .str "odd"]) := by walk_at "hp"
  have wp7 : KLL p7 = some (.tup [.int 1, .int (201 + 2 * fr), .str "many"]) := by walk_at "hp"
  have wp8 : KLL p8 = some (.tup [.int (201 + 2 * fr), .int (201 + 2 * fr), .str "many"]) := by walk_at "hp"
  have wp9 : KLL p9 = some (.tup [.int 0, .int 201, .str "many"]) := by walk_at "hp"
  have sL : Same H10 KLL := by walk_at "sm"
  have RL := R10.same sL
  refine for_list (xs := [V.ref p1, V.ref p2, V.ref p3, V.ref p4] ++ [V.ref p5, V.ref p6, V.ref p7, V.ref p8, V.ref p9]) (fun i σ H' => Same KLL H' ∧ ∃ (z5 z10 z11 : Option V), σ = [some (.ref a), some (.int m), some (.int av), some (.ref du), z1, z5, some (.ref fo), some (.int fr), some (.int (201 + 2 * fr)), some (.ref LL), z10, z11]) ⟨Same.refl _, _, _, _, rfl⟩ (fun i σ H' _ h => SqL.of (h.1.obj wL)) ?_ ?_
  · rintro i v σ Ha hv ⟨sa, z5, z10, z11, rfl⟩
    obtain ⟨pp, x, y, due, rfl, ep, hk⟩ : ∃ (pp : Addr) (x y : Int) (due : Str), v = .ref pp ∧ KLL pp = some (.tup [.int x, .int y, .str due]) ∧ ∀ k : Str, (y < 1 → k = "count") → (1 ≤ y → y % 2 = 0 → k = "odd") → (1 ≤ y → y % 2 = 1 → 200 < y → k = "many") → k = due := by
      match i, hv with
      | 0, hv => cases hv; exact ⟨p1, _, _, _, rfl, wp1, fun k h1 h2 h3 => h1 (by omega)⟩
      | 1, hv => cases hv; exact ⟨p2, _, _, _, rfl, wp2, fun k h1 h2 h3 => h1 (by omega)⟩
      | 2, hv => cases hv; exact ⟨p3, _, _, _, rfl, wp3, fun k h1 h2 h3 => h1 (by omega)⟩
      | 3, hv => cases hv; exact ⟨p4, _, _, _, rfl, wp4, fun k h1 h2 h3 => h2 (by omega) (by omega)⟩
      | 4, hv => cases hv; exact ⟨p5, _, _, _, rfl, wp5, fun k h1 h2 h3 => h2 (by omega) (by omega)⟩
      | 5, hv => cases hv; exact ⟨p6, _, _, _, rfl, wp6, fun k h1 h2 h3 => h2 (by omega) (by omega)⟩
      | 6, hv => cases hv; exact ⟨p7, _, _, _, rfl, wp7, fun k h1 h2 h3 => h3 (by omega) (by omega) (by omega)⟩
      | 7, hv => cases hv; exact ⟨p8, _, _, _, rfl, wp8, fun k h1 h2 h3 => h3 (by omega) (by omega) (by omega)⟩
      | 8, hv => cases hv; exact ⟨p9, _, _, _, rfl, wp9, fun k h1 h2 h3 => h3 (by omega) (by omega) (by omega)⟩
      | i + 9, hv => simp at hv
    have ea := sa.obj ep
    walk_at "rd"
    refine use_ask21 fun k H2' s2' k1 k2 k3 k4 k5 => ?_
    have kd := hk k k1 k2 k3
    subst kd
    walk_at "rd"
    walk_at "ite"
    · rename_i c
      exact absurd rfl c
    walk_at "rd"
    exact ⟨sa.trans s2', _, _, _, rfl⟩
  rintro σ Ha ⟨sa, z5, z10, z11, rfl⟩
  have Ra := RL.same sa
  clear RL R10 wp1 wp2 wp3 wp4 wp5 wp6 wp7 wp8 wp9 w1 w2 w3 w4 w5 w6 w7 w8 w9 wL1 wL2 wL
  have am : (av * m).natAbs < 10 ^ 65 := by
    rw [Int.natAbs_mul]
    have := Nat.mul_le_mul (show av.natAbs ≤ 10 ^ 61 by omega) (show m.natAbs ≤ 1000 by omega)
    omega
  walk_at "rd"
  have gm : 1 < m → Int.gcd (av * m) m ≠ 1 := fun c e => by
    have h1 : (m.natAbs : Nat) ∣ Int.gcd (av * m) m := Nat.dvd_gcd (by rw [Int.natAbs_mul]; exact Nat.dvd_mul_left _ _) (Nat.dvd_refl _)
    rw [e] at h1
    have := Nat.le_of_dvd (by decide) h1
    omega
  by_cases c1m : 1 < m
  case' pos =>
    rw [decide_eq_true c1m]
    walk_at "rd"
    refine use_ask21 fun kb Hb sb k1 k2 k3 k4 k5 => ?_
    have kd := k4 (by omega) om (by omega) (by rw [Int.gcd_zero_left]; omega)
    subst kd
    clear k1 k2 k3 k4 k5
    walk_at "rd"
    walk_at "ite"
    · rename_i c
      exact absurd rfl c
    walk_at "rd"
    refine use_ask21 fun kc Hc sc k1 k2 k3 k4 k5 => ?_
    have kd := k4 (by omega) om (by omega) (gm c1m)
    subst kd
    clear k1 k2 k3 k4 k5
    walk_at "rd"
    walk_at "ite"
    · rename_i c
      exact absurd rfl c
    walk_at "rd"
    have sq : Same Ha Hc := sb.trans sc
  case' neg =>
    rw [decide_eq_false c1m]
    walk_at "rd"
    have sq : Same Ha Ha := Same.refl _
  all_goals
    refine use_ask21 fun kd Hd sd k1 k2 k3 k4 k5 => ?_
    have kd := k4 (by decide) (by decide) (by decide) (by decide)
    subst kd
    clear k1 k2 k3 k4 k5
    walk_at "rd"
    walk_at "ite"
    · rename_i c
      exact absurd rfl c
    walk_at "rd"
    refine use_ask21 fun ke He se k1 k2 k3 k4 k5 => ?_
    have kd := k5 (by decide) (by decide) (by decide) (by decide)
    subst kd
    clear k1 k2 k3 k4 k5
    walk_at "rd"
    rw [decide_eq_true rfl]
    walk_at "rd"
    refine use_hrs (fun c => by exfalso; omega) (fun _ c => by exfalso; omega) (fun _ _ c => by exfalso; omega) (fun _ _ _ c => absurd hg c) fun _ _ _ _ fg Hf sf nf hFf => ?_
    walk_at "rd"
    refine use_lists _ hFf (Ra.same (((sq.trans sd).trans se).trans sf)) rowlen fun Hg sg' => ?_
    walk_at "rd"
    exact q _
end
theorem all_mk {l : PySem.W.OpenLaw} {w : World} {K : PySem.W.Frag} {h : Heap} {mg : Str → Option Value} {fa f1 f2 f3 f4 f5 f6 f7 f8 f9 f10 f11 f12 f13 f14 f15 f16 f17 f18 f19 f20 C0 C1 C2 C3 C4 C5 C6 C7 C8 C9 C10 C11 C12 C13 C14 C15 : Addr} (X : K.In h) (G : h.Ns mainGlobals mg) (hfa : mg "law" = some (.ref fa))
    {tk0 : Tok}
    {od1 an1 od2 an2 od3 an3 od4 an4 od5 an5 od6 an6 od7 an7 od8 an8 od9 an9 od10 an10 od11 an11 od12 an12 od13 an13 od14 an14 od15 an15 od16 an16 od17 an17 od18 an18 od19 an19 od20 an20 : Option Addr} {sl1 sl2 sl3 sl4 sl5 sl6 sl7 sl8 sl9 sl10 sl11 sl12 sl13 sl14 sl15 sl16 sl17 sl18 sl19 sl20 : Array (Option Value)} {oc1 kV1 dc1 pm1 cd1 ct1 oc2 kV2 dc2 pm2 cd2 ct2 oc3 kV3 dc3 pm3 cd3 ct3 oc4 kV4 dc4 pm4 cd4 ct4 oc5 kV5 dc5 pm5 cd5 ct5 oc6 kV6 dc6 pm6 cd6 ct6 oc7 kV7 dc7 pm7 cd7 ct7 oc8 kV8 dc8 pm8 cd8 ct8 oc9 kV9 dc9 pm9 cd9 ct9 oc10 kV10 dc10 pm10 cd10 ct10 oc11 kV11 dc11 pm11 cd11 ct11 oc12 kV12 dc12 pm12 cd12 ct12 oc13 kV13 dc13 pm13 cd13 ct13 oc14 kV14 dc14 pm14 cd14 ct14 oc15 kV15 dc15 pm15 cd15 ct15 oc16 kV16 dc16 pm16 cd16 ct16 oc17 kV17 dc17 pm17 cd17 ct17 oc18 kV18 dc18 pm18 cd18 ct18 oc19 kV19 dc19 pm19 cd19 ct19 oc20 kV20 dc20 pm20 cd20 ct20 : Value}
    (a1 : PySem.W.nsIn K mainGlobals "need_from" = some (some (.ref f1))) (l1 : K.lookup f1 = some ⟨oc1, od1, .func (PySem.W.fnOf "need_from" "need_from" (defArgs s_need_from) (defBody s_need_from) (defScope s_need_from) .none kV1 dc1 pm1 an1 cd1 ct1), sl1⟩) (c1 : PySem.W.codeIn K cd1 "need_from" = true) (k1 : PySem.W.keepIn K (.ref f1) = true)
    (a2 : PySem.W.nsIn K mainGlobals "need_odd" = some (some (.ref f2))) (l2 : K.lookup f2 = some ⟨oc2, od2, .func (PySem.W.fnOf "need_odd" "need_odd" (defArgs s_need_odd) (defBody s_need_odd) (defScope s_need_odd) .none kV2 dc2 pm2 an2 cd2 ct2), sl2⟩) (c2 : PySem.W.codeIn K cd2 "need_odd" = true) (k2 : PySem.W.keepIn K (.ref f2) = true)
    (a3 : PySem.W.nsIn K mainGlobals "need_to" = some (some (.ref f3))) (l3 : K.lookup f3 = some ⟨oc3, od3, .func (PySem.W.fnOf "need_to" "need_to" (defArgs s_need_to) (defBody s_need_to) (defScope s_need_to) .none kV3 dc3 pm3 an3 cd3 ct3), sl3⟩) (c3 : PySem.W.codeIn K cd3 "need_to" = true) (k3 : PySem.W.keepIn K (.ref f3) = true)
    (a4 : PySem.W.nsIn K mainGlobals "shared" = some (some (.ref f4))) (l4 : K.lookup f4 = some ⟨oc4, od4, .func (PySem.W.fnOf "shared" "shared" (defArgs s_shared) (defBody s_shared) (defScope s_shared) .none kV4 dc4 pm4 an4 cd4 ct4), sl4⟩) (c4 : PySem.W.codeIn K cd4 "shared" = true) (k4 : PySem.W.keepIn K (.ref f4) = true)
    (a5 : PySem.W.nsIn K mainGlobals "need_apart" = some (some (.ref f5))) (l5 : K.lookup f5 = some ⟨oc5, od5, .func (PySem.W.fnOf "need_apart" "need_apart" (defArgs s_need_apart) (defBody s_need_apart) (defScope s_need_apart) .none kV5 dc5 pm5 an5 cd5 ct5), sl5⟩) (c5 : PySem.W.codeIn K cd5 "need_apart" = true) (k5 : PySem.W.keepIn K (.ref f5) = true)
    (a6 : PySem.W.nsIn K mainGlobals "half_row" = some (some (.ref f6))) (l6 : K.lookup f6 = some ⟨oc6, od6, .func (PySem.W.fnOf "half_row" "half_row" (defArgs s_half_row) (defBody s_half_row) (defScope s_half_row) .none kV6 dc6 pm6 an6 cd6 ct6), sl6⟩) (c6 : PySem.W.codeIn K cd6 "half_row" = true) (k6 : PySem.W.keepIn K (.ref f6) = true)
    (a7 : PySem.W.nsIn K mainGlobals "half_rows" = some (some (.ref f7))) (l7 : K.lookup f7 = some ⟨oc7, od7, .func (PySem.W.fnOf "half_rows" "half_rows" (defArgs s_half_rows) (defBody s_half_rows) (defScope s_half_rows) .none kV7 dc7 pm7 an7 cd7 ct7), sl7⟩) (c7 : PySem.W.codeIn K cd7 "half_rows" = true) (k7 : PySem.W.keepIn K (.ref f7) = true)
    (a8 : PySem.W.nsIn K mainGlobals "_law_cell" = some (some (.ref f8))) (l8 : K.lookup f8 = some ⟨oc8, od8, .func (PySem.W.fnOf "_law_cell" "_law_cell" (defArgs s__law_cell) (defBody s__law_cell) (defScope s__law_cell) .none kV8 dc8 pm8 an8 cd8 ct8), sl8⟩) (c8 : PySem.W.codeIn K cd8 "_law_cell" = true) (k8 : PySem.W.keepIn K (.ref f8) = true)
    (a9 : PySem.W.nsIn K mainGlobals "_law_mixed" = some (some (.ref f9))) (l9 : K.lookup f9 = some ⟨oc9, od9, .func (PySem.W.fnOf "_law_mixed" "_law_mixed" (defArgs s__law_mixed) (defBody s__law_mixed) (defScope s__law_mixed) .none kV9 dc9 pm9 an9 cd9 ct9), sl9⟩) (c9 : PySem.W.codeIn K cd9 "_law_mixed" = true) (k9 : PySem.W.keepIn K (.ref f9) = true)
    (a10 : PySem.W.nsIn K mainGlobals "_law_draws" = some (some (.ref f10))) (l10 : K.lookup f10 = some ⟨oc10, od10, .func (PySem.W.fnOf "_law_draws" "_law_draws" (defArgs s__law_draws) (defBody s__law_draws) (defScope s__law_draws) .none kV10 dc10 pm10 an10 cd10 ct10), sl10⟩) (c10 : PySem.W.codeIn K cd10 "_law_draws" = true) (k10 : PySem.W.keepIn K (.ref f10) = true)
    (a11 : PySem.W.nsIn K mainGlobals "_law_count" = some (some (.ref f11))) (l11 : K.lookup f11 = some ⟨oc11, od11, .func (PySem.W.fnOf "_law_count" "_law_count" (defArgs s__law_count) (defBody s__law_count) (defScope s__law_count) .none kV11 dc11 pm11 an11 cd11 ct11), sl11⟩) (c11 : PySem.W.codeIn K cd11 "_law_count" = true) (k11 : PySem.W.keepIn K (.ref f11) = true)
    (a12 : PySem.W.nsIn K mainGlobals "_law_far" = some (some (.ref f12))) (l12 : K.lookup f12 = some ⟨oc12, od12, .func (PySem.W.fnOf "_law_far" "_law_far" (defArgs s__law_far) (defBody s__law_far) (defScope s__law_far) .none kV12 dc12 pm12 an12 cd12 ct12), sl12⟩) (c12 : PySem.W.codeIn K cd12 "_law_far" = true) (k12 : PySem.W.keepIn K (.ref f12) = true)
    (a13 : PySem.W.nsIn K mainGlobals "_law_short" = some (some (.ref f13))) (l13 : K.lookup f13 = some ⟨oc13, od13, .func (PySem.W.fnOf "_law_short" "_law_short" (defArgs s__law_short) (defBody s__law_short) (defScope s__law_short) .none kV13 dc13 pm13 an13 cd13 ct13), sl13⟩) (c13 : PySem.W.codeIn K cd13 "_law_short" = true) (k13 : PySem.W.keepIn K (.ref f13) = true)
    (a14 : PySem.W.nsIn K mainGlobals "_law_shared" = some (some (.ref f14))) (l14 : K.lookup f14 = some ⟨oc14, od14, .func (PySem.W.fnOf "_law_shared" "_law_shared" (defArgs s__law_shared) (defBody s__law_shared) (defScope s__law_shared) .none kV14 dc14 pm14 an14 cd14 ct14), sl14⟩) (c14 : PySem.W.codeIn K cd14 "_law_shared" = true) (k14 : PySem.W.keepIn K (.ref f14) = true)
    (a15 : PySem.W.nsIn K mainGlobals "_law_apart" = some (some (.ref f15))) (l15 : K.lookup f15 = some ⟨oc15, od15, .func (PySem.W.fnOf "_law_apart" "_law_apart" (defArgs s__law_apart) (defBody s__law_apart) (defScope s__law_apart) .none kV15 dc15 pm15 an15 cd15 ct15), sl15⟩) (c15 : PySem.W.codeIn K cd15 "_law_apart" = true) (k15 : PySem.W.keepIn K (.ref f15) = true)
    (a16 : PySem.W.nsIn K mainGlobals "_law_whole" = some (some (.ref f16))) (l16 : K.lookup f16 = some ⟨oc16, od16, .func (PySem.W.fnOf "_law_whole" "_law_whole" (defArgs s__law_whole) (defBody s__law_whole) (defScope s__law_whole) .none kV16 dc16 pm16 an16 cd16 ct16), sl16⟩) (c16 : PySem.W.codeIn K cd16 "_law_whole" = true) (k16 : PySem.W.keepIn K (.ref f16) = true)
    (a17 : PySem.W.nsIn K mainGlobals "_law_row" = some (some (.ref f17))) (l17 : K.lookup f17 = some ⟨oc17, od17, .func (PySem.W.fnOf "_law_row" "_law_row" (defArgs s__law_row) (defBody s__law_row) (defScope s__law_row) .none kV17 dc17 pm17 an17 cd17 ct17), sl17⟩) (c17 : PySem.W.codeIn K cd17 "_law_row" = true) (k17 : PySem.W.keepIn K (.ref f17) = true)
    (a18 : PySem.W.nsIn K mainGlobals "_law_lists" = some (some (.ref f18))) (l18 : K.lookup f18 = some ⟨oc18, od18, .func (PySem.W.fnOf "_law_lists" "_law_lists" (defArgs s__law_lists) (defBody s__law_lists) (defScope s__law_lists) .none kV18 dc18 pm18 an18 cd18 ct18), sl18⟩) (c18 : PySem.W.codeIn K cd18 "_law_lists" = true) (k18 : PySem.W.keepIn K (.ref f18) = true)
    (a19 : PySem.W.nsIn K mainGlobals "_law_asked" = some (some (.ref f19))) (l19 : K.lookup f19 = some ⟨oc19, od19, .func (PySem.W.fnOf "_law_asked" "_law_asked" (defArgs s__law_asked) (defBody s__law_asked) (defScope s__law_asked) .none kV19 dc19 pm19 an19 cd19 ct19), sl19⟩) (c19 : PySem.W.codeIn K cd19 "_law_asked" = true) (k19 : PySem.W.keepIn K (.ref f19) = true)
    (a20 : PySem.W.nsIn K mainGlobals "law" = some (some (.ref f20))) (l20 : K.lookup f20 = some ⟨oc20, od20, .func (PySem.W.fnOf "law" "law" (defArgs s_law) (defBody s_law) (defScope s_law) .none kV20 dc20 pm20 an20 cd20 ct20), sl20⟩) (c20 : PySem.W.codeIn K cd20 "law" = true) (k20 : PySem.W.keepIn K (.ref f20) = true)
    (z0 : PySem.W.nsIn K mainGlobals "ValueError" = some none)
    (z1 : PySem.W.nsIn K mainGlobals "abs" = some none)
    (z2 : PySem.W.nsIn K mainGlobals "all" = some none)
    (z3 : PySem.W.nsIn K mainGlobals "bool" = some none)
    (z4 : PySem.W.nsIn K mainGlobals "int" = some none)
    (z5 : PySem.W.nsIn K mainGlobals "isinstance" = some none)
    (z6 : PySem.W.nsIn K mainGlobals "len" = some none)
    (z7 : PySem.W.nsIn K mainGlobals "list" = some none)
    (z8 : PySem.W.nsIn K mainGlobals "range" = some none)
    (z9 : PySem.W.nsIn K mainGlobals "sorted" = some none)
    (z10 : PySem.W.nsIn K mainGlobals "tuple" = some none)
    (z11 : PySem.W.nsIn K mainGlobals "zip" = some none)
    (y0 : PySem.W.nsIn K mainGlobals "MOST_RESTS" = some (some (.int 200 tk0)))
    (b0x : PySem.W.nsIn K mainGlobals "SawError" = some (some (.ref C0))) (e0x : PySem.W.excIn K C0 [.type "ValueError", .type "Exception", .type "BaseException", .type "object"] "ValueError.__new__" = true) (g0x : PySem.W.findIn K (.ref C0) "__getattribute__" = some (some (.builtin "BaseException.__getattribute__"))) (h0x : PySem.W.findIn K (.ref C0) "__getattr__" = some none)
    (fx0 : PySem.W.findIn K (.ref C0) "__class__" = some (some (.builtin "object.__class__"))) (o0x : PySem.W.mroIn K C0 (.type "object") = some true) (v0x : PySem.W.mroIn K C0 (.type "BaseException") = some true) (s0x : PySem.W.mroIn K C0 (.ref C0) = some true) (t0x : PySem.W.typeIn K (.ref C0) = some (.type "type"))
    (b1x : PySem.W.nsIn K mainGlobals "NoCount" = some (some (.ref C1))) (e1x : PySem.W.excIn K C1 [.type "ValueError", .type "Exception", .type "BaseException", .type "object"] "ValueError.__new__" = true) (g1x : PySem.W.findIn K (.ref C1) "__getattribute__" = some (some (.builtin "BaseException.__getattribute__"))) (h1x : PySem.W.findIn K (.ref C1) "__getattr__" = some none)
    (fx1 : PySem.W.findIn K (.ref C1) "__class__" = some (some (.builtin "object.__class__"))) (o1x : PySem.W.mroIn K C1 (.type "object") = some true) (v1x : PySem.W.mroIn K C1 (.type "BaseException") = some true) (s1x : PySem.W.mroIn K C1 (.ref C1) = some true) (t1x : PySem.W.typeIn K (.ref C1) = some (.type "type"))
    (b2x : PySem.W.nsIn K mainGlobals "NotOdd" = some (some (.ref C2))) (e2x : PySem.W.excIn K C2 [.type "ValueError", .type "Exception", .type "BaseException", .type "object"] "ValueError.__new__" = true) (g2x : PySem.W.findIn K (.ref C2) "__getattribute__" = some (some (.builtin "BaseException.__getattribute__"))) (h2x : PySem.W.findIn K (.ref C2) "__getattr__" = some none)
    (fx2 : PySem.W.findIn K (.ref C2) "__class__" = some (some (.builtin "object.__class__"))) (o2x : PySem.W.mroIn K C2 (.type "object") = some true) (v2x : PySem.W.mroIn K C2 (.type "BaseException") = some true) (s2x : PySem.W.mroIn K C2 (.ref C2) = some true) (t2x : PySem.W.typeIn K (.ref C2) = some (.type "type"))
    (b3x : PySem.W.nsIn K mainGlobals "TooMany" = some (some (.ref C3))) (e3x : PySem.W.excIn K C3 [.type "ValueError", .type "Exception", .type "BaseException", .type "object"] "ValueError.__new__" = true) (g3x : PySem.W.findIn K (.ref C3) "__getattribute__" = some (some (.builtin "BaseException.__getattribute__"))) (h3x : PySem.W.findIn K (.ref C3) "__getattr__" = some none)
    (fx3 : PySem.W.findIn K (.ref C3) "__class__" = some (some (.builtin "object.__class__"))) (o3x : PySem.W.mroIn K C3 (.type "object") = some true) (v3x : PySem.W.mroIn K C3 (.type "BaseException") = some true) (s3x : PySem.W.mroIn K C3 (.ref C3) = some true) (t3x : PySem.W.typeIn K (.ref C3) = some (.type "type"))
    (b4x : PySem.W.nsIn K mainGlobals "NotApart" = some (some (.ref C4))) (e4x : PySem.W.excIn K C4 [.type "ValueError", .type "Exception", .type "BaseException", .type "object"] "ValueError.__new__" = true) (g4x : PySem.W.findIn K (.ref C4) "__getattribute__" = some (some (.builtin "BaseException.__getattribute__"))) (h4x : PySem.W.findIn K (.ref C4) "__getattr__" = some none)
    (fx4 : PySem.W.findIn K (.ref C4) "__class__" = some (some (.builtin "object.__class__"))) (o4x : PySem.W.mroIn K C4 (.type "object") = some true) (v4x : PySem.W.mroIn K C4 (.type "BaseException") = some true) (s4x : PySem.W.mroIn K C4 (.ref C4) = some true) (t4x : PySem.W.typeIn K (.ref C4) = some (.type "type"))
    (b5x : PySem.W.nsIn K mainGlobals "NoShuffle" = some (some (.ref C5)))
    (b6x : PySem.W.nsIn K mainGlobals "NoPaper" = some (some (.ref C6)))
    (b7x : PySem.W.nsIn K mainGlobals "NoPrime" = some (some (.ref C7)))
    (b8x : PySem.W.nsIn K mainGlobals "NoFraction" = some (some (.ref C8)))
    (b9x : PySem.W.nsIn K mainGlobals "NoTable" = some (some (.ref C9)))
    (b10x : PySem.W.nsIn K mainGlobals "NoWord" = some (some (.ref C10)))
    (b11x : PySem.W.nsIn K mainGlobals "NoRow" = some (some (.ref C11)))
    (b12x : PySem.W.nsIn K mainGlobals "NoText" = some (some (.ref C12)))
    (b13x : PySem.W.nsIn K mainGlobals "NoLine" = some (some (.ref C13)))
    (b14x : PySem.W.nsIn K mainGlobals "NoName" = some (some (.ref C14)))
    (b15x : PySem.W.nsIn K mainGlobals "NoDeed" = some (some (.ref C15)))
    (r0 : PySem.W.kitOne K (.ref C1) (.ref C0) = some true)
    (r1 : PySem.W.kitOne K (.ref C1) (.type "ValueError") = some true)
    (r2 : PySem.W.kitOne K (.ref C1) (.ref C1) = some true)
    (r3 : PySem.W.kitOne K (.ref C1) (.ref C2) = some false)
    (r4 : PySem.W.kitOne K (.ref C1) (.ref C3) = some false)
    (r5 : PySem.W.kitOne K (.ref C1) (.ref C4) = some false)
    (r6 : PySem.W.kitOne K (.ref C1) (.ref C9) = some false)
    (r7 : PySem.W.kitOne K (.ref C1) (.ref C12) = some false)
    (r8 : PySem.W.kitOne K (.ref C1) (.ref C5) = some false)
    (r9 : PySem.W.kitOne K (.ref C1) (.ref C10) = some false)
    (r10 : PySem.W.kitOne K (.ref C1) (.ref C11) = some false)
    (r11 : PySem.W.kitOne K (.ref C1) (.ref C6) = some false)
    (r12 : PySem.W.kitOne K (.ref C1) (.ref C8) = some false)
    (r13 : PySem.W.kitOne K (.ref C1) (.ref C7) = some false)
    (r14 : PySem.W.kitOne K (.ref C1) (.ref C13) = some false)
    (r15 : PySem.W.kitOne K (.ref C1) (.ref C14) = some false)
    (r16 : PySem.W.kitOne K (.ref C1) (.ref C15) = some false)
    (r17 : PySem.W.kitOne K (.ref C2) (.ref C0) = some true)
    (r18 : PySem.W.kitOne K (.ref C2) (.type "ValueError") = some true)
    (r19 : PySem.W.kitOne K (.ref C2) (.ref C1) = some false)
    (r20 : PySem.W.kitOne K (.ref C2) (.ref C2) = some true)
    (r21 : PySem.W.kitOne K (.ref C2) (.ref C3) = some false)
    (r22 : PySem.W.kitOne K (.ref C2) (.ref C4) = some false)
    (r23 : PySem.W.kitOne K (.ref C2) (.ref C9) = some false)
    (r24 : PySem.W.kitOne K (.ref C2) (.ref C12) = some false)
    (r25 : PySem.W.kitOne K (.ref C2) (.ref C5) = some false)
    (r26 : PySem.W.kitOne K (.ref C2) (.ref C10) = some false)
    (r27 : PySem.W.kitOne K (.ref C2) (.ref C11) = some false)
    (r28 : PySem.W.kitOne K (.ref C2) (.ref C6) = some false)
    (r29 : PySem.W.kitOne K (.ref C2) (.ref C8) = some false)
    (r30 : PySem.W.kitOne K (.ref C2) (.ref C7) = some false)
    (r31 : PySem.W.kitOne K (.ref C2) (.ref C13) = some false)
    (r32 : PySem.W.kitOne K (.ref C2) (.ref C14) = some false)
    (r33 : PySem.W.kitOne K (.ref C2) (.ref C15) = some false)
    (r34 : PySem.W.kitOne K (.ref C3) (.ref C0) = some true)
    (r35 : PySem.W.kitOne K (.ref C3) (.type "ValueError") = some true)
    (r36 : PySem.W.kitOne K (.ref C3) (.ref C1) = some false)
    (r37 : PySem.W.kitOne K (.ref C3) (.ref C2) = some false)
    (r38 : PySem.W.kitOne K (.ref C3) (.ref C3) = some true)
    (r39 : PySem.W.kitOne K (.ref C3) (.ref C4) = some false)
    (r40 : PySem.W.kitOne K (.ref C3) (.ref C9) = some false)
    (r41 : PySem.W.kitOne K (.ref C3) (.ref C12) = some false)
    (r42 : PySem.W.kitOne K (.ref C3) (.ref C5) = some false)
    (r43 : PySem.W.kitOne K (.ref C3) (.ref C10) = some false)
    (r44 : PySem.W.kitOne K (.ref C3) (.ref C11) = some false)
    (r45 : PySem.W.kitOne K (.ref C3) (.ref C6) = some false)
    (r46 : PySem.W.kitOne K (.ref C3) (.ref C8) = some false)
    (r47 : PySem.W.kitOne K (.ref C3) (.ref C7) = some false)
    (r48 : PySem.W.kitOne K (.ref C3) (.ref C13) = some false)
    (r49 : PySem.W.kitOne K (.ref C3) (.ref C14) = some false)
    (r50 : PySem.W.kitOne K (.ref C3) (.ref C15) = some false)
    (r51 : PySem.W.kitOne K (.ref C4) (.ref C0) = some true)
    (r52 : PySem.W.kitOne K (.ref C4) (.type "ValueError") = some true)
    (r53 : PySem.W.kitOne K (.ref C4) (.ref C1) = some false)
    (r54 : PySem.W.kitOne K (.ref C4) (.ref C2) = some false)
    (r55 : PySem.W.kitOne K (.ref C4) (.ref C3) = some false)
    (r56 : PySem.W.kitOne K (.ref C4) (.ref C4) = some true)
    (r57 : PySem.W.kitOne K (.ref C4) (.ref C9) = some false)
    (r58 : PySem.W.kitOne K (.ref C4) (.ref C12) = some false)
    (r59 : PySem.W.kitOne K (.ref C4) (.ref C5) = some false)
    (r60 : PySem.W.kitOne K (.ref C4) (.ref C10) = some false)
    (r61 : PySem.W.kitOne K (.ref C4) (.ref C11) = some false)
    (r62 : PySem.W.kitOne K (.ref C4) (.ref C6) = some false)
    (r63 : PySem.W.kitOne K (.ref C4) (.ref C8) = some false)
    (r64 : PySem.W.kitOne K (.ref C4) (.ref C7) = some false)
    (r65 : PySem.W.kitOne K (.ref C4) (.ref C13) = some false)
    (r66 : PySem.W.kitOne K (.ref C4) (.ref C14) = some false)
    (r67 : PySem.W.kitOne K (.ref C4) (.ref C15) = some false) :
    ∃ fd : FuncData, (∀ (s : Shared) (v : Value), BindsTo s fd ⟨[v], []⟩ [("_law_script", v)]) ∧ ∀ base : Heap, K.In base → base.Ns mainGlobals mg → FnOk l.prog w K mg base (CXE l.prog w) 5 fa fd ["_law_script"] (spLaw K) := by
  have F1 := src_mk (x := "need_from") (st := s_need_from) (ps := ["least", "number"]) X G a1 l1 c1 k1 fun _ _ _ _ _ _ us hl => match us, hl with | [_, _], _ => rfl
  have F2 := src_mk (x := "need_odd") (st := s_need_odd) (ps := ["m"]) X G a2 l2 c2 k2 fun _ _ _ _ _ _ us hl => match us, hl with | [_], _ => rfl
  have F3 := src_mk (x := "need_to") (st := s_need_to) (ps := ["most", "number"]) X G a3 l3 c3 k3 fun _ _ _ _ _ _ us hl => match us, hl with | [_, _], _ => rfl
  have F4 := src_mk (x := "shared") (st := s_shared) (ps := ["a", "b"]) X G a4 l4 c4 k4 fun _ _ _ _ _ _ us hl => match us, hl with | [_, _], _ => rfl
  have F5 := src_mk (x := "need_apart") (st := s_need_apart) (ps := ["a", "m"]) X G a5 l5 c5 k5 fun _ _ _ _ _ _ us hl => match us, hl with | [_, _], _ => rfl
  have F6 := src_mk (x := "half_row") (st := s_half_row) (ps := ["k", "rest", "m"]) X G a6 l6 c6 k6 fun _ _ _ _ _ _ us hl => match us, hl with | [_, _, _], _ => rfl
  have F7 := src_mk (x := "half_rows") (st := s_half_rows) (ps := ["a", "m"]) X G a7 l7 c7 k7 fun _ _ _ _ _ _ us hl => match us, hl with | [_, _], _ => rfl
  have F8 := src_mk (x := "_law_cell") (st := s__law_cell) (ps := ["_law_script", "_law_k"]) X G a8 l8 c8 k8 fun _ _ _ _ _ _ us hl => match us, hl with | [_, _], _ => rfl
  have F9 := src_mk (x := "_law_mixed") (st := s__law_mixed) (ps := ["_law_cell_here", "_law_k", "_law_prime"]) X G a9 l9 c9 k9 fun _ _ _ _ _ _ us hl => match us, hl with | [_, _, _], _ => rfl
  have F10 := src_mk (x := "_law_draws") (st := s__law_draws) (ps := ["_law_cell_here", "_law_widths", "_law_prime"]) X G a10 l10 c10 k10 fun _ _ _ _ _ _ us hl => match us, hl with | [_, _, _], _ => rfl
  have F11 := src_mk (x := "_law_count") (st := s__law_count) (ps := ["_law_cell_here", "_law_prime"]) X G a11 l11 c11 k11 fun _ _ _ _ _ _ us hl => match us, hl with | [_, _], _ => rfl
  have F12 := src_mk (x := "_law_far") (st := s__law_far) (ps := ["_law_cell_here", "_law_prime"]) X G a12 l12 c12 k12 fun _ _ _ _ _ _ us hl => match us, hl with | [_, _], _ => rfl
  have F13 := src_mk (x := "_law_short") (st := s__law_short) (ps := ["_law_cell_here", "_law_prime"]) X G a13 l13 c13 k13 fun _ _ _ _ _ _ us hl => match us, hl with | [_, _], _ => rfl
  have F14 := src_mk (x := "_law_shared") (st := s__law_shared) (ps := ["_law_a", "_law_b"]) X G a14 l14 c14 k14 fun _ _ _ _ _ _ us hl => match us, hl with | [_, _], _ => rfl
  have F15 := src_mk (x := "_law_apart") (st := s__law_apart) (ps := ["_law_a", "_law_m"]) X G a15 l15 c15 k15 fun _ _ _ _ _ _ us hl => match us, hl with | [_, _], _ => rfl
  have F16 := src_mk (x := "_law_whole") (st := s__law_whole) (ps := ["_law_found"]) X G a16 l16 c16 k16 fun _ _ _ _ _ _ us hl => match us, hl with | [_], _ => rfl
  have F17 := src_mk (x := "_law_row") (st := s__law_row) (ps := ["_law_found", "_law_many"]) X G a17 l17 c17 k17 fun _ _ _ _ _ _ us hl => match us, hl with | [_, _], _ => rfl
  have F18 := src_mk (x := "_law_lists") (st := s__law_lists) (ps := ["_law_found", "_law_due"]) X G a18 l18 c18 k18 fun _ _ _ _ _ _ us hl => match us, hl with | [_, _], _ => rfl
  have F19 := src_mk (x := "_law_asked") (st := s__law_asked) (ps := ["_law_a", "_law_m"]) X G a19 l19 c19 k19 fun _ _ _ _ _ _ us hl => match us, hl with | [_, _], _ => rfl
  have F20 := src_mk (x := "law") (st := s_law) (ps := ["_law_script"]) X G a20 l20 c20 k20 fun _ _ _ _ _ _ us hl => match us, hl with | [_], _ => rfl
  have Kc : Cst K mg := ⟨⟨_, PySem.W.mg_of X G y0⟩⟩
  have B : Blt mg := ⟨PySem.W.mg_none_of X G z0, PySem.W.mg_none_of X G z1, PySem.W.mg_none_of X G z2, PySem.W.mg_none_of X G z3, PySem.W.mg_none_of X G z4, PySem.W.mg_none_of X G z5, PySem.W.mg_none_of X G z6, PySem.W.mg_none_of X G z7, PySem.W.mg_none_of X G z8, PySem.W.mg_none_of X G z9, PySem.W.mg_none_of X G z10, PySem.W.mg_none_of X G z11⟩
  have e := hfa.symm.trans (PySem.W.mg_of X G a20)
  cases e
  refine ⟨PySem.W.fnOf "law" "law" (defArgs s_law) (defBody s_law) (defScope s_law) .none kV20 dc20 pm20 an20 cd20 ct20, fun s v => .of_eq rfl, fun base hK hG => ?_⟩
  let C : Cls K mg base := ⟨ck_mk hK (PySem.W.mg_of X G b0x) e0x g0x h0x fx0 o0x v0x s0x t0x, ck_mk hK (PySem.W.mg_of X G b1x) e1x g1x h1x fx1 o1x v1x s1x t1x, ck_mk hK (PySem.W.mg_of X G b2x) e2x g2x h2x fx2 o2x v2x s2x t2x, ck_mk hK (PySem.W.mg_of X G b3x) e3x g3x h3x fx3 o3x v3x s3x t3x, ck_mk hK (PySem.W.mg_of X G b4x) e4x g4x h4x fx4 o4x v4x s4x t4x, ⟨C5, PySem.W.mg_of X G b5x⟩, ⟨C6, PySem.W.mg_of X G b6x⟩, ⟨C7, PySem.W.mg_of X G b7x⟩, ⟨C8, PySem.W.mg_of X G b8x⟩, ⟨C9, PySem.W.mg_of X G b9x⟩, ⟨C10, PySem.W.mg_of X G b10x⟩, ⟨C11, PySem.W.mg_of X G b11x⟩, ⟨C12, PySem.W.mg_of X G b12x⟩, ⟨C13, PySem.W.mg_of X G b13x⟩, ⟨C14, PySem.W.mg_of X G b14x⟩, ⟨C15, PySem.W.mg_of X G b15x⟩⟩
  have R : Rel K mg base C := ⟨r0, r1, r2, r3, r4, r5, r6, r7, r8, r9, r10, r11, r12, r13, r14, r15, r16, r17, r18, r19, r20, r21, r22, r23, r24, r25, r26, r27, r28, r29, r30, r31, r32, r33, r34, r35, r36, r37, r38, r39, r40, r41, r42, r43, r44, r45, r46, r47, r48, r49, r50, r51, r52, r53, r54, r55, r56, r57, r58, r59, r60, r61, r62, r63, r64, r65, r66, r67⟩
  have D_need_from := ok_need_from (P := l.prog) (w := w) (base := base) F1 B C R Kc 
  have D_need_odd := ok_need_odd (P := l.prog) (w := w) (base := base) F2 B C R Kc D_need_from
  have D_need_to := ok_need_to (P := l.prog) (w := w) (base := base) F3 B C R Kc 
  have D_shared := ok_shared (P := l.prog) (w := w) (base := base) F4 B C R Kc 
  have D_need_apart := ok_need_apart (P := l.prog) (w := w) (base := base) F5 B C R Kc D_shared
  have D_half_row := ok_half_row (P := l.prog) (w := w) (base := base) F6 B C R Kc 
  have D_half_rows := ok_half_rows (P := l.prog) (w := w) (base := base) F7 B C R Kc D_need_odd D_need_to D_need_apart D_half_row
  have D__law_cell := ok__law_cell (P := l.prog) (w := w) (base := base) F8 B C R Kc 
  have D__law_mixed := ok__law_mixed (P := l.prog) (w := w) (base := base) F9 B C R Kc 
  have D__law_draws := ok__law_draws (P := l.prog) (w := w) (base := base) F10 B C R Kc D__law_mixed
  have D__law_count := ok__law_count (P := l.prog) (w := w) (base := base) F11 B C R Kc D__law_draws
  have D__law_far := ok__law_far (P := l.prog) (w := w) (base := base) F12 B C R Kc D__law_draws
  have D__law_short := ok__law_short (P := l.prog) (w := w) (base := base) F13 B C R Kc D__law_draws
  have D__law_shared := ok__law_shared (P := l.prog) (w := w) (base := base) F14 B C R Kc 
  have D__law_apart := ok__law_apart (P := l.prog) (w := w) (base := base) F15 B C R Kc D__law_shared
  have D__law_whole := ok__law_whole (P := l.prog) (w := w) (base := base) F16 B C R Kc 
  have D__law_row := ok__law_row (P := l.prog) (w := w) (base := base) F17 B C R Kc D__law_whole
  have D__law_lists := ok__law_lists (P := l.prog) (w := w) (base := base) F18 B C R Kc D__law_row
  have D__law_asked := ok__law_asked (P := l.prog) (w := w) (base := base) F19 B C R Kc D_half_rows
  have D_law := ok_law (P := l.prog) (w := w) (base := base) F20 B C R Kc D__law_short D__law_cell D__law_apart D__law_far D_half_rows D__law_lists D__law_count D__law_asked
  exact D_law.fn (PySem.W.mg_of X G a20) l20
theorem walk {l : PySem.W.OpenLaw} {q : Program} {loose : List Str} {XP : (Str → Option Value) → Heap → Prop} {YP : World → Heap → Prop} {d : DefRec} {K : Params → PySem.W.Frag} (hn : l.most = some 63) (hdf : d.params.defaults = [])
    (hY : ∀ (w : World) (h : Heap), YP w h → (K w.params).In h)
    (F : ∀ (w : World) (mg : Str → Option Value) (fa : Addr) (h : Heap), (K w.params).In h → h.Ns mainGlobals mg → mg d.name = some (.ref fa) →
      ∃ fd : FuncData, (∀ (s : Shared) (u : Value), BindsTo s fd ⟨[u], []⟩ [("_law_script", u)]) ∧ ∀ base : Heap, (K w.params).In base → base.Ns mainGlobals mg → FnOk l.prog w (K w.params) mg base (CXE l.prog w) 5 fa fd ["_law_script"] (spLaw (K w.params))) :
    PySem.W.WalkO q loose XP YP l.row.toRowW d [] (fun f vs => PySem.call f vs) :=
  L2.walk_of (n := 63) (k := 5) (x := "_law_script") (CX := fun w => CXE l.prog w) (sp := fun w => spLaw (K w.params)) hn (by decide) hdf ⟨rfl, by decide, by decide⟩ hY F (fun _ _ a ns hl _ hS => ⟨a, ns, rfl, hS, hl, fun _ => rfl⟩) fun _ _ _ _ _ z => by
    obtain ⟨_, _, _, _, _, _, _, y, _⟩ := z
    exact y.elim
end My
open PySem PySem.W PyProof.Rows
set_option maxRecDepth 100000 in
set_option maxHeartbeats 0 in
theorem PySem.Challenge.cw_sawsign_k21_half_rows_holds : PySem.Challenge.rw_sawsign_k21_half_rows.Holds := by
  refine hd ?_
  k_fill
  refine My.walk (l := PySem.Challenge.rw_sawsign_k21_half_rows) rfl rfl (fun w h Y => PySem.W.kIn_of Y) ?F
  case F =>
    intro w mg fa h KX G hmg
    refine' My.all_mk KX G hmg ?a1 ?l1 ?c1 ?k1 ?a2 ?l2 ?c2 ?k2 ?a3 ?l3 ?c3 ?k3 ?a4 ?l4 ?c4 ?k4 ?a5 ?l5 ?c5 ?k5 ?a6 ?l6 ?c6 ?k6 ?a7 ?l7 ?c7 ?k7 ?a8 ?l8 ?c8 ?k8 ?a9 ?l9 ?c9 ?k9 ?a10 ?l10 ?c10 ?k10 ?a11 ?l11 ?c11 ?k11 ?a12 ?l12 ?c12 ?k12 ?a13 ?l13 ?c13 ?k13 ?a14 ?l14 ?c14 ?k14 ?a15 ?l15 ?c15 ?k15 ?a16 ?l16 ?c16 ?k16 ?a17 ?l17 ?c17 ?k17 ?a18 ?l18 ?c18 ?k18 ?a19 ?l19 ?c19 ?k19 ?a20 ?l20 ?c20 ?k20 ?z0 ?z1 ?z2 ?z3 ?z4 ?z5 ?z6 ?z7 ?z8 ?z9 ?z10 ?z11 ?y0 ?b0x ?e0x ?g0x ?h0x ?fx0 ?o0x ?v0x ?s0x ?t0x ?b1x ?e1x ?g1x ?h1x ?fx1 ?o1x ?v1x ?s1x ?t1x ?b2x ?e2x ?g2x ?h2x ?fx2 ?o2x ?v2x ?s2x ?t2x ?b3x ?e3x ?g3x ?h3x ?fx3 ?o3x ?v3x ?s3x ?t3x ?b4x ?e4x ?g4x ?h4x ?fx4 ?o4x ?v4x ?s4x ?t4x ?b5x ?b6x ?b7x ?b8x ?b9x ?b10x ?b11x ?b12x ?b13x ?b14x ?b15x ?r0 ?r1 ?r2 ?r3 ?r4 ?r5 ?r6 ?r7 ?r8 ?r9 ?r10 ?r11 ?r12 ?r13 ?r14 ?r15 ?r16 ?r17 ?r18 ?r19 ?r20 ?r21 ?r22 ?r23 ?r24 ?r25 ?r26 ?r27 ?r28 ?r29 ?r30 ?r31 ?r32 ?r33 ?r34 ?r35 ?r36 ?r37 ?r38 ?r39 ?r40 ?r41 ?r42 ?r43 ?r44 ?r45 ?r46 ?r47 ?r48 ?r49 ?r50 ?r51 ?r52 ?r53 ?r54 ?r55 ?r56 ?r57 ?r58 ?r59 ?r60 ?r61 ?r62 ?r63 ?r64 ?r65 ?r66 ?r67
    (case a1 => k_is)
    (case l1 => k_is)
    (case c1 => k_is)
    (case k1 => k_is)
    (case a2 => k_is)
    (case l2 => k_is)
    (case c2 => k_is)
    (case k2 => k_is)
    (case a3 => k_is)
    (case l3 => k_is)
    (case c3 => k_is)
    (case k3 => k_is)
    (case a4 => k_is)
    (case l4 => k_is)
    (case c4 => k_is)
    (case k4 => k_is)
    (case a5 => k_is)
    (case l5 => k_is)
    (case c5 => k_is)
    (case k5 => k_is)
    (case a6 => k_is)
    (case l6 => k_is)
    (case c6 => k_is)
    (case k6 => k_is)
    (case a7 => k_is)
    (case l7 => k_is)
    (case c7 => k_is)
    (case k7 => k_is)
    (case a8 => k_is)
    (case l8 => k_is)
    (case c8 => k_is)
    (case k8 => k_is)
    (case a9 => k_is)
    (case l9 => k_is)
    (case c9 => k_is)
    (case k9 => k_is)
    (case a10 => k_is)
    (case l10 => k_is)
    (case c10 => k_is)
    (case k10 => k_is)
    (case a11 => k_is)
    (case l11 => k_is)
    (case c11 => k_is)
    (case k11 => k_is)
    (case a12 => k_is)
    (case l12 => k_is)
    (case c12 => k_is)
    (case k12 => k_is)
    (case a13 => k_is)
    (case l13 => k_is)
    (case c13 => k_is)
    (case k13 => k_is)
    (case a14 => k_is)
    (case l14 => k_is)
    (case c14 => k_is)
    (case k14 => k_is)
    (case a15 => k_is)
    (case l15 => k_is)
    (case c15 => k_is)
    (case k15 => k_is)
    (case a16 => k_is)
    (case l16 => k_is)
    (case c16 => k_is)
    (case k16 => k_is)
    (case a17 => k_is)
    (case l17 => k_is)
    (case c17 => k_is)
    (case k17 => k_is)
    (case a18 => k_is)
    (case l18 => k_is)
    (case c18 => k_is)
    (case k18 => k_is)
    (case a19 => k_is)
    (case l19 => k_is)
    (case c19 => k_is)
    (case k19 => k_is)
    (case a20 => k_is)
    (case l20 => k_is)
    (case c20 => k_is)
    (case k20 => k_is)
    (case z0 => k_is)
    (case z1 => k_is)
    (case z2 => k_is)
    (case z3 => k_is)
    (case z4 => k_is)
    (case z5 => k_is)
    (case z6 => k_is)
    (case z7 => k_is)
    (case z8 => k_is)
    (case z9 => k_is)
    (case z10 => k_is)
    (case z11 => k_is)
    (case y0 => k_is)
    (case b0x => k_is)
    (case e0x => k_exc)
    (case g0x => k_is)
    (case h0x => k_is)
    (case fx0 => k_is)
    (case o0x => k_is)
    (case v0x => k_is)
    (case s0x => k_is)
    (case t0x => k_is)
    (case b1x => k_is)
    (case e1x => k_exc)
    (case g1x => k_is)
    (case h1x => k_is)
    (case fx1 => k_is)
    (case o1x => k_is)
    (case v1x => k_is)
    (case s1x => k_is)
    (case t1x => k_is)
    (case b2x => k_is)
    (case e2x => k_exc)
    (case g2x => k_is)
    (case h2x => k_is)
    (case fx2 => k_is)
    (case o2x => k_is)
    (case v2x => k_is)
    (case s2x => k_is)
    (case t2x => k_is)
    (case b3x => k_is)
    (case e3x => k_exc)
    (case g3x => k_is)
    (case h3x => k_is)
    (case fx3 => k_is)
    (case o3x => k_is)
    (case v3x => k_is)
    (case s3x => k_is)
    (case t3x => k_is)
    (case b4x => k_is)
    (case e4x => k_exc)
    (case g4x => k_is)
    (case h4x => k_is)
    (case fx4 => k_is)
    (case o4x => k_is)
    (case v4x => k_is)
    (case s4x => k_is)
    (case t4x => k_is)
    (case b5x => k_is)
    (case b6x => k_is)
    (case b7x => k_is)
    (case b8x => k_is)
    (case b9x => k_is)
    (case b10x => k_is)
    (case b11x => k_is)
    (case b12x => k_is)
    (case b13x => k_is)
    (case b14x => k_is)
    (case b15x => k_is)
    (case r0 => kit_is)
    (case r1 => kit_is)
    (case r2 => kit_is)
    (case r3 => kit_is)
    (case r4 => kit_is)
    (case r5 => kit_is)
    (case r6 => kit_is)
    (case r7 => kit_is)
    (case r8 => kit_is)
    (case r9 => kit_is)
    (case r10 => kit_is)
    (case r11 => kit_is)
    (case r12 => kit_is)
    (case r13 => kit_is)
    (case r14 => kit_is)
    (case r15 => kit_is)
    (case r16 => kit_is)
    (case r17 => kit_is)
    (case r18 => kit_is)
    (case r19 => kit_is)
    (case r20 => kit_is)
    (case r21 => kit_is)
    (case r22 => kit_is)
    (case r23 => kit_is)
    (case r24 => kit_is)
    (case r25 => kit_is)
    (case r26 => kit_is)
    (case r27 => kit_is)
    (case r28 => kit_is)
    (case r29 => kit_is)
    (case r30 => kit_is)
    (case r31 => kit_is)
    (case r32 => kit_is)
    (case r33 => kit_is)
    (case r34 => kit_is)
    (case r35 => kit_is)
    (case r36 => kit_is)
    (case r37 => kit_is)
    (case r38 => kit_is)
    (case r39 => kit_is)
    (case r40 => kit_is)
    (case r41 => kit_is)
    (case r42 => kit_is)
    (case r43 => kit_is)
    (case r44 => kit_is)
    (case r45 => kit_is)
    (case r46 => kit_is)
    (case r47 => kit_is)
    (case r48 => kit_is)
    (case r49 => kit_is)
    (case r50 => kit_is)
    (case r51 => kit_is)
    (case r52 => kit_is)
    (case r53 => kit_is)
    (case r54 => kit_is)
    (case r55 => kit_is)
    (case r56 => kit_is)
    (case r57 => kit_is)
    (case r58 => kit_is)
    (case r59 => kit_is)
    (case r60 => kit_is)
    (case r61 => kit_is)
    (case r62 => kit_is)
    (case r63 => kit_is)
    (case r64 => kit_is)
    (case r65 => kit_is)
    (case r66 => kit_is)
    (case r67 => kit_is)
