import PyProof.Rows.All
import Wide.All
import OpenK.AllK
import Wide.FinOn
import HandS.ForMost
import HandS.ForExc
import HandS.TupAny
import HandS.Wide
import HandS.IsInst
import HandS.Defaults
import PySem.Challenge.RW_tellsnone_k42_tosses_and_sinks
import HandS.ExcIs
import HandS.ExcOwn
import HandS.RaiseMore
import HandS.FStr
import HandS.Deep
import HandS.SlotsOwn
import HandS.Star
import HandS.Zip
import HandS.Dict
import HandS.DictComp
import HandS.OwnEq
import HandS.Gcd
import HandS.SetBool
import HandS.SetKeys
import HandS.Walk
import HandS.TupMul
import KE.KExcSuper
import KE.KSuper
import KE.KExcMake
import HandS.ExcInit
import HandS.Nested
import PyProof.FitsInt
import HandS.Base
import HandS.Call
import HandS.CallLocal
import HandS.HotCalls
import KE.KExcIs
import HandS.ExcField
import KE.IntTextLaws
import HandS.AnyAll
import HandS.TupLen
import KE.KStateDown
import Lean
import HandS.Exc
import HandS.Words
import HandS.HeadHook1
import HandS.HeadHook2
import HandS.HeadHook3
import HandS.Head0
import HandS.Head1
import HandS.Head2
import HandS.Head3
import HandS.HeadEnd
import Wide.Once
set_option Elab.async false
set_option linter.all false
set_option maxRecDepth 100000
set_option maxHeartbeats 2000000
/-! Games as data: expressions, statements, blocks, games; how they stand in the heap. -/
namespace Gm
open PySem L2
/-! ### data that stands keeps standing -/
theorem same_new {H : Hp} {p : Addr} (h : H p = none) (o : HO) : Same H (upd H p o) := fun b u q => by rw [upd_ne (ne_of_none q h)]; exact q
theorem sqT_mono {K : PySem.W.Frag} {H H' : Hp} {a : Addr} {xs : List V} (e : Same H H') (h : SqT K H a xs) : SqT K H' a xs := by
  rcases h with (h | ⟨o, h⟩) | h
  · exact .inl (.inl (e _ _ h))
  · exact .inl (.inr ⟨o, e _ _ h⟩)
  · exact .inr h
mutual
theorem dp_mono {K : PySem.W.Frag} {H H' : Hp} (s : Same H H') : ∀ (d : PyData) (v : V), Dp K H v d → Dp K H' v d
  | .none, _, h => by cases h; exact .non
  | .bool b, _, h => by cases h; exact .bl b
  | .int i, _, h => by cases h; exact .int i
  | .str x, _, h => by cases h; exact .str x
  | .list ds, _, h => by
    cases h with
    | lst hs ha => exact .lst (s.seq hs) (dp_monoAll s ds _ ha)
  | .tuple ds, _, h => by
    cases h with
    | tup hs ha => exact .tup (sqT_mono s hs) (dp_monoAll s ds _ ha)
  | .dict _, _, h => by cases h
theorem dp_monoAll {K : PySem.W.Frag} {H H' : Hp} (s : Same H H') : ∀ (ds : List PyData) (vs : List V), DpAll K H vs ds → DpAll K H' vs ds
  | [], _, h => by cases h; exact .nil
  | d :: ds, _, h => by
    cases h with
    | cons h1 h2 => exact .cons (dp_mono s d _ h1) (dp_monoAll s ds _ h2)
end
section
variable {K : PySem.W.Frag} {H : Hp}
theorem DpAll.len : ∀ {vs : List V} {ds : List PyData}, DpAll K H vs ds → vs.length = ds.length
  | _, _, .nil => rfl
  | _, _, .cons _ t => congrArg Nat.succ (DpAll.len t)
theorem DpAll.app : ∀ {vs ws : List V} {ds es : List PyData}, DpAll K H vs ds → DpAll K H ws es → DpAll K H (vs ++ ws) (ds ++ es)
  | _, _, _, _, .nil, q => q
  | _, _, _, _, .cons h t, q => .cons h (DpAll.app t q)
theorem DpAll.get : ∀ {vs : List V} {ds : List PyData} {i : Nat} {d : PyData}, DpAll K H vs ds → ds[i]? = some d → ∃ v, vs[i]? = some v ∧ Dp K H v d
  | _, _, _, _, .nil, e => by simp at e
  | _, _, 0, _, .cons h _, e => by simp at e; subst e; exact ⟨_, rfl, h⟩
  | _, _, i + 1, _, .cons _ t, e => by
    obtain ⟨v, h1, h2⟩ := DpAll.get (i := i) t (by simpa using e)
    exact ⟨v, by simpa using h1, h2⟩
theorem dp_strs : ∀ xs : List Str, DpAll K H (xs.map V.str) (xs.map PyData.str)
  | [] => .nil
  | x :: xs => .cons (.str x) (dp_strs xs)
/-- a new tuple of data -/
theorem dp_tup {p : Addr} {vs : List V} {ds : List PyData} (hp : H p = none) (h : DpAll K H vs ds) : Dp K (upd H p (.tup vs)) (.ref p) (.tuple ds) := .tup (SqT.of upd_same) (dp_monoAll (same_new hp _) _ _ h)
end
/-! ### rules whose written part is named (within comprehensions) -/
section
variable {X : Cx}
theorem ixlK (K : PySem.W.Frag) (h : X.K = K) : IxR X (rIxL K) := by subst h; exact ix_list
theorem ixtK (K : PySem.W.Frag) (h : X.K = K) : IxR X (rIxT K) := by subst h; exact ix_tup
theorem lenK (K : PySem.W.Frag) (h : X.K = K) : CallR X (.builtin "len") (fun xs H Q => ∃ p ys, xs = [.ref p] ∧ (SqL K H p ys ∨ SqT K H p ys) ∧ Q (.int ys.length) H) := by subst h; exact call_len_seq
theorem inK (K : PySem.W.Frag) (h : X.K = K) : OpR X (compareOp .In) (rIn K false) := by subst h; exact op_in_seq
theorem eqDK (K : PySem.W.Frag) (h : X.K = K) (hu : X.A.units + 64 < cLine) : OpR X (compareOp .Eq) (rEqD K) := by subst h; exact op_eqD hu
theorem neDK (K : PySem.W.Frag) (h : X.K = K) (hu : X.A.units + 64 < cLine) : OpR X (compareOp .NotEq) (rNeD K) := by subst h; exact op_neD hu
theorem slLK (K : PySem.W.Frag) (h : X.K = K) : SlR X (rSlL K) := by subst h; exact sl_list
theorem slTK (K : PySem.W.Frag) (h : X.K = K) : SlR X (rSlA K) := by subst h; exact sl_tupA
end
/-! ### data without lists: it stands as long as the tuples stand -/
mutual
def nol : PyData → Bool
  | .list _ => false
  | .dict _ => false
  | .tuple ds => nolAll ds
  | _ => true
def nolAll : List PyData → Bool
  | [] => true
  | d :: ds => nol d && nolAll ds
end
theorem nolAll_app : ∀ (xs ys : List PyData), nolAll (xs ++ ys) = (nolAll xs && nolAll ys)
  | [], ys => by show nolAll ys = (nolAll [] && nolAll ys); unfold nolAll; rw [Bool.true_and]; all_goals rfl
  | x :: xs, ys => by show (nol x && nolAll (xs ++ ys)) = ((nol x && nolAll xs) && nolAll ys); rw [nolAll_app xs ys, Bool.and_assoc]
theorem nolAll_strs : ∀ xs : List Str, nolAll (xs.map PyData.str) = true
  | [] => rfl
  | x :: xs => by show (nol (.str x) && nolAll (xs.map PyData.str)) = true; rw [nolAll_strs xs]; rfl
/-- tuples and what is locked stand -/
def Tups (H H' : Hp) : Prop := ∀ b o, H b = some o → ((∃ xs, o = .tup xs) ∨ ∃ ob u, o = .frz ob u) → H' b = some o
theorem Tups.of {H H' : Hp} (s : Same H H') : Tups H H' := fun b o e _ => s b o e
theorem Tups.refl (H : Hp) : Tups H H := fun _ _ e _ => e
theorem Tups.trans {H H1 H2 : Hp} (a : Tups H H1) (b : Tups H1 H2) : Tups H H2 := fun c o e k => b c o (a c o e k) k
theorem Tups.lst {H : Hp} {l : Addr} {xs : List V} {o : HO} (h : H l = some (.lst xs)) : Tups H (upd H l o) := fun b u e k => by
  rw [upd_ne]
  · exact e
  · intro z
    subst z
    rw [h] at e
    cases e
    rcases k with ⟨_, z⟩ | ⟨_, _, z⟩ <;> cases z
theorem sqT_tups {K : PySem.W.Frag} {H H' : Hp} {a : Addr} {xs : List V} (e : Tups H H') (h : SqT K H a xs) : SqT K H' a xs := by
  rcases h with (h | ⟨o, h⟩) | h
  · exact .inl (.inl (e _ _ h (.inl ⟨_, rfl⟩)))
  · exact .inl (.inr ⟨o, e _ _ h (.inr ⟨_, _, rfl⟩)⟩)
  · exact .inr h
mutual
theorem dp_tups {K : PySem.W.Frag} {H H' : Hp} (s : Tups H H') : ∀ (d : PyData) (v : V), nol d = true → Dp K H v d → Dp K H' v d
  | .none, _, _, h => by cases h; exact .non
  | .bool b, _, _, h => by cases h; exact .bl b
  | .int i, _, _, h => by cases h; exact .int i
  | .str x, _, _, h => by cases h; exact .str x
  | .list ds, _, n, h => by unfold nol at n; cases n
  | .tuple ds, _, n, h => by
    unfold nol at n
    cases h with
    | tup hs ha => exact .tup (sqT_tups s hs) (dp_tupsAll s ds _ n ha)
  | .dict _, _, _, h => by cases h
theorem dp_tupsAll {K : PySem.W.Frag} {H H' : Hp} (s : Tups H H') : ∀ (ds : List PyData) (vs : List V), nolAll ds = true → DpAll K H vs ds → DpAll K H' vs ds
  | [], _, _, h => by cases h; exact .nil
  | d :: ds, _, n, h => by
    unfold nolAll at n
    rw [Bool.and_eq_true] at n
    cases h with
    | cons h1 h2 => exact .cons (dp_tups s d _ n.1 h1) (dp_tupsAll s ds _ n.2 h2)
end
/-! ### expressions and statements -/
inductive Ex where
  | num (n : Int) | loc (x : Str) | var (x : Str) | has (t : Str) (e : Ex) | cell (t : Str) (e : Ex) | op (o : Str) (a b : Ex)
mutual
inductive Stm where
  | set (x : Str) (e : Ex) | lt (l : Str) (e : Ex) | draw (l : Str) (n : Int) | put (t : Str) (e f : Ex) | lot (l o : Str) (e : Ex) | ask (l p : Str) (e : Ex) | ite (e : Ex) (a b : Blk) | bad | after (a : Blk)
inductive Blk where
  | nil | cons (s : Stm) (r : Blk)
end
def Ex.d : Ex → PyData
  | .num n => .tuple [.str "number", .int n]
  | .loc x => .tuple [.str "local", .str x]
  | .var x => .tuple [.str "variable", .str x]
  | .has t e => .tuple [.str "has", .str t, e.d]
  | .cell t e => .tuple [.str "cell", .str t, e.d]
  | .op o a b => .tuple [.str o, a.d, b.d]
mutual
def Stm.d : Stm → PyData
  | .set x e => .tuple [.str "set", .str x, e.d]
  | .lt l e => .tuple [.str "let", .str l, e.d]
  | .draw l n => .tuple [.str "draw", .str l, .int n]
  | .put t e f => .tuple [.str "put", .str t, e.d, f.d]
  | .lot l o e => .tuple [.str "lot", .str l, .str o, e.d]
  | .ask l p e => .tuple [.str "ask", .str l, .str p, e.d]
  | .ite e a b => .tuple [.str "if", e.d, .tuple a.ds, .tuple b.ds]
  | .bad => .tuple [.str "bad"]
  | .after a => .tuple [.str "after", .tuple a.ds]
def Blk.ds : Blk → List PyData
  | .nil => []
  | .cons s r => s.d :: r.ds
end
def Blk.d (b : Blk) : PyData := .tuple b.ds
theorem Ex.nol : ∀ e : Ex, nol e.d = true
  | .num n => rfl
  | .loc x => rfl
  | .var x => rfl
  | .has t e => by show (Gm.nol (.str "has") && (Gm.nol (.str t) && (Gm.nol e.d && nolAll []))) = true; rw [Ex.nol e]; rfl
  | .cell t e => by show (Gm.nol (.str "cell") && (Gm.nol (.str t) && (Gm.nol e.d && nolAll []))) = true; rw [Ex.nol e]; rfl
  | .op o a b => by show (Gm.nol (.str o) && (Gm.nol a.d && (Gm.nol b.d && nolAll []))) = true; rw [Ex.nol a, Ex.nol b]; rfl
mutual
theorem Stm.nol : ∀ x : Stm, nol x.d = true
  | .set x e => by unfold Stm.d; show (Gm.nol (.str "set") && (Gm.nol (.str x) && (Gm.nol e.d && nolAll []))) = true; rw [Ex.nol e]; rfl
  | .lt x e => by unfold Stm.d; show (Gm.nol (.str "let") && (Gm.nol (.str x) && (Gm.nol e.d && nolAll []))) = true; rw [Ex.nol e]; rfl
  | .draw l n => by unfold Stm.d; rfl
  | .put t e f => by unfold Stm.d; show (Gm.nol (.str "put") && (Gm.nol (.str t) && (Gm.nol e.d && (Gm.nol f.d && nolAll [])))) = true; rw [Ex.nol e, Ex.nol f]; rfl
  | .lot l o e => by unfold Stm.d; show (Gm.nol (.str "lot") && (Gm.nol (.str l) && (Gm.nol (.str o) && (Gm.nol e.d && nolAll [])))) = true; rw [Ex.nol e]; rfl
  | .ask l p e => by unfold Stm.d; show (Gm.nol (.str "ask") && (Gm.nol (.str l) && (Gm.nol (.str p) && (Gm.nol e.d && nolAll [])))) = true; rw [Ex.nol e]; rfl
  | .ite e a b => by unfold Stm.d; show (Gm.nol (.str "if") && (Gm.nol e.d && (nolAll a.ds && (nolAll b.ds && nolAll [])))) = true; rw [Ex.nol e, Blk.nol a, Blk.nol b]; rfl
  | .bad => by unfold Stm.d; rfl
  | .after a => by unfold Stm.d; show (Gm.nol (.str "after") && (nolAll a.ds && nolAll [])) = true; rw [Blk.nol a]; rfl
theorem Blk.nol : ∀ b : Blk, nolAll b.ds = true
  | .nil => by unfold Blk.ds; rfl
  | .cons s r => by unfold Blk.ds; show (Gm.nol s.d && nolAll r.ds) = true; rw [Stm.nol s, Blk.nol r]; rfl
end
def Blk.of : List Stm → Blk
  | [] => .nil
  | s :: r => .cons s (Blk.of r)
def Blk.app : Blk → Blk → Blk
  | .nil, c => c
  | .cons s r, c => .cons s (r.app c)
theorem Blk.ds_app : ∀ (b c : Blk), (b.app c).ds = b.ds ++ c.ds
  | .nil, c => by rw [Blk.app, Blk.ds]; rfl
  | .cons s r, c => by rw [Blk.app, Blk.ds, Blk.ds, Blk.ds_app r c]; rfl
def Ex.dep : Ex → Nat
  | .num _ => 1
  | .loc _ => 1
  | .var _ => 1
  | .has _ e => e.dep + 1
  | .cell _ e => e.dep + 1
  | .op _ a b => max a.dep b.dep + 1
/-! the depth of ifs and afters, 0 without -/
mutual
def Stm.dep : Stm → Nat
  | .ite _ a b => max a.dep b.dep + 1
  | .after a => a.dep + 1
  | _ => 0
def Blk.dep : Blk → Nat
  | .nil => 0
  | .cons s r => max s.dep r.dep
end
def ops : List Str := ["+", "-", "*", "/", "mod", "<", "="]
/-- the names in scope -/
structure Sc where
  locs : List Str
  vars : List Str
  tabs : List Str
  lots : List Str
  asks : List Str
/-- an expression over the names of a scope, at most k deep -/
def Ex.Ok (s : Sc) : Nat → Ex → Prop
  | 0, _ => False
  | _ + 1, .num n => 0 ≤ n ∧ n ≤ 65535
  | _ + 1, .loc x => x ∈ s.locs
  | _ + 1, .var x => x ∈ s.vars
  | k + 1, .has t e => t ∈ s.tabs ∧ e.Ok s k
  | k + 1, .cell t e => t ∈ s.tabs ∧ e.Ok s k
  | k + 1, .op o a b => o ∈ ops ∧ a.Ok s k ∧ b.Ok s k
theorem Ex.Ok.mono {s : Sc} : ∀ {k j : Nat} {e : Ex}, e.Ok s k → k ≤ j → e.Ok s j
  | 0, _, _, h, _ => h.elim
  | _ + 1, 0, _, _, hj => absurd hj (by omega)
  | _ + 1, _ + 1, .num _, h, _ => h
  | _ + 1, _ + 1, .loc _, h, _ => h
  | _ + 1, _ + 1, .var _, h, _ => h
  | k + 1, j + 1, .has _ _, h, hj => ⟨h.1, h.2.mono (by omega)⟩
  | k + 1, j + 1, .cell _ _, h, hj => ⟨h.1, h.2.mono (by omega)⟩
  | k + 1, j + 1, .op _ _ _, h, hj => ⟨h.1, h.2.1.mono (by omega), h.2.2.mono (by omega)⟩
/-! how many statements -/
def Blk.len : Blk → Nat
  | .nil => 0
  | .cons _ r => r.len + 1
/-! a statement over a scope: expressions at most k deep, ifs and afters at most d deep -/
mutual
def Stm.Ok (s : Sc) (k : Nat) : Nat → Stm → Prop
  | _, .set x e => x ∈ s.vars ∧ e.Ok s k
  | _, .lt l e => l ∈ s.locs ∧ e.Ok s k
  | _, .draw l n => l ∈ s.locs ∧ 1 ≤ n ∧ n ≤ 64
  | _, .put t e f => t ∈ s.tabs ∧ e.Ok s k ∧ f.Ok s k
  | _, .lot l o e => l ∈ s.locs ∧ o ∈ s.lots ∧ e.Ok s k
  | _, .ask l p e => l ∈ s.locs ∧ p ∈ s.asks ∧ e.Ok s k
  | 0, .ite _ _ _ => False
  | d + 1, .ite e a b => e.Ok s k ∧ a.Ok s k d ∧ b.Ok s k d ∧ a.len ≤ 50 * k + 50 ∧ b.len ≤ 50 * k + 50
  | _, .bad => True
  | 0, .after _ => False
  | d + 1, .after a => a.Ok s k d ∧ a.len ≤ 50 * k + 50
def Blk.Ok (s : Sc) (k : Nat) : Nat → Blk → Prop
  | _, .nil => True
  | d, .cons x r => x.Ok s k d ∧ r.Ok s k d
end
theorem Blk.len_ds : ∀ b : Blk, b.ds.length = b.len
  | .nil => by rw [Blk.ds]; rfl
  | .cons s r => by rw [Blk.ds, Blk.len, List.length_cons, Blk.len_ds r]
theorem Blk.len_app : ∀ (b c : Blk), (b.app c).len = b.len + c.len
  | .nil, c => by rw [Blk.app, Blk.len, Nat.zero_add]
  | .cons s r, c => by rw [Blk.app, Blk.len, Blk.len, Blk.len_app r c]; omega
theorem Blk.ok_app {s : Sc} {k d : Nat} : ∀ {b c : Blk}, b.Ok s k d → c.Ok s k d → (b.app c).Ok s k d
  | .nil, c, _, h => by rw [Blk.app]; exact h
  | .cons x r, c, h1, h2 => by
    rw [Blk.app]
    unfold Blk.Ok at h1 ⊢
    exact ⟨h1.1, Blk.ok_app h1.2 h2⟩
/-! ### picks -/
theorem pick_mem {xs : List Str} {r : Int} (h : xs ≠ []) : ∃ x ∈ xs, atI (xs.map V.str) (r % (((xs.map V.str).length : Nat) : Int)) = some (.str x) := by
  have hl : 0 < xs.length := List.length_pos_iff.mpr h
  rw [List.length_map]
  have h0 := Int.emod_nonneg r (by omega : (xs.length : Int) ≠ 0)
  have h1 := Int.emod_lt_of_pos r (by omega : (0 : Int) < xs.length)
  have hk : (r % (xs.length : Int)).toNat < xs.length := by omega
  refine ⟨xs[(r % (xs.length : Int)).toNat], List.getElem_mem hk, ?_⟩
  exact at_of (j := (r % (xs.length : Int)).toNat) (by omega) (by rw [List.getElem?_map, List.getElem?_eq_getElem hk] <;> rfl)
theorem len_pos {xs : List Str} (h : xs ≠ []) : (0 : Int) < (((xs.map V.str).length : Nat) : Int) := by
  rw [List.length_map]
  have := List.length_pos_iff.mpr h
  omega
/-- an item of a written display, whatever the rest -/
theorem pick_disp {vs : List V} {r : Int} {n : Nat} (hn : vs.length = n) (h : 0 < n) : ∃ x ∈ vs, atI vs (r % (n : Int)) = some x := by
  subst hn
  have h0 := Int.emod_nonneg r (by omega : (vs.length : Int) ≠ 0)
  have h1 := Int.emod_lt_of_pos r (by omega : (0 : Int) < vs.length)
  have hk : (r % (vs.length : Int)).toNat < vs.length := by omega
  exact ⟨vs[(r % (vs.length : Int)).toNat], List.getElem_mem hk, at_of (j := (r % (vs.length : Int)).toNat) (by omega) (List.getElem?_eq_getElem hk)⟩
theorem pick_op {r : Int} : ∃ o ∈ ops, atI ([.str "+", .str "-", .str "*", .str "/", .str "mod", .str "<", .str "="] : List V) (r % 7) = some (.str o) := by
  obtain ⟨x, hx, e⟩ := pick_mem (xs := ops) (r := r) (by decide)
  exact ⟨x, hx, e⟩
theorem pick_two {a b : V} {r : Int} : atI ([a, b] : List V) (r % 2) = some a ∨ atI ([a, b] : List V) (r % 2) = some b := by
  have h0 := Int.emod_nonneg r (by decide : (2 : Int) ≠ 0)
  have h1 := Int.emod_lt_of_pos r (by decide : (0 : Int) < 2)
  have : r % 2 = 0 ∨ r % 2 = 1 := by omega
  rcases this with e | e
  · rw [e]; exact .inl rfl
  · rw [e]; exact .inr rfl
theorem and_if {c A B T1 : Prop} [Decidable c] (hB : B) (hT : c → B → T1) : if c then T1 else (if false = true then A else B) := by
  by_cases h : c
  · rw [if_pos h]; exact hT h hB
  · rw [if_neg h, if_neg Bool.false_ne_true]; exact hB
theorem ne_of_len {xs : List Str} (h : decide ((0 : Int) < (((xs.map V.str).length : Nat) : Int)) = true) : xs ≠ [] := by
  intro e
  subst e
  exact absurd (of_decide_eq_true h) (by decide)
/-- an if without an else: what holds behind it, both ways -/
theorem if_rest {b A : Prop} [Decidable b] {D : Ends} {σ : L2.St} {H : Hp} (I : L2.St → Hp → Prop) (rest : ∀ σ H, I σ H → D.nx σ H) (ht : b → (∀ σ H, I σ H → D.nx σ H) → A) (he : ¬ b → I σ H) : if b then A else tNext D σ H := by
  by_cases h : b
  · rw [if_pos h]; exact ht h rest
  · rw [if_neg h]; exact rest σ H (he h)
theorem Blk.ok_nil {s : Sc} {k d : Nat} : Blk.nil.Ok s k d := by unfold Blk.Ok; trivial
theorem Blk.ok_cons {s : Sc} {k d : Nat} {x : Stm} {r : Blk} (h : x.Ok s k d) (hr : r.Ok s k d) : (Blk.cons x r).Ok s k d := by unfold Blk.Ok; exact ⟨h, hr⟩
/-- a block that stands within a statement: few statements -/
def Blk.OkI (b : Blk) (s : Sc) (k d : Nat) : Prop := b.Ok s k d ∧ b.len ≤ 4
theorem Blk.oki {s : Sc} {k d : Nat} {b : Blk} (h : b.Ok s k d) (hl : Nat.ble b.len 4 = true := by rfl) : b.OkI s k d := ⟨h, Nat.le_of_ble_eq_true hl⟩
theorem Stm.ok_ite {s : Sc} {k d : Nat} {e : Ex} {a b : Blk} (h : e.Ok s k) (ha : a.OkI s k d) (hb : b.OkI s k d) : (Stm.ite e a b).Ok s k (d + 1) := by unfold Stm.Ok; exact ⟨h, ha.1, hb.1, by have := ha.2; omega, by have := hb.2; omega⟩
theorem Stm.ok_after {s : Sc} {k d : Nat} {a : Blk} (ha : a.OkI s k d) : (Stm.after a).Ok s k (d + 1) := by unfold Stm.Ok; exact ⟨ha.1, by have := ha.2; omega⟩
theorem Stm.ok_bad {s : Sc} {k d : Nat} : Stm.bad.Ok s k d := by cases d <;> (unfold Stm.Ok; trivial)
mutual
theorem Stm.ok_mono {s : Sc} {k : Nat} : ∀ {d e : Nat} {x : Stm}, x.Ok s k d → d ≤ e → x.Ok s k e
  | d, e, .set _ _, h, _ => by unfold Stm.Ok at h ⊢; exact h
  | d, e, .lt _ _, h, _ => by unfold Stm.Ok at h ⊢; exact h
  | d, e, .draw _ _, h, _ => by unfold Stm.Ok at h ⊢; exact h
  | d, e, .put _ _ _, h, _ => by unfold Stm.Ok at h ⊢; exact h
  | d, e, .lot _ _ _, h, _ => by unfold Stm.Ok at h ⊢; exact h
  | d, e, .ask _ _ _, h, _ => by unfold Stm.Ok at h ⊢; exact h
  | d, e, .bad, _, _ => Stm.ok_bad
  | 0, e, .ite _ _ _, h, _ => by unfold Stm.Ok at h; exact h.elim
  | d + 1, 0, .ite _ _ _, h, he => absurd he (by omega)
  | d + 1, e + 1, .ite _ _ _, h, he => by unfold Stm.Ok at h ⊢; exact ⟨h.1, Blk.ok_mono h.2.1 (by omega), Blk.ok_mono h.2.2.1 (by omega), h.2.2.2⟩
  | 0, e, .after _, h, _ => by unfold Stm.Ok at h; exact h.elim
  | d + 1, 0, .after _, h, he => absurd he (by omega)
  | d + 1, e + 1, .after _, h, he => by unfold Stm.Ok at h ⊢; exact ⟨Blk.ok_mono h.1 (by omega), h.2⟩
theorem Blk.ok_mono {s : Sc} {k : Nat} : ∀ {d e : Nat} {b : Blk}, b.Ok s k d → d ≤ e → b.Ok s k e
  | d, e, .nil, _, _ => Blk.ok_nil
  | d, e, .cons x r, h, he => by unfold Blk.Ok at h ⊢; exact ⟨Stm.ok_mono h.1 he, Blk.ok_mono h.2 he⟩
end
/-! ### a list of data that grows -/
structure Acc (K : PySem.W.Frag) (H0 H : Hp) (l : Addr) (vs : List V) (ds : List PyData) : Prop where
  s : Same H0 H
  f : H0 l = none
  l : H l = some (.lst vs)
  d : DpAll K H vs ds
  n : nolAll ds = true
section
variable {K : PySem.W.Frag} {H0 H H' : Hp} {l : Addr} {vs : List V} {ds : List PyData} {v : V} {d : PyData}
theorem Acc.start (h : H0 l = none) : Acc K H0 (upd H0 l (.lst [])) l [] [] := ⟨same_new h _, h, upd_same, .nil, rfl⟩
theorem Acc.grow (a : Acc K H0 H l vs ds) (e : Same H H') : Acc K H0 H' l vs ds := ⟨a.s.trans e, a.f, e _ _ a.l, dp_monoAll e _ _ a.d, a.n⟩
theorem Acc.add (a : Acc K H0 H l vs ds) (hd : Dp K H v d) (hn : nol d = true) : Acc K H0 (upd H l (.lst (vs ++ [v]))) l (vs ++ [v]) (ds ++ [d]) := by
  have tp : Tups H (upd H l (.lst (vs ++ [v]))) := Tups.lst a.l
  refine ⟨fun b o e => by rw [upd_ne (ne_of_none e a.f)]; exact a.s _ _ e, a.f, upd_same, DpAll.app (dp_tupsAll tp _ _ a.n a.d) (.cons (dp_tups tp _ _ hn hd) .nil), ?_⟩
  rw [nolAll_app, a.n]
  show (true && (nol d && nolAll [])) = true
  rw [hn]
  rfl
theorem Acc.len (a : Acc K H0 H l vs ds) : vs.length = ds.length := DpAll.len a.d
end
/-! ### a slice of a tuple, whichever it is -/
def rSlB (K : PySem.W.Frag) : V → Option Int → Option Int → Hp → VK → Prop := fun x lo hi H Q => ∃ a xs, x = .ref a ∧ SqT K H a xs ∧ ∀ p H', Same H H' → SqT K H' p (cutV xs lo hi) → Q (.ref p) H'
theorem slTB {X : Cx} (K : PySem.W.Frag) (h : X.K = K) : SlR X (rSlB K) := by
  subst h
  intro pins s σ H x v vl vu lo hi sl Q I rx hs pl pu h
  obtain ⟨a, xs, rfl, hx, q⟩ := h
  refine sl_tupA pins s σ H _ v vl vu lo hi sl Q I rx hs pl pu ⟨a, xs, rfl, hx, fun w => q a H (Same.refl _) ?_, fun _ p hp => q p _ (same_new hp _) (SqT.of upd_same)⟩
  have e : cutV xs lo hi = xs := by
    unfold cutV
    rw [w.1, w.2, List.drop_zero, Nat.sub_zero, List.take_length]
  rw [e]
  exact hx
theorem cut3 {r : Int} (h0 : 0 ≤ r) (h1 : r < 2) : cutV [.str "g", .str "a", .str "b"] none (some (2 + r)) = ([("g" : Str), "a"]).map V.str ∨ cutV [.str "g", .str "a", .str "b"] none (some (2 + r)) = ([("g" : Str), "a", "b"]).map V.str := by
  have : r = 0 ∨ r = 1 := by omega
  rcases this with rfl | rfl
  · exact .inl rfl
  · exact .inr rfl
theorem take_more {α : Type} : ∀ {l : List α} {i : Nat} {x : α}, l[i]? = some x → l.take (i + 1) = l.take i ++ [x]
  | [], i, x, h => by simp at h
  | a :: l, 0, x, h => by
    have e : a = x := Option.some.inj h
    subst e
    rfl
  | a :: l, i + 1, x, h => by
    have ih := take_more (l := l) (i := i) (x := x) h
    show a :: l.take (i + 1) = a :: l.take i ++ [x]
    rw [ih]
    rfl
theorem str_at {xs : List Str} {i : Nat} (h : i < (((xs.map V.str).length : Nat) : Int).toNat) : ∃ x, xs[i]? = some x ∧ atI (xs.map V.str) (0 + (i : Int)) = some (.str x) := by
  rw [List.length_map] at h
  have hi : i < xs.length := by omega
  exact ⟨xs[i], List.getElem?_eq_getElem hi, at_of (j := i) (by omega) (by rw [List.getElem?_map, List.getElem?_eq_getElem hi] <;> rfl)⟩
/-! ### games -/
structure Pr where
  name : Str
  size : Int
  ans : Int
  locs : List Str
  block : Blk
  res : Ex
structure Ga where
  vars : List (Str × Int × Int)
  tabs : List (Str × Int × Int)
  lots : List (Str × Int × Int)
  procs : List Pr
def trip (t : Str × Int × Int) : PyData := .tuple [.str t.1, .int t.2.1, .int t.2.2]
def strD (xs : List Str) : PyData := .tuple (xs.map PyData.str)
def Pr.d (p : Pr) : PyData := .tuple [.str p.name, .int p.size, .int p.ans, strD p.locs, p.block.d, p.res.d]
def trips (ts : List (Str × Int × Int)) : PyData := .tuple (ts.map trip)
def Ga.d (g : Ga) : PyData := .tuple [trips g.vars, trips g.tabs, trips g.lots, .tuple (g.procs.map Pr.d)]
theorem nol_trip (t : Str × Int × Int) : nol (trip t) = true := rfl
theorem nolAll_trips : ∀ ts : List (Str × Int × Int), nolAll (ts.map trip) = true
  | [] => rfl
  | t :: ts => by show (nol (trip t) && nolAll (ts.map trip)) = true; rw [nolAll_trips ts]; rfl
theorem Pr.nol (p : Pr) : nol p.d = true := by
  show (Gm.nol (.str p.name) && (Gm.nol (.int p.size) && (Gm.nol (.int p.ans) && (nolAll (p.locs.map PyData.str) && (nolAll p.block.ds && (Gm.nol p.res.d && nolAll [])))))) = true
  rw [nolAll_strs, Blk.nol, Ex.nol]
  rfl
theorem nolAll_procs : ∀ ps : List Pr, nolAll (ps.map Pr.d) = true
  | [] => rfl
  | p :: ps => by show (nol p.d && nolAll (ps.map Pr.d)) = true; rw [nolAll_procs ps, Pr.nol]; rfl
theorem Ga.nol (g : Ga) : nol g.d = true := by
  show (nolAll (g.vars.map trip) && (nolAll (g.tabs.map trip) && (nolAll (g.lots.map trip) && (nolAll (g.procs.map Pr.d) && nolAll [])))) = true
  rw [nolAll_trips, nolAll_trips, nolAll_trips, nolAll_procs]
  rfl
def Ga.sc (g : Ga) (locs asks : List Str) : Sc := ⟨locs, g.vars.map (·.1), g.tabs.map (·.1), g.lots.map (·.1), asks⟩
/-! ### the games that the laws draw -/
structure PrOk (g : Ga) (p : Pr) : Prop where
  size : 1 ≤ p.size ∧ p.size ≤ 3
  ans : 2 ≤ p.ans ∧ p.ans ≤ 4
  locs : p.locs = (["g", "a"] : List Str) ∨ p.locs = (["g", "a", "b"] : List Str)
  block : p.block.Ok (g.sc p.locs []) 3 2
  len : 1 ≤ p.block.len ∧ p.block.len ≤ 4
  res : p.res.Ok (g.sc p.locs []) 3
structure GaOk (g : Ga) : Prop where
  vars : g.vars.map (·.1) = ([] : List Str) ∨ g.vars.map (·.1) = (["x"] : List Str) ∨ g.vars.map (·.1) = (["x", "y"] : List Str)
  var : ∀ v ∈ g.vars, (v.2.1 = 2 ∨ v.2.1 = 3 ∨ v.2.1 = 65535) ∧ (v.2.2 = 0 ∨ v.2.2 = 1)
  tabs : g.tabs.map (·.1) = ([] : List Str) ∨ g.tabs.map (·.1) = (["t"] : List Str) ∨ g.tabs.map (·.1) = (["t", "m"] : List Str)
  tab : ∀ v ∈ g.tabs, (v.2.1 = 2 ∨ v.2.1 = 3) ∧ (v.2.2 = 2 ∨ v.2.2 = 3)
  lots : g.lots.map (·.1) = ([] : List Str) ∨ g.lots.map (·.1) = (["o"] : List Str) ∨ g.lots.map (·.1) = (["o", "k"] : List Str)
  lot : ∀ v ∈ g.lots, (v.2.1 = 2 ∨ v.2.1 = 3) ∧ v.2.2 = 2
  procs : g.procs.map (·.name) = (["p"] : List Str) ∨ g.procs.map (·.name) = (["p", "r"] : List Str)
  proc : ∀ p ∈ g.procs, PrOk g p
/-! ### more picks -/
theorem dig_at {ds : List Int} {i : Int} (h0 : 0 ≤ i) (h1 : i < (ds.length : Int)) : ∃ d ∈ ds, atI (ds.map V.int) i = some (.int d) := by
  have hk : i.toNat < ds.length := by omega
  exact ⟨ds[i.toNat], List.getElem_mem hk, at_of (j := i.toNat) (by omega) (by rw [List.getElem?_map, List.getElem?_eq_getElem hk] <;> rfl)⟩
theorem cut2 {a b : Str} {j : Int} (h0 : 0 ≤ j) (h1 : j ≤ 2) : cutV ([V.str a, V.str b]) none (some j) = (([a, b] : List Str).take j.toNat).map V.str := by
  have : j = 0 ∨ j = 1 ∨ j = 2 := by omega
  rcases this with rfl | rfl | rfl <;> rfl
theorem take2 {a b : Str} (n : Nat) (h : n ≤ 2) : ([a, b] : List Str).take n = [] ∨ ([a, b] : List Str).take n = [a] ∨ ([a, b] : List Str).take n = [a, b] := by
  have : n = 0 ∨ n = 1 ∨ n = 2 := by omega
  rcases this with rfl | rfl | rfl
  · exact .inl rfl
  · exact .inr (.inl rfl)
  · exact .inr (.inr rfl)
end Gm
set_option Elab.async false
set_option linter.all false
set_option maxRecDepth 100000
set_option maxHeartbeats 2000000
/-! Rules of my own over the hand layer: operators, ==, str of own instances; a call that makes an instance within a try; isinstance of a held error with several classes. -/
namespace Mine
open PySem PySem.Spec PyProof.Rows L2
section
variable {X : Cx} {CX : CXT} {C f : Addr} {fd : FuncData} {ps : List Str} {sp : Sp} {E : XK} {n : Nat}

/-- a binary operator of two instances of one class -/
def rOwn (C : Addr) (sp : Sp) (E : XK) : R2 := fun x y H Q => ∃ a b dx dy fs gs, x = .ref a ∧ y = .ref b ∧ H a = some (.ins C dx fs) ∧ H b = some (.ins C dy gs) ∧ sp [.ref a, .ref b] H Q E
theorem op_own {op : Operator} (F : FnOk X.prog X.w X.K X.mg X.base CX n f fd ps sp) (hr : Room n X.A) (hb : Binds X.K fd ps []) (hx : Passes CX X E)
    (hc : PySem.W.selfFirst X.K C = true) (hs : PySem.W.findIn X.K (.ref C) (PySem.dunder op.info.2) = some (some (.ref f))) (hf : PySem.W.isFn X.K (.ref f) = true) : OpR X (binaryOp op) (rOwn C sp E) := by
  intro pins s σ H x y v u Q I rx ry h
  obtain ⟨a, b, dx, dy, fs, gs, rfl, rfl, ha, hb', q⟩ := h
  cases rx
  cases ry
  obtain ⟨mA, J, _⟩ := ins_get I.hok ha
  obtain ⟨mB, J', _⟩ := ins_get I.hok hb'
  obtain ⟨od, J, _⟩ := J.look
  obtain ⟨od', J', _⟩ := J'.look
  obtain ⟨m, hF⟩ := I.fr
  refine PySem.W.binop_K hF I.ok.mod.kin J J'.type hc hs hf ?_
  have r2 : Vals [V.ref a, V.ref b] [Value.ref a, Value.ref b] := .cons rfl (.cons rfl .nil)
  refine wpAny_mono (run_fn (dvs := []) (ds := []) F hr hb .nil hx I r2 (by simpa using q)) (fun v s' hv => ?_) fun _ _ z => z
  obtain ⟨z, H', I', rz, q'⟩ := hv
  exact SlX.cmpback rz ⟨z, H', I', rz, q'⟩

/-- == of two instances of one class with an own __eq__ -/
theorem op_ownEq (F : FnOk X.prog X.w X.K X.mg X.base CX n f fd ps sp) (hr : Room n X.A) (hb : Binds X.K fd ps []) (hx : Passes CX X E)
    (hs : PySem.W.findIn X.K (.ref C) "__eq__" = some (some (.ref f))) (hf : PySem.W.isFn X.K (.ref f) = true) : OpR X (compareOp .Eq) (rOwn C sp E) := by
  intro pins s σ H x y v u Q I rx ry h
  obtain ⟨a, b, dx, dy, fs, gs, rfl, rfl, ha, hb', q⟩ := h
  cases rx
  cases ry
  obtain ⟨mA, J, _⟩ := ins_get I.hok ha
  obtain ⟨mB, J', _⟩ := ins_get I.hok hb'
  obtain ⟨od, J, _⟩ := J.look
  obtain ⟨od', J', _⟩ := J'.look
  obtain ⟨m, hF⟩ := I.fr
  show wpAny (model X.prog X.w) X.A (richCompare .Eq _ _) (EP X pins σ Q) X.xe s
  refine PySem.W.cmp_K (op := .Eq) (tb := .ref C) hr.units0 hF I.ok.mod.kin J J'.type (by simp [PySem.W.notFirst]) hs hf ?_
  have r2 : Vals [V.ref a, V.ref b] [Value.ref a, Value.ref b] := .cons rfl (.cons rfl .nil)
  refine wpAny_mono (run_fn (dvs := []) (ds := []) F hr hb .nil hx I r2 (by simpa using q)) (fun v s' hv => ?_) fun _ _ z => z
  obtain ⟨z, H', I', rz, q'⟩ := hv
  exact SlX.cmpback rz ⟨z, H', I', rz, q'⟩

theorem strback {P : Value → Shared → Prop} {z : Str} {v : Value} {s' : Shared} (r : RelV (.str z) v) (h : P v s') : PySem.W.StrBack P v s' := by
  obtain ⟨t, rfl⟩ := r
  exact h
/-- str(x) of an instance with an own __str__ -/
def rStrOwn (C : Addr) (sp : Sp) (E : XK) : List V → Hp → VK → Prop := fun xs H Q => ∃ a dx fs, xs = [.ref a] ∧ H a = some (.ins C dx fs) ∧ sp [.ref a] H (fun v H' => ∃ z, v = .str z ∧ Q (.str z) H') E
theorem call_strOwn (F : FnOk X.prog X.w X.K X.mg X.base CX n f fd ps sp) (hr : Room (n + 2) X.A) (hb : Binds X.K fd ps []) (hx : Passes CX X E)
    (hs : PySem.W.findIn X.K (.ref C) "__str__" = some (some (.ref f))) (hf : PySem.W.isFn X.K (.ref f) = true) : CallR X (.type "str") (rStrOwn C sp E) := by
  intro pins s σ H xs us Q I r h
  obtain ⟨a, dx, fs, rfl, ha, q⟩ := h
  obtain ⟨u, rfl, ru⟩ := vals1 r
  cases ru
  obtain ⟨mA, J, _⟩ := ins_get I.hok ha
  obtain ⟨od, J, _⟩ := J.look
  have hr2 : Room n X.A.in1.in1 := hr.in1.in1
  refine PySem.W.kso_call hr2.units0 I.kIn J hs hf ?_
  have e0 : Env0 X.prog X.w X.K X.mg X.base X.A.in1.in1 X.stack s H := by
    have e := I.env0
    exact ⟨e.frames, e.mod, e.bs, e.bsz, e.funs, e.frf, e.hok, e.bare⟩
  have hl := F.len _ _ _ _ q
  have r2 : Vals [V.ref a] [Value.ref a] := .cons rfl .nil
  refine wpAny_call (codeAny_mono (F.run _ X.stack s H ⟨[.ref a], []⟩ [.ref a] [.ref a] _ E hr2 e0 (by
    have := hb s [.ref a] I.kIn (by simpa using hl)
    simpa using this) r2 q) fun r s' hq => ?_)
  cases r with
  | error e => exact hx pins σ H s e s' I hq
  | ok fl =>
    cases fl with
    | ret w =>
      obtain ⟨z, H', I', rz, z', ez, q'⟩ := I.after hq
      subst ez
      exact strback rz ⟨.str z', H', I', rz, q'⟩
    | next => exact False.elim hq
    | brk => exact False.elim hq
    | cont => exact False.elim hq
end

/-! ### C(e, ..) that may raise, within a try body -/
section
variable {X : Cx} {CX : CXT} {k : Nat} {f C : Addr} {fd : FuncData} {ps : List Str} {sp : Sp} {E : L2.St → XK} {x : Str} {p pos : Pos} {e : Expr} {es : List Expr} {t : TA}
theorem run_makeS {pins : List (Addr × Obj)} {σ : L2.St} {H : Hp} {s : Shared} {Q : VK} {us : List Value} {vs : List V} (M : Mk X.K C f) (F : FnOk X.prog X.w X.K X.mg X.base CX k f fd ps sp) (hr : Room (k + 1) X.A) (hb : Binds X.K fd ps [])
    (hx : PassesAt CX X σ (E σ)) (I : Inv X pins σ H s) (r : Vals vs us)
    (h : ∀ x dx, H x = none → H dx = none → dx ≠ x → sp (.ref x :: vs) (upd (upd H dx (.own x)) x (.ins C dx [])) (fun v H2 => v = .non ∧ Q (.ref x) H2) (E σ)) :
    wpAny (model X.prog X.w) X.A (call (.ref C) us) (EP X pins σ Q) X.xe s := by
  have hq := h (s.heap.objs.size + 1) s.heap.objs.size (I.hok.fresh (Nat.le_succ _)) (I.hok.fresh (Nat.le_refl _)) (Nat.ne_of_lt (Nat.lt_succ_self _))
  have I2 := Inv.made (C := C) I
  have r2 : Vals (V.ref (s.heap.objs.size + 1) :: vs) (Value.ref (s.heap.objs.size + 1) :: us) := .cons rfl r
  have hl : (Value.ref (s.heap.objs.size + 1) :: us ++ []).length = ps.length := by
    have e := r2.length
    rw [F.len _ _ _ _ hq] at e
    rw [List.append_nil]
    exact e.symm
  refine wpAny_call ((make_map (f := f) I.kIn M.makes M.init (beq_iff_eq.mp M.fn) (codeAny_mono (F.run _ X.stack _ _ ⟨Value.ref (s.heap.objs.size + 1) :: us, []⟩ (Value.ref (s.heap.objs.size + 1) :: us) _ _ (E σ) (hr.make C us [])
    (I2.env0.make C us []) (by have z := hb _ (Value.ref (s.heap.objs.size + 1) :: us) I2.kIn hl; rw [List.append_nil] at z; exact z) r2 hq) fun r s' hq' => ?_)))
  cases r with
  | error e => exact hx pins _ _ e s' I2 hq'
  | ok fl =>
    cases fl with
    | ret u =>
      obtain ⟨v, H', I3, rv, ev, q3⟩ := I2.after hq'
      subst ev
      exact ⟨rv, ⟨V.ref (s.heap.objs.size + 1), H', I3, rfl, q3⟩⟩
    | next => exact False.elim hq'
    | brk => exact False.elim hq'
    | cont => exact False.elim hq'
end
/-- C(e, ..) within a try body -/
def tMakeS (C : Addr) (sp : Sp) (E : L2.St → XK) (t : TA) : TE := fun σ H Q => t σ H fun vs H1 => ∀ x dx, H1 x = none → H1 dx = none → dx ≠ x →
  sp (.ref x :: vs) (upd (upd H1 dx (.own x)) x (.ins C dx [])) (fun v H2 => v = .non ∧ Q (.ref x) H2) (E σ)
section
variable {X : Cx} {CX : CXT} {k : Nat} {f C : Addr} {fd : FuncData} {ps : List Str} {sp : Sp} {E : L2.St → XK} {x : Str} {p pos : Pos} {e : Expr} {es : List Expr} {t : TA}
theorem pe_makeS (M : Mk X.K C f) (F : FnOk X.prog X.w X.K X.mg X.base CX k f fd ps sp) (hr : Room (k + 1) X.A) (hg : Gl X x) (hm : X.mg x = some (.ref C)) (hb : L2.Binds X.K fd ps []) (hx : ∀ σ, PassesAt CX X σ (E σ))
    (ha : PA X (e :: es) t) (hdb : (x == ("__debug__" : Str)) = false := by decide) (he : starEach (e :: es) X.env = (false, eval e X.env) :: starEach es X.env := by rfl) (hpl : (backTo pos (starEach es X.env)).any (·.1) = false := by rfl) :
    PE X (.Call (.Name x p) (e :: es) [] pos) (tMakeS C sp E t) := by
  refine ⟨fun pins s σ H Q I h => ?_⟩
  refine wpAny_Call_Name_kw (ld_glob I hg hm ?_ hdb)
  refine PySem.W.callWith_K (h₀ := X.base) I.ok.mod.kin M.kp (thn (ha.run pos pins s σ H _ I h) fun us s1 ⟨vs, H1, I1, r, q⟩ => ⟨I1.kIn, ?_⟩) he hpl
  exact run_makeS M F hr hb (hx σ) I1 r q
end

/-! ### isinstance of the error that a suite holds -/
def rIsE1 (K : PySem.W.Frag) (D a : Addr) (cls : Value) (d : Option Addr) : List V → Hp → VK → Prop := fun xs H Q => ∃ (c : V) (cv : Value) (b : Bool), xs = [.ref a, c] ∧ cls = .ref D ∧ d = none ∧ (∀ u, RelV c u → u = cv) ∧ PySem.W.kitOne K (.ref D) cv = some b ∧ Q (.bl b) H
def rIsET (K : PySem.W.Frag) (D a : Addr) (cls : Value) (d : Option Addr) : List V → Hp → VK → Prop := fun xs H Q => ∃ (tp : Addr) (cs : List V) (us : List Value) (b : Bool), xs = [.ref a, .ref tp] ∧ cls = .ref D ∧ d = none ∧ H tp = some (.tup cs) ∧ Paired ClsV cs us ∧ PySem.W.kitAny K (.ref D) us = some b ∧ Q (.bl b) H
section
variable {X : Cx} {a D : Addr} {oe : Obj} {pn : List (Addr × Obj)} {cls : Value} {d : Option Addr}
theorem call_isE1 (C : ExcC X.K D) (hz : Zc cls d oe) (hf : ∃ vs, oe.data = .fields vs) : CallR (X.suite a ((a, oe) :: pn)) (.builtin "isinstance") (rIsE1 X.K D a cls d) := by
  intro pins s σ H xs us Q I r h
  obtain ⟨c, cv, b, e1, rfl, rfl, hcv, e, q⟩ := h
  exact call_isE C hz hf pins s σ H xs us Q I r ⟨c, cv, b, e1, hcv, e, q⟩
theorem call_isET (C : ExcC X.K D) (hz : Zc cls d oe) (hf : ∃ vs, oe.data = .fields vs) : CallR (X.suite a ((a, oe) :: pn)) (.builtin "isinstance") (rIsET X.K D a cls d) := by
  intro pins s σ H xs us Q I r h
  obtain ⟨tp, cs, ws, b, rfl, rfl, rfl, hT, k, e, q⟩ := h
  obtain ⟨u1, u2, rfl, r1, r2⟩ := vals2 r
  cases (show u1 = Value.ref a from r1)
  cases (show u2 = Value.ref tp from r2)
  obtain ⟨hget, _⟩ := I.pin (a, oe) (List.mem_append.mpr (.inl List.mem_cons_self))
  obtain ⟨vs, hv⟩ := hf
  have J : PySem.W.InstAt s.heap a oe D none := by
    obtain ⟨oc, od, oda, osl⟩ := oe
    obtain ⟨h1, h2⟩ := hz
    dsimp only at h1 h2 hv
    subst h1 h2 hv
    exact ⟨hget, rfl, rfl, trivial⟩
  obtain ⟨_, its, rv, o, h1, h2, n, h3⟩ := (show ObjOk X.prog X.w H s.heap tp (.tup cs) from I.hok tp _ hT)
  have e3 := ClsV.all k rv
  subst e3
  obtain ⟨oc, od, dt, sl⟩ := o
  simp only at h2 h3
  subst h2 h3
  exact PySem.W.kia_tup (PySem.W.handS_kitx_exc C.hg C.hk C.hs C.hd C.ha C.hn C.ht C.hm) I.kIn J h1 e (fun z => nomatch z) fun tk => ⟨.bl b, H, I.kept (t' := tk) fun _ _ z => z, rfl, q⟩
end

/-! ### small words -/
theorem same_new {H : Hp} {p : Addr} (h : H p = none) (o : HO) : Same H (upd H p o) := fun b u q => by rw [upd_ne (ne_of_none q h)]; exact q
theorem same_make {H : Hp} {x dx C : Addr} (nx : H x = none) (nd : H dx = none) : Same H (upd (upd H dx (.own x)) x (.ins C dx [])) := fun b o e => by
  rw [upd_ne (ne_of_none e nx), upd_ne (ne_of_none e nd)]
  exact e
theorem ite_no {c A B : Prop} [Decidable c] (hc : ¬ c) (h : B) : if c then A else B := by rw [if_neg hc]; exact h
theorem ite_yes {c A B : Prop} [Decidable c] (hc : c) (h : A) : if c then A else B := by rw [if_pos hc]; exact h
end Mine
set_option Elab.async false
set_option linter.all false
/-! Walks whose written part is named: a list, a tuple, either. -/
namespace Mine
open PySem PySem.Calls L2 PyProof.Rows
section
variable {X : Cx} {tg l : Expr} {tl : TE}
theorem pi_listK (K : PySem.W.Frag) (h : X.K = K) (hl : PE X l tl) : PI X tg l (iList K tl) := by subst h; exact pi_list hl
theorem pi_tupK (K : PySem.W.Frag) (h : X.K = K) (hl : PE X l tl) : PI X tg l (iTup K tl) := by subst h; exact pi_tup hl
noncomputable def iSeq (K : PySem.W.Frag) (tl : TE) : TI := fun σ H R => iList K tl σ H R ∨ iTup K tl σ H R
theorem pi_seqK (K : PySem.W.Frag) (h : X.K = K) (hl : PE X l tl) : PI X tg l (iSeq K tl) := by
  refine ⟨fun pins s σ H Q I h => ?_⟩
  rcases h with h | h
  · exact (pi_listK K ‹_› hl).run pins s σ H Q I h
  · exact (pi_tupK K ‹_› hl).run pins s σ H Q I h
end
end Mine
set_option Elab.async false
set_option linter.all false
set_option maxRecDepth 100000
set_option maxHeartbeats 2000000
/-! Set comprehensions whose elements are of any kind that a set's own `add` has a rule for. -/
namespace Mine
open PySem PySem.Spec PyProof.Rows L2 PpSet
/-- what a fresh set is, and what one more element asks of the value and the heap -/
structure Kind (P : Program) (w : World) where
  o0 : Addr → HO
  add : V → Hp → Addr → (Hp → Prop) → Prop
  new : ∀ (H : Hp) (h : Heap), ObjOk P w H (h.push { cls := .type "set", dict := none, data := .set #[] 0 (.fresh 0 0 (!w.params.followText "set-order")) }) h.objs.size (o0 h.objs.size)
  put : ∀ (Y : Cx), Y.prog = P → Y.w = w → ∀ {pins : List (Addr × Obj)} {σ : L2.St} {H : Hp} {s : Shared} {E : Value → Shared → Prop} {Q : Value → Shared → Prop} {D : Addr} {y : V} {z : Value} {N : Hp → Prop},
    Inv Y pins σ H s → RelV y z → add y H D N → (∀ H' s', Inv Y pins σ H' s' → N H' → Q .none s') → wpAny (model P w) Y.A (call (.builtin "set.add") [.ref D, z]) Q E s
noncomputable def tScG {P : Program} {w : World} (κ : Kind P w) (wi : TI) (g : TG) (tt : TT) (te : TE) (vs : List Nat) : TE := fun σ H Q => wi σ H fun J H1 => ∀ D, H1 D = none →
  ∃ W : Nat → Nat → Hp → Prop, (∃ m, W 0 m (upd H1 D (κ.o0 D))) ∧ ∀ i m H, W i m H → (J.stop i H ∧ Q (.ref D) H) ∨
    (J.go i H ∧ ∃ N : Hp → Prop, (∀ H', N H' → ∃ m', m' < m ∧ W (i + 1) m' H') ∧ ∀ x H', J.yld i H x H' → g x (wipe σ vs) H' fun τ H2 => wipe τ vs = wipe σ vs ∧ tt τ H2 fun b H3 =>
      if b = true then te τ H3 fun y H4 => κ.add y H4 D N else N H3)
section
variable {X : Cx}
theorem pe_scG (κ : Kind X.prog X.w) {elt tg iter : Expr} {ifs : List Expr} {scope : Scope} {own : List (PySem.Str × Nat)} {pos : Pos} {wi : TI} {g : TG} {tt : TT} {te : TE} (hc : X.calm = true) (hN : X.N.Nodup) (hi : PI X tg iter wi) (ok : BlkOk X.N X.env.scope scope own)
    (hg : ∀ (s : Shared) (H : Hp) (C : Addr) (cl : List (PySem.Str × Addr)) (fp : List Addr), PG (X.blk s H scope (compEnvC scope cl C X.env) fp) tg g)
    (ht : ∀ (s : Shared) (H : Hp) (C : Addr) (cl : List (PySem.Str × Addr)) (fp : List Addr), PTs (X.blk s H scope (compEnvC scope cl C X.env) fp) ifs tt)
    (he : ∀ (s : Shared) (H : Hp) (C : Addr) (cl : List (PySem.Str × Addr)) (fp : List Addr), PE (X.blk s H scope (compEnvC scope cl C X.env) fp) elt te)
    (hs : ∀ x, foldedSetIterable iter X.env x = pure x := by intro _; rfl) : PE X (.SetComp elt [⟨tg, iter, ifs, 0⟩] scope pos) (tScG κ wi g tt te (own.map (·.2))) := by
  refine ⟨fun pins s σ H Q I h => ?_⟩
  have free_ok : ∀ y ∈ scope.names, y.2 = .free → ∃ c, X.env.cells.lookup y.1 = some c := fun y hy e => (ok.free y hy e).elim (fun k => I.ok.has _ (.inl k)) (fun k => I.ok.has _ (.inr k))
  rw [eval_SetComp]
  refine wpAny_comprehension_free (use := none) rfl hs (closure_ok free_ok) ok.kind (fun y hy e => by rw [ok.uniq y hy, e]) (thn (hi.run pins s σ H _ I h) fun xv s1 hx => thn hx fun itv s2 w2 => ?_)
  obtain ⟨it, fp, tn, J, H2, e0, I2, T, st2, f2, q⟩ := w2
  subst e0
  refine newSet_ok (newEnv_comp ?_)
  generalize eD' : s2.heap.objs.size = D
  have eD := eD'.symm
  obtain ⟨W, ⟨m0, w0⟩, turn⟩ := q D (I2.hok.fresh (Nat.le_of_eq eD.symm))
  generalize es3' : ({ s2 with heap := s2.heap.push { cls := .type "set", dict := none, data := .set #[] 0 (.fresh 0 0 (!X.w.params.followText "set-order")) } } : Shared) = s3
  have es3 := es3'.symm
  obtain ⟨H3, eH3⟩ : ∃ H3, H3 = upd H2 D (κ.o0 D) := ⟨_, rfl⟩
  rw [← eH3] at w0
  have I3 : Inv X pins σ H3 s3 := by
    rw [es3, eH3]
    refine I2.laid (t' := s2.toks) (fun b o e => Heap.get?_push_of_some _ e) (Nat.le_of_eq eD.symm) ?_
    rw [← eD']
    exact κ.new _ _
  have h3 : s3.heap = s2.heap.push { cls := .type "set", dict := none, data := .set #[] 0 (.fresh 0 0 (!X.w.params.followText "set-order")) } := by rw [es3]
  have f3 : ∀ b ∈ fp, FpOk X pins H3 b ∧ b < s3.heap.objs.size := fun b hb => by
    obtain ⟨o, e, _⟩ := T.obj _ _ st2 b hb
    have lt := Heap.lt_size e
    refine ⟨⟨?_, (f2 b hb).2⟩, by rw [h3, Heap.size_push]; exact Nat.lt_succ_of_lt lt⟩
    rw [eH3, upd_ne (by rw [← eD']; exact Nat.ne_of_lt lt)]
    exact (f2 b hb).1
  have st3 : tn 0 s3.heap := T.keep _ _ _ st2 fun b _ o e => by rw [h3]; exact Heap.get?_push_of_some _ e
  have I4 := block_start I3 ok hN f3
  obtain ⟨ce, ece⟩ : ∃ ce, ce = compEnvC scope (cellsFrom (s3.heap.objs.size + 1) scope.names (cloFrom X.env.cells scope.names [])) s3.heap.objs.size X.env := ⟨_, rfl⟩
  have pg := hg s3 H3 s3.heap.objs.size (cellsFrom (s3.heap.objs.size + 1) scope.names (cloFrom X.env.cells scope.names [])) fp
  have pt := ht s3 H3 s3.heap.objs.size (cellsFrom (s3.heap.objs.size + 1) scope.names (cloFrom X.env.cells scope.names [])) fp
  have pe := he s3 H3 s3.heap.objs.size (cellsFrom (s3.heap.objs.size + 1) scope.names (cloFrom X.env.cells scope.names [])) fp
  have cL : ce.locals = s3.heap.objs.size := by rw [ece]; rfl
  rw [← ece] at I4 pg pt pe
  show codeAny _ _ (.compStart (.SetComp elt [⟨tg, iter, ifs, 0⟩] scope pos) 0 (.ref it) (.ref D) (compEnvC scope (cellsFrom (s3.heap.objs.size + 1) scope.names (cloFrom X.env.cells scope.names [])) s3.heap.objs.size X.env)) (compPost (model X.prog X.w) X.A X.xe none _ (.ref D) s3.heap.objs.size) { s3 with heap := pushCells (s3.heap.push { cls := .type "dict", data := .dict #[] }) scope.names }
  rw [← ece]
  obtain ⟨s4, es4⟩ : ∃ s4 : Shared, s4 = { s3 with heap := pushCells (s3.heap.push { cls := .type "dict", data := .dict #[] }) scope.names } := ⟨_, rfl⟩
  rw [← es4] at I4 ⊢
  have st4 : tn 0 s4.heap := T.keep _ _ _ st3 fun b _ o e => by rw [es4]; exact pushCells_keeps _ _ _ _ (Heap.get?_push_of_some _ e)
  have stat : ∀ {τ : L2.St} {H' : Hp} {s' : Shared}, Inv (X.blk s3 H3 scope ce fp) [] τ H' s' → (∀ b ∈ fp, H' b = none) → ∀ b ∈ fp, FpOk (X.blk s3 H3 scope ce fp) [] H' b := fun {τ H' s'} I' hn b hb =>
    ⟨hn b hb, (I'.ok.exf b hb).1, I'.ok.exfs b hb, .inl hb, fun x c e => (I'.ok.exf b hb).2 x c e, fun p hp => absurd (show p ∈ ([] : List (Addr × Obj)) ++ [] from hp) (by simp)⟩
  have loop : codeAny (model X.prog X.w) X.A (.compLoop (.SetComp elt [⟨tg, iter, ifs, 0⟩] scope pos) 0 (.ref it) (.ref D) ce) (compPost (model X.prog X.w) X.A X.xe none (EP X pins σ Q) (.ref D) s3.heap.objs.size) s4 := by
    refine compLoopS_any (fun n s' => ∃ i H', Inv (X.blk s3 H3 scope ce fp) [] (wipe σ (own.map (·.2))) H' s' ∧ tn i s'.heap ∧ (∀ b ∈ fp, H' b = none) ∧ W i n H') ?_ m0 ⟨0, H3, I4, st4, fun b hb => (f3 b hb).1.1, w0⟩
    rintro n s5 ⟨i, H5, I5, st5, n5, w5⟩
    rcases turn i n H5 w5 with ⟨stop, qq⟩ | ⟨go, N, hN', step⟩
    · refine thnF (T.done (X.blk s3 H3 scope ce fp) rfl rfl rfl hc i [] s5 _ H5 (fun _ _ => False) I5 (stat I5 n5) st5 stop) fun r s6 ⟨er, I6⟩ => ?_
      subst er
      have I7 : Inv X pins σ H5 s6 := I3.call' (ch := fp) I6.os I6.base I6.hok I6.bare fun b hb => by
        obtain ⟨⟨_, x1, x2, x3, x4, x5⟩, _⟩ := f3 b hb
        exact ⟨x3, x1, x4, x5⟩
      have nC : H5 s3.heap.objs.size = none := cL ▸ I6.free
      obtain ⟨m, hn, _⟩ := I6.loc
      have hn : s6.heap.Ns ce.locals m := hn
      rw [cL] at hn
      obtain ⟨y0, y1, y2, y3, y4, y5⟩ := I3.fpOk (Nat.le_refl _) nC
      exact ⟨m, hn, fun h'' sb => ⟨.ref D, H5, I7.turned (t' := s6.toks) (fun b o hb e => (sb.2 b hb).trans e) y0 y1 y3 y4 y5, rfl, qq⟩⟩
    · refine thnF (T.item (X.blk s3 H3 scope ce fp) rfl rfl rfl hc i [] s5 _ H5 (fun _ _ => False) I5 (stat I5 n5) st5 go) fun r s6 ⟨u, er, h6⟩ => ?_
      subst er
      refine thnF h6 fun _ s7 ⟨x, H7, I7, r7, y7, st7, n7⟩ => ?_
      refine thnF (pg.run _ s7 _ H7 x u _ (I7.pinned (stat I7 n7) (T.obj _ _ st7)) r7 (step x H7 y7)) fun _ s8 ⟨τ, H8, I8, hw8, q8⟩ => ?_
      refine thnF (pt.run _ s8 τ H8 _ I8 q8) fun b s9 ⟨H9, I9, q9⟩ => ?_
      have close : ∀ {s' : Shared} {H' : Hp}, Inv (X.blk s3 H3 scope ce fp) ([] ++ pinsAt fp s7.heap) τ H' s' → N H' → ∃ m, m < n ∧ ∃ i H', Inv (X.blk s3 H3 scope ce fp) [] (wipe σ (own.map (·.2))) H' s' ∧ tn i s'.heap ∧ (∀ b ∈ fp, H' b = none) ∧ W i m H' := fun {s' H'} I' nx => by
        obtain ⟨m', lt, w'⟩ := hN' H' nx
        have held : ∀ b ∈ fp, ∀ o, s7.heap.get? b = some o → s'.heap.get? b = some o ∧ H' b = none := fun b hb o e =>
          let z := I'.pin (b, o) (List.mem_append_right _ (List.mem_append_right _ (mem_pinsAt hb e)))
          ⟨z.1, z.2.1⟩
        refine ⟨m', lt, i + 1, H', (I'.unpinned (pins := [])).weak (by rw [← hw8, wipe_length]) (fun j v e => (wipe_some (hw8 ▸ e)).1), T.keep _ _ _ st7 fun b hb o e => (held b hb o e).1, fun b hb => ?_, w'⟩
        obtain ⟨o, e, _⟩ := T.obj _ _ st7 b hb
        exact (held b hb o e).2
      cases b with
      | false =>
        rw [if_neg Bool.false_ne_true] at q9 ⊢
        exact close I9 q9
      | true =>
        rw [if_pos rfl] at q9 ⊢
        exact thnF (pe.run _ s9 τ H9 _ I9 q9) fun z s10 ⟨yv, H10, I10, r10, a10⟩ => κ.put (X.blk s3 H3 scope ce fp) rfl rfl I10 r10 a10 fun H' s' I11 nx => close I11 nx
  exact codeAny_compStart_set loop (T.self X.A 0 _ _ _ st4 loop)
end
section
variable {P : Program} {w : World}
/-- a fresh set of ints and texts at a -/
theorem set0 (h : Heap) : (h.push { cls := .type "set", dict := none, data := .set #[] 0 (.fresh 0 0 (!w.params.followText "set-order")) }).SetOf (mixKind P w) h.objs.size (fun _ => false) 0 :=
  ⟨_, #[], 0, _, Heap.get?_push_size _ rfl, ⟨rfl, rfl, rfl⟩, rfl, (fun e he => by simp at he), (fun k => by simp), (by decide), (by rfl), rfl⟩
/-- sets of ints and texts -/
noncomputable def keyKind (P : Program) (w : World) : Kind P w where
  o0 := fun a => SetK P w a (fun _ => false) 0
  add := fun y H D N => ∃ (k : Key) (S : Key → Bool) (n : Nat), y = kV k ∧ H D = some (SetK P w D S n) ∧ n + 1 < scanBound ∧ N (upd H D (SetK P w D (fun j => S j || decide (j = k)) (if S k = true then n else n + 1)))
  new := fun H h => setK_new (set0 h)
  put := by
    rintro Y rfl rfl pins σ H s E Q D y z N I r ⟨k, S, n, rfl, hD, room, nx⟩ go
    refine call_set_add (kV_is r) (key_scan r) (setK_get I hD) room fun h' sb new => go _ _ (I.write (e := D) (t' := s.toks + 1) (by rw [hD]; trivial) (.inl rfl) (fun b u hb hu => (sb.2 b hb).trans hu) ?_ (setK_new new)) nx
    obtain ⟨o, _, _, _, ho, _⟩ := new
    exact ⟨o, ho⟩
end
section
variable {X : Cx}
/-- len of such a set -/
theorem call_len_setK : CallR X (.builtin "len") (fun xs H Q => ∃ (a : Addr) (S : Key → Bool) (n : Nat), xs = [.ref a] ∧ H a = some (SetK X.prog X.w a S n) ∧ n < 1000000 ∧ Q (.int (n : Nat)) H) := by
  intro pins s σ H xs us Q I r h
  obtain ⟨a, S, n, rfl, ha, hn, q⟩ := h
  obtain ⟨u, rfl, ru⟩ := vals1 r
  cases ru
  obtain ⟨o, es, ep, t, ho, hx, hd, h1, h2, h3, h4, h5⟩ := setK_get I ha
  subst h5
  refine call_len_set ho hx hd h4 (by omega) ⟨.int (es.size : Nat), H, I.kept (t' := s.toks + 1 + 1) fun _ _ z => z, ⟨_, rfl⟩, q⟩
end
/-- a walk that fills such a set -/
theorem scg_it {P : Program} {w : World} {κ : Kind P w} {J : It} {n : Nat} {G : Hp → Prop} {Y : Nat → Hp → V → Hp → Prop} (wk : Walk J n G Y) {g : TG} {tt : TT} {te : TE} {vs : List Nat} {σ : L2.St} {H1 : Hp} {D : Addr} {R : Hp → Prop} (Pv : Nat → Hp → Prop)
    (h0 : Pv 0 (upd H1 D (κ.o0 D))) (hG : ∀ i H, i ≤ n → Pv i H → G H)
    (hs : ∀ i x H H', i < n → Pv i H → Y i H x H' → g x (wipe σ vs) H' fun τ H2 => wipe τ vs = wipe σ vs ∧ tt τ H2 fun b H3 => if b = true then te τ H3 fun y H4 => κ.add y H4 D (Pv (i + 1)) else Pv (i + 1) H3) (hd : ∀ H, Pv n H → R H) :
    ∃ W : Nat → Nat → Hp → Prop, (∃ m, W 0 m (upd H1 D (κ.o0 D))) ∧ ∀ i m H, W i m H → (J.stop i H ∧ R H) ∨
      (J.go i H ∧ ∃ N : Hp → Prop, (∀ H', N H' → ∃ m', m' < m ∧ W (i + 1) m' H') ∧ ∀ x H', J.yld i H x H' → g x (wipe σ vs) H' fun τ H2 => wipe τ vs = wipe σ vs ∧ tt τ H2 fun b H3 =>
        if b = true then te τ H3 fun y H4 => κ.add y H4 D N else N H3) := by
  refine ⟨fun i m H => m = n - i ∧ i ≤ n ∧ Pv i H, ⟨n, rfl, Nat.zero_le _, h0⟩, ?_⟩
  rintro i m H ⟨rfl, hi, p⟩
  rcases Nat.lt_or_eq_of_le hi with lt | rfl
  · exact .inr ⟨wk.goes i H lt (hG i H hi p), Pv (i + 1), fun H' p' => ⟨n - (i + 1), by omega, rfl, lt, p'⟩, fun x H' y => hs i x H H' lt p (wk.yields i H x H' lt (hG i H hi p) y)⟩
  · exact .inl ⟨wk.stops H (hG _ H hi p), hd H p⟩
end Mine
set_option Elab.async false
set_option linter.all false
set_option maxRecDepth 100000
set_option maxHeartbeats 4000000
/-! A tuple times a number, also 0 and 1. -/
namespace Mine
open PySem PySem.Spec PyProof.Rows L2
theorem tuple_mul_zero (l : Addr) (items : Array Value) (n : Nat) (dd : Option Addr) (sl : Array (Option Value)) (u : Tok) (c1 : (items.isEmpty || (0 : Int) == 1) = false) :
    Meets (Builtin.«tuple.__mul__» ⟨[.ref l, .int 0 u], []⟩) (fun _ R s => s.heap.get? l = some { cls := .type "tuple", dict := dd, data := .seq items n, slots := sl } ∧
      R (.ok (.ret (Value.ref s.heap.objs.size))) { s with heap := s.heap.push { cls := Value.type "tuple", data := Data.seq #[] }, toks := s.toks }) :=
  .of_wp fun prog w A R s h => by
    obtain ⟨hp, g, d, tk, os⟩ := s
    obtain ⟨hl, h⟩ := h
    have f1 := AutoSeq1.idx_int
    wp_walk using wpAny_loadPart' hl
    repeat (first
      | (refine wpAny_ite_false (by decide) ?_; wp_walk using wpAny_loadPart' hl)
      | (refine wpAny_ite_false (decide_eq_false (by rw [c1]; exact Bool.false_ne_true)) ?_; wp_walk using wpAny_loadPart' hl))
    exact ⟨_, rfl, h⟩
theorem tuple_mul_one (l : Addr) (items : Array Value) (n : Nat) (dd : Option Addr) (sl : Array (Option Value)) (u : Tok) :
    Meets (Builtin.«tuple.__mul__» ⟨[.ref l, .int 1 u], []⟩) (fun _ R s => s.heap.get? l = some { cls := .type "tuple", dict := dd, data := .seq items n, slots := sl } ∧
      R (.ok (.ret (Value.ref l))) s) :=
  .of_wp fun prog w A R s h => by
    obtain ⟨hp, g, d, tk, os⟩ := s
    obtain ⟨hl, h⟩ := h
    have f1 := AutoSeq1.idx_int
    have c1 : (items.isEmpty || (1 : Int) == 1) = true := by rw [Bool.or_eq_true]; exact .inr rfl
    wp_walk using wpAny_loadPart' hl
    repeat (first
      | (refine wpAny_ite_false (by decide) ?_; wp_walk using wpAny_loadPart' hl)
      | (refine wpAny_ite_true (decide_eq_true c1) ?_; wp_walk using wpAny_loadPart' hl))
    exact ⟨_, rfl, h⟩
noncomputable def rRepA (K : PySem.W.Frag) : R2 := fun x y H Q => ∃ l k xs, x = .ref l ∧ y = .int k ∧ SqT K H l xs ∧ xs ≠ [] ∧ 0 ≤ k ∧ k ≤ 1000 ∧ xs.length ≤ 1000 ∧ ∀ p H', Same H H' → SqT K H' p (List.replicate k.toNat xs).flatten → Q (.ref p) H'
theorem op_repA {X : Cx} : OpR X (binaryOp .Mult) (rRepA X.K) := by
  intro pins s σ H x y v u Q I rx ry h
  obtain ⟨l, k, xs, rfl, rfl, hT, hne, h0, h2, hz, q⟩ := h
  by_cases h1 : 2 ≤ k
  · refine op_repT pins s σ H _ _ v u Q I rx ry ⟨l, k, xs, rfl, rfl, hT, hne, h1, h2, hz, fun p hp => q p _ (Gm.same_new hp _) (SqT.of upd_same)⟩
  cases rx
  obtain ⟨t, rfl⟩ := ry
  obtain ⟨its, r, ⟨⟨cls, dd, data, sl⟩, ho, hc, n, hd⟩, hs⟩ := I.tuple hT
  simp only at hc hd
  subst hc hd
  have hn : its ≠ [] := fun e => hne (by
    subst e
    cases r
    rfl)
  have c1 : (its.toArray.isEmpty || (0 : Int) == 1) = false := by
    cases its with
    | nil => exact absurd rfl hn
    | cons a b => rfl
  have k01 : k = 0 ∨ k = 1 := by omega
  rcases k01 with rfl | rfl
  · refine wpAny_binaryOp_repeat_ref (T := "tuple") (U := "int") (by decide) ⟨_, ho, rfl⟩ (fun s' => typeIs_int s' 0 t) noFill_tuple_mul F.fills_int_mul F.slot_int_rmul repeat_tuple F.slot_int_index.lookup
      (call_meets F.slot_int_rmul (typeIs_int s 0 t) F.entry_int_rmul (F.args_int_rmul_2 _ _) (int_rmul_tuple 0 t l its.toArray n dd sl)
        ⟨ho, rfl, ⟨_, ho, rfl⟩, call_meets F.slot_tuple_mul ⟨_, ho, rfl⟩ F.entry_tuple_mul (F.args_tuple_mul_2 _ _) (tuple_mul_zero l its.toArray n dd sl t c1) ⟨ho, ?_⟩⟩)
    have fr := I.hok.fresh (Nat.le_refl _)
    refine ⟨.ref s.heap.objs.size, _, I.laid (t' := s.toks) (o := .tup []) (fun b ob q => Heap.get?_push_of_some _ q) (Nat.le_refl _) ?_, rfl, q _ _ (Gm.same_new fr _) (SqT.of upd_same)⟩
    exact ⟨by decide, [], .nil, IsTup.new _ _⟩
  · refine wpAny_binaryOp_repeat_ref (T := "tuple") (U := "int") (by decide) ⟨_, ho, rfl⟩ (fun s' => typeIs_int s' 1 t) noFill_tuple_mul F.fills_int_mul F.slot_int_rmul repeat_tuple F.slot_int_index.lookup
      (call_meets F.slot_int_rmul (typeIs_int s 1 t) F.entry_int_rmul (F.args_int_rmul_2 _ _) (int_rmul_tuple 1 t l its.toArray n dd sl)
        ⟨ho, rfl, ⟨_, ho, rfl⟩, call_meets F.slot_tuple_mul ⟨_, ho, rfl⟩ F.entry_tuple_mul (F.args_tuple_mul_2 _ _) (tuple_mul_one l its.toArray n dd sl t) ⟨ho, ?_⟩⟩)
    refine ⟨.ref l, H, I, rfl, q _ _ (Same.refl _) ?_⟩
    show SqT X.K H l (xs ++ [])
    rw [List.append_nil]
    exact hT
end Mine
set_option Elab.async false
set_option linter.all false
set_option maxRecDepth 100000
set_option maxHeartbeats 4000000
/-! An own error under ValueError whose __init__ begins with super().__init__(e): its __init__ as a def that keeps a promise (pmk_oex makes of it the rule of C(e, ..)). -/
namespace Mine
open PySem PySem.Calls L2 NdefX PyProof.Rows
section
variable {X : Cx} {pins : List (Addr × Obj)} {σ : L2.St} {H : Hp} {s : Shared} {A : Around} {E : Value → Shared → Prop}
/-- the built-in __init__, bound to an exception that is being made, is called -/
theorem call_mw {a C u : Addr} {us : List Value} {Q : Value → Shared → Prop} (T : OexC X.K C) (I : Inv X pins σ H s) (e : H a = some (exo a C none)) (hu : s.heap.get? u = some (PySem.W.kxs_mw "ValueError.__init__" a)) (hl : us.length ≤ sizeLine)
    (h : ∀ s', Inv X pins σ H s' → Q .none s') : wpAny (model X.prog X.w) A (call (.ref u) us) Q E s := by
  obtain ⟨nm, q, N, bs, bm, sn, sub, ab, col, dd, k0, k1, k2, k3, k5, hC, hbm⟩ := T.cls
  obtain ⟨t1, ho⟩ := exo_at I.hok e
  have hCh := I.kIn _ _ hC
  obtain ⟨hp, g, d, t, os⟩ := s
  refine wpAny_call (codeAny_of_tree ?_)
  show wpAny _ A.in1 (callAny (.ref u) ⟨us, []⟩) _ _ _
  simp only [callAny]
  refine wpAny_bind (wpAny_load hu ?_)
  simp only [PySem.W.kxs_mw, show (Value.type "method-wrapper" == Value.type "method" || Value.type "method-wrapper" == Value.type "builtin_function_or_method" || Value.type "method-wrapper" == Value.type "method-wrapper") = true by decide, if_true]
  refine PySem.W.KFB.if_so (by decide) ?_
  refine wpAny_bind (PySem.W.check_bound_init F.excBase_ValueError.toExcCallFacts hCh ho rfl ?_)
  refine wpAny_bind (wpAny_pure (wpAny_pure ?_))
  refine ⟨plainId_quiet F.excBase_ValueError.init.plain _, codeAny_builtin F.excBase_ValueError.initEntry ?_⟩
  refine PySem.W.exc_init_tree (cls := .ref C) (t0 := t1) (dv := none) (c2 := .none) (c3 := .none) (b4 := .bool false) ho hl fun h' k hx _ => ?_
  have J := I.write (t' := t) (x := a) (e := a) (o := exo a C none) (by rw [e]; exact True.intro) (.inl rfl) k ⟨_, hx⟩ (exo_ok hx)
  have eu : upd H a (exo a C none) = H := by
    funext b
    by_cases hb : b = a
    · rw [hb, upd_same, e]
    · rw [upd_ne hb]
  rw [eu] at J
  exact h _ J
end
section
variable {CX : CXT} {P : Program} {w : World} {K : PySem.W.Frag} {mg : Str → Option Value} {base : Heap} {k : Nat} {f cda cc D : Addr} {name qual self : Str} {params : Arguments} {scope : Scope} {dV kV doc pm ct oc ccl cl : Value} {an od cdd cld : Option Addr}
  {osl ccs csl : Array (Option Value)} {vs0 : Array Value} {file : Str} {tf : Tok} {N ps0 : List Str} {sp : Sp} {p0 p1 p2 p3 p4 : Pos} {arg : Expr} {rest : List Stmt} {ar : Arg} {cdD : ClassData}
theorem one_look {n y : Str} {c0 c : Addr} (h : ([(n, c0)] : List (Str × Addr)).lookup y = some c) : y = n ∧ c = c0 := by
  unfold List.lookup at h
  split at h
  · rename_i e
    exact ⟨eq_of_beq e, (Option.some.inj h).symm⟩
  · cases h
/-- what the written part says of such an __init__ -/
structure SupIn (K : PySem.W.Frag) (D cda cc : Addr) : Prop where
  code : ∃ ccl cdd vs0 ccs file tf, K.lookup cda = some (⟨ccl, cdd, .fields vs0, ccs⟩ : Obj) ∧ vs0[2]? = some (Value.str file tf)
  cell : ∃ cl cld csl, K.lookup cc = some (⟨cl, cld, .cell (some (.ref D)), csl⟩ : Obj)
  any : PySem.W.nsIn K cStatics "thirdparty.any" = some none
  sup : PySem.W.ks_superIn K D D "__init__" = some (some (.builtin "ValueError.__init__"))
  subV : PySem.W.subIn K (.ref D) (.type "ValueError") = some true
  mro : PySem.W.mroIn K D (.ref D) = some true
theorem fn_super (lk : K.lookup f = some ⟨oc, od, .func (PySem.W.ksFn name qual params (.Expr (.Call (.Attribute (.Call (.Name "super" p0) [] [] p1) "__init__" p2) [arg] [] p3) p4 :: rest) scope dV kV doc pm an (.ref cda) ct cc), osl⟩)
    (hcd : PySem.W.codeIn K (.ref cda) qual = true) (S : NScope N (self :: ps0) ["__class__"] scope) (TO : OexC K D)
    (hcode : K.lookup cda = some ⟨ccl, cdd, .fields vs0, ccs⟩) (hvs : vs0[2]? = some (.str file tf)) (hfile : ((P.main.file : Str) == file) = true)
    (hcell : K.lookup cc = some ⟨cl, cld, .cell (some (.ref D)), csl⟩) (any : PySem.W.nsIn K cStatics "thirdparty.any" = some none)
    (sup : PySem.W.ks_superIn K D D "__init__" = some (some (.builtin "ValueError.__init__"))) (subV : PySem.W.subIn K (.ref D) (.type "ValueError") = some true) (mro : PySem.W.mroIn K D (.ref D) = some true)
    (hpar : (params.posonlyargs ++ params.args).head? = some ar) (har : ar.arg = self) (hks : scope.names.lookup ("super" : Str) = some .globalImplicit) (htop : (P.main.scope.names.lookup ("super" : Str)).isSome = false) (hsuper : mg "super" = none)
    (he : ∀ env, starEach [arg] env = [(false, eval arg env)] := by intro _; rfl) (hsw : ∀ L, swapsWith (.Call (.Attribute (.Call (.Name "super" p0) [] [] p1) "__init__" p2) [arg] [] p3) none p4.line (PySem.W.ksEnv qual scope L f (.ref cda) cc) = pure false := by intro _; rfl)
    {pl : Env → Sem Bool} (hev : ∀ env, eval (.Call (.Attribute (.Call (.Name "super" p0) [] [] p1) "__init__" p2) [arg] [] p3) env = (do
      let ov ← attributeBase (.Call (.Name "super" p0) [] [] p1) "__init__" env (eval (.Call (.Name "super" p0) [] [] p1) env)
      standAt p2.atName
      let (f, first) ← holding [ov] (getMethod ov "__init__" (pl env))
      callWith p3 f first (backTo p3 (starEach [arg] env)) []) := by intro _; rfl)
    (len : ∀ vs H Q E, sp vs H Q E → vs.length = (self :: ps0).length)
    (hbody : ∀ (A : Around) (outer : List Env) (s : Shared) (H : Hp) (vs : List V) (Q : VK) (E : XK), Room k (A.deeper (PySem.W.ksEnv qual scope s.heap.objs.size f (.ref cda) cc)) → sp vs H Q E →
      ∃ (a : Addr) (vr : List V) (ta : TA) (t : TS), vs = .ref a :: vr ∧ H a = some (exo a D none) ∧
        PA (ncx CX P w K mg base N ⟨name, qual, params, .Expr (.Call (.Attribute (.Call (.Name "super" p0) [] [] p1) "__init__" p2) [arg] [] p3) p4 :: rest, scope, [("__class__", cc)], cda⟩ f A outer s H E) [arg] ta ∧
        PSs (ncx CX P w K mg base N ⟨name, qual, params, .Expr (.Call (.Attribute (.Call (.Name "super" p0) [] [] p1) "__init__" p2) [arg] [] p3) p4 :: rest, scope, [("__class__", cc)], cda⟩ f A outer s H E) rest t ∧
        ta (startF N vs [none]) H fun ws H1 => ws.length ≤ 1000 ∧ H1 a = some (exo a D none) ∧ t { nx := fun _ H' => Q .non H', rt := Q } (startF N vs [none]) H1) :
    FnOk P w K mg base CX (k + 1) f (PySem.W.ksFn name qual params (.Expr (.Call (.Attribute (.Call (.Name "super" p0) [] [] p1) "__init__" p2) [arg] [] p3) p4 :: rest) scope dV kV doc pm an (.ref cda) ct cc) (self :: ps0) sp := by
  refine ⟨len, fun A outer s H args us vs Q E hr e0 hb r hsp => ?_⟩
  have hl := len _ _ _ _ hsp
  have KX : K.In s.heap := e0.mod.kin.keeps fun b o e => (e0.bs b o e).1
  have lim : s.heap.NoLimit := e0.mod.nolimit.keeps fun b o e => (e0.bs b o e).1
  refine PySem.ks_codeAny_call_defAt hr.depth (KX _ _ lk) rfl lim (PySem.W.codeRec_of KX hcd) rfl hb (fun x hx => S.nocell x hx) (fun ⟨n, v⟩ hy => S.par n (List.of_mem_zip hy).1) (fun h₁ hns kp => ?_) S.co S.gen S.kind
  obtain ⟨a, vr, ta, t, ev, ea, hA, hS, hta⟩ := hbody A outer s H vs Q E (hr.deeper _) hsp
  have C : CellsAt [("__class__", cc)] ["__class__"] [none] s.heap H := by
    have cb := e0.bs _ _ (e0.mod.kin _ _ hcell)
    refine ⟨rfl, fun y c e => ?_, fun x y c e1 e2 => ?_, fun i y e => ?_⟩
    · obtain ⟨_, rfl⟩ := one_look e
      exact ⟨cb.2, _, _, cb.1, rfl⟩
    · rw [(one_look e1).1, (one_look e2).1]
    · cases i with
      | zero =>
        have : y = "__class__" := (Option.some.inj e).symm
        subst this
        exact ⟨cc, rfl, fun v z => by cases z⟩
      | succ i => simp at e
  have I := inv_startN (F := ⟨name, qual, params, .Expr (.Call (.Attribute (.Call (.Name "super" p0) [] [] p1) "__init__" p2) [arg] [] p3) p4 :: rest, scope, [("__class__", cc)], cda⟩) (f := f) (CX := CX) (E := E) (tk := s.toks + ((self :: ps0).zip us).length) S hr.hd e0 hl r C hns kp
  have hN0 : N[0]? = some self := by
    have q := S.pre
    cases N with
    | nil => simp at q
    | cons n N' =>
      have q2 : n :: N'.take (ps0.length + 1) = self :: (ps0 ++ [("__class__" : Str)]) := q
      exact congrArg some (List.cons.inj q2).1
  have hself : ∃ m, h₁.Ns s.heap.objs.size m ∧ m self = some (.ref a) := by
    obtain ⟨m, hn, hlk⟩ := I.loc
    obtain ⟨u, ru, L⟩ := hlk 0 self (.ref a) hN0 (by subst ev; rfl) (.inl (S.par self List.mem_cons_self))
    obtain rfl : u = .ref a := ru
    rcases L with ⟨_, e⟩ | ⟨z | z, _⟩
    · exact ⟨m, hn, e⟩
    · have := S.par self List.mem_cons_self
      rw [show scope.names.lookup self = some .cell from z] at this
      cases this
    · have := S.par self List.mem_cons_self
      rw [show scope.names.lookup self = some .free from z] at this
      cases this
  obtain ⟨m, hm, hms⟩ := hself
  obtain ⟨mb, b1, b2⟩ := I.mod.blt
  obtain ⟨nm, q, NN, bs, bm, sn, sub, ab, col, dd, k0, k1, k2, k3, k5, hC, hbm⟩ := TO.cls
  have hDc : PySem.W.clsIn K D = some { name := nm, bases := bs, mro := .ref D :: bm, ns := NN, qualname := q, hasDict := true, slotNames := sn, subclasses := sub, abstract := ab, collection := col, hasDel := false } := by unfold PySem.W.clsIn; rw [hC] <;> rfl
  obtain ⟨t1, ho⟩ := exo_at I.hok ea
  have KH := I.kIn
  have hkc : scope.names.lookup ("__class__" : Str) = some .free := S.frk _ (List.mem_singleton.mpr rfl)
  have hint : ∀ L, interactive (PySem.W.ksEnv qual scope L f (.ref cda) cc) = false := fun L => by
    unfold interactive
    rw [show (PySem.W.ksEnv qual scope L f (.ref cda) cc).scope.kind = .function from S.kind]
    rfl
  refine PySem.ks_wpAt_execs_cons (PySem.ks_wpAt_Expr_any (PySem.ks_wpAt_MethodCall ?_ (hev _)) (hint _) (hsw _))
  refine PySem.ks_wpAt_super_base (ar := ar) hks hkc (by decide) rfl (KH _ _ lk) rfl hpar rfl (KH _ _ hcode) rfl hvs hfile htop ?_
  refine PySem.W.ks_loadName_global S.kind hks (Calls.loadGlobal_builtin (I.mod.glob.keeps I.bk) hsuper (b1.keeps I.bk) ((b2 "super" (by decide)).trans (by decide +kernel)) ⟨rfl, ?_⟩)
  refine wpAny_loadName_free S.kind hkc rfl ⟨_, KH _ _ hcell, rfl⟩ ?_
  refine wpAny_loadName_local S.kind (show scope.names.lookup ar.arg = some .local by rw [har]; exact S.par self List.mem_cons_self) hm (by rw [har]; exact hms) ?_
  refine PySem.ks_wpAny_isType_cls (KH _ _ hC) rfl ⟨rfl, ?_⟩
  refine PySem.ks_wpAny_call_super (KH _ _ hC) rfl ho rfl (fun c e => by cases e) (PySem.W.looks_mroIn KH mro) (fun h' e2 k2 => ?_)
  have I2 := I.kept (t' := s.toks + ((self :: ps0).zip us).length) k2
  obtain ⟨t2, ho2⟩ := exo_at I2.hok ea
  have IA : PySem.W.InstAt h' a ({ cls := .ref D, dict := none, data := .fields #[.ref t2, .none, .none, .none, .bool false, .none] } : Obj) D none := ⟨ho2, rfl, rfl, trivial⟩
  have KH2 : K.In h' := I2.kIn
  have supA : PySem.W.alongIn K "__init__" (((Value.ref D :: bm).dropWhile (· != .ref D)).drop 1) = some (some (.builtin "ValueError.__init__")) := by
    have z := sup
    unfold PySem.W.ks_superIn at z
    rw [hDc] at z
    exact z
  refine PySem.W.kxs_getMethod PySem.W.kxs_ValueError e2 (PySem.W.looks_opaque KH2 any) (l₀ := Value.ref D :: bm) (fun A Q E s k q => wpAny_bind ((PySem.W.looks_clsIn KH2 hDc) A _ E s k (wpAny_pure q))) rfl KH2 supA (IA.type.andThen (PySem.W.looks_subIn KH2 subV)) (PySem.W.ks_ne KH2 IA hDc) (by decide) ?_
  have I3 := I2.kept (h' := h'.push (PySem.W.kxs_mw "ValueError.__init__" a)) (t' := s.toks + ((self :: ps0).zip us).length + 1) (fun b u e => Heap.get?_push_of_some _ e)
  have I4 := I3.pins_of (pins' := [(h'.objs.size, PySem.W.kxs_mw "ValueError.__init__" a)]) (fun p hp => by
    obtain rfl : p = (h'.objs.size, PySem.W.kxs_mw "ValueError.__init__" a) := List.mem_singleton.mp hp
    exact ⟨Heap.get?_push_at rfl rfl, I2.hok.fresh (Nat.le_refl _), fun z => absurd I2.lt (by rw [← z]; exact Nat.lt_irrefl _), I2.nofs (Nat.le_refl _), fun v z => by cases z⟩)
  have hA4 := hA.run p3 _ _ _ _ _ I4 hta
  rw [he] at hA4 ⊢
  refine PySem.W.kxs_callWith (i := "ValueError.__init__") (x := a) rfl ?_
  refine evalArgs_plain (thn hA4 fun us4 s4 ⟨ws, H1, I5, r5, hz, ea5, ht⟩ => ⟨(I5.pin _ (List.mem_append_right _ (List.mem_singleton.mpr rfl))).1, ?_⟩)
  have hlen : us4.length ≤ sizeLine := by
    rw [← Paired.length r5, sizeLine_eq]
    omega
  refine call_mw TO I5 ea5 (I5.pin _ (List.mem_append_right _ (List.mem_singleton.mpr rfl))).1 hlen fun s5 J => ?_
  refine wpAt_of_wpAny (wpAny_mono (hS.run _ s5 _ _ _ J ht) (fun fl s' hs => ?_) fun e s' hs => hs)
  have fin : ∀ {σ' : L2.St} {H' : Hp} {v : V} {u : Value} {pn : List (Addr × Obj)}, Inv (ncx CX P w K mg base N ⟨name, qual, params, .Expr (.Call (.Attribute (.Call (.Name "super" p0) [] [] p1) "__init__" p2) [arg] [] p3) p4 :: rest, scope, [("__class__", cc)], cda⟩ f A outer s H E) pn σ' H' s' → L2.RelV v u → Q v H' → CE outer P w H s Q u s' :=
    fun {σ' H' v u pn} J rv q => ⟨v, H', J.os, J.bare, J.base, J.hok, rv, q⟩
  cases fl with
  | ret u =>
    obtain ⟨v, σ', H', J, rv, q⟩ := hs
    exact fin J rv q
  | next =>
    obtain ⟨σ', H', J, q⟩ := hs
    exact fin (v := V.non) (u := Value.none) J rfl q
  | brk =>
    obtain ⟨_, _, _, q⟩ := hs
    exact False.elim q
  | cont =>
    obtain ⟨_, _, _, q⟩ := hs
    exact False.elim q
end
end Mine
set_option Elab.async false
set_option linter.all false
set_option maxRecDepth 100000
set_option maxHeartbeats 4000000
/-! class E(..): def __init__(self, x): super().__init__(f"..{x}.."); self.f = x, E under ValueError: C(e) as a rule. -/
namespace Mine
open PySem PySem.Calls L2 NdefX PyProof.Rows
structure ErrF (K : PySem.W.Frag) (mg : Str → Option Value) (C f : Addr) (fd : FuncData) (qual : Str) (st : Stmt) (file fld : Str) : Prop where
  ex : ∃ (oc : Value) (od : Option Addr) (osl : Array (Option Value)) (dV kV doc pm : Value) (an : Option Addr) (cda : Addr) (ct : Value) (cc : Addr) (ccl : Value) (cdd : Option Addr) (ccs : Array (Option Value)) (vs0 : Array Value) (tf : Tok) (cl : Value) (cld : Option Addr) (csl : Array (Option Value)),
    fd = PySem.W.ksFn "__init__" qual (defArgs st) (defBody st) (defScope st) dV kV doc pm an (.ref cda) ct cc ∧ K.lookup f = some ⟨oc, od, .func fd, osl⟩ ∧ PySem.W.codeIn K (.ref cda) qual = true ∧
    K.lookup cda = some ⟨ccl, cdd, .fields vs0, ccs⟩ ∧ vs0[2]? = some (.str file tf) ∧ K.lookup cc = some ⟨cl, cld, .cell (some (.ref C)), csl⟩
  any : PySem.W.nsIn K cStatics "thirdparty.any" = some none
  sup : PySem.W.ks_superIn K C C "__init__" = some (some (.builtin "ValueError.__init__"))
  subV : PySem.W.subIn K (.ref C) (.type "ValueError") = some true
  mro : PySem.W.mroIn K C (.ref C) = some true
  T : OexC K C
  iC : PySem.W.findIn K (.ref C) "__init__" = some (some (.ref f))
  tI : PySem.W.typeIn K (.ref f) = some (.type "function")
  no : PySem.W.findIn K (.ref C) fld = some none
  z : mg "super" = none
/-- the program's own file -/
def PrF (P : Program) (file : Str) : Prop := ((P.main.file : Str) == file) = true ∧ (P.main.scope.names.lookup ("super" : Str)).isSome = false
theorem len_app {a b : Str} {m n : Nat} (ha : a.length ≤ m) (hb : b.length ≤ n) : (a ++ b).length ≤ m + n := by rw [Str.length_append]; exact Nat.add_le_add ha hb
theorem int_len {i : Int} (hi : i.natAbs < 2 ^ 64) : (Str.ofString (toString i)).length ≤ 65 ∧ i.natAbs.log2 < 1920 := by
  have h := PySem.Flt.log2_lt_of (k := 64) (by decide) hi
  refine ⟨?_, Nat.lt_of_lt_of_le h (by decide)⟩
  rw [PySem.ofString_length]
  exact int_text_length_le (k := 64) (by decide) h
theorem emp_len : Str.empty.length ≤ 0 := by decide +kernel
section
variable {a b : Str} {σ : L2.St} {H : Hp} {Q : VK}
theorem js_I3 {i : Int} (ha : a.length ≤ 1000) (hb : b.length ≤ 1000) (e : σ[1]? = some (some (.int i))) (hi : i.natAbs < 2 ^ 64) (q : ∀ t : Str, Q (.str t) H) :
    tJs [tC (.str a), tFmt (tVar 1), tC (.str b)] Str.empty σ H fun out H1 => Q (.str out) H1 := by
  have l1 := len_app emp_len ha
  have l2 := len_app l1 (int_len hi).1
  have l3 := len_app l2 hb
  exact ⟨_, rfl, Nat.le_trans l1 (by decide), _, e, .inr ⟨i, rfl, (int_len hi).2, _, rfl, Nat.le_trans l2 (by decide), _, rfl, Nat.le_trans l3 (by decide), q _⟩⟩
theorem js_S3 {y : Str} (ha : a.length ≤ 1000) (hb : b.length ≤ 1000) (e : σ[1]? = some (some (.str y))) (hi : y.length ≤ 1000) (q : ∀ t : Str, Q (.str t) H) :
    tJs [tC (.str a), tFmt (tVar 1), tC (.str b)] Str.empty σ H fun out H1 => Q (.str out) H1 := by
  have l1 := len_app emp_len ha
  have l2 := len_app l1 hi
  have l3 := len_app l2 hb
  exact ⟨_, rfl, Nat.le_trans l1 (by decide), _, e, .inl ⟨y, rfl, Nat.le_trans hi (by decide), _, rfl, Nat.le_trans l2 (by decide), _, rfl, Nat.le_trans l3 (by decide), q _⟩⟩
theorem js_S2 {y : Str} (ha : a.length ≤ 1000) (e : σ[1]? = some (some (.str y))) (hi : y.length ≤ 1000) (q : ∀ t : Str, Q (.str t) H) :
    tJs [tC (.str a), tFmt (tVar 1)] Str.empty σ H fun out H1 => Q (.str out) H1 := by
  have l1 := len_app emp_len ha
  have l2 := len_app l1 hi
  exact ⟨_, rfl, Nat.le_trans l1 (by decide), _, e, .inl ⟨y, rfl, Nat.le_trans hi (by decide), _, rfl, Nat.le_trans l2 (by decide), q _⟩⟩
end
/-- what such an __init__ promises -/
def spErr (D : Addr) (fld : Str) (ok : V → Prop) : Sp := fun vs H Q _ => ∃ (a : Addr) (y : V), vs = [.ref a, y] ∧ H a = some (exo a D none) ∧ ok y ∧ ∀ dx, H dx = none → dx ≠ a → Q .non (upd (upd H dx (exd dx [(fld, y)])) a (exo a D (some dx)))
section
variable {P : Program} {w : World} {K : PySem.W.Frag} {mg : Str → Option Value} {base : Heap} {k : Nat} {C f : Addr} {fd : FuncData} {qual file fld x : Str} {st : Stmt} {p0 p1 p2 p3 p4 a1 a2 a3 a4 : Pos} {arg : Expr} {ar : Arg} {targ : TE} {ok : V → Prop}
theorem err_ok (F : ErrF K mg C f fd qual st file fld) (hfile : ((P.main.file : Str) == file) = true) (htop : (P.main.scope.names.lookup ("super" : Str)).isSome = false)
    (hb : defBody st = [.Expr (.Call (.Attribute (.Call (.Name "super" p0) [] [] p1) "__init__" p2) [arg] [] p3) p4, .Assign [.Attribute (.Name "self" a1) fld a2] (.Name x a3) a4])
    (S : NScope [("self" : Str), x, "__class__"] [("self" : Str), x] ["__class__"] (defScope st)) (hpar : ((defArgs st).posonlyargs ++ (defArgs st).args).head? = some ar) (har : ar.arg = "self") (hks : (defScope st).names.lookup ("super" : Str) = some .globalImplicit)
    (he : ∀ env, starEach [arg] env = [(false, eval arg env)]) (hsw : ∀ env, swapsWith (.Call (.Attribute (.Call (.Name "super" p0) [] [] p1) "__init__" p2) [arg] [] p3) none p4.line env = pure false)
    {pl : Env → Sem Bool} (hev : ∀ env, eval (.Call (.Attribute (.Call (.Name "super" p0) [] [] p1) "__init__" p2) [arg] [] p3) env = (do
      let ov ← attributeBase (.Call (.Name "super" p0) [] [] p1) "__init__" env (eval (.Call (.Name "super" p0) [] [] p1) env)
      standAt p2.atName
      let (f, first) ← holding [ov] (getMethod ov "__init__" (pl env))
      callWith p3 f first (backTo p3 (starEach [arg] env)) []))
    (hsw2 : ∀ env, swapsWith (.Name x a3) (some (.Attribute (.Name "self" a1) fld a2)) a4.line env = pure false)
    (hx : (x == ("__debug__" : Str)) = false) (hx2 : (x == ("__classdict__" : Str)) = false)
    (harg : ∀ X : Cx, X.N = [("self" : Str), x, "__class__"] → X.env.scope = defScope st → PE X arg targ)
    (htarg : ∀ (σ : L2.St) (H : Hp) (y : V) (Q : VK), σ[1]? = some (some y) → ok y → (∀ t : Str, Q (.str t) H) → targ σ H Q) :
    FnOk P w K mg base CX0 (k + 1) f fd [("self" : Str), x] (spErr C fld ok) := by
  obtain ⟨oc, od, osl, dV, kV, doc, pm, an, cda, ct, cc, ccl, cdd, ccs, vs0, tf, cl, cld, csl, efd, lk, hcd, hcode, hvs, hcell⟩ := F.ex
  rw [hb] at efd
  subst efd
  refine fn_super lk hcd S F.T hcode hvs hfile hcell F.any F.sup F.subV F.mro hpar har hks htop F.z he (fun _ => hsw _) hev (fun vs H Q E ⟨a, y, e, _⟩ => by rw [e]; rfl) (fun A outer s H vs Q E hr h => ?_)
  obtain ⟨a, y, e, ea, oy, q⟩ := h
  subst e
  have vx : ∀ z : Str, z ∈ [("self" : Str), x] → Vis (defScope st) z := fun z hz => .inl (S.par z hz)
  refine ⟨a, [y], _, _, rfl, ea, pa_cons (harg _ rfl rfl) pa_nil (by rw [he] <;> first | rfl | simp [starEach]), pss_one (ps_ost (pe_var (i := 0) rfl (vx _ List.mem_cons_self)) (pe_var (i := 1) rfl (vx _ (List.mem_cons_of_mem _ List.mem_cons_self)) hx hx2) (hsw2 _)), ?_⟩
  refine htarg _ _ y _ rfl oy fun t => ?_
  show _ ∧ _
  refine ⟨by simp, ea, y, rfl, .ref a, rfl, a, C, rfl, F.T, F.no, .inl ⟨ea, fun dx hn hd => q dx hn hd⟩⟩
/-- C(e) -/
def tErr (C : Addr) (fld : Str) (ok : V → Prop) (ta : TA) : L2.St → Hp → XK → Prop := fun σ H Q => ta σ H fun vs H1 => ∃ y, vs = [y] ∧ ok y ∧ ∀ d, H1 d = none → Q (.ref C) (some d) (upd H1 d (.xd [(fld, y)]))
theorem pmk_err {X : Cx} {nm : Str} {e : Expr} {es : List Expr} {ta : TA} {p pos : Pos} (F : ErrF X.K X.mg C f fd qual st file fld) (G : FnOk X.prog X.w X.K X.mg X.base CX0 k f fd [("self" : Str), x] (spErr C fld ok)) (hb : Binds X.K fd [("self" : Str), x] [])
    (hr : Room (k + 1) X.A) (hg : Gl X nm) (hm : X.mg nm = some (.ref C)) (ha : PA X (e :: es) ta)
    (hdb : (nm == ("__debug__" : Str)) = false := by decide) (he : starEach (e :: es) X.env = (false, eval e X.env) :: starEach es X.env := by rfl) (hpl : (backTo pos (starEach es X.env)).any (·.1) = false := by rfl) :
    PMk X (.Call (.Name nm p) (e :: es) [] pos) (tErr C fld ok ta) := by
  intro pins s σ H Q I h
  have ha' : PA X (e :: es) (fun σ H Q => ∃ Q', ta σ H Q' ∧ ∀ vs H1, Q' vs H1 → Q vs H1) := ⟨fun pos pins s σ H Q I ⟨Q', q, m⟩ => thn (ha.run pos pins s σ H Q' I q) fun us s1 ⟨vs, H1, J, r, z⟩ => ⟨vs, H1, J, r, m _ _ z⟩⟩
  refine pmk_oex F.T F.iC F.tI G hr hb .nil pass0 hg hm ha' hdb he hpl pins s σ H Q I ⟨_, h, fun vs H1 z => ?_⟩
  obtain ⟨y, rfl, oy, q⟩ := z
  refine ⟨by simp, fun a hna => ?_⟩
  show spErr C fld ok [.ref a, y] _ _ _
  refine ⟨a, y, rfl, upd_same, oy, fun dx hd hn => ⟨rfl, dx, [(fld, y)], upd_same, ?_, ?_, ?_⟩⟩
  · rw [upd_ne hn, upd_same]
  · rw [upd_ne hn] at hd
    exact hd
  · rw [upd_ne hn] at hd
    have e : upd (del (upd (upd (upd H1 a (exo a C none)) dx (exd dx [(fld, y)])) a (exo a C (some dx))) a) dx (.xd [(fld, y)]) = upd H1 dx (.xd [(fld, y)]) := by
      funext b
      by_cases h1 : b = dx
      · rw [h1, upd_same, upd_same]
      · rw [upd_ne h1, upd_ne h1]
        by_cases h2 : b = a
        · rw [h2, del_same, hna]
        · rw [del_ne h2, upd_ne h2, upd_ne h1, upd_ne h2]
    rw [e]
    exact q dx hd
end
end Mine
set_option Elab.async false
set_option linter.all false
set_option maxRecDepth 100000
set_option maxHeartbeats 4000000
/-! A call by a local name that holds one of several defs, which may raise. -/
namespace CaL
open PySem PySem.Spec PyProof.Rows L2
def tCallLS (i : Nat) (S : Addr → Sp → Prop) (E : XK) (t : TA) : TE := fun σ H Q => ∃ f sp, σ[i]? = some (some (.ref f)) ∧ S f sp ∧ t σ H fun vs H1 => sp vs H1 Q E
section
variable {X : Cx} {CX : CXT} {k i : Nat} {x : Str} {p pos : Pos} {e : Expr} {es : List Expr} {t : TA}
theorem pe_callLS {S : Addr → Sp → Prop} {E : XK} (hS : ∀ f sp, S f sp → ∃ fd ps, FnOk X.prog X.w X.K X.mg X.base CX k f fd ps sp ∧ PySem.W.keepIn X.K (.ref f) = true ∧ Binds X.K fd ps []) (hr : Room k X.A) (hN : X.N[i]? = some x) (hv : Vis X.env.scope x) (hx : Passes CX X E) (ha : PA X (e :: es) t)
    (hdb : (x == ("__debug__" : Str)) = false := by decide) (hcd : (x == ("__classdict__" : Str)) = false := by decide)
    (he : starEach (e :: es) X.env = (false, eval e X.env) :: starEach es X.env := by rfl) (hpl : (backTo pos (starEach es X.env)).any (·.1) = false := by rfl) : PE X (.Call (.Name x p) (e :: es) [] pos) (tCallLS i S E t) := by
  refine ⟨fun pins s σ H Q I h => ?_⟩
  obtain ⟨f, sp, hs, hSf, ht⟩ := h
  obtain ⟨fd, ps, F, hk, hb⟩ := hS f sp hSf
  refine (pe_callL (i := i) (f := f) (sp := sp) (dvs := []) (E := E) F hr hN hv hk hb .nil hx ha hdb hcd he hpl).run pins s σ H Q I ⟨hs, ?_⟩
  have e0 : (fun (vs : List V) (H1 : Hp) => sp (vs ++ []) H1 Q E) = fun vs H1 => sp vs H1 Q E := by
    funext vs H1
    rw [List.append_nil]
  rw [e0]
  exact ht
end
end CaL
set_option Elab.async false
set_option linter.all false
set_option maxRecDepth 100000
set_option maxHeartbeats 4000000
/-! A def that lets nothing out, called in an except suite whatever is known of the exception: pinned there, nothing else. -/
namespace AnyF
open PySem PySem.Spec PyProof.Rows L2 L2H
/-- what such a def promises -/
structure FnA (P : Program) (w : World) (K : PySem.W.Frag) (mg : Str → Option Value) (base : Heap) (k : Nat) (f : Addr) (fd : FuncData) (ps : List Str) (sp : Sp) : Prop where
  len : ∀ vs H Q E, sp vs H Q E → vs.length = ps.length
  run : ∀ (A : Around) (outer : List Env) (s : Shared) (H : Hp) (args : Args) (us : List Value) (vs : List V) (Q : VK) (E : XK) (p : Addr × Obj), RoomH k A → PinOk outer H s p →
    Env0 P w K mg base A outer s H → BindsTo s fd args (ps.zip us) → Vals vs us → sp vs H Q E → codeAny (model P w) A (.call (.ref f) args) (CR CX0 outer P w H s Q E) s
section
variable {P : Program} {w : World} {K : PySem.W.Frag} {mg : Str → Option Value} {base : Heap} {x qual : Str} {st : Stmt} {f : Addr} {fd : FuncData} {N ps : List Str} {k : Nat} {sp : Sp}
theorem fnA_of (F : Fun K x qual st f fd) (S : FnScope N ps (defScope st)) (len : ∀ vs H Q E, sp vs H Q E → vs.length = ps.length)
    (hbody : ∀ (cd : Value) (A : Around) (outer : List Env) (s : Shared) (H : Hp) (vs : List V) (Q : VK) (E : XK) (p : Addr × Obj), RoomH k (A.deeper (envOfC qual (defScope st) s.heap.objs.size f cd)) → sp vs H Q E →
      ∃ t, PSs (cxH CX0 P w K mg base N qual (defScope st) f cd A outer s H E p) (defBody st) t ∧ t { nx := fun _ H' => Q .non H', rt := Q } (L2.start N vs) H) : FnA P w K mg base (k + 1) f fd ps sp := by
  obtain ⟨oc, od, kV, doc, pm, an, cd, ct, osl, efd, lk, hcode⟩ := F.ex
  subst efd
  constructor
  · exact len
  intro A outer s H args us vs Q E p room pin env bind vals hsp
  have inK : K.In s.heap := env.mod.kin.keeps (fun b o z => And.left (env.bs b o z))
  have free : s.heap.NoLimit := env.mod.nolimit.keeps (fun b o z => And.left (env.bs b o z))
  refine codeAny_call_function room.depth (inK _ _ lk) rfl S.co S.gen rfl (PySem.W.codeRec_of inK hcode) (bind _ _ _ _ ?bound)
  refine wpAny_newFunctionEnv_cells S.kind ?kinds ?body
  case kinds =>
    rintro ⟨n, v⟩ hy
    cases S.par n (List.of_mem_zip hy).1 with
    | inl q => exact Or.inl q
    | inr q => exact Or.inr ⟨q, PySem.W.cellsFrom_some _ _ _ (Or.inl q)⟩
  case body =>
    intro ev he s1 inCall
    subst he
    refine ⟨free.keeps inCall.toInCall.keep, codeAny_func ?inner⟩
    obtain ⟨t, derived, reading⟩ := hbody cd A outer s H vs Q E p (RoomH.deeper room _) hsp
    refine wpAny_mono (derived.run [] s1 (L2.start N vs) H _ (inv_startH S pin env (len _ _ _ _ hsp) vals inCall) reading) (fun fl s' hs => ?out) (fun _ _ z => z)
    match fl, hs with
    | .ret u, ⟨v, σ', H', J, rv, q⟩ => exact (⟨v, H', J.os, J.bare, J.base, J.hok, rv, q⟩ : CE outer P w H s Q u s')
    | .next, ⟨σ', H', J, q⟩ => exact (⟨V.non, H', J.os, J.bare, J.base, J.hok, rfl, q⟩ : CE outer P w H s Q Value.none s')
    | .brk, ⟨_, _, _, q⟩ => exact q.elim
    | .cont, ⟨_, _, _, q⟩ => exact q.elim
end
section
variable {X : Cx} {k : Nat} {f : Addr} {fd : FuncData} {ps : List Str} {sp : Sp} {x : Str} {q pos : Pos} {e : Expr} {es : List Expr} {t : TA}
/-- f(e, ..) where something is pinned -/
theorem pe_callA (F : FnA X.prog X.w X.K X.mg X.base k f fd ps sp) (room : RoomH k X.A) (pinned : ∃ p, p ∈ X.pn) (hg : Gl X x) (hm : X.mg x = some (.ref f)) (hk : PySem.W.keepIn X.K (.ref f) = true) (bs : Binds X.K fd ps [])
    (ha : PA X (e :: es) t) (hdb : (x == ("__debug__" : Str)) = false := by decide) (h1 : starEach (e :: es) X.env = (false, eval e X.env) :: starEach es X.env := by rfl) (h2 : (backTo pos (starEach es X.env)).any (·.1) = false := by rfl) :
    PE X (.Call (.Name x q) (e :: es) [] pos) (tCall sp [] E0 t) := by
  constructor
  intro pins s σ H Q I h
  refine wpAny_Call_Name_kw (ld_glob I hg hm ?_ hdb)
  refine PySem.W.callWith_K (h₀ := X.base) I.ok.mod.kin hk (thn (ha.run pos pins s σ H _ I h) ?_) h1 h2
  rintro us s1 ⟨vs, H1, J, r, z⟩
  rw [List.append_nil] at z
  refine ⟨J.kIn, ?_⟩
  obtain ⟨p, hp⟩ := pinned
  obtain ⟨p1, p2, p3, p4⟩ := J.pin p (List.mem_append_left _ hp)
  have same : us.length = ps.length := r.length.symm.trans (F.len _ _ _ _ z)
  have bound := bs s1 us J.kIn (by rw [List.append_nil]; exact same)
  rw [List.append_nil] at bound
  have pin : PinOk X.stack H1 s1 p := ⟨p1, p2, fun m => Or.elim (List.mem_cons.mp (J.stkSub p.1 m)) p3 p4.1, p4.2⟩
  refine wpAny_call (codeAny_mono (F.run X.A X.stack s1 H1 ⟨us, []⟩ us vs Q E0 p room pin J.env0 bound r z) (fun out s' w => ?_))
  match out, w with
  | .error _, w => exact w.elim
  | .ok (.ret u), w => exact J.after w
  | .ok .next, w => exact w.elim
  | .ok .brk, w => exact w.elim
  | .ok .cont, w => exact w.elim
end
end AnyF
set_option Elab.async false
set_option linter.all false
set_option maxRecDepth 100000
set_option maxHeartbeats 2000000
/-! isinstance of a held error that has fields. -/
namespace IsD
open PySem L2 PySem.Spec PyProof.Rows
def rIsE2 (K : PySem.W.Frag) (D a : Addr) (cls : Value) (d : Option Addr) : List V → Hp → VK → Prop := fun xs H Q => ∃ (c : V) (cv : Value) (b : Bool) (dd : Addr) (fs : List (Str × V)), xs = [.ref a, c] ∧ cls = .ref D ∧ d = some dd ∧ H dd = some (.xd fs) ∧ (∀ u, RelV c u → u = cv) ∧ PySem.W.kitOne K (.ref D) cv = some b ∧ Q (.bl b) H
def rIsET2 (K : PySem.W.Frag) (D a : Addr) (cls : Value) (d : Option Addr) : List V → Hp → VK → Prop := fun xs H Q => ∃ (tp : Addr) (cs : List V) (us : List Value) (b : Bool) (dd : Addr) (fs : List (Str × V)), xs = [.ref a, .ref tp] ∧ cls = .ref D ∧ d = some dd ∧ H dd = some (.xd fs) ∧ H tp = some (.tup cs) ∧ Paired ClsV cs us ∧ PySem.W.kitAny K (.ref D) us = some b ∧ Q (.bl b) H
section
variable {X : Cx} {a D : Addr} {oe : Obj} {pn : List (Addr × Obj)} {cls : Value} {d : Option Addr}
theorem kit_of {K : PySem.W.Frag} {x : Addr} {ox : Obj} {od : Option Obj} (C : ExcC K D) : PySem.W.KitX K (.ref x) (.ref D) (fun h => PySem.W.InstAt h x ox D od) := by
  have hcl : (PySem.W.clsIn K D).isSome = true := by
    obtain ⟨cd, hc, _⟩ := PySem.W.any_some C.hd
    rw [hc]; rfl
  exact PySem.W.kitx_exc hcl C.hg C.hk C.hs C.ha C.hn C.ht C.hm
theorem call_isE2 (C : ExcC X.K D) (hz : Zc cls d oe) (hf : ∃ vs, oe.data = .fields vs) : CallR (X.suite a ((a, oe) :: pn)) (.builtin "isinstance") (rIsE2 X.K D a cls d) := by
  intro pins s σ H xs us Q I r h
  obtain ⟨c, cv, b, dd, fs, rfl, rfl, rfl, ea, hcv, e, q⟩ := h
  cases r with
  | cons rx rr =>
    cases rr with
    | cons rt rr =>
      cases rr
      cases rx
      have ec := hcv _ rt
      subst ec
      obtain ⟨hget, _⟩ := I.pin (a, oe) (List.mem_append.mpr (.inl List.mem_cons_self))
      obtain ⟨vs, hd⟩ := hf
      have hx : ObjOk X.prog X.w H s.heap dd (.xd fs) := I.hok dd _ ea
      obtain ⟨mA, hns, hr⟩ := hx
      obtain ⟨od, ho, hl⟩ := lookIn_ns hns
      have J : PySem.W.InstAt s.heap a oe D (some od) := ⟨hget, hz.1, by unfold PySem.W.notCls; rw [hd] <;> rfl, by rw [hz.2]; exact ho⟩
      exact PySem.W.kia_one (kit_of C) I.kIn J e (fun z => nomatch z) fun tk => ⟨.bl b, H, I.kept (t' := tk) fun _ _ z => z, rfl, q⟩
theorem call_isET2 (C : ExcC X.K D) (hz : Zc cls d oe) (hf : ∃ vs, oe.data = .fields vs) : CallR (X.suite a ((a, oe) :: pn)) (.builtin "isinstance") (rIsET2 X.K D a cls d) := by
  intro pins s σ H xs us Q I r h
  obtain ⟨tp, cs, ws, b, dd, fs, rfl, rfl, rfl, ea, hT, k, e, q⟩ := h
  obtain ⟨u1, u2, rfl, r1, r2⟩ := vals2 r
  cases (show u1 = Value.ref a from r1)
  cases (show u2 = Value.ref tp from r2)
  obtain ⟨hget, _⟩ := I.pin (a, oe) (List.mem_append.mpr (.inl List.mem_cons_self))
  obtain ⟨vs, hd⟩ := hf
  have hx : ObjOk X.prog X.w H s.heap dd (.xd fs) := I.hok dd _ ea
  obtain ⟨mA, hns, hr⟩ := hx
  obtain ⟨od, ho, hl⟩ := lookIn_ns hns
  have J : PySem.W.InstAt s.heap a oe D (some od) := ⟨hget, hz.1, by unfold PySem.W.notCls; rw [hd] <;> rfl, by rw [hz.2]; exact ho⟩
  obtain ⟨_, its, rv, o, h1, h2, n, h3⟩ := (show ObjOk X.prog X.w H s.heap tp (.tup cs) from I.hok tp _ hT)
  have e3 := ClsV.all k rv
  subst e3
  obtain ⟨oc, od2, dt, sl⟩ := o
  simp only at h2 h3
  subst h2 h3
  exact PySem.W.kia_tup (kit_of C) I.kIn J h1 e (fun z => nomatch z) fun tk => ⟨.bl b, H, I.kept (t' := tk) fun _ _ z => z, rfl, q⟩
end
end IsD
set_option Elab.async false
set_option linter.all false
set_option maxRecDepth 100000
set_option maxHeartbeats 2000000
/-! t + u of two tuples, whatever is empty. -/
namespace CatB
open PySem L2 Gm
def rCatB (K : PySem.W.Frag) : R2 := fun x y H Q => ∃ a b xs ys, x = .ref a ∧ y = .ref b ∧ SqT K H a xs ∧ SqT K H b ys ∧ xs.length + ys.length ≤ sizeLine ∧ ∀ p H', Same H H' → SqT K H' p (xs ++ ys) → Q (.ref p) H'
theorem op_catB {X : Cx} (K : PySem.W.Frag) (h : X.K = K) : OpR X (binaryOp .Add) (rCatB K) := by
  subst h
  intro pins s σ H x y v u Q I rx ry h
  obtain ⟨a, b, xs, ys, rfl, rfl, ha, hb, hz, q⟩ := h
  refine op_catA pins s σ H _ _ v u Q I rx ry ⟨a, b, xs, ys, rfl, rfl, ha, hb, hz, fun e => ?_, fun _ e => ?_, fun _ _ p hp => q p _ (same_new hp _) (SqT.of upd_same)⟩
  · refine q b H (Same.refl _) ?_
    rw [e]
    exact hb
  · refine q a H (Same.refl _) ?_
    rw [e, List.append_nil]
    exact ha
end CatB
set_option Elab.async false
set_option linter.all false
set_option maxRecDepth 100000
set_option maxHeartbeats 4000000
namespace Toy
open PySem L2 Gm NdefX
open Mine (ErrF PrF err_ok spErr js_S3)
def top (i : Nat) : Stmt := PySem.Challenge.pw_tellsnone_k42_tosses_and_sinks.main.body.getD i (.Pass ⟨0, 0, 0, 0⟩)
abbrev s_BadStep_init : Stmt := inClass (top 5) 0
def oke_BadStep : V → Prop := fun y => ∃ t : Str, y = .str t ∧ t.length ≤ 1000
theorem err_BadStep {P : Program} {w : World} {K : PySem.W.Frag} {mg : Str → Option Value} {base : Heap} {k : Nat} {C f : Addr} {fd : FuncData} {file : Str} (F : ErrF K mg C f fd "BadStep.__init__" s_BadStep_init file "rule") (hP : PrF P file) :
    FnOk P w K mg base CX0 (k + 1) f fd [("self" : Str), "rule"] (spErr C "rule" oke_BadStep) :=
  err_ok F hP.1 hP.2 rfl (nscope_by (by decide +kernel)) rfl rfl rfl (fun _ => rfl) (fun _ => rfl) (fun _ => rfl) (fun _ => rfl) (by decide) (by decide) (fun X hN hs => pe_joined (.cons pe_str (.cons (pe_fmt (pe_var (i := 1) (by rw [hN]; rfl) (by rw [hs]; exact .inl rfl))) (.cons pe_str .nil))))
    (by
      rintro σ H y Q e ⟨i, rfl, hi⟩ q
      exact js_S3 (by decide +kernel) (by decide +kernel) e hi q)
abbrev s_is_name : Stmt := top 24
theorem sc_is_name : FnScope ["word", "sign"] ["word"] (defScope s_is_name) := ⟨rfl, rfl, rfl, by decide +kernel, rfl, by decide +kernel, by decide +kernel⟩
abbrev s_Game_init : Stmt := inClass (top 30) 0
theorem sc_Game_init : FnScope ["self", "variables", "tables", "lots", "procs"] ["self", "variables", "tables", "lots", "procs"] (defScope s_Game_init) := ⟨rfl, rfl, rfl, by decide +kernel, rfl, by decide +kernel, by decide +kernel⟩
abbrev s_Game_eq : Stmt := inClass (top 30) 1
theorem sc_Game_eq : FnScope ["self", "other"] ["self", "other"] (defScope s_Game_eq) := ⟨rfl, rfl, rfl, by decide +kernel, rfl, by decide +kernel, by decide +kernel⟩
abbrev s_Game_proc : Stmt := inClass (top 30) 2
theorem sc_Game_proc : FnScope ["self", "name", "proc"] ["self", "name"] (defScope s_Game_proc) := ⟨rfl, rfl, rfl, by decide +kernel, rfl, by decide +kernel, by decide +kernel⟩
abbrev s_first_parts : Stmt := top 31
theorem sc_first_parts : FnScope ["rows", "row"] ["rows"] (defScope s_first_parts) := ⟨rfl, rfl, rfl, by decide +kernel, rfl, by decide +kernel, by decide +kernel⟩
abbrev s_every_expression : Stmt := top 33
theorem sc_every_expression : FnScope ["expression", "found"] ["expression"] (defScope s_every_expression) := ⟨rfl, rfl, rfl, by decide +kernel, rfl, by decide +kernel, by decide +kernel⟩
abbrev s_expression_reads : Stmt := top 49
theorem sc_expression_reads : FnScope ["expression", "found", "part"] ["expression"] (defScope s_expression_reads) := ⟨rfl, rfl, rfl, by decide +kernel, rfl, by decide +kernel, by decide +kernel⟩
abbrev s_reads_local : Stmt := top 56
theorem sc_reads_local : FnScope ["expression", "local"] ["expression", "local"] (defScope s_reads_local) := ⟨rfl, rfl, rfl, by decide +kernel, rfl, by decide +kernel, by decide +kernel⟩
abbrev s_require : Stmt := top 65
theorem sc_require : FnScope ["holds", "step"] ["holds", "step"] (defScope s_require) := ⟨rfl, rfl, rfl, by decide +kernel, rfl, by decide +kernel, by decide +kernel⟩
abbrev s_proc_of : Stmt := top 66
theorem sc_proc_of : FnScope ["game", "step", "proc"] ["game", "step"] (defScope s_proc_of) := ⟨rfl, rfl, rfl, by decide +kernel, rfl, by decide +kernel, by decide +kernel⟩
abbrev s_statement_of : Stmt := top 67
theorem sc_statement_of : FnScope ["game", "step", "proc"] ["game", "step"] (defScope s_statement_of) := ⟨rfl, rfl, rfl, by decide +kernel, rfl, by decide +kernel, by decide +kernel⟩
abbrev s_pair_of : Stmt := top 68
theorem sc_pair_of : FnScope ["game", "step", "proc", "statement"] ["game", "step"] (defScope s_pair_of) := ⟨rfl, rfl, rfl, by decide +kernel, rfl, by decide +kernel, by decide +kernel⟩
abbrev s_with_proc : Stmt := top 69
theorem sc_with_proc : FnScope ["game", "new", "procs", "proc"] ["game", "new"] (defScope s_with_proc) := ⟨rfl, rfl, rfl, by decide +kernel, rfl, by decide +kernel, by decide +kernel⟩
abbrev s_replaced : Stmt := top 70
theorem sc_replaced : FnScope ["game", "proc", "at", "many", "statements", "name", "size", "answers", "inner", "block", "result", "new"] ["game", "proc", "at", "many", "statements"] (defScope s_replaced) := ⟨rfl, rfl, rfl, by decide +kernel, rfl, by decide +kernel, by decide +kernel⟩
abbrev s_toss_step : Stmt := top 74
theorem sc_toss_step : FnScope ["game", "step", "_", "k", "local", "many", "name", "size", "answers", "inner", "block", "result", "new"] ["game", "step"] (defScope s_toss_step) := ⟨rfl, rfl, rfl, by decide +kernel, rfl, by decide +kernel, by decide +kernel⟩
abbrev s_sink_step : Stmt := top 77
theorem sc_sink_step : FnScope ["game", "step", "proc", "drawn", "choice", "_", "test", "first", "second"] ["game", "step"] (defScope s_sink_step) := ⟨rfl, rfl, rfl, by decide +kernel, rfl, by decide +kernel, by decide +kernel⟩
abbrev s_same : Stmt := top 83
theorem sc_same : FnScope ["game", "step", "action"] ["game", "step"] (defScope s_same) := ⟨rfl, rfl, rfl, by decide +kernel, rfl, by decide +kernel, by decide +kernel⟩
abbrev s_law_cell : Stmt := top 85
theorem sc_law_cell : FnScope ["script", "k"] ["script", "k"] (defScope s_law_cell) := ⟨rfl, rfl, rfl, by decide +kernel, rfl, by decide +kernel, by decide +kernel⟩
abbrev s_law_row : Stmt := top 87
theorem sc_law_row : FnScope ["cell", "count", "size", "state", "row", "k"] ["cell", "count", "size"] (defScope s_law_row) := ⟨rfl, rfl, rfl, by decide +kernel, rfl, by decide +kernel, by decide +kernel⟩
abbrev s_law_side : Stmt := top 88
theorem sc_law_side : FnScope ["code", "names", "variables", "tables", "pick", "rest", "local", "sign"] ["code", "names", "variables", "tables"] (defScope s_law_side) := ⟨rfl, rfl, rfl, by decide +kernel, rfl, by decide +kernel, by decide +kernel⟩
abbrev s_law_value : Stmt := top 89
theorem sc_law_value : FnScope ["cell", "names", "variables", "tables", "kind", "rest", "key", "sign", "left"] ["cell", "names", "variables", "tables"] (defScope s_law_value) := ⟨rfl, rfl, rfl, by decide +kernel, rfl, by decide +kernel, by decide +kernel⟩
abbrev s_law_plain : Stmt := top 90
theorem sc_law_plain : FnScope ["cell", "names", "variables", "tables", "lots", "kind", "rest", "value", "key", "looked"] ["cell", "names", "variables", "tables", "lots"] (defScope s_law_plain) := ⟨rfl, rfl, rfl, by decide +kernel, rfl, by decide +kernel, by decide +kernel⟩
abbrev s_law_block : Stmt := top 91
theorem sc_law_block : FnScope ["cells", "names", "variables", "tables", "lots", "block", "cell", "way", "rest", "inner", "more", "other", "then", "test"] ["cells", "names", "variables", "tables", "lots"] (defScope s_law_block) := ⟨rfl, rfl, rfl, by decide +kernel, rfl, by decide +kernel, by decide +kernel⟩
abbrev s_law_game : Stmt := top 92
theorem sc_law_game : FnScope ["script", "at", "digits", "variables", "tables", "lots", "procs", "k", "names", "cells", "block", "result", "rows", "first", "name"] ["script", "at"] (defScope s_law_game) := ⟨rfl, rfl, rfl, by decide +kernel, rfl, by decide +kernel, by decide +kernel⟩
abbrev s_law_made : Stmt := top 93
theorem sc_law_made : FnScope ["game"] ["game"] (defScope s_law_made) := ⟨rfl, rfl, rfl, by decide +kernel, rfl, by decide +kernel, by decide +kernel⟩
abbrev s_law_uses : Stmt := top 94
theorem sc_law_uses : FnScope ["expression", "kind"] ["expression"] (defScope s_law_uses) := ⟨rfl, rfl, rfl, by decide +kernel, rfl, by decide +kernel, by decide +kernel⟩
abbrev s_law_with : Stmt := top 96
theorem sc_law_with : FnScope ["game", "name", "block", "names", "procs", "proc"] ["game", "name", "block", "names"] (defScope s_law_with) := ⟨rfl, rfl, rfl, by decide +kernel, rfl, by decide +kernel, by decide +kernel⟩
abbrev s_law_proc : Stmt := top 97
theorem sc_law_proc : FnScope ["game", "name", "proc"] ["game", "name"] (defScope s_law_proc) := ⟨rfl, rfl, rfl, by decide +kernel, rfl, by decide +kernel, by decide +kernel⟩
abbrev s_law_parts : Stmt := top 98
theorem sc_law_parts : FnScope ["game"] ["game"] (defScope s_law_parts) := ⟨rfl, rfl, rfl, by decide +kernel, rfl, by decide +kernel, by decide +kernel⟩
abbrev s_law_tried : Stmt := top 99
theorem sc_law_tried : FnScope ["made", "step", "due", "actual", "e"] ["made", "step", "due"] (defScope s_law_tried) := ⟨rfl, rfl, rfl, by decide +kernel, rfl, by decide +kernel, by decide +kernel⟩
abbrev s_law_tossed : Stmt := top 100
theorem sc_law_tossed : FnScope ["game", "name", "at", "local", "count", "proc", "row"] ["game", "name", "at", "local", "count"] (defScope s_law_tossed) := ⟨rfl, rfl, rfl, by decide +kernel, rfl, by decide +kernel, by decide +kernel⟩
abbrev s_law_sunk : Stmt := top 101
theorem sc_law_sunk : FnScope ["game", "name", "at", "proc", "one", "two", "moved"] ["game", "name", "at"] (defScope s_law_sunk) := ⟨rfl, rfl, rfl, by decide +kernel, rfl, by decide +kernel, by decide +kernel⟩
abbrev s_law_ready : Stmt := top 102
theorem sc_law_ready : FnScope ["game", "cell", "proc", "test", "row", "branch", "pair", "names"] ["game", "cell"] (defScope s_law_ready) := ⟨rfl, rfl, rfl, by decide +kernel, rfl, by decide +kernel, by decide +kernel⟩
abbrev s_law : Stmt := top 103
theorem sc_law : FnScope ["script", "game", "made", "cell", "name", "at", "names", "local", "count"] ["script"] (defScope s_law) := ⟨rfl, rfl, rfl, by decide +kernel, rfl, by decide +kernel, by decide +kernel⟩
/-! ### the promises of the drawn parts -/
def spCell (K : PySem.W.Frag) : Sp := fun vs H Q _ => ∃ (a : Addr) (ns : List Int) (k : Int), vs = [.ref a, .int k] ∧ SqL K H a (ns.map V.int) ∧ 0 ≤ k ∧ Q (.int (ns.getD k.toNat 0)) H
def spRow : Sp := fun vs H Q _ => ∃ (cell count size : Int), vs = [.int cell, .int count, .int size] ∧ 0 ≤ count ∧ count ≤ 1000 ∧ 0 < size ∧ size.natAbs < 2 ^ 100 ∧
  ∀ (p : Addr) (ns : List Int) (H' : Hp), Same H H' → H' p = some (.lst (ns.map V.int)) → ns.length = count.toNat → (∀ x ∈ ns, 0 ≤ x ∧ x < size) → Q (.ref p) H'
/-- the names that a part may use stand at these places -/
structure At (K : PySem.W.Frag) (s : Sc) (H : Hp) (na va ta : Addr) : Prop where
  n : SqT K H na (s.locs.map V.str)
  v : SqL K H va (s.vars.map V.str)
  t : SqL K H ta (s.tabs.map V.str)
  n0 : s.locs ≠ []
theorem At.mono {K : PySem.W.Frag} {s : Sc} {H H' : Hp} {na va ta : Addr} (a : At K s H na va ta) (e : Same H H') : At K s H' na va ta := ⟨sqT_mono e a.n, e.seq a.v, e.seq a.t, a.n0⟩
def spSide (K : PySem.W.Frag) (k : Nat) : Sp := fun vs H Q _ => ∃ (code : Int) (na va ta : Addr) (s : Sc), vs = [.int code, .ref na, .ref va, .ref ta] ∧ At K s H na va ta ∧
  ∀ (v : V) (e : Ex) (H' : Hp), Same H H' → Dp K H' v e.d → e.Ok s k → Q v H'
def spPlain (K : PySem.W.Frag) : Sp := fun vs H Q _ => ∃ (code : Int) (na va ta la : Addr) (s : Sc), vs = [.int code, .ref na, .ref va, .ref ta, .ref la] ∧ At K s H na va ta ∧ SqL K H la (s.lots.map V.str) ∧
  ∀ (v : V) (x : Stm) (H' : Hp), Same H H' → Dp K H' v x.d → x.Ok s 3 0 → Q v H'
def spBlock (K : PySem.W.Frag) : Sp := fun vs H Q _ => ∃ (ca na va ta la : Addr) (ns : List Int) (s : Sc), vs = [.ref ca, .ref na, .ref va, .ref ta, .ref la] ∧ SqL K H ca (ns.map V.int) ∧ ns.length ≤ 1000 ∧ At K s H na va ta ∧ SqL K H la (s.lots.map V.str) ∧
  ∀ (v : V) (b : Blk) (H' : Hp), Same H H' → Dp K H' v b.d → b.Ok s 3 2 → b.len = ns.length → Q v H'
set_option genInjectivity false in
set_option genSizeOf false in
set_option genSizeOfSpec false in
structure Txt (K : PySem.W.Frag) (mg : Str → Option Value) (file : Str) where
  o_n : PySem.W.specialIn K (.builtin "object.__class__") "__get__" = some (some (.builtin "getset_descriptor.__get__"))
  o_t : PySem.W.takesIn K (.builtin "object.__class__") = some true
  C_Game : Addr
  g_Game : mg "Game" = some (.ref C_Game)
  cl_Game : Cls K C_Game
  sf_Game : PySem.W.selfFirst K C_Game = true
  na_Game_variables : NoAttr K C_Game "variables"
  na_Game_tables : NoAttr K C_Game "tables"
  na_Game_lots : NoAttr K C_Game "lots"
  na_Game_procs : NoAttr K C_Game "procs"
  ia_Game : PySem.W.findIn K (.ref C_Game) "__class__" = some (some (.builtin "object.__class__"))
  im_Game : PySem.W.mroIn K C_Game (.type "object") = some true
  ik_Game : PySem.W.kitOne K (.ref C_Game) (.ref C_Game) = some true
  a_law_cell : Addr
  fd_law_cell : FuncData
  F_law_cell : Fun K "_law_cell" "_law_cell" s_law_cell a_law_cell fd_law_cell
  b_law_cell : L2.Binds K fd_law_cell ["script", "k"] []
  k_law_cell : PySem.W.keepIn K (.ref a_law_cell) = true
  g_law_cell : mg "_law_cell" = some (.ref a_law_cell)
  a_law_row : Addr
  fd_law_row : FuncData
  F_law_row : Fun K "_law_row" "_law_row" s_law_row a_law_row fd_law_row
  b_law_row : L2.Binds K fd_law_row ["cell", "count", "size"] []
  k_law_row : PySem.W.keepIn K (.ref a_law_row) = true
  g_law_row : mg "_law_row" = some (.ref a_law_row)
  a_law_side : Addr
  fd_law_side : FuncData
  F_law_side : Fun K "_law_side" "_law_side" s_law_side a_law_side fd_law_side
  b_law_side : L2.Binds K fd_law_side ["code", "names", "variables", "tables"] []
  k_law_side : PySem.W.keepIn K (.ref a_law_side) = true
  g_law_side : mg "_law_side" = some (.ref a_law_side)
  a_law_value : Addr
  fd_law_value : FuncData
  F_law_value : Fun K "_law_value" "_law_value" s_law_value a_law_value fd_law_value
  b_law_value : L2.Binds K fd_law_value ["cell", "names", "variables", "tables"] []
  k_law_value : PySem.W.keepIn K (.ref a_law_value) = true
  g_law_value : mg "_law_value" = some (.ref a_law_value)
  a_law_plain : Addr
  fd_law_plain : FuncData
  F_law_plain : Fun K "_law_plain" "_law_plain" s_law_plain a_law_plain fd_law_plain
  b_law_plain : L2.Binds K fd_law_plain ["cell", "names", "variables", "tables", "lots"] []
  k_law_plain : PySem.W.keepIn K (.ref a_law_plain) = true
  g_law_plain : mg "_law_plain" = some (.ref a_law_plain)
  a_law_block : Addr
  fd_law_block : FuncData
  F_law_block : Fun K "_law_block" "_law_block" s_law_block a_law_block fd_law_block
  b_law_block : L2.Binds K fd_law_block ["cells", "names", "variables", "tables", "lots"] []
  k_law_block : PySem.W.keepIn K (.ref a_law_block) = true
  g_law_block : mg "_law_block" = some (.ref a_law_block)
  a_law_game : Addr
  fd_law_game : FuncData
  F_law_game : Fun K "_law_game" "_law_game" s_law_game a_law_game fd_law_game
  b_law_game : L2.Binds K fd_law_game ["script", "at"] []
  k_law_game : PySem.W.keepIn K (.ref a_law_game) = true
  g_law_game : mg "_law_game" = some (.ref a_law_game)
  a_is_name : Addr
  fd_is_name : FuncData
  F_is_name : Fun K "is_name" "is_name" s_is_name a_is_name fd_is_name
  b_is_name : L2.Binds K fd_is_name ["word"] []
  k_is_name : PySem.W.keepIn K (.ref a_is_name) = true
  g_is_name : mg "is_name" = some (.ref a_is_name)
  a_Game_init : Addr
  fd_Game_init : FuncData
  F_Game_init : Fun K "__init__" "Game.__init__" s_Game_init a_Game_init fd_Game_init
  b_Game_init : L2.Binds K fd_Game_init ["self", "variables", "tables", "lots", "procs"] []
  k_Game_init : PySem.W.keepIn K (.ref a_Game_init) = true
  m_Game_init : Meth K C_Game "__init__" a_Game_init
  a_Game_eq : Addr
  fd_Game_eq : FuncData
  F_Game_eq : Fun K "__eq__" "Game.__eq__" s_Game_eq a_Game_eq fd_Game_eq
  b_Game_eq : L2.Binds K fd_Game_eq ["self", "other"] []
  k_Game_eq : PySem.W.keepIn K (.ref a_Game_eq) = true
  m_Game_eq : Meth K C_Game "__eq__" a_Game_eq
  a_Game_proc : Addr
  fd_Game_proc : FuncData
  F_Game_proc : Fun K "proc" "Game.proc" s_Game_proc a_Game_proc fd_Game_proc
  b_Game_proc : L2.Binds K fd_Game_proc ["self", "name"] []
  k_Game_proc : PySem.W.keepIn K (.ref a_Game_proc) = true
  m_Game_proc : Meth K C_Game "proc" a_Game_proc
  a_first_parts : Addr
  fd_first_parts : FuncData
  F_first_parts : Fun K "first_parts" "first_parts" s_first_parts a_first_parts fd_first_parts
  b_first_parts : L2.Binds K fd_first_parts ["rows"] []
  k_first_parts : PySem.W.keepIn K (.ref a_first_parts) = true
  g_first_parts : mg "first_parts" = some (.ref a_first_parts)
  a_every_expression : Addr
  fd_every_expression : FuncData
  F_every_expression : Fun K "every_expression" "every_expression" s_every_expression a_every_expression fd_every_expression
  b_every_expression : L2.Binds K fd_every_expression ["expression"] []
  k_every_expression : PySem.W.keepIn K (.ref a_every_expression) = true
  g_every_expression : mg "every_expression" = some (.ref a_every_expression)
  a_expression_reads : Addr
  fd_expression_reads : FuncData
  F_expression_reads : Fun K "expression_reads" "expression_reads" s_expression_reads a_expression_reads fd_expression_reads
  b_expression_reads : L2.Binds K fd_expression_reads ["expression"] []
  k_expression_reads : PySem.W.keepIn K (.ref a_expression_reads) = true
  g_expression_reads : mg "expression_reads" = some (.ref a_expression_reads)
  a_reads_local : Addr
  fd_reads_local : FuncData
  F_reads_local : Fun K "reads_local" "reads_local" s_reads_local a_reads_local fd_reads_local
  b_reads_local : L2.Binds K fd_reads_local ["expression", "local"] []
  k_reads_local : PySem.W.keepIn K (.ref a_reads_local) = true
  g_reads_local : mg "reads_local" = some (.ref a_reads_local)
  a_require : Addr
  fd_require : FuncData
  F_require : Fun K "require" "require" s_require a_require fd_require
  b_require : L2.Binds K fd_require ["holds", "step"] []
  k_require : PySem.W.keepIn K (.ref a_require) = true
  g_require : mg "require" = some (.ref a_require)
  a_proc_of : Addr
  fd_proc_of : FuncData
  F_proc_of : Fun K "proc_of" "proc_of" s_proc_of a_proc_of fd_proc_of
  b_proc_of : L2.Binds K fd_proc_of ["game", "step"] []
  k_proc_of : PySem.W.keepIn K (.ref a_proc_of) = true
  g_proc_of : mg "proc_of" = some (.ref a_proc_of)
  a_statement_of : Addr
  fd_statement_of : FuncData
  F_statement_of : Fun K "statement_of" "statement_of" s_statement_of a_statement_of fd_statement_of
  b_statement_of : L2.Binds K fd_statement_of ["game", "step"] []
  k_statement_of : PySem.W.keepIn K (.ref a_statement_of) = true
  g_statement_of : mg "statement_of" = some (.ref a_statement_of)
  a_pair_of : Addr
  fd_pair_of : FuncData
  F_pair_of : Fun K "pair_of" "pair_of" s_pair_of a_pair_of fd_pair_of
  b_pair_of : L2.Binds K fd_pair_of ["game", "step"] []
  k_pair_of : PySem.W.keepIn K (.ref a_pair_of) = true
  g_pair_of : mg "pair_of" = some (.ref a_pair_of)
  a_with_proc : Addr
  fd_with_proc : FuncData
  F_with_proc : Fun K "with_proc" "with_proc" s_with_proc a_with_proc fd_with_proc
  b_with_proc : L2.Binds K fd_with_proc ["game", "new"] []
  k_with_proc : PySem.W.keepIn K (.ref a_with_proc) = true
  g_with_proc : mg "with_proc" = some (.ref a_with_proc)
  a_replaced : Addr
  fd_replaced : FuncData
  F_replaced : Fun K "replaced" "replaced" s_replaced a_replaced fd_replaced
  b_replaced : L2.Binds K fd_replaced ["game", "proc", "at", "many", "statements"] []
  k_replaced : PySem.W.keepIn K (.ref a_replaced) = true
  g_replaced : mg "replaced" = some (.ref a_replaced)
  a_toss_step : Addr
  fd_toss_step : FuncData
  F_toss_step : Fun K "toss_step" "toss_step" s_toss_step a_toss_step fd_toss_step
  b_toss_step : L2.Binds K fd_toss_step ["game", "step"] []
  k_toss_step : PySem.W.keepIn K (.ref a_toss_step) = true
  g_toss_step : mg "toss_step" = some (.ref a_toss_step)
  a_sink_step : Addr
  fd_sink_step : FuncData
  F_sink_step : Fun K "sink_step" "sink_step" s_sink_step a_sink_step fd_sink_step
  b_sink_step : L2.Binds K fd_sink_step ["game", "step"] []
  k_sink_step : PySem.W.keepIn K (.ref a_sink_step) = true
  g_sink_step : mg "sink_step" = some (.ref a_sink_step)
  a_same : Addr
  fd_same : FuncData
  F_same : Fun K "same" "same" s_same a_same fd_same
  b_same : L2.Binds K fd_same ["game", "step"] []
  k_same : PySem.W.keepIn K (.ref a_same) = true
  g_same : mg "same" = some (.ref a_same)
  a_law_made : Addr
  fd_law_made : FuncData
  F_law_made : Fun K "_law_made" "_law_made" s_law_made a_law_made fd_law_made
  b_law_made : L2.Binds K fd_law_made ["game"] []
  k_law_made : PySem.W.keepIn K (.ref a_law_made) = true
  g_law_made : mg "_law_made" = some (.ref a_law_made)
  a_law_uses : Addr
  fd_law_uses : FuncData
  F_law_uses : Fun K "_law_uses" "_law_uses" s_law_uses a_law_uses fd_law_uses
  b_law_uses : L2.Binds K fd_law_uses ["expression"] []
  k_law_uses : PySem.W.keepIn K (.ref a_law_uses) = true
  g_law_uses : mg "_law_uses" = some (.ref a_law_uses)
  a_law_with : Addr
  fd_law_with : FuncData
  F_law_with : Fun K "_law_with" "_law_with" s_law_with a_law_with fd_law_with
  b_law_with : L2.Binds K fd_law_with ["game", "name", "block", "names"] []
  k_law_with : PySem.W.keepIn K (.ref a_law_with) = true
  g_law_with : mg "_law_with" = some (.ref a_law_with)
  a_law_proc : Addr
  fd_law_proc : FuncData
  F_law_proc : Fun K "_law_proc" "_law_proc" s_law_proc a_law_proc fd_law_proc
  b_law_proc : L2.Binds K fd_law_proc ["game", "name"] []
  k_law_proc : PySem.W.keepIn K (.ref a_law_proc) = true
  g_law_proc : mg "_law_proc" = some (.ref a_law_proc)
  a_law_parts : Addr
  fd_law_parts : FuncData
  F_law_parts : Fun K "_law_parts" "_law_parts" s_law_parts a_law_parts fd_law_parts
  b_law_parts : L2.Binds K fd_law_parts ["game"] []
  k_law_parts : PySem.W.keepIn K (.ref a_law_parts) = true
  g_law_parts : mg "_law_parts" = some (.ref a_law_parts)
  a_law_tried : Addr
  fd_law_tried : FuncData
  F_law_tried : Fun K "_law_tried" "_law_tried" s_law_tried a_law_tried fd_law_tried
  b_law_tried : L2.Binds K fd_law_tried ["made", "step", "due"] []
  k_law_tried : PySem.W.keepIn K (.ref a_law_tried) = true
  g_law_tried : mg "_law_tried" = some (.ref a_law_tried)
  a_law_tossed : Addr
  fd_law_tossed : FuncData
  F_law_tossed : Fun K "_law_tossed" "_law_tossed" s_law_tossed a_law_tossed fd_law_tossed
  b_law_tossed : L2.Binds K fd_law_tossed ["game", "name", "at", "local", "count"] []
  k_law_tossed : PySem.W.keepIn K (.ref a_law_tossed) = true
  g_law_tossed : mg "_law_tossed" = some (.ref a_law_tossed)
  a_law_sunk : Addr
  fd_law_sunk : FuncData
  F_law_sunk : Fun K "_law_sunk" "_law_sunk" s_law_sunk a_law_sunk fd_law_sunk
  b_law_sunk : L2.Binds K fd_law_sunk ["game", "name", "at"] []
  k_law_sunk : PySem.W.keepIn K (.ref a_law_sunk) = true
  g_law_sunk : mg "_law_sunk" = some (.ref a_law_sunk)
  a_law_ready : Addr
  fd_law_ready : FuncData
  F_law_ready : Fun K "_law_ready" "_law_ready" s_law_ready a_law_ready fd_law_ready
  b_law_ready : L2.Binds K fd_law_ready ["game", "cell"] []
  k_law_ready : PySem.W.keepIn K (.ref a_law_ready) = true
  g_law_ready : mg "_law_ready" = some (.ref a_law_ready)
  a_law : Addr
  fd_law : FuncData
  F_law : Fun K "law" "law" s_law a_law fd_law
  b_law : L2.Binds K fd_law ["script"] []
  k_law : PySem.W.keepIn K (.ref a_law) = true
  g_law : mg "law" = some (.ref a_law)
  mk_Game : Mk K C_Game a_Game_init
  C_BadStep : Addr
  g_BadStep : mg "BadStep" = some (.ref C_BadStep)
  kc_BadStep : PySem.W.keepIn K (.ref C_BadStep) = true
  xb_BadStep : PySem.W.subIn K (.ref C_BadStep) (.type "BaseException") = some true
  xt_BadStep : PySem.W.typeIn K (.ref C_BadStep) = some (.type "type")
  xd_BadStep : PySem.W.hasDictIn K C_BadStep = true
  a_BadStep_init : Addr
  fd_BadStep_init : FuncData
  E_BadStep : ErrF K mg C_BadStep a_BadStep_init fd_BadStep_init "BadStep.__init__" s_BadStep_init file "rule"
  b_BadStep_init : L2.Binds K fd_BadStep_init [("self" : Str), "rule"] []
  z_super : mg "super" = none
  C_PlayError : Addr
  g_PlayError : mg "PlayError" = some (.ref C_PlayError)
  kc_PlayError : PySem.W.keepIn K (.ref C_PlayError) = true
  xb_PlayError : PySem.W.subIn K (.ref C_PlayError) (.type "BaseException") = some true
  xt_PlayError : PySem.W.typeIn K (.ref C_PlayError) = some (.type "type")
  xd_PlayError : PySem.W.hasDictIn K C_PlayError = true
  C_BadBound : Addr
  g_BadBound : mg "BadBound" = some (.ref C_BadBound)
  C_BadCall : Addr
  g_BadCall : mg "BadCall" = some (.ref C_BadCall)
  C_BadPlayer : Addr
  g_BadPlayer : mg "BadPlayer" = some (.ref C_BadPlayer)
  C_BadText : Addr
  g_BadText : mg "BadText" = some (.ref C_BadText)
  C_TooLarge : Addr
  g_TooLarge : mg "TooLarge" = some (.ref C_TooLarge)
  ec_BadStep : ExcC K C_BadStep
  a_OPERATORS : Addr
  g_OPERATORS : mg "OPERATORS" = some (.ref a_OPERATORS)
  q_OPERATORS : ∀ H, SqT K H a_OPERATORS ((["+", "-", "*", "/", "mod", "<", "="] : List Str).map V.str)
  a_LOOKS : Addr
  g_LOOKS : mg "LOOKS" = some (.ref a_LOOKS)
  q_LOOKS : ∀ H, SqT K H a_LOOKS ((["has", "cell"] : List Str).map V.str)
  g_LONGEST_NAME : ∃ t, mg "LONGEST_NAME" = some (.int 12 t)
  g_LETTERS : ∃ t, mg "LETTERS" = some (.str "abcdefghijklmnopqrstuvwxyz" t)
  g_DIGITS : ∃ t, mg "DIGITS" = some (.str "0123456789" t)
  a_KEY_WORDS : Addr
  g_KEY_WORDS : mg "KEY_WORDS" = some (.ref a_KEY_WORDS)
  q_KEY_WORDS : ∀ H, SqT K H a_KEY_WORDS ((["var", "table", "lots", "proc", "local", "set", "let", "draw", "put", "lot", "ask", "if", "else", "end", "bad", "after", "answer", "has", "cell", "mod"] : List Str).map V.str)
  g_MOST_DRAWN : ∃ t, mg "MOST_DRAWN" = some (.int 64 t)
  g_MOST_BEFORE_TOSS : ∃ t, mg "MOST_BEFORE_TOSS" = some (.int 5 t)
  a_RULES : Addr
  g_RULES : mg "RULES" = some (.ref a_RULES)
  ns_RULES_0 : PySem.W.nsIn K a_RULES "toss" = some (some (.ref a_toss_step))
  ns_RULES_1 : PySem.W.nsIn K a_RULES "sink" = some (some (.ref a_sink_step))
  z_len : mg "len" = none
  z_range : mg "range" = none
  z_int : mg "int" = none
  z_tuple : mg "tuple" = none
  z_list : mg "list" = none
  z_isinstance : mg "isinstance" = none
  z_abs : mg "abs" = none
  z_all : mg "all" = none
  xga_BadStep : PySem.W.findIn K (.ref C_BadStep) "__getattribute__" = some (some (.builtin "BaseException.__getattribute__"))
  xgg_BadStep : PySem.W.findIn K (.ref C_BadStep) "__getattr__" = some none
  sub_sp : PySem.W.subIn K (.ref C_BadStep) (.ref C_PlayError) = some true
  ki_s : PySem.W.kitOne K (.ref C_BadStep) (.ref C_BadStep) = some true
  ki_e : PySem.W.kitAny K (.ref C_BadStep) [.ref C_BadBound, .ref C_BadCall, .ref C_BadPlayer, .ref C_BadText, .ref C_TooLarge] = some false
section
variable {P : Program} {w : World} {K : PySem.W.Frag} {mg : Str → Option Value} {base : Heap} {file : Str}
theorem ok_cell (T : Txt K mg file) : FnOk P w K mg base CX0 1 T.a_law_cell T.fd_law_cell ["script", "k"] (spCell K) := by
  refine T.F_law_cell.ok sc_law_cell (fun vs H Q E h => ?_) (fun cdv A outer s H vs Q E hr h => ?_)
  · obtain ⟨a, ns, k, rfl, _⟩ := h
    rfl
  obtain ⟨a, ns, k, rfl, hS, h0, q⟩ := h
  refine ⟨_, (pss_cons (ps_if (pt_cmpR op_lt (pv 1) (pe_callB call_len_seq (by rfl) T.z_len (by decide +kernel) (pa_cons (pv 0) pa_nil)) (nomark _))
      (pss_one (ps_ret (pe_ix ix_list (pv 0) (pv 1) (fun _ _ => rfl))))
      pss_nil)
    (pss_one (ps_ret pe_int))), ?_⟩
  refine ⟨_, rfl, _, rfl, a, _, rfl, .inl hS, _, _, rfl, rfl, _, rfl, ?_⟩
  refine ite2 (fun c => ?_) (fun c => ?_)
  · have c' := of_decide_eq_true c
    rw [List.length_map] at c'
    have hk : k.toNat < ns.length := by omega
    have e : atI (ns.map V.int) k = some (.int (ns.getD k.toNat 0)) := at_of (j := k.toNat) (by omega) (by rw [List.getElem?_map, List.getElem?_eq_getElem hk, List.getD_eq_getElem?_getD, List.getElem?_eq_getElem hk] <;> rfl)
    exact ⟨_, rfl, _, rfl, a, _, _, _, rfl, rfl, hS, e, q⟩
  · have c' := of_decide_eq_false (Bool.eq_false_iff.mpr c)
    rw [List.length_map] at c'
    have e : ns.getD k.toNat 0 = 0 := by rw [List.getD_eq_getElem?_getD, List.getElem?_eq_none (by omega)] <;> rfl
    rw [e] at q
    exact q
theorem ok_row (T : Txt K mg file) : FnOk P w K mg base CX0 1 T.a_law_row T.fd_law_row ["cell", "count", "size"] spRow := by
  refine T.F_law_row.ok sc_law_row (fun vs H Q E h => ?_) (fun cdv A outer s H vs Q E hr h => ?_)
  · obtain ⟨c, n, z, rfl, _⟩ := h
    rfl
  obtain ⟨cell, count, size, rfl, c0, c1, s0, s1, q⟩ := h
  refine ⟨_, (pss_cons (ps_set (i := 3) sc_law_row.nd rfl (Or.inl rfl) (pv 0))
    (pss_cons (ps_set (i := 4) sc_law_row.nd rfl (Or.inl rfl) (pe_lst pa_nil))
    (pss_cons (ps_for PassesOwn.never rfl (pi_range1 (by rfl) T.z_range (pa_cons (pv 1) pa_nil)) (pg_name (i := 5) sc_law_row.nd rfl (Or.inl rfl))
      (pss_one (ps_if (pt_cmpR op_ge (pv 0) (pe_op op_pow pe_int pe_int) (nomark _))
      (pss_cons (ps_expr (pe_bm PySem.F.plainAttrs_list PySem.F.slot_list_append PySem.F.type_list_append mt_append (pv 4) (pa_cons (pe_op op_mod (pe_callTy call_int1 (by rfl) T.z_int (by decide +kernel) (pa_cons (pv 3) pa_nil)) (pv 2)) pa_nil)))
    (pss_one (ps_set (i := 3) sc_law_row.nd rfl (Or.inl rfl) (pe_op op_fdivW (pv 3) (pv 2)))))
      (pss_cons (ps_set (i := 3) sc_law_row.nd rfl (Or.inl rfl) (pe_op op_mod (pe_op op_add (pe_op op_mul (pv 3) pe_int) pe_int) pe_int))
    (pss_one (ps_expr (pe_bm PySem.F.plainAttrs_list PySem.F.slot_list_append PySem.F.type_list_append mt_append (pv 4) (pa_cons (pe_op op_mod (pe_op op_mod (pe_callTy call_int1 (by rfl) T.z_int (by decide +kernel) (pa_cons (pe_op op_add (pe_op op_mul (pv 3) pe_int) (pe_op op_mul (pv 5) pe_int)) pa_nil)) pe_int) (pv 2)) pa_nil))))))))
    (pss_one (ps_ret (pv 4)))))), ?_⟩
  refine ⟨_, rfl, (by show 0 ≤ sizeLine; decide), fun l hl => ?_⟩
  refine ⟨_, rfl, _, rfl, by omega, by omega, for_range (lo := 0) (n := count.toNat) (fun i σ H' => ∃ (st : Int) (ns : List Int) (kV : Option V), σ = [some (.int cell), some (.int count), some (.int size), some (.int st), some (.ref l), kV] ∧
    Same H H' ∧ H' l = some (.lst (ns.map V.int)) ∧ ns.length = i ∧ ∀ x ∈ ns, 0 ≤ x ∧ x < size) ⟨cell, [], none, rfl, same_new hl _, upd_same, rfl, fun x hx => nomatch hx⟩ ?_ ?_⟩
  · rintro i σ H' hi ⟨st, ns, kV, rfl, m, hL, hn, hb⟩
    have big : ns.length < sizeLine := small1000 (by omega)
    have nl : ∀ b o, H b = some o → b ≠ l := fun b o e => ne_of_none e hl
    have fin : ∀ (st' y : Int) (H2 : Hp), 0 ≤ y → y < size → H2 = upd H' l (.lst (ns.map V.int ++ [.int y])) → ∃ (st'' : Int) (ns' : List Int) (kV : Option V), ([some (.int cell), some (.int count), some (.int size), some (.int st'), some (.ref l), some (.int (0 + (i : Int)))] : List (Option V)) =
        [some (.int cell), some (.int count), some (.int size), some (.int st''), some (.ref l), kV] ∧ Same H H2 ∧ H2 l = some (.lst (ns'.map V.int)) ∧ ns'.length = i + 1 ∧ ∀ x ∈ ns', 0 ≤ x ∧ x < size := by
      intro st' y H2 h0 h1 e
      subst e
      refine ⟨st', ns ++ [y], _, rfl, fun b o z => by rw [upd_ne (nl b o z)]; exact m b o z, by rw [upd_same, List.map_append]; all_goals rfl, by rw [List.length_append, hn]; all_goals rfl, fun x hx => ?_⟩
      rcases List.mem_append.mp hx with z | z
      · exact hb x z
      · rw [List.mem_singleton.mp z]
        exact ⟨h0, h1⟩
    refine ⟨_, rfl, _, _, rfl, rfl, ⟨by decide, by decide, by decide⟩, _, _, rfl, rfl, _, rfl, ?_⟩
    refine ite2 (fun c => ?_) (fun c => ?_)
    · refine ⟨_, rfl, .inl ⟨rfl, _, SqL.of hL⟩, _, rfl, .inl ⟨_, rfl, _, rfl, _, _, rfl, rfl, s0, l, _, _, rfl, rfl, hL, (by rw [List.length_map]; exact big), ?_⟩⟩
      refine ⟨_, rfl, _, rfl, _, _, rfl, rfl, wide_div s0 s1 (by decide) (by decide), ?_⟩
      exact fin _ _ _ (Int.emod_nonneg _ (by omega)) (Int.emod_lt_of_pos _ s0) rfl
    · refine ⟨_, rfl, _, _, rfl, rfl, .inr ⟨by decide, by decide⟩, _, _, rfl, rfl, _, _, rfl, rfl, (by show (0 : Int) < 2147483647; decide), ?_⟩
      refine ⟨_, rfl, .inl ⟨rfl, _, SqL.of hL⟩, _, rfl, _, _, rfl, rfl, .inr ⟨by decide, by decide⟩, _, rfl, _, _, rfl, rfl, .inr ⟨by decide, by decide⟩, _, _, rfl, rfl, .inl ⟨_, rfl, ?_⟩⟩
      refine ⟨_, _, rfl, rfl, (by show (0 : Int) < 2147483647; decide), _, rfl, _, _, rfl, rfl, s0, l, _, _, rfl, rfl, hL, (by rw [List.length_map]; exact big), ?_⟩
      exact fin _ _ _ (Int.emod_nonneg _ (by omega)) (Int.emod_lt_of_pos _ s0) rfl
  · rintro σ H' ⟨st, ns, kV, rfl, m, hL, hn, hb⟩
    exact ⟨_, rfl, q l ns H' m hL hn hb⟩
theorem num_ok {sc : Sc} (a m : Int) (k : Nat) (h1 : 0 < m) (h2 : m ≤ 65535) : (Ex.num (a % m)).Ok sc (k + 1) := by
  have e0 := Int.emod_nonneg a (by omega : m ≠ 0)
  have e1 := Int.emod_lt_of_pos a h1
  exact ⟨e0, by omega⟩
theorem dp_num {H : Hp} {p : Addr} (hp : H p = none) (n : Int) : Dp K (upd H p (.tup [.str "number", .int n])) (.ref p) (Ex.num n).d := by unfold Ex.d; exact dp_tup hp (.cons (.str _) (.cons (.int _) .nil))
theorem dp_loc {H : Hp} {p : Addr} (hp : H p = none) (x : Str) : Dp K (upd H p (.tup [.str "local", .str x])) (.ref p) (Ex.loc x).d := by unfold Ex.d; exact dp_tup hp (.cons (.str _) (.cons (.str _) .nil))
theorem dp_var {H : Hp} {p : Addr} (hp : H p = none) (x : Str) : Dp K (upd H p (.tup [.str "variable", .str x])) (.ref p) (Ex.var x).d := by unfold Ex.d; exact dp_tup hp (.cons (.str _) (.cons (.str _) .nil))
theorem dp_has {H : Hp} {p : Addr} (hp : H p = none) (t : Str) {v : V} {e : Ex} (d : Dp K H v e.d) : Dp K (upd H p (.tup [.str "has", .str t, v])) (.ref p) (Ex.has t e).d := by
  show Dp K _ _ (.tuple [.str "has", .str t, e.d]); exact dp_tup hp (.cons (.str _) (.cons (.str _) (.cons d .nil)))
theorem dp_cell {H : Hp} {p : Addr} (hp : H p = none) (t : Str) {v : V} {e : Ex} (d : Dp K H v e.d) : Dp K (upd H p (.tup [.str "cell", .str t, v])) (.ref p) (Ex.cell t e).d := by
  show Dp K _ _ (.tuple [.str "cell", .str t, e.d]); exact dp_tup hp (.cons (.str _) (.cons (.str _) (.cons d .nil)))
theorem dp_op {H : Hp} {p : Addr} (hp : H p = none) (o : Str) {v u : V} {e f : Ex} (d : Dp K H v e.d) (d' : Dp K H u f.d) : Dp K (upd H p (.tup [.str o, v, u])) (.ref p) (Ex.op o e f).d := by
  show Dp K _ _ (.tuple [.str o, e.d, f.d]); exact dp_tup hp (.cons (.str _) (.cons d (.cons d' .nil)))
theorem ok_side (T : Txt K mg file) : FnOk P w K mg base CX0 1 T.a_law_side T.fd_law_side ["code", "names", "variables", "tables"] (spSide K 2) := by
  refine T.F_law_side.ok sc_law_side (fun vs H Q E h => ?_) (fun cdv A outer s H vs Q E hr h => ?_)
  · obtain ⟨c, na, va, ta, s, rfl, _⟩ := h
    rfl
  obtain ⟨code, na, va, ta, sc, rfl, hA, q⟩ := h
  refine ⟨_, (pss_cons (ps_set (i := 4) sc_law_side.nd rfl (Or.inl rfl) (pe_op op_mod (pe_callTy call_int1 (by rfl) T.z_int (by decide +kernel) (pa_cons (pv 0) pa_nil)) pe_int))
    (pss_cons (ps_set (i := 5) sc_law_side.nd rfl (Or.inl rfl) (pe_op op_fdivW (pe_callTy call_int1 (by rfl) T.z_int (by decide +kernel) (pa_cons (pv 0) pa_nil)) pe_int))
    (pss_cons (ps_set (i := 6) sc_law_side.nd rfl (Or.inl rfl) (pe_tup (pa_cons pe_str (pa_cons (pe_ix ix_tup (pv 1) (pe_op op_mod (pv 5) (pe_callB call_len_seq (by rfl) T.z_len (by decide +kernel) (pa_cons (pv 1) pa_nil))) (fun _ _ => rfl)) pa_nil))))
    (pss_cons (ps_if (pt_cmpR op_lt (pv 4) pe_int (nomark _))
      (pss_one (ps_ret (pv 6)))
      pss_nil)
    (pss_cons (ps_if (PW.pt (pw_and (pt_cmpR op_eq (pv 4) pe_int (nomark _)) (pw_and1 (pt_cmpR op_gt (pe_callB call_len_seq (by rfl) T.z_len (by decide +kernel) (pa_cons (pv 2) pa_nil)) pe_int (nomark _)))))
      (pss_one (ps_ret (pe_tup (pa_cons pe_str (pa_cons (pe_ix ix_list (pv 2) (pe_op op_mod (pv 5) (pe_callB call_len_seq (by rfl) T.z_len (by decide +kernel) (pa_cons (pv 2) pa_nil))) (fun _ _ => rfl)) pa_nil)))))
      pss_nil)
    (pss_cons (ps_if (PW.pt (pw_and (pt_cmpR op_eq (pv 4) pe_int (nomark _)) (pw_and1 (pt_cmpR op_gt (pe_callB call_len_seq (by rfl) T.z_len (by decide +kernel) (pa_cons (pv 3) pa_nil)) pe_int (nomark _)))))
      (pss_one (ps_ret (pe_tup (pa_cons (pe_ix ix_tup (pe_tup (pa_cons pe_str (pa_cons pe_str pa_nil))) (pe_op op_mod (pv 5) pe_int) (fun _ _ => rfl)) (pa_cons (pe_ix ix_list (pv 3) (pe_op op_mod (pe_op op_fdivW (pv 5) pe_int) (pe_callB call_len_seq (by rfl) T.z_len (by decide +kernel) (pa_cons (pv 3) pa_nil))) (fun _ _ => rfl)) (pa_cons (pv 6) pa_nil))))))
      pss_nil)
    (pss_cons (ps_if (pt_cmpR op_eq (pv 4) pe_int (nomark _))
      (pss_one (ps_ret (pe_tup (pa_cons (pe_ix ix_tup (pe_tup (pa_cons pe_str (pa_cons pe_str (pa_cons pe_str (pa_cons pe_str (pa_cons pe_str (pa_cons pe_str (pa_cons pe_str pa_nil)))))))) (pe_op op_mod (pe_op op_fdivW (pv 5) pe_int) pe_int) (fun _ _ => rfl)) (pa_cons (pv 6) (pa_cons (pe_tup (pa_cons pe_str (pa_cons (pe_op op_mod (pe_op op_fdivW (pv 5) pe_int) pe_int) pa_nil))) pa_nil))))))
      pss_nil)
    (pss_cons (ps_if (PW.pt (pw_and (pt_cmpR op_eq (pv 4) pe_int (nomark _)) (pw_and1 (pt_cmpR op_eq (pe_op op_mod (pv 5) pe_int) pe_int (nomark _)))))
      (pss_cons (ps_set (i := 7) sc_law_side.nd rfl (Or.inl rfl) (pe_ix ix_tup (pe_tup (pa_cons pe_str (pa_cons pe_str (pa_cons pe_str (pa_cons pe_str (pa_cons pe_str (pa_cons pe_str (pa_cons pe_str pa_nil)))))))) (pe_op op_mod (pe_op op_fdivW (pv 5) pe_int) pe_int) (fun _ _ => rfl)))
    (pss_one (ps_ret (pe_tup (pa_cons (pv 7) (pa_cons (pe_tup (pa_cons pe_str (pa_cons (pe_op op_mod (pe_op op_fdivW (pv 5) pe_int) pe_int) pa_nil))) (pa_cons (pe_tup (pa_cons pe_str (pa_cons (pe_op op_mod (pe_op op_fdivW (pv 5) pe_int) pe_int) pa_nil))) pa_nil)))))))
      pss_nil)
    (pss_one (ps_ret (pe_tup (pa_cons pe_str (pa_cons (pe_op op_mod (pv 5) pe_int) pa_nil))))))))))))), ?_⟩
  have two : (2 : Nat) ≤ sizeLine := by decide
  have three : (3 : Nat) ≤ sizeLine := by decide
  have seven : (7 : Nat) ≤ sizeLine := by decide
  refine ⟨_, rfl, .inl ⟨_, rfl, _, _, rfl, rfl, (by show (0 : Int) < 6; decide), ?_⟩⟩
  refine ⟨_, rfl, .inl ⟨_, rfl, _, _, rfl, rfl, ⟨by decide, by decide⟩, ?_⟩⟩
  dsimp only
  generalize code / 6 = r
  generalize code % 6 = pk
  obtain ⟨x, hx, ex⟩ := pick_mem (r := r) hA.n0
  refine ⟨_, rfl, _, rfl, _, rfl, na, _, rfl, .inr hA.n, _, _, rfl, rfl, len_pos hA.n0, na, _, _, _, rfl, rfl, hA.n, ex, two, fun p hp => ?_⟩
  have m1 := same_new hp (.tup [.str "local", .str x])
  have hA1 := hA.mono m1
  have d1 : Dp K (upd H p (.tup [.str "local", .str x])) (.ref p) (Ex.loc x).d := by unfold Ex.d; exact dp_tup hp (.cons (.str _) (.cons (.str _) .nil))
  have o1 : (Ex.loc x).Ok sc 1 := hx
  generalize upd H p (.tup [.str "local", .str x]) = H1 at *
  refine ⟨_, rfl, _, _, rfl, rfl, _, rfl, ite2 (fun c => ?_) (fun c1 => ?_)⟩
  · exact ⟨_, rfl, q _ _ _ m1 d1 (o1.mono (by decide))⟩
  -- a variable
  refine ⟨_, rfl, rfl, _, rfl, and_if ?_ fun _ rest => ?_⟩
  rotate_left
  · refine ⟨_, rfl, va, _, rfl, .inl hA1.v, _, _, rfl, rfl, _, rfl, ite2 (fun c => ?_) (fun _ => rest)⟩
    have v0 := ne_of_len c
    obtain ⟨y, hy, ey⟩ := pick_mem (r := r) v0
    refine ⟨_, rfl, _, rfl, _, rfl, va, _, rfl, .inl hA1.v, _, _, rfl, rfl, len_pos v0, va, _, _, _, rfl, rfl, hA1.v, ey, two, fun p2 hp2 => ?_⟩
    refine q _ (.var y) _ (m1.trans (same_new hp2 _)) ?_ (show y ∈ sc.vars from hy)
    unfold Ex.d
    exact dp_tup hp2 (.cons (.str _) (.cons (.str _) .nil))
  -- a look at a table
  refine ⟨_, rfl, rfl, _, rfl, and_if ?_ fun _ rest => ?_⟩
  rotate_left
  · refine ⟨_, rfl, ta, _, rfl, .inl hA1.t, _, _, rfl, rfl, _, rfl, ite2 (fun c => ?_) (fun _ => rest)⟩
    have t0 := ne_of_len c
    obtain ⟨y, hy, ey⟩ := pick_mem (r := r / 2) t0
    refine ⟨two, fun p2 hp2 => ?_⟩
    have m2 := same_new hp2 (.tup [.str "has", .str "cell"])
    have hA2 := hA1.mono m2
    have d2 := dp_mono m2 _ _ d1
    have go : ∀ h : Str, (h = "has" ∨ h = "cell") → ∀ H3, Same H H3 → At K sc H3 na va ta → Dp K H3 (.ref p) (Ex.loc x).d →
        tTup (fun σ H' Q' => Q' [.str h, .str y, .ref p] H') [] H3 Q := by
      intro h hh H3 m3 hA3 d3
      refine ⟨three, fun p4 hp4 => ?_⟩
      rcases hh with rfl | rfl
      · refine q _ (.has y (.loc x)) _ (m3.trans (same_new hp4 _)) ?_ ⟨hy, hx⟩
        unfold Ex.d
        exact dp_tup hp4 (.cons (.str _) (.cons (.str _) (.cons d3 .nil)))
      · refine q _ (.cell y (.loc x)) _ (m3.trans (same_new hp4 _)) ?_ ⟨hy, hx⟩
        unfold Ex.d
        exact dp_tup hp4 (.cons (.str _) (.cons (.str _) (.cons d3 .nil)))
    rcases pick_two (a := V.str "has") (b := V.str "cell") (r := r) with e2 | e2
    · refine ⟨_, rfl, _, _, rfl, rfl, (by show (0 : Int) < 2; decide), p2, _, _, _, rfl, rfl, SqT.of upd_same, e2, ?_⟩
      refine ⟨_, rfl, _, rfl, _, _, rfl, rfl, ⟨by decide, by decide⟩, _, rfl, ta, _, rfl, .inl hA2.t, _, _, rfl, rfl, len_pos t0, ta, _, _, _, rfl, rfl, hA2.t, ey, _, rfl, ?_⟩
      exact go _ (.inl rfl) _ (m1.trans m2) hA2 d2
    · refine ⟨_, rfl, _, _, rfl, rfl, (by show (0 : Int) < 2; decide), p2, _, _, _, rfl, rfl, SqT.of upd_same, e2, ?_⟩
      refine ⟨_, rfl, _, rfl, _, _, rfl, rfl, ⟨by decide, by decide⟩, _, rfl, ta, _, rfl, .inl hA2.t, _, _, rfl, rfl, len_pos t0, ta, _, _, _, rfl, rfl, hA2.t, ey, _, rfl, ?_⟩
      exact go _ (.inr rfl) _ (m1.trans m2) hA2 d2
  -- an operator on a local and a number
  have numok : ∀ (a m : Int) (k : Nat), 0 < m → m ≤ 65535 → (Ex.num (a % m)).Ok sc (k + 1) := fun a m k h1 h2 => by
    have e0 := Int.emod_nonneg a (by omega : m ≠ 0)
    have e1 := Int.emod_lt_of_pos a h1
    exact ⟨e0, by omega⟩
  refine ⟨_, rfl, rfl, _, rfl, ite2 (fun _ => ?_) (fun _ => ?_)⟩
  · refine ⟨seven, fun p2 hp2 => ?_⟩
    have m2 := same_new hp2 (.tup [.str "+", .str "-", .str "*", .str "/", .str "mod", .str "<", .str "="])
    have hA2 := hA1.mono m2
    have d2 := dp_mono m2 _ _ d1
    obtain ⟨o, ho, eo⟩ := pick_op (r := r / 3)
    refine ⟨_, rfl, _, _, rfl, rfl, ⟨by decide, by decide⟩, _, _, rfl, rfl, (by show (0 : Int) < 7; decide), p2, _, _, _, rfl, rfl, SqT.of upd_same, eo, ?_⟩
    refine ⟨_, rfl, _, rfl, _, _, rfl, rfl, ⟨by decide, by decide⟩, _, _, rfl, rfl, (by show (0 : Int) < 4; decide), two, fun p3 hp3 => ?_⟩
    have m3 := same_new hp3 (.tup [.str "number", .int (r / 21 % 4)])
    have d3 := dp_num (K := K) hp3 (r / 21 % 4)
    refine ⟨three, fun p4 hp4 => ?_⟩
    refine q _ (.op o (.loc x) (.num (r / 21 % 4))) _ (m1.trans (m2.trans (m3.trans (same_new hp4 _)))) ?_ ⟨ho, hx, numok _ _ 0 (by decide) (by decide)⟩
    show Dp K _ _ (.tuple [.str o, (Ex.loc x).d, (Ex.num (r / 21 % 4)).d])
    exact dp_tup hp4 (.cons (.str _) (.cons (dp_mono m3 _ _ d2) (.cons d3 .nil)))
  -- an operator on numbers
  refine ⟨_, rfl, rfl, _, rfl, and_if ?_ fun _ rest => ?_⟩
  rotate_left
  · refine ⟨_, rfl, _, _, rfl, rfl, (by show (0 : Int) < 3; decide), rfl, _, rfl, ite2 (fun c => ?_) (fun _ => rest)⟩
    refine ⟨seven, fun p2 hp2 => ?_⟩
    have m2 := same_new hp2 (.tup [.str "+", .str "-", .str "*", .str "/", .str "mod", .str "<", .str "="])
    obtain ⟨o, ho, eo⟩ := pick_op (r := r / 3)
    refine ⟨_, rfl, _, _, rfl, rfl, ⟨by decide, by decide⟩, _, _, rfl, rfl, (by show (0 : Int) < 7; decide), p2, _, _, _, rfl, rfl, SqT.of upd_same, eo, ?_⟩
    refine ⟨_, rfl, _, rfl, _, _, rfl, rfl, ⟨by decide, by decide⟩, _, _, rfl, rfl, (by show (0 : Int) < 3; decide), two, fun p3 hp3 => ?_⟩
    have m3 := same_new hp3 (.tup [.str "number", .int (r / 21 % 3)])
    have d3 := dp_num (K := K) hp3 (r / 21 % 3)
    refine ⟨_, rfl, _, _, rfl, rfl, ⟨by decide, by decide⟩, _, _, rfl, rfl, (by show (0 : Int) < 4; decide), two, fun p4 hp4 => ?_⟩
    have m4 := same_new hp4 (.tup [.str "number", .int (r / 63 % 4)])
    have d4 := dp_num (K := K) hp4 (r / 63 % 4)
    refine ⟨three, fun p5 hp5 => ?_⟩
    refine q _ (.op o (.num (r / 21 % 3)) (.num (r / 63 % 4))) _ (m1.trans (m2.trans (m3.trans (m4.trans (same_new hp5 _))))) ?_ ⟨ho, numok _ _ 0 (by decide) (by decide), numok _ _ 0 (by decide) (by decide)⟩
    show Dp K _ _ (.tuple [.str o, (Ex.num (r / 21 % 3)).d, (Ex.num (r / 63 % 4)).d])
    exact dp_tup hp5 (.cons (.str _) (.cons (dp_mono m4 _ _ d3) (.cons d4 .nil)))
  -- a number
  refine ⟨_, rfl, _, _, rfl, rfl, (by show (0 : Int) < 4; decide), two, fun p2 hp2 => ?_⟩
  refine q _ (.num (r % 4)) _ (m1.trans (same_new hp2 _)) ?_ (numok _ _ 1 (by decide) (by decide))
  unfold Ex.d
  exact dp_tup hp2 (.cons (.str _) (.cons (.int _) .nil))
theorem ok_value (T : Txt K mg file) : FnOk P w K mg base CX0 2 T.a_law_value T.fd_law_value ["cell", "names", "variables", "tables"] (spSide K 3) := by
  have G_law_side : FnOk P w K mg base CX0 1 T.a_law_side T.fd_law_side ["code", "names", "variables", "tables"] (spSide K 2) := ok_side T
  refine T.F_law_value.ok sc_law_value (fun vs H Q E h => ?_) (fun cdv A outer s H vs Q E hr h => ?_)
  · obtain ⟨c, na, va, ta, s, rfl, _⟩ := h
    rfl
  obtain ⟨code, na, va, ta, sc, rfl, hA, q⟩ := h
  refine ⟨_, (pss_cons (ps_set (i := 4) sc_law_value.nd rfl (Or.inl rfl) (pe_op op_mod (pe_callTy call_int1 (by rfl) T.z_int (by decide +kernel) (pa_cons (pv 0) pa_nil)) pe_int))
    (pss_cons (ps_set (i := 5) sc_law_value.nd rfl (Or.inl rfl) (pe_op op_fdivW (pe_callTy call_int1 (by rfl) T.z_int (by decide +kernel) (pa_cons (pv 0) pa_nil)) pe_int))
    (pss_cons (ps_if (pt_cmpR op_lt (pv 4) pe_int (nomark _))
      (pss_one (ps_ret (pe_tup (pa_cons pe_str (pa_cons (pe_ix ix_tup (pv 1) (pe_op op_mod (pv 5) (pe_callB call_len_seq (by rfl) T.z_len (by decide +kernel) (pa_cons (pv 1) pa_nil))) (fun _ _ => rfl)) pa_nil)))))
      pss_nil)
    (pss_cons (ps_if (PW.pt (pw_and (pt_cmpR op_eq (pv 4) pe_int (nomark _)) (pw_and1 (pt_cmpR op_gt (pe_callB call_len_seq (by rfl) T.z_len (by decide +kernel) (pa_cons (pv 2) pa_nil)) pe_int (nomark _)))))
      (pss_one (ps_ret (pe_tup (pa_cons pe_str (pa_cons (pe_ix ix_list (pv 2) (pe_op op_mod (pv 5) (pe_callB call_len_seq (by rfl) T.z_len (by decide +kernel) (pa_cons (pv 2) pa_nil))) (fun _ _ => rfl)) pa_nil)))))
      pss_nil)
    (pss_cons (ps_if (PW.pt (pw_and (pt_cmpR op_eq (pv 4) pe_int (nomark _)) (pw_and1 (pt_cmpR op_gt (pe_callB call_len_seq (by rfl) T.z_len (by decide +kernel) (pa_cons (pv 3) pa_nil)) pe_int (nomark _)))))
      (pss_cons (ps_set (i := 6) sc_law_value.nd rfl (Or.inl rfl) (pe_call G_law_side (hr.mono (by decide)) rfl T.g_law_side T.k_law_side T.b_law_side .nil pass0 (pa_cons (pe_op op_fdivW (pv 5) pe_int) (pa_cons (pv 1) (pa_cons (pv 2) (pa_cons (pv 3) pa_nil))))))
    (pss_one (ps_ret (pe_tup (pa_cons (pe_ix ix_tup (pe_tup (pa_cons pe_str (pa_cons pe_str pa_nil))) (pe_op op_mod (pv 5) pe_int) (fun _ _ => rfl)) (pa_cons (pe_ix ix_list (pv 3) (pe_op op_mod (pe_op op_fdivW (pv 5) pe_int) (pe_callB call_len_seq (by rfl) T.z_len (by decide +kernel) (pa_cons (pv 3) pa_nil))) (fun _ _ => rfl)) (pa_cons (pv 6) pa_nil)))))))
      pss_nil)
    (pss_cons (ps_set (i := 7) sc_law_value.nd rfl (Or.inl rfl) (pe_ix ix_tup (pe_tup (pa_cons pe_str (pa_cons pe_str (pa_cons pe_str (pa_cons pe_str (pa_cons pe_str (pa_cons pe_str (pa_cons pe_str pa_nil)))))))) (pe_op op_mod (pv 5) pe_int) (fun _ _ => rfl)))
    (pss_cons (ps_if (pt_cmpR op_eq (pv 4) pe_int (nomark _))
      (pss_one (ps_ret (pe_tup (pa_cons (pv 7) (pa_cons (pe_call G_law_side (hr.mono (by decide)) rfl T.g_law_side T.k_law_side T.b_law_side .nil pass0 (pa_cons (pe_op op_fdivW (pv 5) pe_int) (pa_cons (pv 1) (pa_cons (pv 2) (pa_cons (pv 3) pa_nil))))) (pa_cons (pe_call G_law_side (hr.mono (by decide)) rfl T.g_law_side T.k_law_side T.b_law_side .nil pass0 (pa_cons (pe_op op_fdivW (pv 5) pe_int) (pa_cons (pv 1) (pa_cons (pv 2) (pa_cons (pv 3) pa_nil))))) pa_nil))))))
      pss_nil)
    (pss_cons (ps_if (pt_cmpR op_eq (pv 4) pe_int (nomark _))
      (pss_cons (ps_set (i := 8) sc_law_value.nd rfl (Or.inl rfl) (pe_tup (pa_cons pe_str (pa_cons (pe_op op_mod (pe_op op_fdivW (pv 5) pe_int) pe_int) pa_nil))))
    (pss_one (ps_ret (pe_tup (pa_cons (pv 7) (pa_cons (pv 8) (pa_cons (pe_ix ix_tup (pe_tup (pa_cons (pe_tup (pa_cons pe_str (pa_cons (pe_op op_mod (pe_op op_fdivW (pv 5) pe_int) pe_int) pa_nil))) (pa_cons (pe_call G_law_side (hr.mono (by decide)) rfl T.g_law_side T.k_law_side T.b_law_side .nil pass0 (pa_cons (pe_op op_fdivW (pv 5) pe_int) (pa_cons (pv 1) (pa_cons (pv 2) (pa_cons (pv 3) pa_nil))))) pa_nil))) (pe_op op_mod (pe_op op_fdivW (pv 5) pe_int) pe_int) (fun _ _ => rfl)) pa_nil)))))))
      pss_nil)
    (pss_one (ps_ret (pe_tup (pa_cons pe_str (pa_cons (pe_ix ix_tup (pe_tup (pa_cons (pe_op op_mod (pv 5) pe_int) (pa_cons (pe_op op_mod (pv 5) pe_int) (pa_cons (pe_op op_mod (pv 5) pe_int) (pa_cons (pe_op op_sub pe_int (pe_op op_mod (pv 5) pe_int)) pa_nil))))) (pe_op op_mod (pe_op op_fdivW (pv 5) pe_int) pe_int) (fun _ _ => rfl)) pa_nil))))))))))))), ?_⟩
  have two : (2 : Nat) ≤ sizeLine := by decide
  have three : (3 : Nat) ≤ sizeLine := by decide
  have four : (4 : Nat) ≤ sizeLine := by decide
  have seven : (7 : Nat) ≤ sizeLine := by decide
  refine ⟨_, rfl, .inl ⟨_, rfl, _, _, rfl, rfl, (by show (0 : Int) < 8; decide), ?_⟩⟩
  refine ⟨_, rfl, .inl ⟨_, rfl, _, _, rfl, rfl, ⟨by decide, by decide⟩, ?_⟩⟩
  dsimp only
  generalize code / 8 = r
  generalize code % 8 = pk
  obtain ⟨x, hx, ex⟩ := pick_mem (r := r) hA.n0
  -- a local
  refine ⟨_, rfl, _, _, rfl, rfl, _, rfl, ite2 (fun c => ?_) (fun c1 => ?_)⟩
  · refine ⟨_, rfl, _, rfl, _, rfl, na, _, rfl, .inr hA.n, _, _, rfl, rfl, len_pos hA.n0, na, _, _, _, rfl, rfl, hA.n, ex, two, fun p hp => ?_⟩
    exact q _ (.loc x) _ (same_new hp _) (dp_loc hp x) (show x ∈ sc.locs from hx)
  -- a variable
  refine ⟨_, rfl, rfl, _, rfl, and_if ?_ fun _ rest => ?_⟩
  rotate_left
  · refine ⟨_, rfl, va, _, rfl, .inl hA.v, _, _, rfl, rfl, _, rfl, ite2 (fun c => ?_) (fun _ => rest)⟩
    have v0 := ne_of_len c
    obtain ⟨y, hy, ey⟩ := pick_mem (r := r) v0
    refine ⟨_, rfl, _, rfl, _, rfl, va, _, rfl, .inl hA.v, _, _, rfl, rfl, len_pos v0, va, _, _, _, rfl, rfl, hA.v, ey, two, fun p2 hp2 => ?_⟩
    exact q _ (.var y) _ (same_new hp2 _) (dp_var hp2 y) (show y ∈ sc.vars from hy)
  -- a look at a table
  refine ⟨_, rfl, rfl, _, rfl, and_if ?_ fun _ rest => ?_⟩
  rotate_left
  · refine ⟨_, rfl, ta, _, rfl, .inl hA.t, _, _, rfl, rfl, _, rfl, ite2 (fun c => ?_) (fun _ => rest)⟩
    have t0 := ne_of_len c
    obtain ⟨y, hy, ey⟩ := pick_mem (r := r / 2) t0
    refine ⟨_, rfl, _, _, rfl, rfl, ⟨by decide, by decide⟩, _, rfl, _, rfl, _, rfl, _, na, va, ta, sc, rfl, hA, fun v e H1 m1 d1 o1 => ?_⟩
    have hA1 := hA.mono m1
    refine ⟨two, fun p2 hp2 => ?_⟩
    have m2 := same_new hp2 (.tup [.str "has", .str "cell"])
    have hA2 := hA1.mono m2
    have d2 := dp_mono m2 _ _ d1
    rcases pick_two (a := V.str "has") (b := V.str "cell") (r := r) with e2 | e2
    · refine ⟨_, rfl, _, _, rfl, rfl, (by show (0 : Int) < 2; decide), p2, _, _, _, rfl, rfl, SqT.of upd_same, e2, ?_⟩
      refine ⟨_, rfl, _, rfl, _, _, rfl, rfl, ⟨by decide, by decide⟩, _, rfl, ta, _, rfl, .inl hA2.t, _, _, rfl, rfl, len_pos t0, ta, _, _, _, rfl, rfl, hA2.t, ey, _, rfl, three, fun p4 hp4 => ?_⟩
      exact q _ (.has y e) _ (m1.trans (m2.trans (same_new hp4 _))) (dp_has hp4 y d2) ⟨hy, o1⟩
    · refine ⟨_, rfl, _, _, rfl, rfl, (by show (0 : Int) < 2; decide), p2, _, _, _, rfl, rfl, SqT.of upd_same, e2, ?_⟩
      refine ⟨_, rfl, _, rfl, _, _, rfl, rfl, ⟨by decide, by decide⟩, _, rfl, ta, _, rfl, .inl hA2.t, _, _, rfl, rfl, len_pos t0, ta, _, _, _, rfl, rfl, hA2.t, ey, _, rfl, three, fun p4 hp4 => ?_⟩
      exact q _ (.cell y e) _ (m1.trans (m2.trans (same_new hp4 _))) (dp_cell hp4 y d2) ⟨hy, o1⟩
  -- the sign
  refine ⟨seven, fun p2 hp2 => ?_⟩
  have m2 := same_new hp2 (.tup [.str "+", .str "-", .str "*", .str "/", .str "mod", .str "<", .str "="])
  have hA2 := hA.mono m2
  obtain ⟨o, ho, eo⟩ := pick_op (r := r)
  refine ⟨_, rfl, _, _, rfl, rfl, (by show (0 : Int) < 7; decide), p2, _, _, _, rfl, rfl, SqT.of upd_same, eo, ?_⟩
  revert m2 hA2
  generalize upd H p2 (.tup [.str "+", .str "-", .str "*", .str "/", .str "mod", .str "<", .str "="]) = H2
  intro m2 hA2
  -- two sides
  refine ⟨_, rfl, rfl, _, rfl, ite2 (fun _ => ?_) (fun _ => ?_)⟩
  · refine ⟨_, rfl, _, rfl, _, _, rfl, rfl, ⟨by decide, by decide⟩, _, rfl, _, rfl, _, rfl, _, na, va, ta, sc, rfl, hA2, fun v e H3 m3 d3 o3 => ?_⟩
    refine ⟨_, rfl, _, _, rfl, rfl, ⟨by decide, by decide⟩, _, rfl, _, rfl, _, rfl, _, na, va, ta, sc, rfl, hA2.mono m3, fun v' e' H4 m4 d4 o4 => ?_⟩
    refine ⟨three, fun p5 hp5 => ?_⟩
    exact q _ (.op o e e') _ (m2.trans (m3.trans (m4.trans (same_new hp5 _)))) (dp_op hp5 o (dp_mono m4 _ _ d3) d4) ⟨ho, o3, o4⟩
  -- a number on the left
  refine ⟨_, rfl, rfl, _, rfl, ite2 (fun _ => ?_) (fun _ => ?_)⟩
  · refine ⟨_, rfl, _, _, rfl, rfl, ⟨by decide, by decide⟩, _, _, rfl, rfl, (by show (0 : Int) < 3; decide), two, fun p3 hp3 => ?_⟩
    have m3 := same_new hp3 (.tup [.str "number", .int (r / 7 % 3)])
    have d3 := dp_num (K := K) hp3 (r / 7 % 3)
    have hA3 := hA2.mono m3
    revert m3 d3 hA3
    dsimp only
    generalize upd H2 p3 (.tup [.str "number", .int (r / 7 % 3)]) = H3
    intro m3 d3 hA3
    refine ⟨_, rfl, _, rfl, _, rfl, _, _, rfl, rfl, ⟨by decide, by decide⟩, _, _, rfl, rfl, (by show (0 : Int) < 4; decide), two, fun p4 hp4 => ?_⟩
    have m4 := same_new hp4 (.tup [.str "number", .int (r / 21 % 4)])
    have d4 := dp_num (K := K) hp4 (r / 21 % 4)
    have hA4 := hA3.mono m4
    have d34 := dp_mono m4 _ _ d3
    revert m4 d4 hA4 d34
    dsimp only
    generalize upd H3 p4 (.tup [.str "number", .int (r / 21 % 4)]) = H4
    intro m4 d4 hA4 d34
    refine ⟨_, rfl, _, _, rfl, rfl, ⟨by decide, by decide⟩, _, rfl, _, rfl, _, rfl, _, na, va, ta, sc, rfl, hA4, fun v' e' H5 m5 d5 o5 => ?_⟩
    refine ⟨two, fun p6 hp6 => ?_⟩
    have m6 := same_new hp6 (.tup [.ref p4, v'])
    have m56 := m5.trans m6
    have mm := m2.trans (m3.trans (m4.trans m56))
    rcases pick_two (a := V.ref p4) (b := v') (r := r / 5) with e2 | e2
    · refine ⟨_, rfl, _, _, rfl, rfl, ⟨by decide, by decide⟩, _, _, rfl, rfl, (by show (0 : Int) < 2; decide), p6, _, _, _, rfl, rfl, SqT.of upd_same, e2, three, fun p7 hp7 => ?_⟩
      exact q _ (.op o (.num (r / 7 % 3)) (.num (r / 21 % 4))) _ (mm.trans (same_new hp7 _)) (dp_op hp7 o (dp_mono m56 _ _ d34) (dp_mono m56 _ _ d4)) ⟨ho, num_ok _ _ 1 (by decide) (by decide), num_ok _ _ 1 (by decide) (by decide)⟩
    · refine ⟨_, rfl, _, _, rfl, rfl, ⟨by decide, by decide⟩, _, _, rfl, rfl, (by show (0 : Int) < 2; decide), p6, _, _, _, rfl, rfl, SqT.of upd_same, e2, three, fun p7 hp7 => ?_⟩
      exact q _ (.op o (.num (r / 7 % 3)) e') _ (mm.trans (same_new hp7 _)) (dp_op hp7 o (dp_mono m56 _ _ d34) (dp_mono m6 _ _ d5)) ⟨ho, num_ok _ _ 1 (by decide) (by decide), o5⟩
  -- a number
  refine ⟨_, rfl, _, _, rfl, rfl, (by show (0 : Int) < 4; decide), _, rfl, _, _, rfl, rfl, (by show (0 : Int) < 4; decide), _, rfl, _, _, rfl, rfl, (by show (0 : Int) < 4; decide), _, rfl, _, _, rfl, rfl, (by show (0 : Int) < 3; decide), _, _, rfl, rfl, four, fun p3 hp3 => ?_⟩
  have m3 := same_new hp3 (.tup [.int (r % 4), .int (r % 4), .int (r % 4), .int (65535 - r % 3)])
  obtain ⟨z, hz, ez⟩ := pick_disp (vs := [.int (r % 4), .int (r % 4), .int (r % 4), .int (65535 - r % 3)]) (r := r / 4) (n := 4) rfl (by decide)
  have z4 : ∃ n : Int, z = .int n ∧ 0 ≤ n ∧ n ≤ 65535 := by
    have a0 := Int.emod_nonneg r (by decide : (4 : Int) ≠ 0)
    have a1 := Int.emod_lt_of_pos r (by decide : (0 : Int) < 4)
    have b0 := Int.emod_nonneg r (by decide : (3 : Int) ≠ 0)
    have b1 := Int.emod_lt_of_pos r (by decide : (0 : Int) < 3)
    simp only [List.mem_cons, List.not_mem_nil, or_false] at hz
    rcases hz with rfl | rfl | rfl | rfl
    · exact ⟨_, rfl, a0, by omega⟩
    · exact ⟨_, rfl, a0, by omega⟩
    · exact ⟨_, rfl, a0, by omega⟩
    · exact ⟨_, rfl, by omega, by omega⟩
  obtain ⟨n, rfl, n0, n1⟩ := z4
  refine ⟨_, rfl, _, _, rfl, rfl, ⟨by decide, by decide⟩, _, _, rfl, rfl, (by show (0 : Int) < 4; decide), p3, _, _, _, rfl, rfl, SqT.of upd_same, ez, two, fun p4 hp4 => ?_⟩
  exact q _ (.num n) _ (m2.trans (m3.trans (same_new hp4 _))) (dp_num hp4 n) ⟨n0, n1⟩
section
variable {H : Hp} {p : Addr}
theorem dp_set (hp : H p = none) (x : Str) {v : V} {e : Ex} (d : Dp K H v e.d) : Dp K (upd H p (.tup [.str "set", .str x, v])) (.ref p) (Stm.set x e).d := by
  unfold Stm.d; exact dp_tup hp (.cons (.str _) (.cons (.str _) (.cons d .nil)))
theorem dp_let (hp : H p = none) (x : Str) {v : V} {e : Ex} (d : Dp K H v e.d) : Dp K (upd H p (.tup [.str "let", .str x, v])) (.ref p) (Stm.lt x e).d := by
  unfold Stm.d; exact dp_tup hp (.cons (.str _) (.cons (.str _) (.cons d .nil)))
theorem dp_draw (hp : H p = none) (x : Str) (n : Int) : Dp K (upd H p (.tup [.str "draw", .str x, .int n])) (.ref p) (Stm.draw x n).d := by
  unfold Stm.d; exact dp_tup hp (.cons (.str _) (.cons (.str _) (.cons (.int _) .nil)))
theorem dp_put (hp : H p = none) (t : Str) {v u : V} {e f : Ex} (d : Dp K H v e.d) (d' : Dp K H u f.d) : Dp K (upd H p (.tup [.str "put", .str t, v, u])) (.ref p) (Stm.put t e f).d := by
  unfold Stm.d; exact dp_tup hp (.cons (.str _) (.cons (.str _) (.cons d (.cons d' .nil))))
theorem dp_lot (hp : H p = none) (l o : Str) {v : V} {e : Ex} (d : Dp K H v e.d) : Dp K (upd H p (.tup [.str "lot", .str l, .str o, v])) (.ref p) (Stm.lot l o e).d := by
  unfold Stm.d; exact dp_tup hp (.cons (.str _) (.cons (.str _) (.cons (.str _) (.cons d .nil))))
theorem dp_if (hp : H p = none) {v a b : V} {e : Ex} {x y : Blk} (d : Dp K H v e.d) (da : Dp K H a x.d) (db : Dp K H b y.d) : Dp K (upd H p (.tup [.str "if", v, a, b])) (.ref p) (Stm.ite e x y).d := by
  unfold Stm.d; exact dp_tup hp (.cons (.str _) (.cons d (.cons da (.cons db .nil))))
theorem dp_bad (hp : H p = none) : Dp K (upd H p (.tup [.str "bad"])) (.ref p) Stm.bad.d := by
  unfold Stm.d; exact dp_tup hp (.cons (.str _) .nil)
theorem dp_after (hp : H p = none) {a : V} {x : Blk} (da : Dp K H a x.d) : Dp K (upd H p (.tup [.str "after", a])) (.ref p) (Stm.after x).d := by
  unfold Stm.d; exact dp_tup hp (.cons (.str _) (.cons da .nil))
theorem dp_b0 (hp : H p = none) : Dp K (upd H p (.tup [])) (.ref p) Blk.nil.d := by
  show Dp K _ _ (.tuple Blk.nil.ds); rw [Blk.ds]; exact dp_tup hp .nil
theorem dp_b1 (hp : H p = none) {v : V} {x : Stm} (d : Dp K H v x.d) : Dp K (upd H p (.tup [v])) (.ref p) (Blk.cons x .nil).d := by
  show Dp K _ _ (.tuple (Blk.cons x .nil).ds); rw [Blk.ds, Blk.ds]; exact dp_tup hp (.cons d .nil)
theorem dp_b2 (hp : H p = none) {v u : V} {x y : Stm} (d : Dp K H v x.d) (d' : Dp K H u y.d) : Dp K (upd H p (.tup [v, u])) (.ref p) (Blk.cons x (.cons y .nil)).d := by
  show Dp K _ _ (.tuple (Blk.cons x (.cons y .nil)).ds); rw [Blk.ds, Blk.ds, Blk.ds]; exact dp_tup hp (.cons d (.cons d' .nil))
end
theorem draw5 {r : Int} : ∃ n : Int, atI ([.int 2, .int 3, .int 4, .int 2, .int 1] : List V) (r % 5) = some (.int n) ∧ 1 ≤ n ∧ n ≤ 4 := by
  obtain ⟨z, hz, ez⟩ := pick_disp (vs := [.int 2, .int 3, .int 4, .int 2, .int 1]) (r := r) (n := 5) rfl (by decide)
  simp only [List.mem_cons, List.not_mem_nil, or_false] at hz
  rcases hz with rfl | rfl | rfl | rfl | rfl
  · exact ⟨_, ez, by decide, by decide⟩
  · exact ⟨_, ez, by decide, by decide⟩
  · exact ⟨_, ez, by decide, by decide⟩
  · exact ⟨_, ez, by decide, by decide⟩
  · exact ⟨_, ez, by decide, by decide⟩
theorem ok_plain (T : Txt K mg file) : FnOk P w K mg base CX0 3 T.a_law_plain T.fd_law_plain ["cell", "names", "variables", "tables", "lots"] (spPlain K) := by
  have G_law_side : FnOk P w K mg base CX0 1 T.a_law_side T.fd_law_side ["code", "names", "variables", "tables"] (spSide K 2) := ok_side T
  have G_law_value : FnOk P w K mg base CX0 2 T.a_law_value T.fd_law_value ["cell", "names", "variables", "tables"] (spSide K 3) := ok_value T
  refine T.F_law_plain.ok sc_law_plain (fun vs H Q E h => ?_) (fun cdv A outer s H vs Q E hr h => ?_)
  · obtain ⟨c, na, va, ta, la, s, rfl, _⟩ := h
    rfl
  obtain ⟨code, na, va, ta, la, sc, rfl, hA, hL, q⟩ := h
  refine ⟨_, (pss_cons (ps_set (i := 5) sc_law_plain.nd rfl (Or.inl rfl) (pe_op op_mod (pe_callTy call_int1 (by rfl) T.z_int (by decide +kernel) (pa_cons (pv 0) pa_nil)) pe_int))
    (pss_cons (ps_set (i := 6) sc_law_plain.nd rfl (Or.inl rfl) (pe_op op_fdivW (pe_callTy call_int1 (by rfl) T.z_int (by decide +kernel) (pa_cons (pv 0) pa_nil)) pe_int))
    (pss_cons (ps_set (i := 7) sc_law_plain.nd rfl (Or.inl rfl) (pe_call G_law_value (hr.mono (by decide)) rfl T.g_law_value T.k_law_value T.b_law_value .nil pass0 (pa_cons (pe_op op_fdivW (pv 6) pe_int) (pa_cons (pv 1) (pa_cons (pv 2) (pa_cons (pv 3) pa_nil))))))
    (pss_cons (ps_if (pt_cmpR op_lt (pv 5) pe_int (nomark _))
      (pss_one (ps_ret (pe_tup (pa_cons pe_str (pa_cons (pe_ix ix_tup (pv 1) (pe_op op_mod (pv 6) (pe_callB call_len_seq (by rfl) T.z_len (by decide +kernel) (pa_cons (pv 1) pa_nil))) (fun _ _ => rfl)) (pa_cons (pe_ix ix_tup (pe_tup (pa_cons pe_int (pa_cons pe_int (pa_cons pe_int (pa_cons pe_int (pa_cons pe_int pa_nil)))))) (pe_op op_mod (pe_op op_fdivW (pv 6) pe_int) pe_int) (fun _ _ => rfl)) pa_nil))))))
      pss_nil)
    (pss_cons (ps_if (PW.pt (pw_and (pt_cmpR op_eq (pv 5) pe_int (nomark _)) (pw_and1 (pt_cmpR op_gt (pe_callB call_len_seq (by rfl) T.z_len (by decide +kernel) (pa_cons (pv 2) pa_nil)) pe_int (nomark _)))))
      (pss_one (ps_ret (pe_tup (pa_cons pe_str (pa_cons (pe_ix ix_list (pv 2) (pe_op op_mod (pv 6) (pe_callB call_len_seq (by rfl) T.z_len (by decide +kernel) (pa_cons (pv 2) pa_nil))) (fun _ _ => rfl)) (pa_cons (pv 7) pa_nil))))))
      pss_nil)
    (pss_cons (ps_if (PW.pt (pw_and (pt_cmpR op_eq (pv 5) pe_int (nomark _)) (pw_and1 (pt_cmpR op_gt (pe_callB call_len_seq (by rfl) T.z_len (by decide +kernel) (pa_cons (pv 3) pa_nil)) pe_int (nomark _)))))
      (pss_cons (ps_set (i := 8) sc_law_plain.nd rfl (Or.inl rfl) (pe_call G_law_side (hr.mono (by decide)) rfl T.g_law_side T.k_law_side T.b_law_side .nil pass0 (pa_cons (pe_op op_fdivW (pv 6) pe_int) (pa_cons (pv 1) (pa_cons (pv 2) (pa_cons (pv 3) pa_nil))))))
    (pss_one (ps_ret (pe_tup (pa_cons pe_str (pa_cons (pe_ix ix_list (pv 3) (pe_op op_mod (pe_op op_fdivW (pv 6) pe_int) (pe_callB call_len_seq (by rfl) T.z_len (by decide +kernel) (pa_cons (pv 3) pa_nil))) (fun _ _ => rfl)) (pa_cons (pe_ix ix_tup (pe_tup (pa_cons (pe_tup (pa_cons pe_str (pa_cons (pe_ix ix_tup (pv 1) (pe_op op_mod (pv 6) (pe_callB call_len_seq (by rfl) T.z_len (by decide +kernel) (pa_cons (pv 1) pa_nil))) (fun _ _ => rfl)) pa_nil))) (pa_cons (pv 8) pa_nil))) (pe_op op_mod (pe_op op_fdivW (pv 6) pe_int) pe_int) (fun _ _ => rfl)) (pa_cons (pv 7) pa_nil))))))))
      pss_nil)
    (pss_cons (ps_if (PW.pt (pw_and (pt_cmpR op_eq (pv 5) pe_int (nomark _)) (pw_and1 (pt_cmpR op_gt (pe_callB call_len_seq (by rfl) T.z_len (by decide +kernel) (pa_cons (pv 4) pa_nil)) pe_int (nomark _)))))
      (pss_cons (ps_set (i := 8) sc_law_plain.nd rfl (Or.inl rfl) (pe_call G_law_side (hr.mono (by decide)) rfl T.g_law_side T.k_law_side T.b_law_side .nil pass0 (pa_cons (pe_op op_fdivW (pv 6) pe_int) (pa_cons (pv 1) (pa_cons (pv 2) (pa_cons (pv 3) pa_nil))))))
    (pss_cons (ps_set (i := 9) sc_law_plain.nd rfl (Or.inl rfl) (pe_ix ix_tup (pe_tup (pa_cons (pe_tup (pa_cons pe_str (pa_cons (pe_ix ix_tup (pv 1) (pe_op op_mod (pe_op op_fdivW (pv 6) pe_int) (pe_callB call_len_seq (by rfl) T.z_len (by decide +kernel) (pa_cons (pv 1) pa_nil))) (fun _ _ => rfl)) pa_nil))) (pa_cons (pv 8) pa_nil))) (pe_op op_mod (pe_op op_fdivW (pv 6) pe_int) pe_int) (fun _ _ => rfl)))
    (pss_one (ps_ret (pe_tup (pa_cons pe_str (pa_cons (pe_ix ix_tup (pv 1) (pe_op op_mod (pv 6) (pe_callB call_len_seq (by rfl) T.z_len (by decide +kernel) (pa_cons (pv 1) pa_nil))) (fun _ _ => rfl)) (pa_cons (pe_ix ix_list (pv 4) (pe_op op_mod (pe_op op_fdivW (pv 6) pe_int) (pe_callB call_len_seq (by rfl) T.z_len (by decide +kernel) (pa_cons (pv 4) pa_nil))) (fun _ _ => rfl)) (pa_cons (pv 9) pa_nil)))))))))
      pss_nil)
    (pss_one (ps_ret (pe_tup (pa_cons pe_str (pa_cons (pe_ix ix_tup (pv 1) (pe_op op_mod (pv 6) (pe_callB call_len_seq (by rfl) T.z_len (by decide +kernel) (pa_cons (pv 1) pa_nil))) (fun _ _ => rfl)) (pa_cons (pv 7) pa_nil))))))))))))), ?_⟩
  have two : (2 : Nat) ≤ sizeLine := by decide
  have three : (3 : Nat) ≤ sizeLine := by decide
  have four : (4 : Nat) ≤ sizeLine := by decide
  have five : (5 : Nat) ≤ sizeLine := by decide
  refine ⟨_, rfl, .inl ⟨_, rfl, _, _, rfl, rfl, (by show (0 : Int) < 7; decide), ?_⟩⟩
  refine ⟨_, rfl, .inl ⟨_, rfl, _, _, rfl, rfl, ⟨by decide, by decide⟩, ?_⟩⟩
  dsimp only
  generalize code / 7 = r
  generalize code % 7 = pk
  refine ⟨_, rfl, _, _, rfl, rfl, ⟨by decide, by decide⟩, _, rfl, _, rfl, _, rfl, _, na, va, ta, sc, rfl, hA, fun v e H1 m1 d1 o1 => ?_⟩
  have hA1 := hA.mono m1
  have hL1 := m1.seq hL
  obtain ⟨x, hx, ex⟩ := pick_mem (r := r) hA.n0
  -- draw
  refine ⟨_, rfl, _, _, rfl, rfl, _, rfl, ite2 (fun c => ?_) (fun c1 => ?_)⟩
  · obtain ⟨n, en, n1, n4⟩ := draw5 (r := r / 3)
    refine ⟨_, rfl, _, rfl, _, rfl, na, _, rfl, .inr hA1.n, _, _, rfl, rfl, len_pos hA.n0, na, _, _, _, rfl, rfl, hA1.n, ex, five, fun p hp => ?_⟩
    refine ⟨_, rfl, _, _, rfl, rfl, ⟨by decide, by decide⟩, _, _, rfl, rfl, (by show (0 : Int) < 5; decide), p, _, _, _, rfl, rfl, SqT.of upd_same, en, three, fun p2 hp2 => ?_⟩
    refine q _ (.draw x n) _ (m1.trans ((same_new hp _).trans (same_new hp2 _))) (dp_draw hp2 x n) ?_
    unfold Stm.Ok
    exact ⟨hx, n1, by omega⟩
  -- set
  refine ⟨_, rfl, rfl, _, rfl, and_if ?_ fun _ rest => ?_⟩
  rotate_left
  · refine ⟨_, rfl, va, _, rfl, .inl hA1.v, _, _, rfl, rfl, _, rfl, ite2 (fun c => ?_) (fun _ => rest)⟩
    have v0 := ne_of_len c
    obtain ⟨y, hy, ey⟩ := pick_mem (r := r) v0
    refine ⟨_, rfl, _, rfl, _, rfl, va, _, rfl, .inl hA1.v, _, _, rfl, rfl, len_pos v0, va, _, _, _, rfl, rfl, hA1.v, ey, _, rfl, three, fun p2 hp2 => ?_⟩
    refine q _ (.set y e) _ (m1.trans (same_new hp2 _)) (dp_set hp2 y d1) ?_
    unfold Stm.Ok
    exact ⟨hy, o1⟩
  -- put
  refine ⟨_, rfl, rfl, _, rfl, and_if ?_ fun _ rest => ?_⟩
  rotate_left
  · refine ⟨_, rfl, ta, _, rfl, .inl hA1.t, _, _, rfl, rfl, _, rfl, ite2 (fun c => ?_) (fun _ => rest)⟩
    have t0 := ne_of_len c
    obtain ⟨y, hy, ey⟩ := pick_mem (r := r / 5) t0
    refine ⟨_, rfl, _, _, rfl, rfl, ⟨by decide, by decide⟩, _, rfl, _, rfl, _, rfl, _, na, va, ta, sc, rfl, hA1, fun v2 e2 H2 m2 d2 o2 => ?_⟩
    have hA2 := hA1.mono m2
    refine ⟨_, rfl, _, rfl, _, _, rfl, rfl, ⟨by decide, by decide⟩, _, rfl, ta, _, rfl, .inl hA2.t, _, _, rfl, rfl, len_pos t0, ta, _, _, _, rfl, rfl, hA2.t, ey, ?_⟩
    refine ⟨_, rfl, _, rfl, _, rfl, na, _, rfl, .inr hA2.n, _, _, rfl, rfl, len_pos hA.n0, na, _, _, _, rfl, rfl, hA2.n, ex, two, fun p3 hp3 => ?_⟩
    have m3 := same_new hp3 (.tup [.str "local", .str x])
    have d3 := dp_loc (K := K) hp3 x
    refine ⟨_, rfl, two, fun p4 hp4 => ?_⟩
    have m4 := same_new hp4 (.tup [.ref p3, v2])
    have mm := m2.trans (m3.trans m4)
    rcases pick_two (a := V.ref p3) (b := v2) (r := r / 7) with e7 | e7
    · refine ⟨_, rfl, _, _, rfl, rfl, ⟨by decide, by decide⟩, _, _, rfl, rfl, (by show (0 : Int) < 2; decide), p4, _, _, _, rfl, rfl, SqT.of upd_same, e7, _, rfl, four, fun p5 hp5 => ?_⟩
      refine q _ (.put y (.loc x) e) _ (m1.trans (mm.trans (same_new hp5 _))) (dp_put hp5 y (dp_mono m4 _ _ d3) (dp_mono mm _ _ d1)) ?_
      unfold Stm.Ok
      exact ⟨hy, hx, o1⟩
    · refine ⟨_, rfl, _, _, rfl, rfl, ⟨by decide, by decide⟩, _, _, rfl, rfl, (by show (0 : Int) < 2; decide), p4, _, _, _, rfl, rfl, SqT.of upd_same, e7, _, rfl, four, fun p5 hp5 => ?_⟩
      refine q _ (.put y e2 e) _ (m1.trans (mm.trans (same_new hp5 _))) (dp_put hp5 y (dp_mono (m3.trans m4) _ _ d2) (dp_mono mm _ _ d1)) ?_
      unfold Stm.Ok
      exact ⟨hy, o2.mono (by decide), o1⟩
  -- lot
  refine ⟨_, rfl, rfl, _, rfl, and_if ?_ fun _ rest => ?_⟩
  rotate_left
  · refine ⟨_, rfl, la, _, rfl, .inl hL1, _, _, rfl, rfl, _, rfl, ite2 (fun c => ?_) (fun _ => rest)⟩
    have l0 := ne_of_len c
    obtain ⟨y, hy, ey⟩ := pick_mem (r := r / 9) l0
    obtain ⟨x3, hx3, ex3⟩ := pick_mem (r := r / 3) hA.n0
    refine ⟨_, rfl, _, _, rfl, rfl, ⟨by decide, by decide⟩, _, rfl, _, rfl, _, rfl, _, na, va, ta, sc, rfl, hA1, fun v2 e2 H2 m2 d2 o2 => ?_⟩
    have hA2 := hA1.mono m2
    refine ⟨_, rfl, _, rfl, _, _, rfl, rfl, ⟨by decide, by decide⟩, _, rfl, na, _, rfl, .inr hA2.n, _, _, rfl, rfl, len_pos hA.n0, na, _, _, _, rfl, rfl, hA2.n, ex3, two, fun p3 hp3 => ?_⟩
    have m3 := same_new hp3 (.tup [.str "local", .str x3])
    have d3 := dp_loc (K := K) hp3 x3
    refine ⟨_, rfl, two, fun p4 hp4 => ?_⟩
    have m4 := same_new hp4 (.tup [.ref p3, v2])
    have m34 := m3.trans m4
    have mm := m2.trans m34
    have hA4 := hA2.mono m34
    have hL4 := mm.seq hL1
    have fin : ∀ (z : V) (f : Ex), Dp K (upd (upd H2 p3 (.tup [.str "local", .str x3])) p4 (.tup [.ref p3, v2])) z f.d → f.Ok sc 3 →
        tRet (tTup (tCons (tC (.str "lot")) (tCons (tOp (rIxT K) (tVar 1) (tOp (rI (fun _ j => 0 < j) fun i j => .int (i % j)) (tVar 6) (tCB (fun xs H Q => ∃ p ys, xs = [.ref p] ∧ (SqL K H p ys ∨ SqT K H p ys) ∧ Q (.int ys.length) H) (tCons (tVar 1) tNil))))
          (tCons (tOp (rIxL K) (tVar 4) (tOp (rI (fun _ j => 0 < j) fun i j => .int (i % j)) (tOp (rI CDivW fun i j => .int (i / j)) (tVar 6) (tC (.int 9))) (tCB (fun xs H Q => ∃ p ys, xs = [.ref p] ∧ (SqL K H p ys ∨ SqT K H p ys) ∧ Q (.int ys.length) H) (tCons (tVar 4) tNil))))
          (tCons (tVar 9) tNil))))) { nx := fun _ H' => Q .non H', rt := Q } [some (.int code), some (.ref na), some (.ref va), some (.ref ta), some (.ref la), some (.int pk), some (.int r), some v, some v2, some z]
          (upd (upd H2 p3 (.tup [.str "local", .str x3])) p4 (.tup [.ref p3, v2])) := by
      intro z f df of_
      refine ⟨_, rfl, _, rfl, _, rfl, na, _, rfl, .inr hA4.n, _, _, rfl, rfl, len_pos hA.n0, na, _, _, _, rfl, rfl, hA4.n, ex, ?_⟩
      refine ⟨_, rfl, _, rfl, _, _, rfl, rfl, ⟨by decide, by decide⟩, _, rfl, la, _, rfl, .inl hL4, _, _, rfl, rfl, len_pos l0, la, _, _, _, rfl, rfl, hL4, ey, _, rfl, four, fun p5 hp5 => ?_⟩
      refine q _ (.lot x y f) _ (m1.trans (mm.trans (same_new hp5 _))) (dp_lot hp5 x y df) ?_
      unfold Stm.Ok
      exact ⟨hx, hy, of_⟩
    rcases pick_two (a := V.ref p3) (b := v2) (r := r / 7) with e7 | e7
    · refine ⟨_, rfl, _, _, rfl, rfl, ⟨by decide, by decide⟩, _, _, rfl, rfl, (by show (0 : Int) < 2; decide), p4, _, _, _, rfl, rfl, SqT.of upd_same, e7, ?_⟩
      exact fin _ (.loc x3) (dp_mono m4 _ _ d3) hx3
    · refine ⟨_, rfl, _, _, rfl, rfl, ⟨by decide, by decide⟩, _, _, rfl, rfl, (by show (0 : Int) < 2; decide), p4, _, _, _, rfl, rfl, SqT.of upd_same, e7, ?_⟩
      exact fin _ e2 (dp_mono m34 _ _ d2) (o2.mono (by decide))
  -- let
  refine ⟨_, rfl, _, rfl, _, rfl, na, _, rfl, .inr hA1.n, _, _, rfl, rfl, len_pos hA.n0, na, _, _, _, rfl, rfl, hA1.n, ex, _, rfl, three, fun p2 hp2 => ?_⟩
  refine q _ (.lt x e) _ (m1.trans (same_new hp2 _)) (dp_let hp2 x d1) ?_
  unfold Stm.Ok
  exact ⟨hx, o1⟩
/-! ### a block -/
theorem ok_block (T : Txt K mg file) : FnOk P w K mg base CX0 4 T.a_law_block T.fd_law_block ["cells", "names", "variables", "tables", "lots"] (spBlock K) := by
  have G_law_plain : FnOk P w K mg base CX0 3 T.a_law_plain T.fd_law_plain ["cell", "names", "variables", "tables", "lots"] (spPlain K) := ok_plain T
  have G_law_value : FnOk P w K mg base CX0 2 T.a_law_value T.fd_law_value ["cell", "names", "variables", "tables"] (spSide K 3) := ok_value T
  refine T.F_law_block.ok sc_law_block (fun vs H Q E h => ?_) (fun cdv A outer s H vs Q E hr h => ?_)
  · obtain ⟨ca, na, va, ta, la, ns, s, rfl, _⟩ := h
    rfl
  obtain ⟨ca, na, va, ta, la, ns, sc, rfl, hC, hlen, hA, hL, q⟩ := h
  refine ⟨_, (pss_cons (ps_set (i := 5) sc_law_block.nd rfl (Or.inl rfl) (pe_lst pa_nil))
    (pss_cons (ps_for PassesOwn.never rfl (pi_list (pv 0)) (pg_name (i := 6) sc_law_block.nd rfl (Or.inl rfl))
      (pss_cons (ps_set (i := 7) sc_law_block.nd rfl (Or.inl rfl) (pe_op op_mod (pe_callTy call_int1 (by rfl) T.z_int (by decide +kernel) (pa_cons (pv 6) pa_nil)) pe_int))
    (pss_cons (ps_set (i := 8) sc_law_block.nd rfl (Or.inl rfl) (pe_op op_fdivW (pe_callTy call_int1 (by rfl) T.z_int (by decide +kernel) (pa_cons (pv 6) pa_nil)) pe_int))
    (pss_cons (ps_set (i := 9) sc_law_block.nd rfl (Or.inl rfl) (pe_call G_law_plain (hr.mono (by decide)) rfl T.g_law_plain T.k_law_plain T.b_law_plain .nil pass0 (pa_cons (pe_op op_fdivW (pv 8) pe_int) (pa_cons (pv 1) (pa_cons (pv 2) (pa_cons (pv 3) (pa_cons (pv 4) pa_nil)))))))
    (pss_cons (ps_set (i := 10) sc_law_block.nd rfl (Or.inl rfl) (pe_call G_law_plain (hr.mono (by decide)) rfl T.g_law_plain T.k_law_plain T.b_law_plain .nil pass0 (pa_cons (pe_op op_fdivW (pv 8) pe_int) (pa_cons (pv 1) (pa_cons (pv 2) (pa_cons (pv 3) (pa_cons (pv 4) pa_nil)))))))
    (pss_one (ps_if (pt_cmpR op_eq (pv 7) pe_int (nomark _))
      (pss_cons (ps_set (i := 11) sc_law_block.nd rfl (Or.inl rfl) (pe_tup pa_nil))
    (pss_cons (ps_if (pt_cmpR op_eq (pe_op op_mod (pv 8) pe_int) pe_int (nomark _))
      (pss_one (ps_set (i := 11) sc_law_block.nd rfl (Or.inl rfl) (pe_tup (pa_cons (pe_call G_law_plain (hr.mono (by decide)) rfl T.g_law_plain T.k_law_plain T.b_law_plain .nil pass0 (pa_cons (pe_op op_fdivW (pv 8) pe_int) (pa_cons (pv 1) (pa_cons (pv 2) (pa_cons (pv 3) (pa_cons (pv 4) pa_nil)))))) pa_nil))))
      pss_nil)
    (pss_cons (ps_set (i := 12) sc_law_block.nd rfl (Or.inl rfl) (pe_tup (pa_cons (pv 9) pa_nil)))
    (pss_cons (ps_if (pt_cmpR op_eq (pe_op op_mod (pe_op op_fdivW (pv 8) pe_int) pe_int) pe_int (nomark _))
      (pss_one (ps_set (i := 12) sc_law_block.nd rfl (Or.inl rfl) (pe_tup (pa_cons (pe_tup (pa_cons pe_str (pa_cons (pe_call G_law_value (hr.mono (by decide)) rfl T.g_law_value T.k_law_value T.b_law_value .nil pass0 (pa_cons (pe_op op_fdivW (pv 8) pe_int) (pa_cons (pv 1) (pa_cons (pv 2) (pa_cons (pv 3) pa_nil))))) (pa_cons (pe_tup (pa_cons (pv 9) pa_nil)) (pa_cons (pv 11) pa_nil))))) pa_nil))))
      pss_nil)
    (pss_cons (ps_if (pt_cmpR op_eq (pe_op op_mod (pe_op op_fdivW (pv 8) pe_int) pe_int) pe_int (nomark _))
      (pss_one (ps_set (i := 12) sc_law_block.nd rfl (Or.inl rfl) (pe_tup (pa_cons (pe_tup (pa_cons pe_str (pa_cons (pe_tup (pa_cons (pv 9) pa_nil)) pa_nil))) (pa_cons (pe_tup (pa_cons pe_str (pa_cons (pe_tup (pa_cons pe_str (pa_cons (pe_ix ix_tup (pv 1) pe_int (fun _ _ => rfl)) pa_nil))) (pa_cons (pe_tup (pa_cons (pe_tup (pa_cons pe_str pa_nil)) pa_nil)) (pa_cons (pe_tup pa_nil) pa_nil))))) pa_nil)))))
      pss_nil)
    (pss_cons (ps_if (pt_cmpR op_eq (pe_op op_mod (pe_op op_fdivW (pv 8) pe_int) pe_int) pe_int (nomark _))
      (pss_one (ps_set (i := 11) sc_law_block.nd rfl (Or.inl rfl) (pe_tup (pa_cons (pe_tup (pa_cons pe_str (pa_cons (pe_call G_law_value (hr.mono (by decide)) rfl T.g_law_value T.k_law_value T.b_law_value .nil pass0 (pa_cons (pe_op op_fdivW (pv 8) pe_int) (pa_cons (pv 1) (pa_cons (pv 2) (pa_cons (pv 3) pa_nil))))) (pa_cons (pe_tup pa_nil) (pa_cons (pe_tup (pa_cons (pv 9) pa_nil)) pa_nil))))) pa_nil))))
      pss_nil)
    (pss_cons (ps_if (pt_cmpR op_eq (pe_op op_mod (pe_op op_fdivW (pv 8) pe_int) pe_int) pe_int (nomark _))
      (pss_one (ps_set (i := 11) sc_law_block.nd rfl (Or.inl rfl) (pe_tup (pa_cons (pv 10) (pa_cons (pe_tup (pa_cons pe_str pa_nil)) pa_nil)))))
      pss_nil)
    (pss_one (ps_expr (pe_bm PySem.F.plainAttrs_list PySem.F.slot_list_append PySem.F.type_list_append mt_append (pv 5) (pa_cons (pe_tup (pa_cons pe_str (pa_cons (pe_call G_law_value (hr.mono (by decide)) rfl T.g_law_value T.k_law_value T.b_law_value .nil pass0 (pa_cons (pe_op op_fdivW (pv 8) pe_int) (pa_cons (pv 1) (pa_cons (pv 2) (pa_cons (pv 3) pa_nil))))) (pa_cons (pv 12) (pa_cons (pv 11) pa_nil))))) pa_nil)))))))))))
      (pss_one (ps_if (PW.pt (pw_and (pt_cmpR op_eq (pv 7) pe_int (nomark _)) (pw_and1 (pt_cmpR op_eq (pe_op op_mod (pv 8) pe_int) pe_int (nomark _)))))
      (pss_one (ps_expr (pe_bm PySem.F.plainAttrs_list PySem.F.slot_list_append PySem.F.type_list_append mt_append (pv 5) (pa_cons (pe_tup (pa_cons pe_str pa_nil)) pa_nil))))
      (pss_one (ps_if (PW.pt (pw_and (pt_cmpR op_eq (pv 7) pe_int (nomark _)) (pw_and1 (pt_cmpR op_eq (pe_op op_mod (pv 8) pe_int) pe_int (nomark _)))))
      (pss_cons (ps_set (i := 13) sc_law_block.nd rfl (Or.inl rfl) (pe_call G_law_value (hr.mono (by decide)) rfl T.g_law_value T.k_law_value T.b_law_value .nil pass0 (pa_cons (pe_op op_fdivW (pv 8) pe_int) (pa_cons (pv 1) (pa_cons (pv 2) (pa_cons (pv 3) pa_nil))))))
    (pss_one (ps_expr (pe_bm PySem.F.plainAttrs_list PySem.F.slot_list_append PySem.F.type_list_append mt_append (pv 5) (pa_cons (pe_tup (pa_cons pe_str (pa_cons (pe_ix ix_tup (pe_tup (pa_cons (pe_tup (pa_cons (pv 9) pa_nil)) (pa_cons (pe_tup pa_nil) (pa_cons (pe_tup (pa_cons (pv 9) (pa_cons (pv 10) pa_nil))) (pa_cons (pe_tup (pa_cons (pe_tup (pa_cons pe_str (pa_cons (pv 13) (pa_cons (pe_tup (pa_cons (pv 9) pa_nil)) (pa_cons (pe_tup (pa_cons (pv 10) pa_nil)) pa_nil))))) pa_nil)) pa_nil))))) (pe_op op_mod (pe_op op_fdivW (pv 8) pe_int) pe_int) (fun _ _ => rfl)) pa_nil))) pa_nil)))))
      (pss_one (ps_expr (pe_bm PySem.F.plainAttrs_list PySem.F.slot_list_append PySem.F.type_list_append mt_append (pv 5) (pa_cons (pv 9) pa_nil)))))))))))))))
    (pss_one (ps_ret (pe_callTy call_tuple_of (by rfl) T.z_tuple (by decide +kernel) (pa_cons (pv 5) pa_nil)))))), ?_⟩
  have zero : (0 : Nat) ≤ sizeLine := by decide
  have one : (1 : Nat) ≤ sizeLine := by decide
  have two : (2 : Nat) ≤ sizeLine := by decide
  have four : (4 : Nat) ≤ sizeLine := by decide
  refine ⟨zero, fun l hl => ?_⟩
  have nl : ∀ b o, H b = some o → b ≠ l := fun b o e => ne_of_none e hl
  refine ⟨_, rfl, ca, rfl, ⟨_, (same_new hl (.lst [])).seq hC⟩, for_list (K := K) (a := ca) (xs := ns.map V.int) (fun i σ H' => ∃ (vs : List V) (b : Blk) (v1 v2 v3 v4 v5 v6 v7 v8 : Option V),
      σ = [some (.ref ca), some (.ref na), some (.ref va), some (.ref ta), some (.ref la), some (.ref l), v1, v2, v3, v4, v5, v6, v7, v8] ∧ Same H H' ∧ H' l = some (.lst vs) ∧ DpAll K H' vs b.ds ∧ b.Ok sc 3 2 ∧ b.len = i)
    ⟨[], .nil, none, none, none, none, none, none, none, none, rfl, same_new hl _, upd_same, by rw [Blk.ds]; exact .nil, Blk.ok_nil, rfl⟩ (fun i σ H' _ ⟨_, _, _, _, _, _, _, _, _, _, _, m, _⟩ => m.seq hC) ?_ ?_⟩
  · rintro i y σ H1 hi ⟨vs, b, v1, v2, v3, v4, v5, v6, v7, v8, rfl, m1, hl1, hb1, ob1, nb1⟩
    obtain ⟨z, hz, rfl⟩ : ∃ z, ns[i]? = some z ∧ y = V.int z := by
      rw [List.getElem?_map] at hi
      cases e : ns[i]? with
      | none => rw [e] at hi; cases hi
      | some z => rw [e] at hi; exact ⟨z, rfl, (Option.some.inj hi).symm⟩
    have hil : i < ns.length := (List.getElem?_eq_some_iff.mp hz).1
    have lv : vs.length = i := by rw [DpAll.len hb1, Blk.len_ds, nb1]
    have lbig : vs.length < sizeLine := small1000 (by omega)
    have hA1 := hA.mono m1
    have hL1 := m1.seq hL
    -- what is appended, at the turn's end
    have fin : ∀ (v : V) (x : Stm) (H2 : Hp) (w1 w2 w3 w4 w5 w6 w7 w8 : Option V), Same H1 H2 → Dp K H2 v x.d → x.Ok sc 3 2 →
        ∃ (vs' : List V) (b' : Blk) (v1 v2 v3 v4 v5 v6 v7 v8 : Option V),
          ([some (.ref ca), some (.ref na), some (.ref va), some (.ref ta), some (.ref la), some (.ref l), w1, w2, w3, w4, w5, w6, w7, w8] : List (Option V)) =
            [some (.ref ca), some (.ref na), some (.ref va), some (.ref ta), some (.ref la), some (.ref l), v1, v2, v3, v4, v5, v6, v7, v8] ∧
          Same H (upd H2 l (.lst (vs ++ [v]))) ∧ (upd H2 l (.lst (vs ++ [v]))) l = some (.lst vs') ∧ DpAll K (upd H2 l (.lst (vs ++ [v]))) vs' b'.ds ∧ b'.Ok sc 3 2 ∧ b'.len = i + 1 := by
      intro v x H2 w1 w2 w3 w4 w5 w6 w7 w8 m2 dv ox
      have hl2 := m2 _ _ hl1
      have tp : Tups H2 (upd H2 l (.lst (vs ++ [v]))) := Tups.lst hl2
      refine ⟨vs ++ [v], b.app (.cons x .nil), _, _, _, _, _, _, _, _, rfl, fun c o e => by rw [upd_ne (nl c o e)]; exact m2 _ _ (m1 _ _ e), upd_same, ?_, Blk.ok_app ob1 (Blk.ok_cons ox Blk.ok_nil), by rw [Blk.len_app, nb1]; rfl⟩
      rw [Blk.ds_app]
      refine DpAll.app (dp_tupsAll tp _ _ (Blk.nol b) (dp_monoAll m2 _ _ hb1)) ?_
      rw [Blk.ds, Blk.ds]
      exact .cons (dp_tups tp _ _ (Stm.nol x) dv) .nil
    have app : ∀ (v : V) (H2 : Hp), Same H1 H2 → ∃ l' ys y, V.ref l = V.ref l' ∧ [v] = [y] ∧ H2 l' = some (.lst ys) ∧ ys.length < sizeLine ∧ ys = vs := fun v H2 m2 => ⟨l, vs, v, rfl, rfl, m2 _ _ hl1, lbig, rfl⟩
    -- way, rest, inner, more
    refine ⟨_, rfl, .inl ⟨_, rfl, _, _, rfl, rfl, (by show (0 : Int) < 9; decide), ?_⟩⟩
    refine ⟨_, rfl, .inl ⟨_, rfl, _, _, rfl, rfl, ⟨by decide, by decide⟩, ?_⟩⟩
    dsimp only
    generalize z / 9 = r
    generalize z % 9 = way
    refine ⟨_, rfl, _, _, rfl, rfl, ⟨by decide, by decide⟩, _, rfl, _, rfl, _, rfl, _, rfl, _, na, va, ta, la, sc, rfl, hA1, hL1, fun vi xi H2 m2 di oi => ?_⟩
    refine ⟨_, rfl, _, _, rfl, rfl, ⟨by decide, by decide⟩, _, rfl, _, rfl, _, rfl, _, rfl, _, na, va, ta, la, sc, rfl, hA1.mono m2, m2.seq hL1, fun vm xm H3 m3' dm om => ?_⟩
    have m3 := m2.trans m3'
    have di3 := dp_mono m3' _ _ di
    clear m2 m3' di
    refine ⟨_, rfl, rfl, _, rfl, ite2 (fun _ => ?_) (fun _ => ?_)⟩
    · -- an if; other = ()
      refine ⟨zero, fun p0 hp0 => ?_⟩
      have m4 := m3.trans (same_new hp0 (.tup []))
      have d4 := dp_b0 (K := K) hp0
      have di4 := dp_mono (same_new hp0 (.tup [])) _ _ di3
      have dm4 := dp_mono (same_new hp0 (.tup [])) _ _ dm
      revert m4 d4 di4 dm4
      generalize upd H3 p0 (.tup []) = H4
      intro m4 d4 di4 dm4
      refine ⟨_, rfl, _, _, rfl, rfl, (by show (0 : Int) < 2; decide), rfl, _, rfl, ?_⟩
      refine if_rest (fun σ H' => ∃ (vo : V) (bo : Blk) (v7 v8 : Option V), σ = [some (.ref ca), some (.ref na), some (.ref va), some (.ref ta), some (.ref la), some (.ref l), some (.int z), some (.int way), some (.int r), some vi, some vm, some vo, v7, v8] ∧
        Same H1 H' ∧ Dp K H' vo bo.d ∧ bo.OkI sc 3 0 ∧ Dp K H' vi xi.d ∧ Dp K H' vm xm.d) ?_ (fun _ rest => ?_) (fun _ => ⟨_, _, _, _, rfl, m4, d4, Blk.oki Blk.ok_nil, di4, dm4⟩)
      rotate_left
      · refine ⟨_, rfl, _, _, rfl, rfl, ⟨by decide, by decide⟩, _, rfl, _, rfl, _, rfl, _, rfl, _, na, va, ta, la, sc, rfl, hA1.mono m4, m4.seq hL1, fun vp xp H5 m5 dp op => ⟨one, fun p6 hp6 => ?_⟩⟩
        have m6 := same_new hp6 (.tup [vp])
        exact rest _ _ ⟨_, _, _, _, rfl, m4.trans (m5.trans m6), dp_b1 hp6 dp, Blk.oki (Blk.ok_cons op Blk.ok_nil), dp_mono (m5.trans m6) _ _ di4, dp_mono (m5.trans m6) _ _ dm4⟩
      -- then = (inner,)
      rintro σ H5 ⟨vo, bo, v7, v8, rfl, m5, do5, oo5, di5, dm5⟩
      refine ⟨_, rfl, one, fun p6 hp6 => ?_⟩
      have n6 := same_new hp6 (.tup [vi])
      have dt6 := dp_b1 (K := K) hp6 di5
      have m6 := m5.trans n6
      have do6 := dp_mono n6 _ _ do5
      have di6 := dp_mono n6 _ _ di5
      have dm6 := dp_mono n6 _ _ dm5
      revert m6 dt6 do6 di6 dm6
      generalize upd H5 p6 (.tup [vi]) = H6
      intro dt6 m6 do6 di6 dm6
      -- the state behind each of the four ifs
      let J : L2.St → Hp → Prop := fun σ H' => ∃ (vo vt : V) (bo bt : Blk) (v8 : Option V), σ = [some (.ref ca), some (.ref na), some (.ref va), some (.ref ta), some (.ref la), some (.ref l), some (.int z), some (.int way), some (.int r), some vi, some vm, some vo, some vt, v8] ∧
        Same H1 H' ∧ Dp K H' vo bo.d ∧ bo.OkI sc 3 1 ∧ Dp K H' vt bt.d ∧ bt.OkI sc 3 1 ∧ Dp K H' vi xi.d ∧ Dp K H' vm xm.d
      have oo1 : bo.OkI sc 3 1 := ⟨Blk.ok_mono oo5.1 (by decide), oo5.2⟩
      have oi1 : (Blk.cons xi .nil).OkI sc 3 1 := Blk.oki (Blk.ok_cons (Stm.ok_mono oi (by decide)) Blk.ok_nil)
      have st0 : J [some (.ref ca), some (.ref na), some (.ref va), some (.ref ta), some (.ref la), some (.ref l), some (.int z), some (.int way), some (.int r), some vi, some vm, some vo, some (.ref p6), v8] H6 := ⟨_, _, _, _, _, rfl, m6, do6, oo1, dt6, oi1, di6, dm6⟩
      -- 1: an if within
      refine ⟨_, rfl, _, _, rfl, rfl, ⟨by decide, by decide⟩, _, _, rfl, rfl, (by show (0 : Int) < 6; decide), rfl, _, rfl, ?_⟩
      refine if_rest J ?_ (fun _ rest => ?_) (fun _ => st0)
      rotate_left
      · refine ⟨_, rfl, _, _, rfl, rfl, ⟨by decide, by decide⟩, _, rfl, _, rfl, _, rfl, _, na, va, ta, sc, rfl, hA1.mono m6, fun ve e H7 m7 de oe => ?_⟩
        refine ⟨_, rfl, one, fun p8 hp8 => ?_⟩
        have n8 := same_new hp8 (.tup [vi])
        have m78 := m7.trans n8
        refine ⟨_, rfl, four, fun p9 hp9 => ?_⟩
        have n9 := same_new hp9 (.tup [.str "if", ve, .ref p8, vo])
        have d9 := dp_if (K := K) hp9 (dp_mono n8 _ _ de) (dp_b1 hp8 (dp_mono m7 _ _ di6)) (dp_mono m78 _ _ do6)
        refine ⟨one, fun p10 hp10 => ?_⟩
        have n10 := same_new hp10 (.tup [.ref p9])
        have mm := m78.trans (n9.trans n10)
        exact rest _ _ ⟨_, _, _, _, _, rfl, m6.trans mm, dp_mono mm _ _ do6, oo1, dp_b1 hp10 d9, Blk.oki (Blk.ok_cons (Stm.ok_ite oe (Blk.oki (Blk.ok_cons oi Blk.ok_nil)) oo5) Blk.ok_nil), dp_mono mm _ _ di6, dp_mono mm _ _ dm6⟩
      clear st0 do6 dt6 di6 dm6 m6 oo5 oo1 do5 di5 dm5 m5
      rintro σ H7 ⟨vo, vt, bo, bt, v8, rfl, m7, do7, oo7, dt7, ot7, di7, dm7⟩
      -- 2: an after, and bad in an if
      refine ⟨_, rfl, _, _, rfl, rfl, ⟨by decide, by decide⟩, _, _, rfl, rfl, (by show (0 : Int) < 6; decide), rfl, _, rfl, ?_⟩
      refine if_rest J ?_ (fun _ rest => ?_) (fun _ => ⟨_, _, _, _, _, rfl, m7, do7, oo7, dt7, ot7, di7, dm7⟩)
      rotate_left
      · refine ⟨_, rfl, one, fun p8 hp8 => ?_⟩
        have n8 := same_new hp8 (.tup [vi])
        have e8 := dp_b1 (K := K) hp8 di7
        refine ⟨two, fun p9 hp9 => ?_⟩
        have n9 := same_new hp9 (.tup [.str "after", .ref p8])
        have e9 := dp_after (K := K) hp9 e8
        have hA9 := hA1.mono (m7.trans (n8.trans n9))
        obtain ⟨x0, hx0⟩ : ∃ x0, sc.locs[0]? = some x0 := ⟨_, List.getElem?_eq_getElem (List.length_pos_iff.mpr hA.n0)⟩
        refine ⟨_, rfl, na, _, _, _, rfl, rfl, hA9.n, at_of (j := 0) rfl (by rw [List.getElem?_map, hx0]; rfl), two, fun p10 hp10 => ?_⟩
        have n10 := same_new hp10 (.tup [.str "local", .str x0])
        have e10 := dp_loc (K := K) hp10 x0
        refine ⟨one, fun p11 hp11 => ?_⟩
        have n11 := same_new hp11 (.tup [.str "bad"])
        have e11 := dp_bad (K := K) hp11
        refine ⟨one, fun p12 hp12 => ?_⟩
        have n12 := same_new hp12 (.tup [.ref p11])
        have e12 := dp_b1 (K := K) hp12 e11
        refine ⟨zero, fun p13 hp13 => ?_⟩
        have n13 := same_new hp13 (.tup [])
        have e13 := dp_b0 (K := K) hp13
        refine ⟨four, fun p14 hp14 => ?_⟩
        have n14 := same_new hp14 (.tup [.str "if", .ref p10, .ref p12, .ref p13])
        have e14 := dp_if (K := K) hp14 (dp_mono (n11.trans (n12.trans n13)) _ _ e10) (dp_mono n13 _ _ e12) e13
        refine ⟨two, fun p15 hp15 => ?_⟩
        have n15 := same_new hp15 (.tup [.ref p9, .ref p14])
        have e15 := dp_b2 (K := K) hp15 (dp_mono (n10.trans (n11.trans (n12.trans (n13.trans n14)))) _ _ e9) e14
        have mm := n8.trans (n9.trans (n10.trans (n11.trans (n12.trans (n13.trans (n14.trans n15))))))
        refine rest _ _ ⟨_, _, _, _, _, rfl, m7.trans mm, dp_mono mm _ _ do7, oo7, e15, ?_, dp_mono mm _ _ di7, dp_mono mm _ _ dm7⟩
        exact Blk.oki (Blk.ok_cons (Stm.ok_after (Blk.oki (Blk.ok_cons oi Blk.ok_nil))) (Blk.ok_cons (Stm.ok_ite (show x0 ∈ sc.locs from List.mem_of_getElem? hx0) (Blk.oki (Blk.ok_cons Stm.ok_bad Blk.ok_nil)) (Blk.oki Blk.ok_nil)) Blk.ok_nil))
      clear do7 dt7 di7 dm7 m7 oo7 ot7
      rintro σ H7 ⟨vo, vt, bo, bt, v8, rfl, m7, do7, oo7, dt7, ot7, di7, dm7⟩
      -- 3: an if in the else
      refine ⟨_, rfl, _, _, rfl, rfl, ⟨by decide, by decide⟩, _, _, rfl, rfl, (by show (0 : Int) < 6; decide), rfl, _, rfl, ?_⟩
      refine if_rest J ?_ (fun _ rest => ?_) (fun _ => ⟨_, _, _, _, _, rfl, m7, do7, oo7, dt7, ot7, di7, dm7⟩)
      rotate_left
      · refine ⟨_, rfl, _, _, rfl, rfl, ⟨by decide, by decide⟩, _, rfl, _, rfl, _, rfl, _, na, va, ta, sc, rfl, hA1.mono m7, fun ve e H8 m8 de oe => ?_⟩
        refine ⟨zero, fun p9 hp9 => ?_⟩
        have n9 := same_new hp9 (.tup [])
        have e9 := dp_b0 (K := K) hp9
        refine ⟨_, rfl, one, fun p10 hp10 => ?_⟩
        have n10 := same_new hp10 (.tup [vi])
        have e10 := dp_b1 (K := K) hp10 (dp_mono (m8.trans n9) _ _ di7)
        refine ⟨four, fun p11 hp11 => ?_⟩
        have n11 := same_new hp11 (.tup [.str "if", ve, .ref p9, .ref p10])
        have e11 := dp_if (K := K) hp11 (dp_mono (n9.trans n10) _ _ de) (dp_mono n10 _ _ e9) e10
        refine ⟨one, fun p12 hp12 => ?_⟩
        have n12 := same_new hp12 (.tup [.ref p11])
        have e12 := dp_b1 (K := K) hp12 e11
        have mm := m8.trans (n9.trans (n10.trans (n11.trans n12)))
        exact rest _ _ ⟨_, _, _, _, _, rfl, m7.trans mm, e12, Blk.oki (Blk.ok_cons (Stm.ok_ite oe (Blk.oki Blk.ok_nil) (Blk.oki (Blk.ok_cons oi Blk.ok_nil))) Blk.ok_nil), dp_mono mm _ _ dt7, ot7, dp_mono mm _ _ di7, dp_mono mm _ _ dm7⟩
      clear do7 dt7 di7 dm7 m7 oo7 ot7
      rintro σ H7 ⟨vo, vt, bo, bt, v8, rfl, m7, do7, oo7, dt7, ot7, di7, dm7⟩
      -- 4: bad in the else
      refine ⟨_, rfl, _, _, rfl, rfl, ⟨by decide, by decide⟩, _, _, rfl, rfl, (by show (0 : Int) < 6; decide), rfl, _, rfl, ?_⟩
      refine if_rest J ?_ (fun _ rest => ?_) (fun _ => ⟨_, _, _, _, _, rfl, m7, do7, oo7, dt7, ot7, di7, dm7⟩)
      rotate_left
      · refine ⟨_, rfl, one, fun p9 hp9 => ?_⟩
        have n9 := same_new hp9 (.tup [.str "bad"])
        have e9 := dp_bad (K := K) hp9
        refine ⟨two, fun p10 hp10 => ?_⟩
        have n10 := same_new hp10 (.tup [vm, .ref p9])
        have e10 := dp_b2 (K := K) hp10 (dp_mono n9 _ _ dm7) e9
        have mm := n9.trans n10
        exact rest _ _ ⟨_, _, _, _, _, rfl, m7.trans mm, e10, Blk.oki (Blk.ok_cons (Stm.ok_mono om (by decide)) (Blk.ok_cons Stm.ok_bad Blk.ok_nil)), dp_mono mm _ _ dt7, ot7, dp_mono mm _ _ di7, dp_mono mm _ _ dm7⟩
      clear do7 dt7 di7 dm7 m7 oo7 ot7
      rintro σ H7 ⟨vo, vt, bo, bt, v8, rfl, m7, do7, oo7, dt7, ot7, di7, dm7⟩
      refine ⟨_, rfl, .inl ⟨rfl, _, SqL.of (m7 _ _ hl1)⟩, _, rfl, _, _, rfl, rfl, ⟨by decide, by decide⟩, _, rfl, _, rfl, _, rfl, _, na, va, ta, sc, rfl, hA1.mono m7, fun ve e H8 m8 de oe => ?_⟩
      refine ⟨_, rfl, _, rfl, four, fun p9 hp9 => ?_⟩
      have n9 := same_new hp9 (.tup [.str "if", ve, vt, vo])
      have e9 := dp_if (K := K) hp9 de (dp_mono m8 _ _ dt7) (dp_mono m8 _ _ do7)
      have mm := m7.trans (m8.trans n9)
      refine ⟨l, vs, _, rfl, rfl, mm _ _ hl1, lbig, ?_⟩
      exact fin _ _ _ _ _ _ _ _ _ _ _ mm e9 (Stm.ok_ite oe ot7 oo7)
    · -- bad
      refine ⟨_, rfl, rfl, _, rfl, and_if ?_ fun _ rest => ?_⟩
      rotate_left
      · refine ⟨_, rfl, _, _, rfl, rfl, (by show (0 : Int) < 3; decide), rfl, _, rfl, ite2 (fun c => ?_) (fun _ => rest)⟩
        refine ⟨_, rfl, .inl ⟨rfl, _, SqL.of (m3 _ _ hl1)⟩, one, fun p4 hp4 => ?_⟩
        have mm := m3.trans (same_new hp4 (.tup [.str "bad"]))
        refine ⟨l, vs, _, rfl, rfl, mm _ _ hl1, lbig, ?_⟩
        exact fin _ _ _ _ _ _ _ _ _ _ _ mm (dp_bad hp4) Stm.ok_bad
      -- an after
      refine ⟨_, rfl, rfl, _, rfl, and_if ?_ fun _ rest => ?_⟩
      rotate_left
      · refine ⟨_, rfl, _, _, rfl, rfl, (by show (0 : Int) < 3; decide), rfl, _, rfl, ite2 (fun c => ?_) (fun _ => rest)⟩
        refine ⟨_, rfl, _, _, rfl, rfl, ⟨by decide, by decide⟩, _, rfl, _, rfl, _, rfl, _, na, va, ta, sc, rfl, hA1.mono m3, fun ve e H8 m8 de oe => ?_⟩
        have m38 := m3.trans m8
        have di8 := dp_mono m8 _ _ di3
        have dm8 := dp_mono m8 _ _ dm
        refine ⟨_, rfl, .inl ⟨rfl, _, SqL.of (m38 _ _ hl1)⟩, _, rfl, one, fun p9 hp9 => ?_⟩
        have n9 := same_new hp9 (.tup [vi])
        have e9 := dp_b1 (K := K) hp9 di8
        refine ⟨zero, fun p10 hp10 => ?_⟩
        have n10 := same_new hp10 (.tup [])
        have e10 := dp_b0 (K := K) hp10
        refine ⟨_, rfl, _, rfl, two, fun p11 hp11 => ?_⟩
        have n11 := same_new hp11 (.tup [vi, vm])
        have n910 := n9.trans n10
        have e11 := dp_b2 (K := K) hp11 (dp_mono n910 _ _ di8) (dp_mono n910 _ _ dm8)
        have n911 := n910.trans n11
        refine ⟨_, rfl, _, rfl, one, fun p12 hp12 => ?_⟩
        have n12 := same_new hp12 (.tup [vi])
        have e12 := dp_b1 (K := K) hp12 (dp_mono n911 _ _ di8)
        refine ⟨_, rfl, one, fun p13 hp13 => ?_⟩
        have n13 := same_new hp13 (.tup [vm])
        have e13 := dp_b1 (K := K) hp13 (dp_mono (n911.trans n12) _ _ dm8)
        refine ⟨four, fun p14 hp14 => ?_⟩
        have n14 := same_new hp14 (.tup [.str "if", ve, .ref p12, .ref p13])
        have e14 := dp_if (K := K) hp14 (dp_mono (n911.trans (n12.trans n13)) _ _ de) (dp_mono n13 _ _ e12) e13
        refine ⟨one, fun p15 hp15 => ?_⟩
        have n15 := same_new hp15 (.tup [.ref p14])
        have e15 := dp_b1 (K := K) hp15 e14
        refine ⟨four, fun p16 hp16 => ?_⟩
        have n16 := same_new hp16 (.tup [.ref p9, .ref p10, .ref p11, .ref p15])
        obtain ⟨v, hv, ev⟩ := pick_disp (vs := [.ref p9, .ref p10, .ref p11, .ref p15]) (r := r / 3) (n := 4) rfl (by decide)
        refine ⟨_, rfl, _, _, rfl, rfl, ⟨by decide, by decide⟩, _, _, rfl, rfl, (by show (0 : Int) < 4; decide), p16, _, _, _, rfl, rfl, SqT.of upd_same, ev, two, fun p17 hp17 => ?_⟩
        have n17 := same_new hp17 (.tup [.str "after", v])
        have n1216 := n12.trans (n13.trans (n14.trans (n15.trans n16)))
        have mm := m38.trans (n911.trans (n1216.trans n17))
        simp only [List.mem_cons, List.not_mem_nil, or_false] at hv
        refine ⟨l, vs, _, rfl, rfl, mm _ _ hl1, lbig, ?_⟩
        rcases hv with rfl | rfl | rfl | rfl
        · exact fin _ _ _ _ _ _ _ _ _ _ _ mm (dp_after hp17 (dp_mono (n10.trans (n11.trans n1216)) _ _ e9)) (Stm.ok_after (Blk.oki (Blk.ok_cons (Stm.ok_mono oi (by decide)) Blk.ok_nil)))
        · exact fin _ _ _ _ _ _ _ _ _ _ _ mm (dp_after hp17 (dp_mono (n11.trans n1216) _ _ e10)) (Stm.ok_after (Blk.oki Blk.ok_nil))
        · exact fin _ _ _ _ _ _ _ _ _ _ _ mm (dp_after hp17 (dp_mono n1216 _ _ e11)) (Stm.ok_after (Blk.oki (Blk.ok_cons (Stm.ok_mono oi (by decide)) (Blk.ok_cons (Stm.ok_mono om (by decide)) Blk.ok_nil))))
        · exact fin _ _ _ _ _ _ _ _ _ _ _ mm (dp_after hp17 (dp_mono n16 _ _ e15)) (Stm.ok_after (Blk.oki (Blk.ok_cons (Stm.ok_ite oe (Blk.oki (Blk.ok_cons oi Blk.ok_nil)) (Blk.oki (Blk.ok_cons om Blk.ok_nil))) Blk.ok_nil)))
      -- a plain one
      refine ⟨_, rfl, .inl ⟨rfl, _, SqL.of (m3 _ _ hl1)⟩, _, rfl, l, vs, _, rfl, rfl, m3 _ _ hl1, lbig, ?_⟩
      exact fin _ _ _ _ _ _ _ _ _ _ _ m3 di3 (Stm.ok_mono oi (by decide))
  · rintro σ H1 ⟨vs, b, v1, v2, v3, v4, v5, v6, v7, v8, rfl, m1, hl1, hb1, ob1, nb1⟩
    refine ⟨_, rfl, l, vs, rfl, .inl ⟨SqL.of hl1, fun p hp => ?_⟩⟩
    exact q _ b _ (m1.trans (same_new hp _)) (dp_tup hp hb1) ob1 (by rw [nb1, List.length_map])
/-! ### a game -/
def spGame (K : PySem.W.Frag) : Sp := fun vs H Q _ => ∃ (a : Addr) (ns : List Int) (k : Int), vs = [.ref a, .int k] ∧ SqL K H a (ns.map V.int) ∧ 0 ≤ k ∧
  ∀ (v : V) (g : Ga) (H' : Hp), Same H H' → Dp K H' v g.d → GaOk g → Q v H'
theorem tab5 {r : Int} : ∃ n : Int, atI ([.int 0, .int 1, .int 0, .int 1, .int 2] : List V) (r % 5) = some (.int n) ∧ 0 ≤ n ∧ n ≤ 2 := by
  obtain ⟨z, hz, ez⟩ := pick_disp (vs := [.int 0, .int 1, .int 0, .int 1, .int 2]) (r := r) (n := 5) rfl (by decide)
  simp only [List.mem_cons, List.not_mem_nil, or_false] at hz
  rcases hz with rfl | rfl | rfl | rfl | rfl
  · exact ⟨_, ez, by decide, by decide⟩
  · exact ⟨_, ez, by decide, by decide⟩
  · exact ⟨_, ez, by decide, by decide⟩
  · exact ⟨_, ez, by decide, by decide⟩
  · exact ⟨_, ez, by decide, by decide⟩
theorem siz3 {r : Int} : ∃ n : Int, atI ([.int 2, .int 3, .int 65535] : List V) (r % 3) = some (.int n) ∧ (n = 2 ∨ n = 3 ∨ n = 65535) := by
  obtain ⟨z, hz, ez⟩ := pick_disp (vs := [.int 2, .int 3, .int 65535]) (r := r) (n := 3) rfl (by decide)
  simp only [List.mem_cons, List.not_mem_nil, or_false] at hz
  rcases hz with rfl | rfl | rfl
  · exact ⟨_, ez, .inl rfl⟩
  · exact ⟨_, ez, .inr (.inl rfl)⟩
  · exact ⟨_, ez, .inr (.inr rfl)⟩
theorem mod2 (r : Int) : r % 2 = 0 ∨ r % 2 = 1 := by omega
theorem ok_game (T : Txt K mg file) : FnOk P w K mg base CX0 5 T.a_law_game T.fd_law_game ["script", "at"] (spGame K) := by
  have G_law_cell : FnOk P w K mg base CX0 1 T.a_law_cell T.fd_law_cell ["script", "k"] (spCell K) := ok_cell T
  have G_law_row : FnOk P w K mg base CX0 1 T.a_law_row T.fd_law_row ["cell", "count", "size"] spRow := ok_row T
  have G_law_value : FnOk P w K mg base CX0 2 T.a_law_value T.fd_law_value ["cell", "names", "variables", "tables"] (spSide K 3) := ok_value T
  have G_law_block : FnOk P w K mg base CX0 4 T.a_law_block T.fd_law_block ["cells", "names", "variables", "tables", "lots"] (spBlock K) := ok_block T
  refine T.F_law_game.ok sc_law_game (fun vs H Q E h => ?_) (fun cdv A outer s H vs Q E hr h => ?_)
  · obtain ⟨a, ns, k, rfl, _⟩ := h
    rfl
  obtain ⟨sa, ns, at_, rfl, hS, hat, q⟩ := h
  refine ⟨_, (pss_cons (ps_set (i := 2) sc_law_game.nd rfl (Or.inr rfl) (pe_call G_law_row (hr.mono (by decide)) rfl T.g_law_row T.k_law_row T.b_law_row .nil pass0 (pa_cons (pe_call G_law_cell (hr.mono (by decide)) rfl T.g_law_cell T.k_law_cell T.b_law_cell .nil pass0 (pa_cons (pv 0) (pa_cons (pv 1) pa_nil))) (pa_cons pe_int (pa_cons pe_int pa_nil)))))
    (pss_cons (ps_set (i := 3) sc_law_game.nd rfl (Or.inr rfl) (pe_slice sl_list (pe_lst (pa_cons pe_str (pa_cons pe_str pa_nil))) po_none (po_some (pe_op op_mod (pe_ix ix_list (pv 2) pe_int (fun _ _ => rfl)) pe_int))))
    (pss_cons (ps_set (i := 4) sc_law_game.nd rfl (Or.inr rfl) (pe_slice sl_list (pe_lst (pa_cons pe_str (pa_cons pe_str pa_nil))) po_none (po_some (pe_ix ix_tup (pe_tup (pa_cons pe_int (pa_cons pe_int (pa_cons pe_int (pa_cons pe_int (pa_cons pe_int pa_nil)))))) (pe_op op_mod (pe_ix ix_list (pv 2) pe_int (fun _ _ => rfl)) pe_int) (fun _ _ => rfl)))))
    (pss_cons (ps_set (i := 5) sc_law_game.nd rfl (Or.inl rfl) (pe_slice sl_list (pe_lst (pa_cons pe_str (pa_cons pe_str pa_nil))) po_none (po_some (pe_op op_mod (pe_ix ix_list (pv 2) pe_int (fun _ _ => rfl)) pe_int))))
    (pss_cons (ps_set (i := 6) sc_law_game.nd rfl (Or.inl rfl) (pe_lst pa_nil))
    (pss_cons (ps_for PassesOwn.never rfl (pi_range1 (by rfl) T.z_range (pa_cons (pe_op op_add pe_int (pe_op op_mod (pe_ix ix_list (pv 2) pe_int (fun _ _ => rfl)) pe_int)) pa_nil)) (pg_name (i := 7) sc_law_game.nd rfl (Or.inl rfl))
      (pss_cons (ps_set (i := 8) sc_law_game.nd rfl (Or.inl rfl) (pe_slice (slTB K rfl) (pe_tup (pa_cons pe_str (pa_cons pe_str (pa_cons pe_str pa_nil)))) po_none (po_some (pe_op op_add pe_int (pe_op op_mod (pe_ix ix_list (pv 2) (pe_op op_add pe_int (pv 7)) (fun _ _ => rfl)) pe_int)))))
    (pss_cons (ps_set (i := 9) sc_law_game.nd rfl (Or.inl rfl) (pe_call G_law_row (hr.mono (by decide)) rfl T.g_law_row T.k_law_row T.b_law_row .nil pass0 (pa_cons (pe_call G_law_cell (hr.mono (by decide)) rfl T.g_law_cell T.k_law_cell T.b_law_cell .nil pass0 (pa_cons (pv 0) (pa_cons (pe_op op_add (pe_op op_add (pv 1) pe_int) (pv 7)) pa_nil))) (pa_cons (pe_op op_add pe_int (pe_op op_mod (pe_ix ix_list (pv 2) (pe_op op_add pe_int (pv 7)) (fun _ _ => rfl)) pe_int)) (pa_cons (pe_op op_pow pe_int pe_int) pa_nil)))))
    (pss_cons (ps_set (i := 10) sc_law_game.nd rfl (Or.inl rfl) (pe_call G_law_block (hr.mono (by decide)) rfl T.g_law_block T.k_law_block T.b_law_block .nil pass0 (pa_cons (pv 9) (pa_cons (pv 8) (pa_cons (pv 3) (pa_cons (pv 4) (pa_cons (pv 5) pa_nil)))))))
    (pss_cons (ps_set (i := 11) sc_law_game.nd rfl (Or.inl rfl) (pe_call G_law_value (hr.mono (by decide)) rfl T.g_law_value T.k_law_value T.b_law_value .nil pass0 (pa_cons (pe_op op_add (pe_op op_mul (pe_ix ix_list (pv 2) (pe_op op_add pe_int (pv 7)) (fun _ _ => rfl)) pe_int) (pe_ix ix_list (pv 2) pe_int (fun _ _ => rfl))) (pa_cons (pv 8) (pa_cons (pv 3) (pa_cons (pv 4) pa_nil))))))
    (pss_one (ps_expr (pe_bm PySem.F.plainAttrs_list PySem.F.slot_list_append PySem.F.type_list_append mt_append (pv 6) (pa_cons (pe_tup (pa_cons (pe_ix ix_str pe_str (pv 7) (fun _ _ => rfl)) (pa_cons (pe_op op_add pe_int (pe_op op_mod (pe_ix ix_list (pv 2) (pe_op op_add pe_int (pv 7)) (fun _ _ => rfl)) pe_int)) (pa_cons (pe_op op_add pe_int (pe_op op_mod (pe_ix ix_list (pv 2) (pe_op op_add pe_int (pv 7)) (fun _ _ => rfl)) pe_int)) (pa_cons (pv 8) (pa_cons (pv 10) (pa_cons (pv 11) pa_nil))))))) pa_nil)))))))))
    (pss_cons (ps_set (i := 12) sc_law_game.nd rfl (Or.inl rfl) (pe_callTy call_tuple_of (by rfl) T.z_tuple (by decide +kernel) (pa_cons (pe_lc (own := [("k", 7)]) (g := gName 7) (tt := tYes) rfl sc_law_game.nd (pi_range1 (by rfl) T.z_range (pa_cons (pe_callB call_len_seq (by rfl) T.z_len (by decide +kernel) (pa_cons (pv 3) pa_nil)) pa_nil)) (blkOk_by (own := [("k", 7)]) (N := ["script", "at", "digits", "variables", "tables", "lots", "procs", "k", "names", "cells", "block", "result", "rows", "first", "name"]) (sc := defScope s_law_game) (by decide +kernel)) (fun _ _ _ _ _ => pg_name (i := 7) sc_law_game.nd rfl (Or.inl rfl)) (fun _ _ _ _ _ => pts_nil) (fun _ _ _ _ _ => (pe_tup (pa_cons (pe_ix (ixlK K rfl) (pv 3) (pv 7) (fun _ _ => rfl)) (pa_cons (pe_ix (ixtK K rfl) (pe_tup (pa_cons pe_int (pa_cons pe_int (pa_cons pe_int pa_nil)))) (pe_op op_mod (pe_ix (ixlK K rfl) (pv 2) pe_int (fun _ _ => rfl)) pe_int) (fun _ _ => rfl)) (pa_cons (pe_op op_mod (pe_ix (ixlK K rfl) (pv 2) (pe_op op_add pe_int (pv 7)) (fun _ _ => rfl)) pe_int) pa_nil)))))) pa_nil)))
    (pss_cons (ps_set (i := 13) sc_law_game.nd rfl (Or.inl rfl) (pe_callTy call_tuple_of (by rfl) T.z_tuple (by decide +kernel) (pa_cons (pe_lc (own := [("k", 7)]) (g := gName 7) (tt := tYes) rfl sc_law_game.nd (pi_range1 (by rfl) T.z_range (pa_cons (pe_callB call_len_seq (by rfl) T.z_len (by decide +kernel) (pa_cons (pv 4) pa_nil)) pa_nil)) (blkOk_by (own := [("k", 7)]) (N := ["script", "at", "digits", "variables", "tables", "lots", "procs", "k", "names", "cells", "block", "result", "rows", "first", "name"]) (sc := defScope s_law_game) (by decide +kernel)) (fun _ _ _ _ _ => pg_name (i := 7) sc_law_game.nd rfl (Or.inl rfl)) (fun _ _ _ _ _ => pts_nil) (fun _ _ _ _ _ => (pe_tup (pa_cons (pe_ix (ixlK K rfl) (pv 4) (pv 7) (fun _ _ => rfl)) (pa_cons (pe_op op_add pe_int (pe_op op_mod (pe_op op_add (pe_ix (ixlK K rfl) (pv 2) pe_int (fun _ _ => rfl)) (pv 7)) pe_int)) (pa_cons (pe_op op_add pe_int (pe_op op_mod (pe_ix (ixlK K rfl) (pv 2) pe_int (fun _ _ => rfl)) pe_int)) pa_nil)))))) pa_nil)))
    (pss_one (ps_ret (pe_tup (pa_cons (pv 12) (pa_cons (pv 13) (pa_cons (pe_callTy call_tuple_of (by rfl) T.z_tuple (by decide +kernel) (pa_cons (pe_lc (own := [("name", 14)]) (g := gName 14) (tt := tYes) rfl sc_law_game.nd (pi_list (pv 5)) (blkOk_by (own := [("name", 14)]) (N := ["script", "at", "digits", "variables", "tables", "lots", "procs", "k", "names", "cells", "block", "result", "rows", "first", "name"]) (sc := defScope s_law_game) (by decide +kernel)) (fun _ _ _ _ _ => pg_name (i := 14) sc_law_game.nd rfl (Or.inl rfl)) (fun _ _ _ _ _ => pts_nil) (fun _ _ _ _ _ => (pe_tup (pa_cons (pv 14) (pa_cons (pe_op op_add pe_int (pe_op op_mod (pe_ix (ixlK K rfl) (pv 2) pe_int (fun _ _ => rfl)) pe_int)) (pa_cons pe_int pa_nil)))))) pa_nil)) (pa_cons (pe_callTy call_tuple_of (by rfl) T.z_tuple (by decide +kernel) (pa_cons (pv 6) pa_nil)) pa_nil))))))))))))))), ?_⟩
  have zero : (0 : Nat) ≤ sizeLine := by decide
  have two : (2 : Nat) ≤ sizeLine := by decide
  have three : (3 : Nat) ≤ sizeLine := by decide
  have five : (5 : Nat) ≤ sizeLine := by decide
  have six : (6 : Nat) ≤ sizeLine := by decide
  refine ⟨_, rfl, _, rfl, sa, ns, at_, rfl, hS, hat, _, _, _, rfl, by decide, by decide, by decide, by decide, fun dl ds H1 m1 hd1 dlen db => ?_⟩
  have hdl : ds.length = 14 := dlen
  have dig : ∀ i : Int, 0 ≤ i → i < 14 → ∃ d ∈ ds, atI (ds.map V.int) i = some (.int d) := fun i h0 h1 => dig_at h0 (by rw [hdl]; exact h1)
  -- variables
  obtain ⟨d0, hd0, e0⟩ := dig 0 (by decide) (by decide)
  refine ⟨two, fun p2 hp2 => ?_⟩
  have m2 := same_new hp2 (.lst [.str "x", .str "y"])
  refine ⟨_, rfl, dl, _, _, _, rfl, rfl, SqL.of (m2 _ _ hd1), e0, _, _, rfl, rfl, (by show (0 : Int) < 3; decide), _, rfl, p2, _, rfl, SqL.of upd_same, fun vl hvl => ?_⟩
  have d03 : 0 ≤ d0 % 3 ∧ d0 % 3 ≤ 2 := ⟨Int.emod_nonneg _ (by decide), by have := Int.emod_lt_of_pos d0 (by decide : (0 : Int) < 3); omega⟩
  have m3 := m1.trans (m2.trans (same_new hvl (.lst (cutV [.str "x", .str "y"] none (some (d0 % 3))))))
  have hV : (upd (upd H1 p2 (.lst [.str "x", .str "y"])) vl (.lst (cutV [.str "x", .str "y"] none (some (d0 % 3))))) vl = some (.lst ((([("x" : Str), "y"]).take (d0 % 3).toNat).map V.str)) := by rw [upd_same, cut2 d03.1 d03.2]
  have hD3 := (m2.trans (same_new hvl (.lst (cutV [.str "x", .str "y"] none (some (d0 % 3)))))) _ _ hd1
  revert m3 hV hD3
  generalize upd (upd H1 p2 (.lst [.str "x", .str "y"])) vl (.lst (cutV [.str "x", .str "y"] none (some (d0 % 3)))) = H3
  intro m3 hV hD3
  have tv := take2 (a := "x") (b := "y") (d0 % 3).toNat (by omega)
  generalize ([("x" : Str), "y"]).take (d0 % 3).toNat = vars at *
  clear m2 hd1
  -- tables
  obtain ⟨d1, hd1, e1⟩ := dig 1 (by decide) (by decide)
  refine ⟨two, fun p4 hp4 => ?_⟩
  have m4 := same_new hp4 (.lst [.str "t", .str "m"])
  refine ⟨five, fun p5 hp5 => ?_⟩
  have m5 := m4.trans (same_new hp5 (.tup [.int 0, .int 1, .int 0, .int 1, .int 2]))
  obtain ⟨nt, ent, nt0, nt2⟩ := tab5 (r := d1)
  refine ⟨_, rfl, dl, _, _, _, rfl, rfl, SqL.of (m5 _ _ hD3), e1, _, _, rfl, rfl, (by show (0 : Int) < 5; decide), p5, _, _, _, rfl, rfl, SqT.of upd_same, ent, _, rfl, p4, _, rfl, SqL.of (same_new hp5 _ _ _ upd_same), fun tl htl => ?_⟩
  have m6' := m5.trans (same_new htl (.lst (cutV [.str "t", .str "m"] none (some nt))))
  have hT : (upd (upd (upd H3 p4 (.lst [.str "t", .str "m"])) p5 (.tup [.int 0, .int 1, .int 0, .int 1, .int 2])) tl (.lst (cutV [.str "t", .str "m"] none (some nt)))) tl = some (.lst ((([("t" : Str), "m"]).take nt.toNat).map V.str)) := by rw [upd_same, cut2 nt0 nt2]
  have m6 := m3.trans m6'
  have hD6 := m6' _ _ hD3
  have hV6 := m6' _ _ hV
  revert m6 hT hD6 hV6
  generalize upd (upd (upd H3 p4 (.lst [.str "t", .str "m"])) p5 (.tup [.int 0, .int 1, .int 0, .int 1, .int 2])) tl (.lst (cutV [.str "t", .str "m"] none (some nt))) = H6
  intro hT m6 hD6 hV6
  have tt := take2 (a := "t") (b := "m") nt.toNat (by omega)
  generalize ([("t" : Str), "m"]).take nt.toNat = tabs at *
  clear m6' m5 m4 hD3 hV m3
  -- lots
  obtain ⟨d2, hd2, e2⟩ := dig 2 (by decide) (by decide)
  refine ⟨two, fun p7 hp7 => ?_⟩
  have m7 := same_new hp7 (.lst [.str "o", .str "k"])
  have d23 : 0 ≤ d2 % 3 ∧ d2 % 3 ≤ 2 := ⟨Int.emod_nonneg _ (by decide), by have := Int.emod_lt_of_pos d2 (by decide : (0 : Int) < 3); omega⟩
  refine ⟨_, rfl, dl, _, _, _, rfl, rfl, SqL.of (m7 _ _ hD6), e2, _, _, rfl, rfl, (by show (0 : Int) < 3; decide), _, rfl, p7, _, rfl, SqL.of upd_same, fun ll hll => ?_⟩
  have m8' := m7.trans (same_new hll (.lst (cutV [.str "o", .str "k"] none (some (d2 % 3)))))
  have hL : (upd (upd H6 p7 (.lst [.str "o", .str "k"])) ll (.lst (cutV [.str "o", .str "k"] none (some (d2 % 3))))) ll = some (.lst ((([("o" : Str), "k"]).take (d2 % 3).toNat).map V.str)) := by rw [upd_same, cut2 d23.1 d23.2]
  have m8 := m6.trans m8'
  have hD8 := m8' _ _ hD6
  have hV8 := m8' _ _ hV6
  have hT8 := m8' _ _ hT
  revert m8 hL hD8 hV8 hT8
  generalize upd (upd H6 p7 (.lst [.str "o", .str "k"])) ll (.lst (cutV [.str "o", .str "k"] none (some (d2 % 3)))) = H8
  intro hL m8 hD8 hV8 hT8
  have tl' := take2 (a := "o") (b := "k") (d2 % 3).toNat (by omega)
  generalize ([("o" : Str), "k"]).take (d2 % 3).toNat = lots at *
  clear m8' m7 hD6 hV6 hT m6
  -- procs
  refine ⟨zero, fun pl hpl => ?_⟩
  obtain ⟨d3, hd3, e3⟩ := dig 3 (by decide) (by decide)
  have st9 := Acc.start (K := K) hpl
  refine ⟨_, rfl, dl, _, _, _, rfl, rfl, SqL.of (st9.s _ _ hD8), e3, _, _, rfl, rfl, (by show (0 : Int) < 2; decide), _, _, rfl, rfl, _, rfl, by have := mod2 d3; omega, by have := mod2 d3; omega, ?_⟩
  refine for_range (lo := 0) (n := (1 + d3 % 2).toNat) (fun i σ H' => ∃ (vs : List V) (ps : List Pr) (w1 w2 w3 w4 w5 w6 w7 w8 : Option V), σ = [some (.ref sa), some (.int at_), some (.ref dl), some (.ref vl), some (.ref tl), some (.ref ll), some (.ref pl), w1, w2, w3, w4, w5, w6, w7, w8] ∧
    Acc K H8 H' pl vs (ps.map Pr.d) ∧ ps.length = i ∧ ps.map (·.name) = ([("p" : Str), "r"]).take i ∧ ∀ p ∈ ps, (1 ≤ p.size ∧ p.size ≤ 3) ∧ (2 ≤ p.ans ∧ p.ans ≤ 4) ∧ (p.locs = ([("g" : Str), "a"] : List Str) ∨ p.locs = ([("g" : Str), "a", "b"] : List Str)) ∧
      p.block.Ok ⟨p.locs, vars, tabs, lots, []⟩ 3 2 ∧ (1 ≤ p.block.len ∧ p.block.len ≤ 4) ∧ p.res.Ok ⟨p.locs, vars, tabs, lots, []⟩ 3)
    ⟨[], [], none, none, none, none, none, none, none, none, rfl, st9, rfl, rfl, fun p hp => nomatch hp⟩ ?_ ?_
  · rintro i σ H9 hi ⟨vs, ps, w1, w2, w3, w4, w5, w6, w7, w8, rfl, ac, pn, pnm, pok⟩
    have hi2 : i = 0 ∨ i = 1 := by have := mod2 d3; omega
    have hD9 := ac.s _ _ hD8
    have hV9 := ac.s _ _ hV8
    have hT9 := ac.s _ _ hT8
    have hL9 := ac.s _ _ hL
    obtain ⟨d4, hd4, e4⟩ := dig (4 + (0 + (i : Int))) (by omega) (by omega)
    obtain ⟨d6, hd6, e6⟩ := dig (6 + (0 + (i : Int))) (by omega) (by omega)
    obtain ⟨d8, hd8, e8⟩ := dig (8 + (0 + (i : Int))) (by omega) (by omega)
    obtain ⟨d9, hd9, e9⟩ := dig 9 (by decide) (by decide)
    obtain ⟨d10, hd10, e10⟩ := dig (10 + (0 + (i : Int))) (by omega) (by omega)
    obtain ⟨d12, hd12, e12⟩ := dig (12 + (0 + (i : Int))) (by omega) (by omega)
    refine ⟨three, fun p10 hp10 => ?_⟩
    have n10 := same_new hp10 (.tup [.str "g", .str "a", .str "b"])
    refine ⟨_, rfl, _, rfl, _, _, rfl, rfl, dl, _, _, _, rfl, rfl, SqL.of (n10 _ _ hD9), e4, _, _, rfl, rfl, (by show (0 : Int) < 2; decide), _, _, rfl, rfl, _, rfl, p10, _, rfl, SqT.of upd_same, fun na H10 m10 hN => ?_⟩
    have nmx : ∃ nm : List Str, SqT K H10 na (nm.map V.str) ∧ (nm = ([("g" : Str), "a"] : List Str) ∨ nm = ([("g" : Str), "a", "b"] : List Str)) := by
      rcases cut3 (r := d4 % 2) (Int.emod_nonneg _ (by decide)) (Int.emod_lt_of_pos _ (by decide)) with e | e
      · exact ⟨_, e ▸ hN, .inl rfl⟩
      · exact ⟨_, e ▸ hN, .inr rfl⟩
    obtain ⟨nm, hNm, hnm⟩ := nmx
    have nm0 : nm ≠ [] := by rcases hnm with rfl | rfl <;> exact List.cons_ne_nil _ _
    have m910 := n10.trans m10
    -- cells
    have hS10 := (m8.trans (ac.s.trans m910)).seq hS
    have hD10 := m910 _ _ hD9
    refine ⟨_, rfl, _, rfl, _, _, rfl, rfl, _, rfl, _, _, rfl, rfl, sa, ns, _, rfl, hS10, by omega, ?_⟩
    refine ⟨_, rfl, _, rfl, _, _, rfl, rfl, dl, _, _, _, rfl, rfl, SqL.of hD10, e6, _, _, rfl, rfl, (by show (0 : Int) < 4; decide), _, _, rfl, rfl, _, _, rfl, rfl, ⟨by decide, by decide, by decide⟩, ?_⟩
    have d64 : 0 ≤ d6 % 4 ∧ d6 % 4 < 4 := ⟨Int.emod_nonneg _ (by decide), Int.emod_lt_of_pos _ (by decide)⟩
    refine ⟨_, _, _, rfl, by omega, by omega, by decide, by decide, fun cl cs H11 m11 hC clen cb => ?_⟩
    have hclen : cs.length = (1 + d6 % 4).toNat := clen
    -- block
    have m911 := m910.trans m11
    have hA : At K ⟨nm, vars, tabs, lots, []⟩ H11 na vl tl := ⟨sqT_mono m11 hNm, SqL.of (m911 _ _ hV9), SqL.of (m911 _ _ hT9), nm0⟩
    refine ⟨_, rfl, _, rfl, _, rfl, _, rfl, _, rfl, cl, na, vl, tl, ll, cs, ⟨nm, vars, tabs, lots, []⟩, rfl, SqL.of hC, by omega, hA, SqL.of (m911 _ _ hL9), fun bv b H12 m12 db ob lb => ?_⟩
    have m912 := m911.trans m12
    have hD12 := m912 _ _ hD9
    -- result
    refine ⟨_, rfl, _, rfl, _, _, rfl, rfl, dl, _, _, _, rfl, rfl, SqL.of hD12, e8, _, _, rfl, rfl, .inr ⟨by decide, by decide⟩, _, rfl, dl, _, _, _, rfl, rfl, SqL.of hD12, e9, _, _, rfl, rfl, ?_⟩
    refine ⟨_, rfl, _, rfl, _, rfl, _, na, vl, tl, ⟨nm, vars, tabs, lots, []⟩, rfl, hA.mono m12, fun rv e H13 m13 de oe => ?_⟩
    have m913 := m912.trans m13
    have hD13 := m913 _ _ hD9
    -- append
    refine ⟨_, rfl, .inl ⟨rfl, _, SqL.of (m913 _ _ ac.l)⟩, _, rfl, ?_⟩
    have nmi : ∃ c : Nat, atI (("pr" : Str).cps.toList) (0 + (i : Int)) = some c ∧ ([("p" : Str), "r"]).take (i + 1) = ([("p" : Str), "r"]).take i ++ [⟨#[c]⟩] := by
      rcases hi2 with rfl | rfl
      · exact ⟨112, rfl, rfl⟩
      · exact ⟨114, rfl, rfl⟩
    obtain ⟨c, ec, enm⟩ := nmi
    refine ⟨_, _, c, rfl, rfl, by decide, ec, ?_⟩
    have d103 : 0 ≤ d10 % 3 ∧ d10 % 3 < 3 := ⟨Int.emod_nonneg _ (by decide), Int.emod_lt_of_pos _ (by decide)⟩
    have d123 : 0 ≤ d12 % 3 ∧ d12 % 3 < 3 := ⟨Int.emod_nonneg _ (by decide), Int.emod_lt_of_pos _ (by decide)⟩
    refine ⟨_, rfl, _, rfl, _, _, rfl, rfl, dl, _, _, _, rfl, rfl, SqL.of hD13, e10, _, _, rfl, rfl, (by show (0 : Int) < 3; decide), _, _, rfl, rfl, ?_⟩
    refine ⟨_, rfl, _, rfl, _, _, rfl, rfl, dl, _, _, _, rfl, rfl, SqL.of hD13, e12, _, _, rfl, rfl, (by show (0 : Int) < 3; decide), _, _, rfl, rfl, ?_⟩
    refine ⟨_, rfl, _, rfl, _, rfl, six, fun p14 hp14 => ?_⟩
    have n14 := same_new hp14 (.tup [.str ⟨#[c]⟩, .int (1 + d10 % 3), .int (2 + d12 % 3), .ref na, bv, rv])
    have dpr : Dp K (upd H13 p14 (.tup [.str ⟨#[c]⟩, .int (1 + d10 % 3), .int (2 + d12 % 3), .ref na, bv, rv])) (.ref p14) (Pr.mk ⟨#[c]⟩ (1 + d10 % 3) (2 + d12 % 3) nm b e).d :=
      dp_tup hp14 (.cons (.str _) (.cons (.int _) (.cons (.int _) (.cons (.tup (sqT_mono (m11.trans (m12.trans m13)) hNm) (dp_strs nm)) (.cons (dp_mono m13 _ _ db) (.cons de .nil))))))
    have m914 := m913.trans n14
    have ac14 := (ac.grow m914).add dpr (Pr.nol _)
    refine ⟨pl, vs, _, rfl, rfl, m914 _ _ ac.l, by have := ac.len; rw [List.length_map] at this; exact small1000 (by omega), ?_⟩
    refine ⟨_, ps ++ [Pr.mk ⟨#[c]⟩ (1 + d10 % 3) (2 + d12 % 3) nm b e], _, _, _, _, _, _, _, _, rfl, by rw [List.map_append]; exact ac14, by rw [List.length_append, pn]; rfl, by rw [List.map_append, pnm, enm]; rfl, fun p hp => ?_⟩
    rcases List.mem_append.mp hp with z | z
    · exact pok p z
    · rw [List.mem_singleton.mp z]
      exact ⟨⟨by show 1 ≤ 1 + d10 % 3; omega, by show 1 + d10 % 3 ≤ 3; omega⟩, ⟨by show 2 ≤ 2 + d12 % 3; omega, by show 2 + d12 % 3 ≤ 4; omega⟩, hnm, ob, ⟨by rw [lb, hclen]; omega, by rw [lb, hclen]; omega⟩, oe⟩
  · rintro σ H9 ⟨vs, ps, w1, w2, w3, w4, w5, w6, w7, w8, rfl, ac, pn, pnm, pok⟩
    have hD9 := ac.s _ _ hD8
    have hV9 := ac.s _ _ hV8
    have hT9 := ac.s _ _ hT8
    have hL9 := ac.s _ _ hL
    have lv : vars.length ≤ 2 := by rcases tv with h | h | h <;> rw [h] <;> decide
    have lt : tabs.length ≤ 2 := by rcases tt with h | h | h <;> rw [h] <;> decide
    have ll2 : lots.length ≤ 2 := by rcases tl' with h | h | h <;> rw [h] <;> decide
    -- rows
    obtain ⟨d5, hd5, e5⟩ := dig 5 (by decide) (by decide)
    refine ⟨_, rfl, vl, _, rfl, .inl (SqL.of hV9), _, rfl, by omega, by rw [List.length_map]; omega, fun D hD => ?_⟩
    refine lc_range (lo := 0) (n := _) (fun i H' => ∃ (vs : List V) (ts : List (Str × Int × Int)), Acc K H9 H' D vs (ts.map trip) ∧ ts.length = i ∧ ts.map (·.1) = vars.take i ∧ ∀ t ∈ ts, (t.2.1 = 2 ∨ t.2.1 = 3 ∨ t.2.1 = 65535) ∧ (t.2.2 = 0 ∨ t.2.2 = 1))
      ⟨[], [], Acc.start hD, rfl, rfl, fun t ht => nomatch ht⟩ ?_ ?_
    · rintro i H10 hi ⟨us, ts, a10, tn, tnm, tok⟩
      obtain ⟨x, hx, ex⟩ := str_at hi
      rw [List.length_map] at hi
      obtain ⟨d7, hd7, e7⟩ := dig (7 + (0 + (i : Int))) (by omega) (by omega)
      obtain ⟨z, ez, hz⟩ := siz3 (r := d5)
      refine ⟨rfl, ?_⟩
      refine ⟨_, rfl, _, rfl, vl, _, _, _, rfl, rfl, SqL.of (a10.s _ _ hV9), ex, three, fun p11 hp11 => ?_⟩
      have n11 := same_new hp11 (.tup [.int 2, .int 3, .int 65535])
      refine ⟨_, rfl, dl, _, _, _, rfl, rfl, SqL.of (n11 _ _ (a10.s _ _ hD9)), e5, _, _, rfl, rfl, (by show (0 : Int) < 3; decide), p11, _, _, _, rfl, rfl, SqT.of upd_same, ez, ?_⟩
      refine ⟨_, rfl, _, rfl, _, _, rfl, rfl, dl, _, _, _, rfl, rfl, SqL.of (n11 _ _ (a10.s _ _ hD9)), e7, _, _, rfl, rfl, (by show (0 : Int) < 2; decide), three, fun p12 hp12 => ?_⟩
      have n12 := n11.trans (same_new hp12 (.tup [.str x, .int z, .int (d7 % 2)]))
      have dt : Dp K _ (.ref p12) (trip (x, z, d7 % 2)) := dp_tup hp12 (.cons (.str _) (.cons (.int _) (.cons (.int _) .nil)))
      have a12 := (a10.grow n12).add dt rfl
      refine ⟨us, (a10.grow n12).l, by have := a10.len; rw [List.length_map] at this; exact small1000 (by omega), _, ts ++ [(x, z, d7 % 2)], by rw [List.map_append]; exact a12, by rw [List.length_append, tn]; rfl, by rw [List.map_append, tnm, take_more hx]; rfl, fun t ht => ?_⟩
      rcases List.mem_append.mp ht with h | h
      · exact tok t h
      · rw [List.mem_singleton.mp h]
        exact ⟨hz, mod2 d7⟩
    rintro H10 ⟨us, ts, a10, tn, tnm, tok⟩
    have tnm' : ts.map (·.1) = vars := by rw [tnm, List.length_map, Int.toNat_natCast, List.take_length]
    refine ⟨D, us, rfl, .inl ⟨SqL.of a10.l, fun rp hrp => ?_⟩⟩
    have drows : Dp K (upd H10 rp (.tup us)) (.ref rp) (trips ts) := dp_tup hrp a10.d
    have m911 := a10.s.trans (same_new hrp (.tup us))
    revert drows m911
    generalize upd H10 rp (.tup us) = H11
    intro drows m911
    clear a10 tnm hD
    -- first
    obtain ⟨d11, hd11, e11⟩ := dig 11 (by decide) (by decide)
    obtain ⟨d13, hd13, e13⟩ := dig 13 (by decide) (by decide)
    have hD11 := m911 _ _ hD9
    have hT11 := m911 _ _ hT9
    refine ⟨_, rfl, tl, _, rfl, .inl (SqL.of hT11), _, rfl, by omega, by rw [List.length_map]; omega, fun D2 hD2 => ?_⟩
    refine lc_range (lo := 0) (n := _) (fun i H' => ∃ (vs : List V) (ss : List (Str × Int × Int)), Acc K H11 H' D2 vs (ss.map trip) ∧ ss.length = i ∧ ss.map (·.1) = tabs.take i ∧ ∀ t ∈ ss, (t.2.1 = 2 ∨ t.2.1 = 3) ∧ (t.2.2 = 2 ∨ t.2.2 = 3))
      ⟨[], [], Acc.start hD2, rfl, rfl, fun t ht => nomatch ht⟩ ?_ ?_
    · rintro i H12 hi ⟨us2, ss, a12, sn, snm, sok⟩
      obtain ⟨x, hx, ex⟩ := str_at hi
      rw [List.length_map] at hi
      refine ⟨rfl, ?_⟩
      refine ⟨_, rfl, _, rfl, tl, _, _, _, rfl, rfl, SqL.of (a12.s _ _ hT11), ex, ?_⟩
      refine ⟨_, rfl, dl, _, _, _, rfl, rfl, SqL.of (a12.s _ _ hD11), e11, _, rfl, _, _, rfl, rfl, _, _, rfl, rfl, (by show (0 : Int) < 2; decide), _, _, rfl, rfl, ?_⟩
      refine ⟨_, rfl, dl, _, _, _, rfl, rfl, SqL.of (a12.s _ _ hD11), e13, _, _, rfl, rfl, (by show (0 : Int) < 2; decide), _, _, rfl, rfl, three, fun p13 hp13 => ?_⟩
      have n13 := same_new hp13 (.tup [.str x, .int (2 + (d11 + (0 + (i : Int))) % 2), .int (2 + d13 % 2)])
      have dt : Dp K _ (.ref p13) (trip (x, 2 + (d11 + (0 + (i : Int))) % 2, 2 + d13 % 2)) := dp_tup hp13 (.cons (.str _) (.cons (.int _) (.cons (.int _) .nil)))
      have a13 := (a12.grow n13).add dt rfl
      refine ⟨us2, (a12.grow n13).l, by have := a12.len; rw [List.length_map] at this; exact small1000 (by omega), _, ss ++ [(x, 2 + (d11 + (0 + (i : Int))) % 2, 2 + d13 % 2)], by rw [List.map_append]; exact a13, by rw [List.length_append, sn]; rfl, by rw [List.map_append, snm, take_more hx]; rfl, fun t ht => ?_⟩
      rcases List.mem_append.mp ht with h | h
      · exact sok t h
      · rw [List.mem_singleton.mp h]
        refine ⟨?_, ?_⟩
        · show 2 + (d11 + (0 + (i : Int))) % 2 = 2 ∨ 2 + (d11 + (0 + (i : Int))) % 2 = 3
          omega
        · show 2 + d13 % 2 = 2 ∨ 2 + d13 % 2 = 3
          omega
    rintro H12 ⟨us2, ss, a12, sn, snm, sok⟩
    have snm' : ss.map (·.1) = tabs := by rw [snm, List.length_map, Int.toNat_natCast, List.take_length]
    refine ⟨D2, us2, rfl, .inl ⟨SqL.of a12.l, fun fp hfp => ?_⟩⟩
    have dfirst : Dp K (upd H12 fp (.tup us2)) (.ref fp) (trips ss) := dp_tup hfp a12.d
    have m1113 := a12.s.trans (same_new hfp (.tup us2))
    have drows13 := dp_mono m1113 _ _ drows
    have m913 := m911.trans m1113
    revert dfirst m1113 drows13 m913
    generalize upd H12 fp (.tup us2) = H13
    intro dfirst m1113 drows13 m913
    clear a12 snm hD2 drows
    -- lots and procs
    obtain ⟨d12, hd12, e12⟩ := dig 12 (by decide) (by decide)
    have hD13 := m913 _ _ hD9
    have hL13 := m913 _ _ hL9
    refine ⟨_, rfl, _, rfl, _, rfl, ll, rfl, ⟨_, SqL.of hL13⟩, fun D3 hD3 => ?_⟩
    refine lc_list (K := K) (a := ll) (xs := lots.map V.str) (fun i H' => ∃ (vs : List V) (qs : List (Str × Int × Int)), Acc K H13 H' D3 vs (qs.map trip) ∧ qs.length = i ∧ qs.map (·.1) = lots.take i ∧ ∀ t ∈ qs, (t.2.1 = 2 ∨ t.2.1 = 3) ∧ t.2.2 = 2)
      ⟨[], [], Acc.start hD3, rfl, rfl, fun t ht => nomatch ht⟩ (fun i H' _ ⟨_, _, a, _⟩ => SqL.of (a.s _ _ hL13)) ?_ ?_
    · rintro i y H14 hy ⟨us3, qs, a14, qn, qnm, qok⟩
      obtain ⟨x, hx, rfl⟩ : ∃ x, lots[i]? = some x ∧ y = V.str x := by
        rw [List.getElem?_map] at hy
        cases e : lots[i]? with
        | none => rw [e] at hy; cases hy
        | some z => rw [e] at hy; exact ⟨z, rfl, (Option.some.inj hy).symm⟩
      have hi : i < lots.length := (List.getElem?_eq_some_iff.mp hx).1
      refine ⟨rfl, ?_⟩
      refine ⟨_, rfl, _, rfl, dl, _, _, _, rfl, rfl, SqL.of (a14.s _ _ hD13), e12, _, _, rfl, rfl, (by show (0 : Int) < 2; decide), _, _, rfl, rfl, three, fun p15 hp15 => ?_⟩
      have n15 := same_new hp15 (.tup [.str x, .int (2 + d12 % 2), .int 2])
      have dt : Dp K _ (.ref p15) (trip (x, 2 + d12 % 2, 2)) := dp_tup hp15 (.cons (.str _) (.cons (.int _) (.cons (.int _) .nil)))
      have a15 := (a14.grow n15).add dt rfl
      refine ⟨us3, (a14.grow n15).l, by have := a14.len; rw [List.length_map] at this; exact small1000 (by omega), _, qs ++ [(x, 2 + d12 % 2, 2)], by rw [List.map_append]; exact a15, by rw [List.length_append, qn]; rfl, by rw [List.map_append, qnm, take_more hx]; rfl, fun t ht => ?_⟩
      rcases List.mem_append.mp ht with h | h
      · exact qok t h
      · rw [List.mem_singleton.mp h]
        refine ⟨?_, rfl⟩
        show 2 + d12 % 2 = 2 ∨ 2 + d12 % 2 = 3
        omega
    rintro H14 ⟨us3, qs, a14, qn, qnm, qok⟩
    have qnm' : qs.map (·.1) = lots := by rw [qnm, List.length_map, List.take_length]
    refine ⟨D3, us3, rfl, .inl ⟨SqL.of a14.l, fun lp hlp => ?_⟩⟩
    have dlots : Dp K (upd H14 lp (.tup us3)) (.ref lp) (trips qs) := dp_tup hlp a14.d
    have m1315 := a14.s.trans (same_new hlp (.tup us3))
    have m915 := m913.trans m1315
    have ac15 := ac.grow m915
    refine ⟨_, rfl, pl, vs, rfl, .inl ⟨SqL.of ac15.l, fun pp hpp => ?_⟩⟩
    have n16 := same_new hpp (.tup vs)
    have dprocs := dp_tup (K := K) hpp ac15.d
    refine ⟨by show 4 ≤ sizeLine; decide, fun gp hgp => ?_⟩
    have n17 := same_new hgp (.tup [.ref rp, .ref fp, .ref lp, .ref pp])
    have n1617 := n16.trans n17
    refine q _ ⟨ts, ss, qs, ps⟩ _ (m8.trans (ac.s.trans (m915.trans n1617))) ?_ ⟨by rw [tnm']; exact tv, tok, by rw [snm']; exact tt, sok, by rw [qnm']; exact tl', qok, ?_, ?_⟩
    · exact dp_tup hgp (.cons (dp_mono (m1315.trans n16) _ _ drows13) (.cons (dp_mono (m1315.trans n16) _ _ dfirst) (.cons (dp_mono n16 _ _ dlots) (.cons dprocs .nil))))
    · show ps.map (·.name) = ([("p" : Str)] : List Str) ∨ ps.map (·.name) = ([("p" : Str), "r"] : List Str)
      rw [pnm]
      rcases mod2 d3 with h | h <;> rw [h]
      · exact .inl rfl
      · exact .inr rfl
    · intro p hp
      obtain ⟨a1, a2, a3, a4, a5, a6⟩ := pok p hp
      have esc : (Ga.mk ts ss qs ps).sc p.locs [] = ⟨p.locs, vars, tabs, lots, []⟩ := by
        show Sc.mk p.locs (ts.map (·.1)) (ss.map (·.1)) (qs.map (·.1)) [] = _
        rw [tnm', snm', qnm']
      exact ⟨a1, a2, a3, by rw [esc]; exact a4, a5, by rw [esc]; exact a6⟩
end
end Toy
set_option Elab.async false
set_option linter.all false
set_option maxRecDepth 100000
set_option maxHeartbeats 4000000
/-! Games as data that are compared: plain data, depths, no two alike. -/
namespace Gm
open PySem L2
open PyData (strOk)
/-! ### plain data -/
mutual
def pln : PyData → Bool
  | .int _ => true
  | .str x => strOk x
  | .list xs => plnAll xs
  | .tuple xs => plnAll xs
  | _ => false
def plnAll : List PyData → Bool
  | [] => true
  | x :: xs => pln x && plnAll xs
end
mutual
theorem eqv_eq : ∀ d e : PyData, pln d = true → pln e = true → PyData.eqv d e = true → d = e
  | .int i, e, _, he, h => by
    cases e with
    | int j => simp [PyData.eqv] at h; rw [h]
    | str _ => simp [PyData.eqv] at h
    | list _ => simp [PyData.eqv] at h
    | tuple _ => simp [PyData.eqv] at h
    | _ => cases he
  | .str i, e, _, he, h => by
    cases e with
    | str j => simp [PyData.eqv] at h; rw [h]
    | int _ => simp [PyData.eqv] at h
    | list _ => simp [PyData.eqv] at h
    | tuple _ => simp [PyData.eqv] at h
    | _ => cases he
  | .list xs, e, hd, he, h => by
    cases e with
    | list ys => exact congrArg PyData.list (eqv_eqs xs ys hd he (by simpa [PyData.eqv] using h))
    | int _ => simp [PyData.eqv] at h
    | str _ => simp [PyData.eqv] at h
    | tuple _ => simp [PyData.eqv] at h
    | _ => cases he
  | .tuple xs, e, hd, he, h => by
    cases e with
    | tuple ys => exact congrArg PyData.tuple (eqv_eqs xs ys hd he (by simpa [PyData.eqv] using h))
    | int _ => simp [PyData.eqv] at h
    | str _ => simp [PyData.eqv] at h
    | list _ => simp [PyData.eqv] at h
    | _ => cases he
  | .none, _, hd, _, _ => by cases hd
  | .bool _, _, hd, _, _ => by cases hd
  | .dict _, _, hd, _, _ => by cases hd
theorem eqv_eqs : ∀ ds es : List PyData, plnAll ds = true → plnAll es = true → PyData.eqvAll ds es = true → ds = es
  | [], [], _, _, _ => rfl
  | [], _ :: _, _, _, h => by simp [PyData.eqvAll] at h
  | _ :: _, [], _, _, h => by simp [PyData.eqvAll] at h
  | d :: ds, e :: es, hd, he, h => by
    simp only [PyData.eqvAll, Bool.and_eq_true] at h
    have hd' : (pln d && plnAll ds) = true := hd
    have he' : (pln e && plnAll es) = true := he
    rw [Bool.and_eq_true] at hd' he'
    rw [eqv_eq d e hd'.1 he'.1 h.1, eqv_eqs ds es hd'.2 he'.2 h.2]
end
mutual
theorem eqv_rfl : ∀ d : PyData, pln d = true → PyData.eqv d d = true
  | .int i, _ => by simp [PyData.eqv]
  | .str i, _ => by simp [PyData.eqv]
  | .list xs, h => by simp only [PyData.eqv]; exact eqv_rfls xs h
  | .tuple xs, h => by simp only [PyData.eqv]; exact eqv_rfls xs h
  | .none, h => by cases h
  | .bool _, h => by cases h
  | .dict _, h => by cases h
theorem eqv_rfls : ∀ ds : List PyData, plnAll ds = true → PyData.eqvAll ds ds = true
  | [], _ => rfl
  | d :: ds, h => by
    have h' : (pln d && plnAll ds) = true := h
    rw [Bool.and_eq_true] at h'
    simp only [PyData.eqvAll, Bool.and_eq_true]
    exact ⟨eqv_rfl d h'.1, eqv_rfls ds h'.2⟩
end
theorem eqv_iff {d e : PyData} (hd : pln d = true) (he : pln e = true) : PyData.eqv d e = true ↔ d = e := ⟨eqv_eq d e hd he, fun h => by rw [h]; exact eqv_rfl e he⟩
mutual
theorem pln_lay : ∀ d : PyData, pln d = true → d.canLay0 = true
  | .int i, _ => by simp [PyData.canLay0]
  | .str i, h => by rw [PyData.canLay0]; exact h
  | .list xs, h => by rw [PyData.canLay0]; exact pln_lays xs h
  | .tuple xs, h => by rw [PyData.canLay0]; exact pln_lays xs h
  | .none, h => by cases h
  | .bool _, h => by cases h
  | .dict _, h => by cases h
theorem pln_lays : ∀ ds : List PyData, plnAll ds = true → PyData.canLayAll0 ds = true
  | [], _ => by simp [PyData.canLayAll0]
  | d :: ds, h => by
    have h' : (pln d && plnAll ds) = true := h
    rw [Bool.and_eq_true] at h'
    rw [PyData.canLayAll0, Bool.and_eq_true]
    exact ⟨pln_lay d h'.1, pln_lays ds h'.2⟩
end
/-- plain, and at most n deep -/
def Fit (n : Nat) (d : PyData) : Prop := pln d = true ∧ d.depth ≤ n
theorem Fit.mono {n m : Nat} {d : PyData} (h : Fit n d) (l : n ≤ m) : Fit m d := ⟨h.1, Nat.le_trans h.2 l⟩
theorem Fit.shaped {n : Nat} {d : PyData} (h : Fit n d) (l : n ≤ 64) : SeqAt.shaped d = true := by
  unfold SeqAt.shaped
  rw [Bool.and_eq_true]
  exact ⟨pln_lay _ h.1, decide_eq_true (Nat.le_trans h.2 l)⟩
theorem Fit.int {n : Nat} {i : Int} : Fit n (.int i) := ⟨rfl, by simp [PyData.depth]⟩
theorem Fit.str {n : Nat} {x : Str} (h : strOk x = true) : Fit n (.str x) := ⟨h, by simp [PyData.depth]⟩
def FitAll (n : Nat) (ds : List PyData) : Prop := plnAll ds = true ∧ PyData.depthAll ds ≤ n
theorem FitAll.nil {n : Nat} : FitAll n [] := ⟨rfl, by simp [PyData.depthAll]⟩
theorem FitAll.cons {n : Nat} {d : PyData} {ds : List PyData} (h : Fit n d) (t : FitAll n ds) : FitAll n (d :: ds) := by
  refine ⟨?_, ?_⟩
  · show (pln d && plnAll ds) = true
    rw [h.1, t.1]
    rfl
  · rw [PyData.depthAll]
    exact Nat.max_le.mpr ⟨h.2, t.2⟩
theorem FitAll.of {n : Nat} {ds : List PyData} : (∀ d ∈ ds, Fit n d) → FitAll n ds := fun h => by
  induction ds with
  | nil => exact .nil
  | cons d ds ih => exact .cons (h d (List.mem_cons_self ..)) (ih fun x hx => h x (List.mem_cons_of_mem _ hx))
theorem FitAll.app {n : Nat} : ∀ {ds es : List PyData}, FitAll n ds → FitAll n es → FitAll n (ds ++ es)
  | [], _, _, h => h
  | d :: ds, es, h, t => by
    have h' : (pln d && plnAll ds) = true := h.1
    rw [Bool.and_eq_true] at h'
    have h2 := h.2
    rw [PyData.depthAll] at h2
    have h3 := Nat.max_le.mp h2
    exact .cons ⟨h'.1, h3.1⟩ (FitAll.app ⟨h'.2, h3.2⟩ t)
theorem FitAll.tup {n : Nat} {ds : List PyData} (h : FitAll n ds) : Fit (n + 1) (.tuple ds) := ⟨h.1, by rw [PyData.depth]; exact Nat.succ_le_succ h.2⟩
theorem FitAll.lst {n : Nat} {ds : List PyData} (h : FitAll n ds) : Fit (n + 1) (.list ds) := ⟨h.1, by rw [PyData.depth]; exact Nat.succ_le_succ h.2⟩
/-! ### expressions and statements without a scope -/
def nmB (x : Str) : Bool := strOk x && decide (x.length ≤ 100)
theorem nm_ok {x : Str} (h : nmB x = true) : strOk x = true := (Bool.and_eq_true_iff.mp h).1
theorem nm_len {x : Str} (h : nmB x = true) : x.length ≤ 100 := of_decide_eq_true (Bool.and_eq_true_iff.mp h).2
def exF : Nat → Ex → Prop
  | 0, _ => False
  | _ + 1, .num n => 0 ≤ n ∧ n ≤ 65535
  | _ + 1, .loc x => nmB x = true
  | _ + 1, .var x => nmB x = true
  | k + 1, .has t e => nmB t = true ∧ exF k e
  | k + 1, .cell t e => nmB t = true ∧ exF k e
  | k + 1, .op o a b => o ∈ ops ∧ exF k a ∧ exF k b
mutual
def stF (k : Nat) : Nat → Stm → Prop
  | _, .set x e => nmB x = true ∧ exF k e
  | _, .lt l e => nmB l = true ∧ exF k e
  | _, .draw l n => nmB l = true ∧ 0 ≤ n ∧ n ≤ 65535
  | _, .put t e f => nmB t = true ∧ exF k e ∧ exF k f
  | _, .lot l o e => nmB l = true ∧ nmB o = true ∧ exF k e
  | _, .ask l p e => nmB l = true ∧ nmB p = true ∧ exF k e
  | 0, .ite _ _ _ => False
  | d + 1, .ite e a b => exF k e ∧ blF k d a ∧ blF k d b ∧ a.len ≤ 50 * k + 50 ∧ b.len ≤ 50 * k + 50
  | _, .bad => True
  | 0, .after _ => False
  | d + 1, .after a => blF k d a ∧ a.len ≤ 50 * k + 50
def blF (k : Nat) : Nat → Blk → Prop
  | _, .nil => True
  | d, .cons x r => stF k d x ∧ blF k d r
end
structure ScN (s : Sc) : Prop where
  l : ∀ x ∈ s.locs, nmB x = true
  v : ∀ x ∈ s.vars, nmB x = true
  t : ∀ x ∈ s.tabs, nmB x = true
  o : ∀ x ∈ s.lots, nmB x = true
  a : ∀ x ∈ s.asks, nmB x = true
theorem exF.ofOk {s : Sc} (hs : ScN s) : ∀ {k : Nat} {e : Ex}, e.Ok s k → exF k e
  | 0, _, h => h.elim
  | _ + 1, .num _, h => h
  | _ + 1, .loc x, h => hs.l x h
  | _ + 1, .var x, h => hs.v x h
  | k + 1, .has t e, h => ⟨hs.t t h.1, exF.ofOk hs h.2⟩
  | k + 1, .cell t e, h => ⟨hs.t t h.1, exF.ofOk hs h.2⟩
  | k + 1, .op o a b, h => ⟨h.1, exF.ofOk hs h.2.1, exF.ofOk hs h.2.2⟩
mutual
theorem stF.ofOk {s : Sc} (hs : ScN s) {k : Nat} : ∀ {d : Nat} {x : Stm}, x.Ok s k d → stF k d x
  | d, .set x e, h => by unfold Stm.Ok at h; unfold stF; exact ⟨hs.v _ h.1, .ofOk hs h.2⟩
  | d, .lt x e, h => by unfold Stm.Ok at h; unfold stF; exact ⟨hs.l _ h.1, .ofOk hs h.2⟩
  | d, .draw l n, h => by unfold Stm.Ok at h; unfold stF; exact ⟨hs.l _ h.1, by omega, by omega⟩
  | d, .put t e f, h => by unfold Stm.Ok at h; unfold stF; exact ⟨hs.t _ h.1, .ofOk hs h.2.1, .ofOk hs h.2.2⟩
  | d, .lot l o e, h => by unfold Stm.Ok at h; unfold stF; exact ⟨hs.l _ h.1, hs.o _ h.2.1, .ofOk hs h.2.2⟩
  | d, .ask l p e, h => by unfold Stm.Ok at h; unfold stF; exact ⟨hs.l _ h.1, hs.a _ h.2.1, .ofOk hs h.2.2⟩
  | 0, .ite _ _ _, h => by unfold Stm.Ok at h; exact h.elim
  | d + 1, .ite e a b, h => by unfold Stm.Ok at h; unfold stF; exact ⟨.ofOk hs h.1, blF.ofOk hs h.2.1, blF.ofOk hs h.2.2.1, h.2.2.2⟩
  | d, .bad, h => by cases d <;> (unfold stF; trivial)
  | 0, .after _, h => by unfold Stm.Ok at h; exact h.elim
  | d + 1, .after a, h => by unfold Stm.Ok at h; unfold stF; exact ⟨blF.ofOk hs h.1, h.2⟩
theorem blF.ofOk {s : Sc} (hs : ScN s) {k : Nat} : ∀ {d : Nat} {b : Blk}, b.Ok s k d → blF k d b
  | d, .nil, h => by unfold blF; trivial
  | d, .cons x r, h => by unfold Blk.Ok at h; unfold blF; exact ⟨stF.ofOk hs h.1, blF.ofOk hs h.2⟩
end
theorem exF.mono : ∀ {k j : Nat} {e : Ex}, exF k e → k ≤ j → exF j e
  | 0, _, _, h, _ => h.elim
  | _ + 1, 0, _, _, hj => absurd hj (by omega)
  | _ + 1, _ + 1, .num _, h, _ => h
  | _ + 1, _ + 1, .loc _, h, _ => h
  | _ + 1, _ + 1, .var _, h, _ => h
  | k + 1, j + 1, .has _ _, h, hj => ⟨h.1, h.2.mono (by omega)⟩
  | k + 1, j + 1, .cell _ _, h, hj => ⟨h.1, h.2.mono (by omega)⟩
  | k + 1, j + 1, .op _ _ _, h, hj => ⟨h.1, h.2.1.mono (by omega), h.2.2.mono (by omega)⟩
mutual
theorem stF.mono {k j : Nat} (hk : k ≤ j) : ∀ {d e : Nat} {x : Stm}, stF k d x → d ≤ e → stF j e x
  | d, e, .set _ _, h, _ => by unfold stF at h ⊢; exact ⟨h.1, h.2.mono hk⟩
  | d, e, .lt _ _, h, _ => by unfold stF at h ⊢; exact ⟨h.1, h.2.mono hk⟩
  | d, e, .draw _ _, h, _ => by unfold stF at h ⊢; exact h
  | d, e, .put _ _ _, h, _ => by unfold stF at h ⊢; exact ⟨h.1, h.2.1.mono hk, h.2.2.mono hk⟩
  | d, e, .lot _ _ _, h, _ => by unfold stF at h ⊢; exact ⟨h.1, h.2.1, h.2.2.mono hk⟩
  | d, e, .ask _ _ _, h, _ => by unfold stF at h ⊢; exact ⟨h.1, h.2.1, h.2.2.mono hk⟩
  | d, e, .bad, _, _ => by cases e <;> (unfold stF; trivial)
  | 0, e, .ite _ _ _, h, _ => by unfold stF at h; exact h.elim
  | d + 1, 0, .ite _ _ _, h, he => absurd he (by omega)
  | d + 1, e + 1, .ite _ _ _, h, he => by unfold stF at h ⊢; exact ⟨h.1.mono hk, h.2.1.mono hk (by omega), h.2.2.1.mono hk (by omega), by have := h.2.2.2.1; omega, by have := h.2.2.2.2; omega⟩
  | 0, e, .after _, h, _ => by unfold stF at h; exact h.elim
  | d + 1, 0, .after _, h, he => absurd he (by omega)
  | d + 1, e + 1, .after _, h, he => by unfold stF at h ⊢; exact ⟨h.1.mono hk (by omega), by have := h.2; omega⟩
theorem blF.mono {k j : Nat} (hk : k ≤ j) : ∀ {d e : Nat} {b : Blk}, blF k d b → d ≤ e → blF j e b
  | d, e, .nil, h, _ => by unfold blF; trivial
  | d, e, .cons x r, h, he => by unfold blF at h ⊢; exact ⟨h.1.mono hk he, h.2.mono hk he⟩
end
theorem op_str {o : Str} (h : o ∈ ops) : strOk o = true ∧ o.length ≤ 3 := by
  have : ∀ o ∈ ops, (strOk o && decide (o.length ≤ 3)) = true := by decide +kernel
  have := Bool.and_eq_true_iff.mp (this o h)
  exact ⟨this.1, of_decide_eq_true this.2⟩
theorem strOk_lit : strOk "number" = true ∧ strOk "local" = true ∧ strOk "variable" = true ∧ strOk "has" = true ∧ strOk "cell" = true ∧ strOk "set" = true ∧ strOk "let" = true ∧ strOk "draw" = true ∧ strOk "put" = true ∧ strOk "lot" = true ∧ strOk "ask" = true ∧ strOk "if" = true ∧ strOk "bad" = true ∧ strOk "after" = true := by decide +kernel
theorem exF.fit : ∀ {k : Nat} {e : Ex}, exF k e → Fit k e.d
  | 0, _, h => h.elim
  | k + 1, .num n, h => (FitAll.cons (.str strOk_lit.1) (.cons .int .nil)).tup
  | k + 1, .loc x, h => (FitAll.cons (.str strOk_lit.2.1) (.cons (.str (nm_ok h)) .nil)).tup
  | k + 1, .var x, h => (FitAll.cons (.str strOk_lit.2.2.1) (.cons (.str (nm_ok h)) .nil)).tup
  | k + 1, .has t e, h => (FitAll.cons (.str strOk_lit.2.2.2.1) (.cons (.str (nm_ok h.1)) (.cons h.2.fit .nil))).tup
  | k + 1, .cell t e, h => (FitAll.cons (.str strOk_lit.2.2.2.2.1) (.cons (.str (nm_ok h.1)) (.cons h.2.fit .nil))).tup
  | k + 1, .op o a b, h => (FitAll.cons (.str (op_str h.1).1) (.cons h.2.1.fit (.cons h.2.2.fit .nil))).tup
mutual
theorem stF.fit {k : Nat} : ∀ {d : Nat} {x : Stm}, stF k d x → Fit (k + 2 * d + 1) x.d
  | d, .set x e, h => by unfold stF at h; unfold Stm.d; exact (FitAll.cons (.str strOk_lit.2.2.2.2.2.1) (.cons (.str (nm_ok h.1)) (.cons (h.2.fit.mono (by omega)) .nil))).tup
  | d, .lt x e, h => by unfold stF at h; unfold Stm.d; exact (FitAll.cons (.str strOk_lit.2.2.2.2.2.2.1) (.cons (.str (nm_ok h.1)) (.cons (h.2.fit.mono (by omega)) .nil))).tup
  | d, .draw l n, h => by unfold stF at h; unfold Stm.d; exact (FitAll.cons (.str strOk_lit.2.2.2.2.2.2.2.1) (.cons (.str (nm_ok h.1)) (.cons .int .nil))).tup
  | d, .put t e f, h => by unfold stF at h; unfold Stm.d; exact (FitAll.cons (.str strOk_lit.2.2.2.2.2.2.2.2.1) (.cons (.str (nm_ok h.1)) (.cons (h.2.1.fit.mono (by omega)) (.cons (h.2.2.fit.mono (by omega)) .nil)))).tup
  | d, .lot l o e, h => by unfold stF at h; unfold Stm.d; exact (FitAll.cons (.str strOk_lit.2.2.2.2.2.2.2.2.2.1) (.cons (.str (nm_ok h.1)) (.cons (.str (nm_ok h.2.1)) (.cons (h.2.2.fit.mono (by omega)) .nil)))).tup
  | d, .ask l p e, h => by unfold stF at h; unfold Stm.d; exact (FitAll.cons (.str strOk_lit.2.2.2.2.2.2.2.2.2.2.1) (.cons (.str (nm_ok h.1)) (.cons (.str (nm_ok h.2.1)) (.cons (h.2.2.fit.mono (by omega)) .nil)))).tup
  | 0, .ite _ _ _, h => by unfold stF at h; exact h.elim
  | d + 1, .ite e a b, h => by unfold stF at h; unfold Stm.d; exact (FitAll.cons (.str strOk_lit.2.2.2.2.2.2.2.2.2.2.2.1) (.cons (h.1.fit.mono (by omega)) (.cons ((blF.fit h.2.1).tup.mono (by omega)) (.cons ((blF.fit h.2.2.1).tup.mono (by omega)) .nil)))).tup
  | d, .bad, h => by unfold Stm.d; exact (FitAll.cons (.str strOk_lit.2.2.2.2.2.2.2.2.2.2.2.2.1) .nil).tup
  | 0, .after _, h => by unfold stF at h; exact h.elim
  | d + 1, .after a, h => by unfold stF at h; unfold Stm.d; exact (FitAll.cons (.str strOk_lit.2.2.2.2.2.2.2.2.2.2.2.2.2) (.cons ((blF.fit h.1).tup.mono (by omega)) .nil)).tup
theorem blF.fit {k : Nat} : ∀ {d : Nat} {b : Blk}, blF k d b → FitAll (k + 2 * d + 1) b.ds
  | d, .nil, h => by unfold Blk.ds; exact .nil
  | d, .cons x r, h => by unfold blF at h; unfold Blk.ds; exact .cons (stF.fit h.1) (blF.fit h.2)
end
/-! ### no two alike -/
theorem Ex.inj : ∀ a b : Ex, a.d = b.d → a = b
  | .num n, b, h => by cases b <;> simp [Ex.d] at h <;> simp [h]
  | .loc n, b, h => by cases b <;> simp [Ex.d] at h <;> first | (simp [h]; done) | exact absurd h.1 (by decide +kernel)
  | .var n, b, h => by cases b <;> simp [Ex.d] at h <;> first | (simp [h]; done) | exact absurd h.1 (by decide +kernel)
  | .has t e, b, h => by
    cases b with
    | has u f => simp [Ex.d] at h; rw [h.1, Ex.inj e f h.2]
    | cell u f => simp [Ex.d] at h; exact absurd h.1 (by decide +kernel)
    | op o u f => exfalso; cases u <;> simp [Ex.d] at h
    | _ => simp [Ex.d] at h
  | .cell t e, b, h => by
    cases b with
    | cell u f => simp [Ex.d] at h; rw [h.1, Ex.inj e f h.2]
    | has u f => simp [Ex.d] at h; exact absurd h.1 (by decide +kernel)
    | op o u f => exfalso; cases u <;> simp [Ex.d] at h
    | _ => simp [Ex.d] at h
  | .op o a c, b, h => by
    cases b with
    | op p u f => simp [Ex.d] at h; rw [h.1, Ex.inj a u h.2.1, Ex.inj c f h.2.2]
    | has u f => exfalso; cases a <;> simp [Ex.d] at h
    | cell u f => exfalso; cases a <;> simp [Ex.d] at h
    | _ => simp [Ex.d] at h
def Stm.kind : Stm → Str
  | .set _ _ => "set" | .lt _ _ => "let" | .draw _ _ => "draw" | .put _ _ _ => "put" | .lot _ _ _ => "lot" | .ask _ _ _ => "ask" | .ite _ _ _ => "if" | .bad => "bad" | .after _ => "after"
/-- what stands behind the kind -/
def Stm.args : Stm → List PyData
  | .set x e => [.str x, e.d] | .lt l e => [.str l, e.d] | .draw l n => [.str l, .int n] | .put t e f => [.str t, e.d, f.d] | .lot l o e => [.str l, .str o, e.d] | .ask l p e => [.str l, .str p, e.d] | .ite e a b => [e.d, a.d, b.d] | .bad => [] | .after a => [a.d]
theorem Stm.d_kind (x : Stm) : x.d = .tuple (.str x.kind :: x.args) := by cases x <;> unfold Stm.d <;> rfl
theorem kinds_ne : ∀ x y : Stm, x.kind = y.kind → (match x, y with
    | .set _ _, .set _ _ => True | .lt _ _, .lt _ _ => True | .draw _ _, .draw _ _ => True | .put _ _ _, .put _ _ _ => True | .lot _ _ _, .lot _ _ _ => True | .ask _ _ _, .ask _ _ _ => True | .ite _ _ _, .ite _ _ _ => True | .bad, .bad => True | .after _, .after _ => True | _, _ => False) := by
  intro x y h
  cases x <;> cases y <;> first | trivial | (dsimp only [Stm.kind] at h; exact absurd h (by decide +kernel))
mutual
theorem Stm.inj : ∀ a b : Stm, a.d = b.d → a = b
  | .set x e, b, h => by
    rw [Stm.d_kind, Stm.d_kind] at h
    injection h with h; injection h with h1 h2; injection h1 with h1
    have := kinds_ne _ _ h1
    cases b <;> first | exact this.elim | skip
    unfold Stm.args at h2; simp at h2; rw [h2.1, Ex.inj _ _ h2.2]
  | .lt x e, b, h => by
    rw [Stm.d_kind, Stm.d_kind] at h
    injection h with h; injection h with h1 h2; injection h1 with h1
    have := kinds_ne _ _ h1
    cases b <;> first | exact this.elim | skip
    unfold Stm.args at h2; simp at h2; rw [h2.1, Ex.inj _ _ h2.2]
  | .draw x e, b, h => by
    rw [Stm.d_kind, Stm.d_kind] at h
    injection h with h; injection h with h1 h2; injection h1 with h1
    have := kinds_ne _ _ h1
    cases b <;> first | exact this.elim | skip
    unfold Stm.args at h2; simp at h2; rw [h2.1, h2.2]
  | .put x e f, b, h => by
    rw [Stm.d_kind, Stm.d_kind] at h
    injection h with h; injection h with h1 h2; injection h1 with h1
    have := kinds_ne _ _ h1
    cases b <;> first | exact this.elim | skip
    unfold Stm.args at h2; simp at h2; rw [h2.1, Ex.inj _ _ h2.2.1, Ex.inj _ _ h2.2.2]
  | .lot x o e, b, h => by
    rw [Stm.d_kind, Stm.d_kind] at h
    injection h with h; injection h with h1 h2; injection h1 with h1
    have := kinds_ne _ _ h1
    cases b <;> first | exact this.elim | skip
    unfold Stm.args at h2; simp at h2; rw [h2.1, h2.2.1, Ex.inj _ _ h2.2.2]
  | .ask x o e, b, h => by
    rw [Stm.d_kind, Stm.d_kind] at h
    injection h with h; injection h with h1 h2; injection h1 with h1
    have := kinds_ne _ _ h1
    cases b <;> first | exact this.elim | skip
    unfold Stm.args at h2; simp at h2; rw [h2.1, h2.2.1, Ex.inj _ _ h2.2.2]
  | .ite e p q, b, h => by
    rw [Stm.d_kind, Stm.d_kind] at h
    injection h with h; injection h with h1 h2; injection h1 with h1
    have := kinds_ne _ _ h1
    cases b <;> first | exact this.elim | skip
    unfold Stm.args Blk.d at h2; simp at h2; rw [Ex.inj _ _ h2.1, Blk.inj _ _ h2.2.1, Blk.inj _ _ h2.2.2]
  | .bad, b, h => by
    rw [Stm.d_kind, Stm.d_kind] at h
    injection h with h; injection h with h1 h2; injection h1 with h1
    have := kinds_ne _ _ h1
    cases b <;> first | exact this.elim | rfl
  | .after p, b, h => by
    rw [Stm.d_kind, Stm.d_kind] at h
    injection h with h; injection h with h1 h2; injection h1 with h1
    have := kinds_ne _ _ h1
    cases b <;> first | exact this.elim | skip
    unfold Stm.args Blk.d at h2; simp at h2; rw [Blk.inj _ _ h2]
theorem Blk.inj : ∀ a b : Blk, a.ds = b.ds → a = b
  | .nil, .nil, _ => rfl
  | .nil, .cons x r, h => by unfold Blk.ds at h; cases h
  | .cons x r, .nil, h => by unfold Blk.ds at h; cases h
  | .cons x r, .cons y s, h => by
    unfold Blk.ds at h
    injection h with h1 h2
    rw [Stm.inj x y h1, Blk.inj r s h2]
end
/-! ### a block as a list -/
def Blk.l : Blk → List Stm
  | .nil => []
  | .cons s r => s :: r.l
theorem Blk.ds_l : ∀ b : Blk, b.ds = b.l.map Stm.d
  | .nil => by unfold Blk.ds Blk.l; rfl
  | .cons s r => by unfold Blk.ds Blk.l; rw [Blk.ds_l r]; rfl
theorem Blk.of_l : ∀ b : Blk, Blk.of b.l = b
  | .nil => rfl
  | .cons s r => by unfold Blk.l Blk.of; rw [Blk.of_l r]
theorem Blk.l_of : ∀ l : List Stm, (Blk.of l).l = l
  | [] => rfl
  | s :: r => by unfold Blk.of Blk.l; rw [Blk.l_of r]
theorem Blk.ds_of (l : List Stm) : (Blk.of l).ds = l.map Stm.d := by rw [Blk.ds_l, Blk.l_of]
theorem blF.l {k d : Nat} : ∀ {b : Blk}, blF k d b → ∀ x ∈ b.l, stF k d x
  | .nil, _, x, h => by unfold Blk.l at h; cases h
  | .cons s r, hb, x, h => by
    unfold blF at hb
    unfold Blk.l at h
    rcases List.mem_cons.mp h with rfl | h
    · exact hb.1
    · exact blF.l hb.2 x h
theorem blF.of {k d : Nat} : ∀ {l : List Stm}, (∀ x ∈ l, stF k d x) → blF k d (Blk.of l)
  | [], _ => by unfold Blk.of blF; trivial
  | s :: r, h => by
    unfold Blk.of blF
    exact ⟨h s (List.mem_cons_self ..), blF.of fun x hx => h x (List.mem_cons_of_mem _ hx)⟩
theorem Blk.len_l : ∀ b : Blk, b.l.length = b.len
  | .nil => rfl
  | .cons s r => by unfold Blk.l Blk.len; rw [List.length_cons, Blk.len_l r]
/-! ### procedures, games -/
structure PrF_ (k d : Nat) (p : Pr) : Prop where
  name : nmB p.name = true
  locs : ∀ x ∈ p.locs, nmB x = true
  block : blF k d p.block
  res : exF k p.res
structure GaF (k d : Nat) (g : Ga) : Prop where
  vars : ∀ t ∈ g.vars, nmB t.1 = true
  tabs : ∀ t ∈ g.tabs, nmB t.1 = true
  lots : ∀ t ∈ g.lots, nmB t.1 = true
  procs : ∀ p ∈ g.procs, PrF_ k d p
theorem fit_strs {n : Nat} {xs : List Str} (h : ∀ x ∈ xs, nmB x = true) : Fit (n + 1) (strD xs) := by
  refine FitAll.tup (FitAll.of fun d hd => ?_)
  obtain ⟨x, hx, rfl⟩ := List.mem_map.mp hd
  exact .str (nm_ok (h x hx))
theorem PrF_.fit {k d : Nat} {p : Pr} (h : PrF_ k d p) : Fit (k + 2 * d + 3) p.d := by
  unfold Pr.d
  refine (FitAll.cons (.str (nm_ok h.name)) (.cons .int (.cons .int (.cons ((fit_strs (n := 0) h.locs).mono (by omega)) (.cons ((blF.fit h.block).tup.mono (by omega)) (.cons (h.res.fit.mono (by omega)) .nil)))))).tup
theorem fit_trips {n : Nat} {ts : List (Str × Int × Int)} (h : ∀ t ∈ ts, nmB t.1 = true) : Fit (n + 2) (trips ts) := by
  refine FitAll.tup (FitAll.of fun d hd => ?_)
  obtain ⟨t, ht, rfl⟩ := List.mem_map.mp hd
  exact (FitAll.cons (.str (nm_ok (h t ht))) (.cons .int (.cons .int .nil))).tup
theorem fit_procs {k d : Nat} {ps : List Pr} (h : ∀ p ∈ ps, PrF_ k d p) : Fit (k + 2 * d + 4) (.tuple (ps.map Pr.d)) := by
  refine FitAll.tup (FitAll.of fun d hd => ?_)
  obtain ⟨t, ht, rfl⟩ := List.mem_map.mp hd
  exact (h t ht).fit
theorem GaF.fit {k d : Nat} {g : Ga} (h : GaF k d g) : Fit (k + 2 * d + 5) g.d := by
  unfold Ga.d
  exact (FitAll.cons ((fit_trips (n := 0) h.vars).mono (by omega)) (.cons ((fit_trips (n := 0) h.tabs).mono (by omega)) (.cons ((fit_trips (n := 0) h.lots).mono (by omega)) (.cons (fit_procs h.procs) .nil)))).tup
theorem all_nm {l : List Str} (h : l.all nmB = true) : ∀ x ∈ l, nmB x = true := List.all_eq_true.mp h
theorem GaF.ofOk {g : Ga} (h : GaOk g) : GaF 3 2 g := by
  have v : ∀ x ∈ g.vars.map (·.1), nmB x = true := fun x hx => by
    rcases h.vars with e | e | e <;> rw [e] at hx <;> exact all_nm (by decide +kernel) x hx
  have t : ∀ x ∈ g.tabs.map (·.1), nmB x = true := fun x hx => by
    rcases h.tabs with e | e | e <;> rw [e] at hx <;> exact all_nm (by decide +kernel) x hx
  have o : ∀ x ∈ g.lots.map (·.1), nmB x = true := fun x hx => by
    rcases h.lots with e | e | e <;> rw [e] at hx <;> exact all_nm (by decide +kernel) x hx
  have p : ∀ x ∈ g.procs.map (·.name), nmB x = true := fun x hx => by
    rcases h.procs with e | e <;> rw [e] at hx <;> exact all_nm (by decide +kernel) x hx
  refine ⟨fun x hx => v _ (List.mem_map.mpr ⟨x, hx, rfl⟩), fun x hx => t _ (List.mem_map.mpr ⟨x, hx, rfl⟩), fun x hx => o _ (List.mem_map.mpr ⟨x, hx, rfl⟩), fun q hq => ?_⟩
  have P := h.proc q hq
  have l : ∀ x ∈ q.locs, nmB x = true := fun x hx => by
    rcases P.locs with e | e <;> rw [e] at hx <;> exact all_nm (by decide +kernel) x hx
  have sc : ScN (g.sc q.locs []) := ⟨l, v, t, o, fun x h => nomatch h⟩
  exact ⟨p _ (List.mem_map.mpr ⟨q, hq, rfl⟩), l, .ofOk sc P.block, .ofOk sc P.res⟩
end Gm
set_option Elab.async false
set_option linter.all false
set_option maxRecDepth 100000
set_option maxHeartbeats 2000000
/-! Words of a text: names, numbers; an object that takes them one after the other. -/
namespace Pz
open PySem L2 Gm
def lets : Str := "abcdefghijklmnopqrstuvwxyz"
def digs : Str := "0123456789"
def letB (c : Nat) : Bool := decide (c ∈ lets.cps.toList)
def digB (c : Nat) : Bool := decide (c ∈ digs.cps.toList)
def keys : List Str := ["var", "table", "lots", "proc", "local", "set", "let", "draw", "put", "lot", "ask", "if", "else", "end", "bad", "after", "answer", "has", "cell", "mod"]
def signs (w : Str) : List Nat := w.cps.toList
def isName (w : Str) : Bool := decide (1 ≤ w.length ∧ w.length ≤ 12) && !decide (w ∈ keys) && (match signs w with | [] => false | c :: _ => letB c) && (signs w).all fun c => letB c || digB c
def numW (w : Str) : Nat := NumText.digitsVal (signs w)
def isNum (w : Str) : Bool := decide (1 ≤ w.length ∧ w.length ≤ 5) && (signs w).all digB && (match signs w with | [] => false | c :: _ => if c = 48 then decide (w = "0") else decide (numW w ≤ 65535))
theorem len_signs (w : Str) : (signs w).length = w.length := Array.length_toList
theorem digB_iff {c : Nat} : digB c = true ↔ 48 ≤ c ∧ c ≤ 57 := by
  unfold digB
  rw [decide_eq_true_iff, show digs.cps.toList = [48, 49, 50, 51, 52, 53, 54, 55, 56, 57] from by decide +kernel]
  simp only [List.mem_cons, List.not_mem_nil, or_false]
  omega
theorem num_text {w : Str} (h : (signs w).all digB = true) (h1 : 1 ≤ w.length) (h2 : w.length ≤ 5) : intText? w = some ((numW w : Nat) : Int) := by
  refine _root_.PySem.intText_digits (fun c hc => ?_) (fun z => ?_) (by omega)
  · exact digB_iff.mp (List.all_eq_true.mp h c hc)
  · have := len_signs w
    unfold signs at this
    rw [z] at this
    simp at this
    omega
theorem flat_strs : ∀ xs : List Str, (xs.map V.str).all flatV = true
  | [] => rfl
  | x :: xs => by rw [List.map_cons, List.all_cons, flat_strs xs]; rfl
theorem inV_strs (x : Str) : ∀ xs : List Str, inV (.str x) (xs.map V.str) = decide (x ∈ xs)
  | [] => rfl
  | y :: xs => by
    have ih := inV_strs x xs
    unfold inV at ih ⊢
    rw [List.map_cons, List.any_cons, ih]
    by_cases h : y = x
    · subst h
      rw [show eqV (.str y) (.str y) = true from by simp [eqV], Bool.true_or]
      exact (decide_eq_true List.mem_cons_self).symm
    · rw [show eqV (.str y) (.str x) = false from by simp [eqV, h], Bool.false_or]
      refine decide_eq_decide.mpr ⟨List.mem_cons_of_mem _, fun m => ?_⟩
      rcases List.mem_cons.mp m with e | e
      · exact absurd e.symm h
      · exact e
/-- the word at a place, the empty word behind the last one -/
def wd (ws : List Str) (i : Nat) : Str := ws.getD i Str.empty
/-- all but the object at p stands -/
def But (p : Addr) (H H' : Hp) : Prop := ∀ b o, H b = some o → b ≠ p → H' b = some o
theorem But.refl (p : Addr) (H : Hp) : But p H H := fun _ _ e _ => e
theorem But.trans {p : Addr} {H H1 H2 : Hp} (a : But p H H1) (b : But p H1 H2) : But p H H2 := fun c o e n => b c o (a c o e n) n
theorem But.same {p : Addr} {H H' : Hp} (s : Same H H') : But p H H' := fun b o e _ => s b o e
theorem But.upd {p : Addr} {H : Hp} {o : HO} : But p H (upd H p o) := fun b u e n => by rw [upd_ne n]; exact e
/-- an object that takes words: ws in the list at l, the next one i -/
structure WAt (C : Addr) (H : Hp) (p l : Addr) (ws : List Str) (i : Nat) : Prop where
  ob : ∃ dx fs, H p = some (.ins C dx fs) ∧ fs.lookup ("words" : Str) = some (.ref l) ∧ fs.lookup ("at" : Str) = some (.int i) ∧ (∀ m : Str, m ≠ "words" → m ≠ "at" → fs.lookup m = none) ∧ fs.length < 900
  li : H l = some (.lst (ws.map V.str))
  le : i ≤ ws.length
  sz : ws.length < 1000000
  wl : ∀ w ∈ ws, w.length ≤ 1000000
section
variable {C : Addr} {H H' : Hp} {p l : Addr} {ws : List Str} {i : Nat}
theorem WAt.ne (h : WAt C H p l ws i) : l ≠ p := fun e => by
  obtain ⟨dx, fs, e1, _⟩ := h.ob
  have e2 := h.li
  rw [e, e1] at e2
  cases e2
theorem WAt.same (h : WAt C H p l ws i) (s : Same H H') : WAt C H' p l ws i :=
  let ⟨dx, fs, e1, e2⟩ := h.ob
  ⟨⟨dx, fs, s _ _ e1, e2⟩, s _ _ h.li, h.le, h.sz, h.wl⟩
theorem But.tups {H H' : Hp} {p : Addr} {C : Addr} {dx : Addr} {fs : List (Str × V)} (b : But p H H') (h : H p = some (.ins C dx fs)) : Tups H H' := fun c o e k => b c o e fun z => by
  rw [z, h] at e
  cases e
  rcases k with ⟨_, z⟩ | ⟨_, _, z⟩ <;> cases z
theorem WAt.tups (h : WAt C H p l ws i) (b : But p H H') : Tups H H' :=
  let ⟨dx, fs, e1, _⟩ := h.ob
  b.tups e1
theorem wd_len (h : WAt C H p l ws i) : (wd ws i).length ≤ 1000000 := by
  unfold wd
  rw [List.getD_eq_getElem?_getD]
  cases e : ws[i]? with
  | none => exact Nat.zero_le _
  | some w => exact h.wl w (List.mem_of_getElem? e)
theorem putF_len {f : Str} {v x : V} : ∀ {fs : List (Str × V)}, fs.lookup f = some x → (putF f v fs).length = fs.length
  | [], h => by cases h
  | (g, y) :: r, h => by
    by_cases e : g = f
    · rw [putF, if_pos e] <;> rfl
    · have e2 : (f == g) = false := by
        cases z : f == g with
        | false => rfl
        | true => exact absurd (eq_of_beq z).symm e
      rw [putF, if_neg e, List.length_cons, List.length_cons, putF_len (fs := r) (by simpa [List.lookup, e2] using h)]
theorem WAt.lt_of (h : WAt C H p l ws i) (n : wd ws i ≠ Str.empty) : i < ws.length := by
  refine Nat.lt_of_le_of_ne h.le fun e => n ?_
  unfold wd
  rw [e, List.getD_eq_getElem?_getD, List.getElem?_eq_none (Nat.le_refl _)]
  rfl
theorem isNum_text {w : Str} (h : isNum w = true) : intText? w = some ((numW w : Nat) : Int) ∧ w.length ≤ 640 := by
  unfold isNum at h
  rw [Bool.and_eq_true, Bool.and_eq_true] at h
  have l := of_decide_eq_true h.1.1
  exact ⟨num_text h.1.2 l.1 l.2, by omega⟩
/-- the words that v offers -/
def Amg (K : PySem.W.Frag) (H : Hp) (v : V) (cs : List Str) : Prop :=
  ∃ a, v = .ref a ∧ (SqL K H a (cs.map V.str) ∨ SqT K H a (cs.map V.str) ∨ ∃ kvs, H a = some (.dK kvs) ∧ ∀ x : Str, (valV kvs (.inr x)).isSome = decide (x ∈ cs))
def rNotU (K : PySem.W.Frag) : R2 := fun x y H Q => rIn K true x y H Q ∨ ∃ a ov, y = .ref a ∧ DGet H a x ov ∧ Q (.bl (!ov.isSome)) H
theorem op_notU {X : Cx} (hu : X.A.units + 1 < cLine) : OpR X (compareOp .NotIn) (rNotU X.K) := by
  intro pins s σ H x y v u Q I rx ry h
  rcases h with h | ⟨a, ov, rfl, g, q⟩
  · exact op_notIn_seq pins s σ H x y v u Q I rx ry h
  · obtain rfl : u = Value.ref a := ry
    exact d_notIn hu I g rx fun s3 I3 => ⟨.bl (!ov.isSome), H, I3, rfl, q⟩
theorem Amg.notU {K : PySem.W.Frag} {H : Hp} {v : V} {cs : List Str} {x : Str} {Q : VK} (h : Amg K H v cs) (q : Q (.bl (!decide (x ∈ cs))) H) : rNotU K (.str x) v H Q := by
  obtain ⟨a, rfl, h | h | ⟨kvs, h, k⟩⟩ := h
  · refine .inl ⟨a, _, rfl, .inl h, rfl, flat_strs _, ?_⟩
    rw [if_pos rfl, inV_strs]
    exact q
  · refine .inl ⟨a, _, rfl, .inr h, rfl, flat_strs _, ?_⟩
    rw [if_pos rfl, inV_strs]
    exact q
  · refine .inr ⟨a, _, rfl, DGet.k (k := .inr x) h, ?_⟩
    rw [k x]
    exact q
/-- a text refused at the word i -/
def Ref (p B : Addr) (H : Hp) (i : Nat) (E : XK) : Prop := ∀ d H', But p H H' → H' d = some (.xd [("at", .int i)]) → E (.ref B) (some d) H'
theorem Ref.later {p B : Addr} {H H1 : Hp} {i : Nat} {E : XK} (h : Ref p B H i E) (b : But p H H1) : Ref p B H1 i E := fun d H' c e => h d H' (b.trans c) e
theorem WAt.nomt {m : Str} (h : WAt C H p l ws i) (h1 : m ≠ "words" := by decide) (h2 : m ≠ "at" := by decide) : ∃ dx fs, H p = some (.ins C dx fs) ∧ fs.lookup m = none :=
  let ⟨dx, fs, e1, _, _, e4, _⟩ := h.ob
  ⟨dx, fs, e1, e4 m h1 h2⟩
end
/-! ### what the methods promise -/
section
variable (C B : Addr)
def spEnded : Sp := fun vs H Q _ => ∃ (p l : Addr) (ws : List Str) (i : Nat), vs = [.ref p] ∧ WAt C H p l ws i ∧ Q (.bl (decide (i = ws.length))) H
def spAhead : Sp := fun vs H Q _ => ∃ (p l : Addr) (ws : List Str) (i : Nat), vs = [.ref p] ∧ WAt C H p l ws i ∧ Q (.str (wd ws i)) H
def toWords (x : Str) : List Str := if x.length = 0 then [] else Txt.split x " "
def spWords : Sp := fun vs H Q _ => ∃ (p dx : Addr) (x : Str), vs = [.ref p, .str x] ∧ H p = some (.ins C dx []) ∧ x.length ≤ 900000 ∧ (toWords x).length < 1000000 ∧ (∀ w ∈ toWords x, w.length ≤ 1000000) ∧
  ∀ l H', But p H H' → WAt C H' p l (toWords x) 0 → Q .non H'
def spRefuse : Sp := fun vs H _ E => ∃ (p l : Addr) (ws : List Str) (i : Nat), vs = [.ref p] ∧ WAt C H p l ws i ∧ Ref p B H i E
def spTake : Sp := fun vs H Q _ => ∃ (p l : Addr) (ws : List Str) (i : Nat), vs = [.ref p] ∧ WAt C H p l ws i ∧ i < ws.length ∧ ∀ H', But p H H' → WAt C H' p l ws (i + 1) → Q (.str (wd ws i)) H'
/-- one word is taken, or refused -/
def Tk1 (p l : Addr) (ws : List Str) (i : Nat) (H : Hp) (Q : V → Hp → Prop) (E : XK) (c : Bool) (y : V) : Prop := if c = true then ∀ H', But p H H' → WAt C H' p l ws (i + 1) → Q y H' else Ref p B H i E
def spOneOf (K : PySem.W.Frag) : Sp := fun vs H Q E => ∃ (p l : Addr) (ws : List Str) (i : Nat) (v : V) (cs : List Str), vs = [.ref p, v] ∧ WAt C H p l ws i ∧ Amg K H v cs ∧ Str.empty ∉ cs ∧ Tk1 C B p l ws i H Q E (decide (wd ws i ∈ cs)) (.str (wd ws i))
def spName (K : PySem.W.Frag) : Sp := fun vs H Q E => ∃ (p l : Addr) (ws : List Str) (i : Nat) (a : Addr) (cs : List Str), vs = [.ref p, .ref a] ∧ WAt C H p l ws i ∧ (SqL K H a (cs.map V.str) ∨ SqT K H a (cs.map V.str)) ∧ Tk1 C B p l ws i H Q E (isName (wd ws i) && !decide (wd ws i ∈ cs)) (.str (wd ws i))
def spNumber : Sp := fun vs H Q E => ∃ (p l : Addr) (ws : List Str) (i : Nat), ∃ lo hi : Int, vs = [.ref p, .int lo, .int hi] ∧ WAt C H p l ws i ∧ Tk1 C B p l ws i H Q E (isNum (wd ws i) && decide (lo ≤ (numW (wd ws i) : Nat) ∧ ((numW (wd ws i) : Nat) : Int) ≤ hi)) (.int (numW (wd ws i) : Nat))
def spFinish : Sp := fun vs H Q E => ∃ (p l : Addr) (ws : List Str) (i : Nat), vs = [.ref p] ∧ WAt C H p l ws i ∧ if i = ws.length then Q .non H else Ref p B H i E
end
/-! ### expressions: what is read -/
def looks : List Str := ["has", "cell"]
def lookEx (x t : Str) (e : Ex) : Ex := if x = "has" then .has t e else .cell t e
def pAtom (ws : List Str) (s : Sc) (i : Nat) : Except Nat (Ex × Nat) :=
  if isNum (wd ws i) = true then .ok (.num (numW (wd ws i) : Nat), i + 1)
  else if wd ws i ∈ s.vars then .ok (.var (wd ws i), i + 1)
  else if wd ws i ∈ s.locs then .ok (.loc (wd ws i), i + 1)
  else .error i
def pExpr (ws : List Str) (s : Sc) : Nat → Nat → Except Nat (Ex × Nat)
  | 0, i => pAtom ws s i
  | k + 1, i =>
    if wd ws i ∈ ops then
      match pExpr ws s k (i + 1) with
      | .error j => .error j
      | .ok (a, j) => match pExpr ws s k j with
        | .error m => .error m
        | .ok (b, m) => .ok (.op (wd ws i) a b, m)
    else if wd ws i ∈ looks ∧ s.tabs ≠ [] then
      if wd ws (i + 1) ∈ s.tabs then
        match pExpr ws s k (i + 2) with
        | .error j => .error j
        | .ok (e, j) => .ok (lookEx (wd ws i) (wd ws (i + 1)) e, j)
      else .error (i + 1)
    else pAtom ws s i
/-- the data of the words that are an expression by themselves -/
def MeanAt (K : PySem.W.Frag) (H : Hp) (m : Addr) (s : Sc) : Prop :=
  ∃ kvs, H m = some (.dK kvs) ∧ ∀ x : Str, (x ∈ s.vars → ∃ v, valV kvs (.inr x) = some v ∧ Dp K H v (Ex.var x).d) ∧ (x ∉ s.vars → x ∈ s.locs → ∃ v, valV kvs (.inr x) = some v ∧ Dp K H v (Ex.loc x).d) ∧
    (x ∉ s.vars → x ∉ s.locs → valV kvs (.inr x) = none)
section
variable {K : PySem.W.Frag} {C : Addr} {H H' : Hp} {p l m : Addr} {ws : List Str} {i : Nat} {s : Sc}
theorem WAt.other (h : WAt C H p l ws i) {a : Addr} {o : HO} (e : H a = some o) (n : ∀ C dx fs, o ≠ .ins C dx fs) : a ≠ p := fun z => by
  obtain ⟨dx, fs, e1, _⟩ := h.ob
  rw [z, e1] at e
  exact n _ _ _ (Option.some.inj e).symm
theorem WAt.sqL (h : WAt C H p l ws i) (b : But p H H') {a : Addr} {xs : List V} (e : SqL K H a xs) : SqL K H' a xs := by
  rcases e with (e | ⟨o, e⟩) | e
  · exact .inl (.inl (b _ _ e (h.other e fun _ _ _ z => by cases z)))
  · exact .inl (.inr ⟨o, b _ _ e (h.other e fun _ _ _ z => by cases z)⟩)
  · exact .inr e
theorem WAt.sqT (h : WAt C H p l ws i) (b : But p H H') {a : Addr} {xs : List V} (e : SqT K H a xs) : SqT K H' a xs := sqT_tups (h.tups b) e
theorem WAt.dp (h : WAt C H p l ws i) (b : But p H H') {v : V} (e : Ex) (d : Dp K H v e.d) : Dp K H' v e.d := dp_tups (h.tups b) _ _ (Ex.nol e) d
theorem WAt.mean (h : WAt C H p l ws i) (b : But p H H') (M : MeanAt K H m s) : MeanAt K H' m s := by
  obtain ⟨kvs, e, f⟩ := M
  refine ⟨kvs, b _ _ e (h.other e fun _ _ _ z => by cases z), fun x => ⟨fun hx => ?_, fun h1 h2 => ?_, (f x).2.2⟩⟩
  · obtain ⟨v, e1, d⟩ := (f x).1 hx
    exact ⟨v, e1, h.dp b _ d⟩
  · obtain ⟨v, e1, d⟩ := (f x).2.1 h1 h2
    exact ⟨v, e1, h.dp b _ d⟩
theorem MeanAt.amg (M : MeanAt K H m s) : Amg K H (.ref m) (s.vars ++ s.locs) := by
  obtain ⟨kvs, e, f⟩ := M
  refine ⟨m, rfl, .inr (.inr ⟨kvs, e, fun x => ?_⟩)⟩
  by_cases h1 : x ∈ s.vars
  · obtain ⟨v, e1, _⟩ := (f x).1 h1
    rw [e1]
    exact (decide_eq_true (List.mem_append_left _ h1)).symm
  · by_cases h2 : x ∈ s.locs
    · obtain ⟨v, e1, _⟩ := (f x).2.1 h1 h2
      rw [e1]
      exact (decide_eq_true (List.mem_append_right _ h2)).symm
    · rw [(f x).2.2 h1 h2]
      exact (decide_eq_false fun z => (List.mem_append.mp z).elim h1 h2).symm
end
/-- what is known of the names in scope -/
structure NoE (s : Sc) : Prop where
  v : Str.empty ∉ s.vars
  l : Str.empty ∉ s.locs
  t : Str.empty ∉ s.tabs
/-- how a reading of an expression ends -/
def ExEnd (C B : Addr) (K : PySem.W.Frag) (p l : Addr) (ws : List Str) (H : Hp) (Q : VK) (E : XK) : Except Nat (Ex × Nat) → Prop
  | .ok (e, j) => ∀ v H', But p H H' → WAt C H' p l ws j → Dp K H' v e.d → Q v H'
  | .error j => Ref p B H j E
def spExpr (C B : Addr) (K : PySem.W.Frag) (k : Nat) : Sp := fun vs H Q E => ∃ (p l m tb : Addr) (ws : List Str) (i : Nat) (s : Sc), vs = [.ref p, .ref m, .ref tb, .int (8 - (k : Int))] ∧ WAt C H p l ws i ∧ MeanAt K H m s ∧ SqL K H tb (s.tabs.map V.str) ∧ NoE s ∧
  ExEnd C B K p l ws H Q E (pExpr ws s k i)
theorem isNum_le {x : Str} (h : isNum x = true) : numW x ≤ 65535 := by
  unfold isNum at h
  rw [Bool.and_eq_true] at h
  have h2 := h.2
  cases e : signs x with
  | nil => rw [e] at h2; cases h2
  | cons c cs =>
    rw [e] at h2
    have h2 : (if c = 48 then decide (x = "0") else decide (numW x ≤ 65535)) = true := h2
    by_cases z : c = 48
    · rw [if_pos z] at h2
      have : x = "0" := of_decide_eq_true h2
      rw [this]
      decide +kernel
    · rw [if_neg z] at h2
      exact of_decide_eq_true h2
theorem dp_look {K : PySem.W.Frag} {H : Hp} {q : Addr} {x t : Str} {v : V} {e : Ex} (hq : H q = none) (h : x ∈ looks) (d : Dp K H v e.d) : Dp K (upd H q (.tup [.str x, .str t, v])) (.ref q) (lookEx x t e).d := by
  unfold lookEx
  rcases List.mem_cons.mp h with rfl | h
  · rw [if_pos rfl]
    unfold Ex.d
    exact dp_tup hq (.cons (.str _) (.cons (.str _) (.cons d .nil)))
  · obtain rfl := List.mem_singleton.mp h
    rw [if_neg (by decide +kernel)]
    unfold Ex.d
    exact dp_tup hq (.cons (.str _) (.cons (.str _) (.cons d .nil)))
/-- the statements behind two ifs, where both fall through -/
theorem tail_split {a a' : TT} {A A' B B' R : TS} {D : Ends} {σ : L2.St} {H : Hp} (c : Prop) (h : (c → R D σ H) → tSeq (tIfS a A A') (tSeq (tIfS a' B B') R) D σ H) (hr : c → R D σ H) : tSeq (tIfS a A A') (tSeq (tIfS a' B B') R) D σ H := h hr
end Pz
set_option Elab.async false
set_option linter.all false
set_option maxRecDepth 100000
set_option maxHeartbeats 4000000
/-! Games in the heap: what a value of data is made of, a Game object, lists that are cut. -/
namespace Gm
open PySem L2
open PyData (strOk)
theorem iteT2 {b : Bool} {A B : Prop} (hb : b = true) (h : A) : if b = true then A else B := by rw [if_pos hb]; exact h
theorem iteF2 {b : Bool} {A B : Prop} (hb : b = false) (h : B) : if b = true then A else B := by rw [if_neg (by rw [hb]; exact Bool.false_ne_true)]; exact h
/-! ### cuts -/
theorem cut_take (xs : List V) (k : Nat) : cutV xs none (some (k : Int)) = xs.take k := by
  unfold cutV
  have e : HT.sIx xs.length xs.length (some (k : Int)) = min k xs.length := by
    have : ¬ ((k : Int) < 0) := by omega
    simp [HT.sIx, this]
    try omega
  rw [e, show HT.sIx xs.length 0 none = 0 from rfl, List.drop_zero, Nat.sub_zero]
  by_cases h : k ≤ xs.length
  · rw [Nat.min_eq_left h]
  · rw [Nat.min_eq_right (by omega), List.take_length, List.take_of_length_le (by omega)]
theorem cut_drop (xs : List V) (k : Nat) : cutV xs (some (k : Int)) none = xs.drop k := by
  unfold cutV
  have e : HT.sIx xs.length 0 (some (k : Int)) = min k xs.length := by
    have : ¬ ((k : Int) < 0) := by omega
    simp [HT.sIx, this]
    try omega
  rw [e, show HT.sIx xs.length xs.length none = xs.length from rfl]
  by_cases h : k ≤ xs.length
  · rw [Nat.min_eq_left h, List.take_of_length_le (by rw [List.length_drop]; exact Nat.le_refl _)]
  · rw [Nat.min_eq_right (by omega), Nat.sub_self, List.take_zero, List.drop_eq_nil_of_le (by omega)]
/-! ### what data is made of -/
section
variable {K : PySem.W.Frag} {H : Hp} {v : V}
theorem dp_inv {ds : List PyData} (h : Dp K H v (.tuple ds)) : ∃ a xs, v = .ref a ∧ SqT K H a xs ∧ DpAll K H xs ds := by
  cases h with
  | tup hs ha => exact ⟨_, _, rfl, hs, ha⟩
theorem dps_cons {vs : List V} {d : PyData} {ds : List PyData} (h : DpAll K H vs (d :: ds)) : ∃ u r, vs = u :: r ∧ Dp K H u d ∧ DpAll K H r ds := by
  cases h with
  | cons h1 h2 => exact ⟨_, _, rfl, h1, h2⟩
theorem dps_nil {vs : List V} (h : DpAll K H vs []) : vs = [] := by
  cases h
  rfl
theorem dp_s {x : Str} (h : Dp K H v (.str x)) : v = .str x := by
  cases h
  rfl
theorem dp_i {x : Int} (h : Dp K H v (.int x)) : v = .int x := by
  cases h
  rfl
theorem dps_strs : ∀ {xs : List Str} {vs : List V}, DpAll K H vs (xs.map PyData.str) → vs = xs.map V.str
  | [], _, h => dps_nil h
  | x :: xs, _, h => by
    obtain ⟨u, r, rfl, h1, h2⟩ := dps_cons h
    rw [dp_s h1, dps_strs h2]
    rfl
theorem one_inv {d : PyData} (h : Dp K H v (.tuple [d])) : ∃ (a : Addr) (u : V), v = .ref a ∧ SqT K H a [u] ∧ Dp K H u d := by
  obtain ⟨a, xs, rfl, hs, dx⟩ := dp_inv h
  obtain ⟨u, r, rfl, d1, d2⟩ := dps_cons dx
  have e := dps_nil d2
  subst e
  exact ⟨a, u, rfl, hs, d1⟩
theorem two_inv {d e : PyData} (h : Dp K H v (.tuple [d, e])) : ∃ (a : Addr) (u z : V), v = .ref a ∧ SqT K H a [u, z] ∧ Dp K H u d ∧ Dp K H z e := by
  obtain ⟨a, xs, rfl, hs, dx⟩ := dp_inv h
  obtain ⟨u, r, rfl, d1, d2⟩ := dps_cons dx
  obtain ⟨z, r, rfl, d3, d4⟩ := dps_cons d2
  have e := dps_nil d4
  subst e
  exact ⟨a, u, z, rfl, hs, d1, d3⟩
theorem three_inv {d e f : PyData} (h : Dp K H v (.tuple [d, e, f])) : ∃ (a : Addr) (u z y : V), v = .ref a ∧ SqT K H a [u, z, y] ∧ Dp K H u d ∧ Dp K H z e ∧ Dp K H y f := by
  obtain ⟨a, xs, rfl, hs, dx⟩ := dp_inv h
  obtain ⟨u, r, rfl, d1, d2⟩ := dps_cons dx
  obtain ⟨z, r, rfl, d3, d4⟩ := dps_cons d2
  obtain ⟨y, r, rfl, d5, d6⟩ := dps_cons d4
  have e := dps_nil d6
  subst e
  exact ⟨a, u, z, y, rfl, hs, d1, d3, d5⟩
theorem four_inv {d e f g : PyData} (h : Dp K H v (.tuple [d, e, f, g])) : ∃ (a : Addr) (u z y x : V), v = .ref a ∧ SqT K H a [u, z, y, x] ∧ Dp K H u d ∧ Dp K H z e ∧ Dp K H y f ∧ Dp K H x g := by
  obtain ⟨a, xs, rfl, hs, dx⟩ := dp_inv h
  obtain ⟨u, r, rfl, d1, d2⟩ := dps_cons dx
  obtain ⟨z, r, rfl, d3, d4⟩ := dps_cons d2
  obtain ⟨y, r, rfl, d5, d6⟩ := dps_cons d4
  obtain ⟨x, r, rfl, d7, d8⟩ := dps_cons d6
  have e := dps_nil d8
  subst e
  exact ⟨a, u, z, y, x, rfl, hs, d1, d3, d5, d7⟩
/-- a procedure in the heap -/
theorem pr_inv {p : Pr} (h : Dp K H v p.d) : ∃ (a la ba : Addr) (r : V) (bs : List V), v = .ref a ∧ SqT K H a [.str p.name, .int p.size, .int p.ans, .ref la, .ref ba, r] ∧ SqT K H la (p.locs.map V.str) ∧ SqT K H ba bs ∧ DpAll K H bs (p.block.l.map Stm.d) ∧ Dp K H r p.res.d := by
  unfold Pr.d strD Blk.d at h
  obtain ⟨a, xs, rfl, hs, dx⟩ := dp_inv h
  obtain ⟨u1, r, rfl, d1, dx⟩ := dps_cons dx
  obtain ⟨u2, r, rfl, d2, dx⟩ := dps_cons dx
  obtain ⟨u3, r, rfl, d3, dx⟩ := dps_cons dx
  obtain ⟨u4, r, rfl, d4, dx⟩ := dps_cons dx
  obtain ⟨u5, r, rfl, d5, dx⟩ := dps_cons dx
  obtain ⟨u6, r, rfl, d6, dx⟩ := dps_cons dx
  have e := dps_nil dx
  subst e
  obtain ⟨la, ls, rfl, hl, dl⟩ := dp_inv d4
  obtain ⟨ba, bs, rfl, hb, db⟩ := dp_inv d5
  rw [dp_s d1, dp_i d2, dp_i d3] at hs
  rw [dps_strs dl] at hl
  rw [Blk.ds_l] at db
  exact ⟨a, la, ba, u6, bs, rfl, hs, hl, hb, db, d6⟩
theorem trip_inv {t : Str × Int × Int} (h : Dp K H v (trip t)) : ∃ a : Addr, v = .ref a ∧ SqT K H a [.str t.1, .int t.2.1, .int t.2.2] := by
  obtain ⟨a, u, z, y, rfl, hs, d1, d2, d3⟩ := three_inv h
  rw [dp_s d1, dp_i d2, dp_i d3] at hs
  exact ⟨a, rfl, hs⟩
theorem trips_inv {ts : List (Str × Int × Int)} (h : Dp K H v (trips ts)) : ∃ (a : Addr) (xs : List V), v = .ref a ∧ SqT K H a xs ∧ DpAll K H xs (ts.map trip) := dp_inv h
theorem num_inv {n : Int} (h : Dp K H v (Ex.num n).d) : ∃ a : Addr, v = .ref a ∧ SqT K H a [.str "number", .int n] := by
  obtain ⟨a, u, z, rfl, hs, d1, d2⟩ := two_inv h
  rw [dp_s d1, dp_i d2] at hs
  exact ⟨a, rfl, hs⟩
theorem loc_inv {x : Str} (h : Dp K H v (Ex.loc x).d) : ∃ a : Addr, v = .ref a ∧ SqT K H a [.str "local", .str x] := by
  obtain ⟨a, u, z, rfl, hs, d1, d2⟩ := two_inv h
  rw [dp_s d1, dp_s d2] at hs
  exact ⟨a, rfl, hs⟩
theorem var_inv {x : Str} (h : Dp K H v (Ex.var x).d) : ∃ a : Addr, v = .ref a ∧ SqT K H a [.str "variable", .str x] := by
  obtain ⟨a, u, z, rfl, hs, d1, d2⟩ := two_inv h
  rw [dp_s d1, dp_s d2] at hs
  exact ⟨a, rfl, hs⟩
theorem has_inv {t : Str} {e : Ex} (h : Dp K H v (Ex.has t e).d) : ∃ (a : Addr) (u : V), v = .ref a ∧ SqT K H a [.str "has", .str t, u] ∧ Dp K H u e.d := by
  obtain ⟨a, u, z, y, rfl, hs, d1, d2, d3⟩ := three_inv h
  rw [dp_s d1, dp_s d2] at hs
  exact ⟨a, y, rfl, hs, d3⟩
theorem cell_inv {t : Str} {e : Ex} (h : Dp K H v (Ex.cell t e).d) : ∃ (a : Addr) (u : V), v = .ref a ∧ SqT K H a [.str "cell", .str t, u] ∧ Dp K H u e.d := by
  obtain ⟨a, u, z, y, rfl, hs, d1, d2, d3⟩ := three_inv h
  rw [dp_s d1, dp_s d2] at hs
  exact ⟨a, y, rfl, hs, d3⟩
theorem op_inv {o : Str} {e f : Ex} (h : Dp K H v (Ex.op o e f).d) : ∃ (a : Addr) (u z : V), v = .ref a ∧ SqT K H a [.str o, u, z] ∧ Dp K H u e.d ∧ Dp K H z f.d := by
  obtain ⟨a, u, z, y, rfl, hs, d1, d2, d3⟩ := three_inv h
  rw [dp_s d1] at hs
  exact ⟨a, z, y, rfl, hs, d2, d3⟩
/-- the kind of an expression -/
def Ex.kind : Ex → Str
  | .num _ => "number" | .loc _ => "local" | .var _ => "variable" | .has _ _ => "has" | .cell _ _ => "cell" | .op o _ _ => o
theorem ex_inv {e : Ex} (h : Dp K H v e.d) : ∃ (a : Addr) (r : List V), v = .ref a ∧ SqT K H a (.str e.kind :: r) := by
  cases e with
  | num n => obtain ⟨a, rfl, hs⟩ := num_inv h; exact ⟨a, _, rfl, hs⟩
  | loc n => obtain ⟨a, rfl, hs⟩ := loc_inv h; exact ⟨a, _, rfl, hs⟩
  | var n => obtain ⟨a, rfl, hs⟩ := var_inv h; exact ⟨a, _, rfl, hs⟩
  | has t e => obtain ⟨a, u, rfl, hs, _⟩ := has_inv h; exact ⟨a, _, rfl, hs⟩
  | cell t e => obtain ⟨a, u, rfl, hs, _⟩ := cell_inv h; exact ⟨a, _, rfl, hs⟩
  | op o e f => obtain ⟨a, u, z, rfl, hs, _⟩ := op_inv h; exact ⟨a, _, rfl, hs⟩
theorem stm_inv {s : Stm} (h : Dp K H v s.d) : ∃ (a : Addr) (r : List V), v = .ref a ∧ SqT K H a (.str s.kind :: r) ∧ DpAll K H r s.args := by
  rw [Stm.d_kind] at h
  obtain ⟨a, xs, rfl, hs, dx⟩ := dp_inv h
  obtain ⟨u, r, rfl, d1, d2⟩ := dps_cons dx
  rw [dp_s d1] at hs
  exact ⟨a, r, rfl, hs, d2⟩
end
/-! ### a Game object -/
theorem g1_ : ¬ (("variables" : Str) = "tables") := by decide +kernel
theorem g2_ : ¬ (("variables" : Str) = "lots") := by decide +kernel
theorem g3_ : ¬ (("variables" : Str) = "procs") := by decide +kernel
theorem g4_ : ¬ (("tables" : Str) = "lots") := by decide +kernel
theorem g5_ : ¬ (("tables" : Str) = "procs") := by decide +kernel
theorem g6_ : ¬ (("lots" : Str) = "procs") := by decide +kernel
def gf (a b c d : V) : List (Str × V) := putF "procs" d (putF "lots" c (putF "tables" b (putF "variables" a [])))
section
variable (a b c d : V)
theorem gf_procs : (gf a b c d).lookup ("procs" : Str) = some d := by unfold gf; rw [lookup_putF, if_pos rfl]
theorem gf_lots : (gf a b c d).lookup ("lots" : Str) = some c := by unfold gf; rw [lookup_putF, if_neg g6_, lookup_putF, if_pos rfl]
theorem gf_tables : (gf a b c d).lookup ("tables" : Str) = some b := by unfold gf; rw [lookup_putF, if_neg g5_, lookup_putF, if_neg g4_, lookup_putF, if_pos rfl]
theorem gf_variables : (gf a b c d).lookup ("variables" : Str) = some a := by unfold gf; rw [lookup_putF, if_neg g3_, lookup_putF, if_neg g2_, lookup_putF, if_neg g1_, lookup_putF, if_pos rfl]
theorem gf_no {m : Str} (h1 : ¬ m = "variables") (h2 : ¬ m = "tables") (h3 : ¬ m = "lots") (h4 : ¬ m = "procs") : (gf a b c d).lookup m = none := by
  unfold gf
  rw [lookup_putF, if_neg h4, lookup_putF, if_neg h3, lookup_putF, if_neg h2, lookup_putF, if_neg h1]
  all_goals rfl
theorem gf_proc : (gf a b c d).lookup ("proc" : Str) = none := gf_no a b c d (by decide +kernel) (by decide +kernel) (by decide +kernel) (by decide +kernel)
end
/-- the object g is the game G -/
def GmD (K : PySem.W.Frag) (C : Addr) (H : Hp) (g : Addr) (G : Ga) : Prop := ∃ dx a b c d, H g = some (.ins C dx (gf a b c d)) ∧ Dp K H a (trips G.vars) ∧ Dp K H b (trips G.tabs) ∧ Dp K H c (trips G.lots) ∧ Dp K H d (.tuple (G.procs.map Pr.d))
theorem GmD.same {K : PySem.W.Frag} {C : Addr} {H H' : Hp} {g : Addr} {G : Ga} (h : GmD K C H g G) (s : Same H H') : GmD K C H' g G :=
  let ⟨dx, a, b, c, d, h0, h1, h2, h3, h4⟩ := h
  ⟨dx, a, b, c, d, s _ _ h0, dp_mono s _ _ h1, dp_mono s _ _ h2, dp_mono s _ _ h3, dp_mono s _ _ h4⟩
/-- the procedure with a name -/
def Ga.proc (G : Ga) (n : Str) : Option Pr := G.procs.find? fun p => decide (p.name = n)
theorem find_at {ps : List Pr} {n : Str} : ∀ {i : Nat} {p : Pr}, (∀ q ∈ ps.take i, q.name ≠ n) → ps[i]? = some p → p.name = n → ps.find? (fun p => decide (p.name = n)) = some p := by
  induction ps with
  | nil => intro i p _ h; simp at h
  | cons a ps ih =>
    intro i p h e hp
    match i with
    | 0 =>
      have e' : a = p := Option.some.inj e
      subst e'
      rw [List.find?_cons, decide_eq_true hp]
    | i + 1 =>
      have ha := h a (by simp)
      rw [List.find?_cons, decide_eq_false ha]
      exact ih (i := i) (fun q hq => h q (by simp [hq])) e hp
theorem find_no {ps : List Pr} {n : Str} (h : ∀ q ∈ ps, q.name ≠ n) : ps.find? (fun p => decide (p.name = n)) = none := by
  rw [List.find?_eq_none]
  intro x hx
  simp [h x hx]
theorem Ga.proc_mem {G : Ga} {n : Str} {p : Pr} (h : G.proc n = some p) : p ∈ G.procs ∧ p.name = n := ⟨List.mem_of_find?_eq_some h, of_decide_eq_true (by have := List.find?_some h; exact this)⟩
/-- the statement k of a procedure -/
def Ga.At (G : Ga) (n : Str) (k : Int) (p : Pr) (j : Nat) (s : Stm) : Prop := G.proc n = some p ∧ k = (j : Int) ∧ p.block.l[j]? = some s
/-- a procedure in the place of those with its name -/
def Ga.put (G : Ga) (p : Pr) : Ga := { G with procs := G.procs.map fun q => if q.name = p.name then p else q }
def Pr.repl (p : Pr) (at_ many : Nat) (ss : List Stm) : Pr := { p with block := Blk.of (p.block.l.take at_ ++ ss ++ p.block.l.drop (at_ + many)) }
/-! ### equal games -/
theorem trip_inj {s t : Str × Int × Int} (h : trip s = trip t) : s = t := by
  obtain ⟨a, b, c⟩ := s
  obtain ⟨x, y, z⟩ := t
  unfold trip at h
  injection h with h
  injection h with h1 h
  injection h with h2 h
  injection h with h3 h
  injection h1 with h1
  injection h2 with h2
  injection h3 with h3
  dsimp only at h1 h2 h3
  rw [h1, h2, h3]
theorem map_inj {α β : Type} {f : α → β} (hf : ∀ a b, f a = f b → a = b) : ∀ {xs ys : List α}, xs.map f = ys.map f → xs = ys
  | [], [], _ => rfl
  | [], _ :: _, h => by cases h
  | _ :: _, [], h => by cases h
  | x :: xs, y :: ys, h => by
    rw [List.map_cons, List.map_cons] at h
    injection h with h1 h2
    rw [hf _ _ h1, map_inj hf h2]
theorem trips_inj {s t : List (Str × Int × Int)} (h : trips s = trips t) : s = t := by
  unfold trips at h
  injection h with h
  exact map_inj (fun _ _ => trip_inj) h
theorem str_inj' : ∀ a b : Str, PyData.str a = PyData.str b → a = b := fun a b h => by injection h
theorem Pr.inj (p q : Pr) (h : p.d = q.d) : p = q := by
  unfold Pr.d strD Blk.d at h
  injection h with h
  injection h with h1 h
  injection h with h2 h
  injection h with h3 h
  injection h with h4 h
  injection h with h5 h
  injection h with h6 h
  injection h1 with h1
  injection h2 with h2
  injection h3 with h3
  injection h4 with h4
  injection h5 with h5
  have e4 := map_inj str_inj' h4
  have e5 := Blk.inj _ _ h5
  have e6 := Ex.inj _ _ h6
  cases p
  cases q
  dsimp only at h1 h2 h3 e4 e5 e6
  subst h1 h2 h3 e4 e5 e6
  rfl
theorem procs_inj {s t : List Pr} (h : PyData.tuple (s.map Pr.d) = PyData.tuple (t.map Pr.d)) : s = t := by
  injection h with h
  exact map_inj Pr.inj h
theorem Ga.ext {G F : Ga} (h1 : G.vars = F.vars) (h2 : G.tabs = F.tabs) (h3 : G.lots = F.lots) (h4 : G.procs = F.procs) : G = F := by
  cases G
  cases F
  dsimp only at h1 h2 h3 h4
  subst h1 h2 h3 h4
  rfl
theorem Ga.inj {G F : Ga} (h : G.d = F.d) : G = F := by
  unfold Ga.d at h
  injection h with h
  injection h with h1 h
  injection h with h2 h
  injection h with h3 h
  injection h with h4 h
  exact Ga.ext (trips_inj h1) (trips_inj h2) (trips_inj h3) (procs_inj h4)
/-! ### what expressions read -/
/-- an expression and all in it -/
def Ex.subs : Ex → List Ex
  | .num n => [.num n]
  | .loc x => [.loc x]
  | .var x => [.var x]
  | .has t e => .has t e :: e.subs
  | .cell t e => .cell t e :: e.subs
  | .op o a b => .op o a b :: (a.subs ++ b.subs)
def Ex.rd1 : Ex → Option (Str × Str)
  | .loc x => some ("local", x)
  | .var x => some ("variable", x)
  | .has t _ => some ("table", t)
  | .cell t _ => some ("table", t)
  | _ => none
def Ex.reads (e : Ex) : List (Str × Str) := e.subs.filterMap Ex.rd1
def plD (p : Str × Str) : PyData := .tuple [.str p.1, .str p.2]
theorem plD_inj {p q : Str × Str} (h : plD p = plD q) : p = q := by
  obtain ⟨a, b⟩ := p
  obtain ⟨c, d⟩ := q
  unfold plD at h
  injection h with h
  injection h with h1 h
  injection h with h2 h
  injection h1 with h1
  injection h2 with h2
  dsimp only at h1 h2
  rw [h1, h2]
theorem Ex.subs_len : ∀ {k : Nat} {e : Ex}, exF k e → e.subs.length + 1 ≤ 2 ^ k
  | 0, _, h => h.elim
  | k + 1, .num n, _ => by have := Nat.one_le_two_pow (n := k); rw [Nat.pow_succ]; show 2 ≤ _; omega
  | k + 1, .loc n, _ => by have := Nat.one_le_two_pow (n := k); rw [Nat.pow_succ]; show 2 ≤ _; omega
  | k + 1, .var n, _ => by have := Nat.one_le_two_pow (n := k); rw [Nat.pow_succ]; show 2 ≤ _; omega
  | k + 1, .has t e, h => by
    have := Ex.subs_len h.2
    have := Nat.one_le_two_pow (n := k)
    unfold Ex.subs
    rw [List.length_cons, Nat.pow_succ]
    omega
  | k + 1, .cell t e, h => by
    have := Ex.subs_len h.2
    have := Nat.one_le_two_pow (n := k)
    unfold Ex.subs
    rw [List.length_cons, Nat.pow_succ]
    omega
  | k + 1, .op o a b, h => by
    have h1 := Ex.subs_len h.2.1
    have h2 := Ex.subs_len h.2.2
    unfold Ex.subs
    rw [List.length_cons, List.length_append, Nat.pow_succ]
    omega
theorem Ex.subs_fit : ∀ {k : Nat} {e : Ex}, exF k e → ∀ x ∈ e.subs, exF k x
  | 0, _, h, _, _ => h.elim
  | k + 1, .num n, h, x, hx => by rw [List.mem_singleton.mp hx]; exact h
  | k + 1, .loc n, h, x, hx => by rw [List.mem_singleton.mp hx]; exact h
  | k + 1, .var n, h, x, hx => by rw [List.mem_singleton.mp hx]; exact h
  | k + 1, .has t e, h, x, hx => by
    rcases List.mem_cons.mp hx with rfl | hx
    · exact h
    · exact (Ex.subs_fit h.2 x hx).mono (by omega)
  | k + 1, .cell t e, h, x, hx => by
    rcases List.mem_cons.mp hx with rfl | hx
    · exact h
    · exact (Ex.subs_fit h.2 x hx).mono (by omega)
  | k + 1, .op o a b, h, x, hx => by
    rcases List.mem_cons.mp hx with rfl | hx
    · exact h
    rcases List.mem_append.mp hx with hx | hx
    · exact (Ex.subs_fit h.2.1 x hx).mono (by omega)
    · exact (Ex.subs_fit h.2.2 x hx).mono (by omega)
theorem nolAll_ex : ∀ es : List Ex, nolAll (es.map Ex.d) = true
  | [] => rfl
  | e :: es => by show (nol e.d && nolAll (es.map Ex.d)) = true; rw [nolAll_ex es, Ex.nol]; rfl
theorem nolAll_pl : ∀ es : List (Str × Str), nolAll (es.map plD) = true
  | [] => rfl
  | e :: es => by show (nol (plD e) && nolAll (es.map plD)) = true; rw [nolAll_pl es]; rfl
/-- a list of data that grows by many -/
theorem Acc.ext {K : PySem.W.Frag} {H0 H : Hp} {l : Addr} {vs us : List V} {ds es : List PyData} (a : Acc K H0 H l vs ds) (hd : DpAll K H us es) (hn : nolAll es = true) : Acc K H0 (upd H l (.lst (vs ++ us))) l (vs ++ us) (ds ++ es) := by
  have tp : Tups H (upd H l (.lst (vs ++ us))) := Tups.lst a.l
  refine ⟨fun b o e => by rw [upd_ne (ne_of_none e a.f)]; exact a.s _ _ e, a.f, upd_same, DpAll.app (dp_tupsAll tp _ _ a.n a.d) (dp_tupsAll tp _ _ hn hd), ?_⟩
  rw [nolAll_app, a.n, hn]
  rfl
/-! ### texts and numbers in a tuple -/
theorem in_ints (x : Int) : ∀ xs : List Int, inV (.int x) (xs.map V.int) = decide (x ∈ xs)
  | [] => rfl
  | y :: xs => by
    have ih := in_ints x xs
    unfold inV at ih ⊢
    rw [List.map_cons, List.any_cons, ih]
    by_cases h : y = x
    · subst h
      rw [show eqV (.int y) (.int y) = true from by simp [eqV], Bool.true_or]
      exact (decide_eq_true List.mem_cons_self).symm
    · rw [show eqV (.int y) (.int x) = false from by simp [eqV, h], Bool.false_or]
      refine decide_eq_decide.mpr ⟨List.mem_cons_of_mem _, fun m => ?_⟩
      rcases List.mem_cons.mp m with e | e
      · exact absurd e.symm h
      · exact e
theorem flat_ints : ∀ xs : List Int, (xs.map V.int).all flatV = true
  | [] => rfl
  | x :: xs => by rw [List.map_cons, List.all_cons, flat_ints xs]; rfl
/-- an expression's kind, when it is an operator -/
theorem kind_op {k : Nat} {e : Ex} (h : exF k e) : (e.kind ∈ ops ↔ ∃ o a b, e = .op o a b) := by
  match k, e, h with
  | 0, _, h => exact h.elim
  | k + 1, .op o a b, h => exact ⟨fun _ => ⟨o, a, b, rfl⟩, fun _ => h.1⟩
  | k + 1, .num n, h => exact ⟨fun z => absurd (show ("number" : Str) ∈ ops from z) (by decide +kernel), fun ⟨_, _, _, z⟩ => by cases z⟩
  | k + 1, .loc n, h => exact ⟨fun z => absurd (show ("local" : Str) ∈ ops from z) (by decide +kernel), fun ⟨_, _, _, z⟩ => by cases z⟩
  | k + 1, .var n, h => exact ⟨fun z => absurd (show ("variable" : Str) ∈ ops from z) (by decide +kernel), fun ⟨_, _, _, z⟩ => by cases z⟩
  | k + 1, .has t n, h => exact ⟨fun z => absurd (show ("has" : Str) ∈ ops from z) (by decide +kernel), fun ⟨_, _, _, z⟩ => by cases z⟩
  | k + 1, .cell t n, h => exact ⟨fun z => absurd (show ("cell" : Str) ∈ ops from z) (by decide +kernel), fun ⟨_, _, _, z⟩ => by cases z⟩
def isShift (e : Ex) (l : Str) (n : Int) : Prop := ∃ y, e = .op "mod" (.op "+" (.loc l) y) (.num n) ∧ (("local" : Str), l) ∉ y.reads
theorem FitAll.take {n : Nat} : ∀ {ds : List PyData} {k : Nat}, FitAll n ds → FitAll n (ds.take k)
  | [], k, h => by rw [List.take_nil]; exact h
  | d :: ds, 0, _ => .nil
  | d :: ds, k + 1, h => by
    have h' : (pln d && plnAll ds) = true := h.1
    rw [Bool.and_eq_true] at h'
    have h2 := h.2
    rw [PyData.depthAll] at h2
    have h3 := Nat.max_le.mp h2
    exact .cons ⟨h'.1, h3.1⟩ (FitAll.take ⟨h'.2, h3.2⟩)
theorem DpAll.take {K : PySem.W.Frag} {H : Hp} : ∀ {vs : List V} {ds : List PyData} (k : Nat), DpAll K H vs ds → DpAll K H (vs.take k) (ds.take k)
  | _, _, 0, _ => by rw [List.take_zero, List.take_zero]; exact .nil
  | _, _, _ + 1, .nil => .nil
  | _, _, k + 1, .cons h t => .cons h (DpAll.take k t)
theorem DpAll.drop {K : PySem.W.Frag} {H : Hp} : ∀ {vs : List V} {ds : List PyData} (k : Nat), DpAll K H vs ds → DpAll K H (vs.drop k) (ds.drop k)
  | _, _, 0, h => h
  | _, _, _ + 1, .nil => .nil
  | _, _, k + 1, .cons _ t => DpAll.drop k t
theorem rd1_ok {k : Nat} {e : Ex} {p : Str × Str} (h : exF k e) (hp : e.rd1 = some p) : strOk p.1 = true ∧ strOk p.2 = true := by
  match k, e, h with
  | 0, _, h => exact h.elim
  | k + 1, .num n, h => cases hp
  | k + 1, .op o a b, h => cases hp
  | k + 1, .loc x, h => cases hp; exact ⟨strOk_lit.2.1, nm_ok h⟩
  | k + 1, .var x, h => cases hp; exact ⟨strOk_lit.2.2.1, nm_ok h⟩
  | k + 1, .has t x, h => cases hp; exact ⟨(by decide +kernel : strOk "table" = true), nm_ok h.1⟩
  | k + 1, .cell t x, h => cases hp; exact ⟨(by decide +kernel : strOk "table" = true), nm_ok h.1⟩
theorem reads_ok {k : Nat} {e : Ex} (h : exF k e) : ∀ p ∈ e.reads, strOk p.1 = true ∧ strOk p.2 = true := fun p hp => by
  obtain ⟨x, hx, e1⟩ := List.mem_filterMap.mp hp
  exact rd1_ok (Ex.subs_fit h x hx) e1
theorem fit_pl {n : Nat} {p : Str × Str} (h : strOk p.1 = true ∧ strOk p.2 = true) : Fit (n + 1) (plD p) := (FitAll.cons (.str h.1) (.cons (.str h.2) .nil)).tup
theorem fit_pls {n : Nat} {ps : List (Str × Str)} (h : ∀ p ∈ ps, strOk p.1 = true ∧ strOk p.2 = true) : Fit (n + 2) (.list (ps.map plD)) := FitAll.lst (FitAll.of fun d hd => by
  obtain ⟨p, hp, rfl⟩ := List.mem_map.mp hd
  exact fit_pl (h p hp))
theorem any_pl {p : Str × Str} {ps : List (Str × Str)} (hp : strOk p.1 = true ∧ strOk p.2 = true) (h : ∀ p ∈ ps, strOk p.1 = true ∧ strOk p.2 = true) : (((ps.map plD).any fun z => PyData.eqv z (plD p)) = true ↔ p ∈ ps) := by
  rw [List.any_eq_true]
  constructor
  · rintro ⟨z, hz, e⟩
    obtain ⟨q, hq, rfl⟩ := List.mem_map.mp hz
    rw [← plD_inj ((eqv_iff (fit_pl (n := 0) (h q hq)).1 (fit_pl (n := 0) hp).1).mp e)]
    exact hq
  · intro m
    exact ⟨_, List.mem_map.mpr ⟨p, m, rfl⟩, (eqv_iff (fit_pl (n := 0) hp).1 (fit_pl (n := 0) hp).1).mpr rfl⟩
theorem exF_op {k : Nat} {o : Str} {a b : Ex} (h : exF k (.op o a b)) : ∃ j, k = j + 1 ∧ exF j a ∧ exF j b ∧ o ∈ ops := by
  match k, h with
  | j + 1, h => exact ⟨j, rfl, h.2.1, h.2.2, h.1⟩
/-- an expression whose kind is an operator's is that operator -/
theorem kind_is {e : Ex} {o : Str} (h : e.kind = o) (ho : o ∈ ops) : ∃ a b, e = .op o a b := by
  cases e with
  | op p a b => exact ⟨a, b, by rw [show p = o from h]⟩
  | num n => exact absurd (show ("number" : Str) ∈ ops from by rw [show ("number" : Str) = o from h]; exact ho) (by decide +kernel)
  | loc n => exact absurd (show ("local" : Str) ∈ ops from by rw [show ("local" : Str) = o from h]; exact ho) (by decide +kernel)
  | var n => exact absurd (show ("variable" : Str) ∈ ops from by rw [show ("variable" : Str) = o from h]; exact ho) (by decide +kernel)
  | has t n => exact absurd (show ("has" : Str) ∈ ops from by rw [show ("has" : Str) = o from h]; exact ho) (by decide +kernel)
  | cell t n => exact absurd (show ("cell" : Str) ∈ ops from by rw [show ("cell" : Str) = o from h]; exact ho) (by decide +kernel)
/-- a place as a text -/
def usT (p : Str × Str) : Str := p.1 ++ " " ++ p.2
theorem kinds_rd {e : Ex} {p : Str × Str} (h : e.rd1 = some p) : p.1 = "local" ∨ p.1 = "variable" ∨ p.1 = "table" := by
  cases e <;> first | (cases h; simp) | cases h
theorem usT_tl (p : Str × Str) : TL.tl (usT p) = TL.tl p.1 ++ 32 :: TL.tl p.2 := by
  unfold usT
  rw [TL.tl_append, TL.tl_append, show TL.tl " " = [32] from by decide +kernel, List.append_assoc]
  rfl
theorem usT_inj {p : Str × Str} {l : Str} (hk : p.1 = "local" ∨ p.1 = "variable" ∨ p.1 = "table") (h : usT p = usT (("local" : Str), l)) : p = ((("local" : Str), l) : Str × Str) := by
  obtain ⟨k, x⟩ := p
  have h := congrArg TL.tl h
  rw [usT_tl, usT_tl] at h
  have e1 : TL.tl "local" = [108, 111, 99, 97, 108] := by decide +kernel
  have e2 : TL.tl "variable" = [118, 97, 114, 105, 97, 98, 108, 101] := by decide +kernel
  have e3 : TL.tl "table" = [116, 97, 98, 108, 101] := by decide +kernel
  dsimp only at hk h
  rcases hk with hk | hk | hk <;> subst hk
  · rw [e1] at h
    have h : TL.tl x = TL.tl l := by injection h with _ h; injection h with _ h; injection h with _ h; injection h with _ h; injection h with _ h; injection h with _ h
    rw [TL.ext_tl h]
  · rw [e1, e2] at h
    simp at h
  · rw [e1, e3] at h
    simp at h
theorem reads_us {e : Ex} {l : Str} : usT (("local" : Str), l) ∈ e.reads.map usT ↔ (("local" : Str), l) ∈ e.reads := by
  constructor
  · intro h
    obtain ⟨p, hp, e1⟩ := List.mem_map.mp h
    obtain ⟨x, hx, e2⟩ := List.mem_filterMap.mp hp
    rw [← usT_inj (kinds_rd e2) e1]
    exact hp
  · intro h
    exact List.mem_map.mpr ⟨_, h, rfl⟩
theorem reads_len {k : Nat} {e : Ex} (h : exF k e) (hk : k ≤ 12) : e.reads.length ≤ 4096 := by
  have h1 := Ex.subs_len h
  have h2 := List.length_filterMap_le Ex.rd1 e.subs
  have h3 : (2 : Nat) ^ k ≤ 2 ^ 12 := Nat.pow_le_pow_right (by decide) hk
  have h4 : (2 : Nat) ^ 12 = 4096 := by decide
  unfold Ex.reads
  omega
theorem reads_op {o : Str} {a b : Ex} : (Ex.op o a b).reads = a.reads ++ b.reads := by
  unfold Ex.reads
  rw [show (Ex.op o a b).subs = .op o a b :: (a.subs ++ b.subs) from rfl, List.filterMap_cons_none rfl, List.filterMap_append]
theorem reads_has {t : Str} {a : Ex} : (Ex.has t a).reads = (("table" : Str), t) :: a.reads := by
  unfold Ex.reads
  rw [show (Ex.has t a).subs = .has t a :: a.subs from rfl]
  exact List.filterMap_cons_some (f := Ex.rd1) (b := (("table" : Str), t)) rfl
theorem reads_cell {t : Str} {a : Ex} : (Ex.cell t a).reads = (("table" : Str), t) :: a.reads := by
  unfold Ex.reads
  rw [show (Ex.cell t a).subs = .cell t a :: a.subs from rfl]
  exact List.filterMap_cons_some (f := Ex.rd1) (b := (("table" : Str), t)) rfl
/-- another block and other locals in the procedure with a name -/
def Ga.setB (G : Ga) (n : Str) (locs : List Str) (b : Blk) : Ga := { G with procs := G.procs.map fun q => if q.name = n then { q with locs := locs, block := b } else q }
end Gm
set_option Elab.async false
set_option linter.all false
set_option maxRecDepth 100000
set_option maxHeartbeats 4000000
/-! Games whose procedures are changed; picks; the rest of a suite stated once. -/
namespace Gm
open PySem L2
open PyData (strOk)
theorem pick_ix {vs : List V} {r : Int} (h : 0 < vs.length) : ∃ (i : Nat) (v : V), vs[i]? = some v ∧ atI vs (r % ((vs.length : Nat) : Int)) = some v := by
  have h0 := Int.emod_nonneg r (by omega : (vs.length : Int) ≠ 0)
  have h1 := Int.emod_lt_of_pos r (by omega : (0 : Int) < vs.length)
  have hk : (r % (vs.length : Int)).toNat < vs.length := by omega
  exact ⟨_, _, List.getElem?_eq_getElem hk, at_of (j := (r % (vs.length : Int)).toNat) (by omega) (List.getElem?_eq_getElem hk)⟩
theorem if_and {c d : Bool} {A : Prop} {Q : VK} {H : Hp} (hA : Q (.bl d) H → A) (h : Q (.bl (c && d)) H) : if c = true then A else Q (.bl false) H := by
  cases c
  · exact iteF2 rfl h
  · exact iteT2 rfl (hA h)
/-- the rest behind an assignment, stated once -/
theorem asg_k {te : TE} {g : TG} {v : TS} {D : Ends} {σ : L2.St} {H : Hp} (I : V → Hp → Prop) (rest : ∀ x H', I x H' → g x σ H' (v D)) (h : (∀ x H', I x H' → g x σ H' (v D)) → te σ H fun x H' => g x σ H' (v D)) : tSeq (tAsg te g) v D σ H := h rest
/-- the rest behind an if, stated once -/
theorem seq_k {c : TT} {t u v : TS} {D : Ends} {σ : L2.St} {H : Hp} (I : L2.St → Hp → Prop) (rest : ∀ σ H, I σ H → v D σ H) (h : (∀ σ H, I σ H → v D σ H) → tSeq (tIfS c t u) v D σ H) : tSeq (tIfS c t u) v D σ H := h rest
/-- a name is given its value -/
theorem gn {i : Nat} {v : V} {σ : L2.St} {H : Hp} {Q : L2.St → Hp → Prop} (h : Q (σ.set i (some v)) H) : gName i v σ H Q := h
/-- the rest, from what is known -/
theorem rest_k {v : TS} {D : Ends} {σ : L2.St} {H : Hp} (I : L2.St → Hp → Prop) (rest : ∀ σ H, I σ H → v D σ H) (h : I σ H) : v D σ H := rest σ H h
theorem ScN.ofGa {g : Ga} (h : GaOk g) {q : Pr} (hq : q ∈ g.procs) : ScN (g.sc q.locs []) := by
  have v : ∀ x ∈ g.vars.map (·.1), nmB x = true := fun x hx => by
    rcases h.vars with e | e | e <;> rw [e] at hx <;> exact all_nm (by decide +kernel) x hx
  have t : ∀ x ∈ g.tabs.map (·.1), nmB x = true := fun x hx => by
    rcases h.tabs with e | e | e <;> rw [e] at hx <;> exact all_nm (by decide +kernel) x hx
  have o : ∀ x ∈ g.lots.map (·.1), nmB x = true := fun x hx => by
    rcases h.lots with e | e | e <;> rw [e] at hx <;> exact all_nm (by decide +kernel) x hx
  have l : ∀ x ∈ q.locs, nmB x = true := fun x hx => by
    rcases (h.proc q hq).locs with e | e <;> rw [e] at hx <;> exact all_nm (by decide +kernel) x hx
  exact ⟨l, v, t, o, fun x h => nomatch h⟩
/-! ### names of procedures -/
/-- no two procedures have one name -/
def Uniq (ps : List Pr) : Prop := ∀ p ∈ ps, ∀ q ∈ ps, p.name = q.name → p = q
theorem Uniq.of {ps : List Pr} (h : (ps.map (·.name)).Nodup) : Uniq ps := by
  induction ps with
  | nil => intro p hp; cases hp
  | cons a ps ih =>
    rw [List.map_cons, List.nodup_cons] at h
    intro p hp q hq e
    rcases List.mem_cons.mp hp with e1 | hp' <;> rcases List.mem_cons.mp hq with e2 | hq'
    · rw [e1, e2]
    · exact (h.1 (List.mem_map.mpr ⟨q, hq', by rw [← e, e1]⟩)).elim
    · exact (h.1 (List.mem_map.mpr ⟨p, hp', by rw [e, e2]⟩)).elim
    · exact ih h.2 p hp' q hq' e
theorem Uniq.ofOk {g : Ga} (h : GaOk g) : Uniq g.procs := by
  refine Uniq.of ?_
  rcases h.procs with e | e <;> rw [e] <;> decide +kernel
theorem Uniq.proc {G : Ga} (h : Uniq G.procs) {p : Pr} (hp : p ∈ G.procs) : G.proc p.name = some p := by
  cases e : G.proc p.name with
  | none =>
    have := List.find?_eq_none.mp e p hp
    simp at this
  | some q =>
    have hq := Ga.proc_mem e
    rw [h q hq.1 p hp hq.2]
/-- the procedures, each in a new form that keeps its name -/
theorem find_map {ps : List Pr} {f : Pr → Pr} (hf : ∀ p, (f p).name = p.name) (n : Str) : (ps.map f).find? (fun p => decide (p.name = n)) = (ps.find? fun p => decide (p.name = n)).map f := by
  induction ps with
  | nil => rfl
  | cons a ps ih =>
    rw [List.map_cons, List.find?_cons, List.find?_cons, hf a, ih]
    by_cases h : a.name = n
    · rw [decide_eq_true h]
      rfl
    · rw [decide_eq_false h]
theorem Uniq.map {ps : List Pr} {f : Pr → Pr} (hf : ∀ p, (f p).name = p.name) (h : Uniq ps) : Uniq (ps.map f) := by
  intro p hp q hq e
  obtain ⟨a, ha, rfl⟩ := List.mem_map.mp hp
  obtain ⟨b, hb, rfl⟩ := List.mem_map.mp hq
  rw [hf, hf] at e
  rw [h a ha b hb e]
theorem setB_name {n : Str} {locs : List Str} {b : Blk} (q : Pr) : (if q.name = n then { q with locs := locs, block := b } else q : Pr).name = q.name := by
  by_cases h : q.name = n
  · rw [if_pos h]
  · rw [if_neg h]
theorem setB_proc {G : Ga} {p : Pr} {locs : List Str} {b : Blk} (h : Uniq G.procs) (hp : p ∈ G.procs) : (G.setB p.name locs b).proc p.name = some { p with locs := locs, block := b } := by
  unfold Ga.setB Ga.proc
  dsimp only
  rw [find_map setB_name, show G.procs.find? (fun q => decide (q.name = p.name)) = some p from h.proc hp, Option.map_some, if_pos rfl]
theorem setB_uniq {G : Ga} {n : Str} {locs : List Str} {b : Blk} (h : Uniq G.procs) : Uniq (G.setB n locs b).procs := Uniq.map setB_name h
theorem setB_none {G : Ga} {n m : Str} {locs : List Str} {b : Blk} (h : G.proc m = none) : (G.setB n locs b).proc m = none := by
  unfold Ga.setB Ga.proc
  dsimp only
  rw [find_map setB_name, show G.procs.find? (fun q => decide (q.name = m)) = none from h]
  rfl
/-- a new block in a procedure: put and setB are one -/
theorem put_setB {G : Ga} {p : Pr} {b : Blk} (h : Uniq G.procs) (hp : p ∈ G.procs) : G.put { p with block := b } = G.setB p.name p.locs b := by
  refine Ga.ext rfl rfl rfl ?_
  show G.procs.map _ = G.procs.map _
  refine List.map_congr_left fun q hq => ?_
  by_cases e : q.name = p.name
  · rw [if_pos e, if_pos e, h q hq p hp e]
  · rw [if_neg e, if_neg e]
theorem setB_setB {G : Ga} {n : Str} {l1 l2 : List Str} {b1 b2 : Blk} : (G.setB n l1 b1).setB n l2 b2 = G.setB n l2 b2 := by
  refine Ga.ext rfl rfl rfl ?_
  show (G.procs.map _).map _ = G.procs.map _
  rw [List.map_map]
  refine List.map_congr_left fun q hq => ?_
  by_cases e : q.name = n <;> simp [e]
/-! ### sizes -/
structure GaSz (G : Ga) : Prop where
  n : G.procs.length ≤ 1000
  b : ∀ p ∈ G.procs, blF 12 12 p.block ∧ p.block.l.length ≤ 900
theorem PrF_.mono {k d j e : Nat} {p : Pr} (h : PrF_ k d p) (hk : k ≤ j) (hd : d ≤ e) : PrF_ j e p := ⟨h.name, h.locs, blF.mono hk h.block hd, h.res.mono hk⟩
theorem GaF.mono {k d j e : Nat} {G : Ga} (h : GaF k d G) (hk : k ≤ j) (hd : d ≤ e) : GaF j e G := ⟨h.vars, h.tabs, h.lots, fun p hp => (h.procs p hp).mono hk hd⟩
theorem GaF.setB {k d : Nat} {G : Ga} {n : Str} {locs : List Str} {b : Blk} (h : GaF k d G) (hl : ∀ x ∈ locs, nmB x = true) (hb : blF k d b) : GaF k d (G.setB n locs b) := by
  refine ⟨h.vars, h.tabs, h.lots, fun q hq => ?_⟩
  obtain ⟨p, hp, rfl⟩ := List.mem_map.mp hq
  have f := h.procs p hp
  by_cases e : p.name = n
  · rw [if_pos e]
    exact ⟨f.name, hl, hb, f.res⟩
  · rw [if_neg e]
    exact f
theorem ga_sizes {g : Ga} (h : GaOk g) : g.procs.length ≤ 2 ∧ 0 < g.procs.length := by
  have := congrArg List.length (show g.procs.map (·.name) = g.procs.map (·.name) from rfl)
  rcases h.procs with e | e
  · have := congrArg List.length e
    rw [List.length_map] at this
    rw [this]
    decide
  · have := congrArg List.length e
    rw [List.length_map] at this
    rw [this]
    decide
theorem GaSz.setB {G : Ga} {n : Str} {locs : List Str} {b : Blk} (h : GaSz G) (hb : blF 12 12 b) (hl : b.l.length ≤ 900) : GaSz (G.setB n locs b) := by
  refine ⟨by show (G.procs.map _).length ≤ 1000; rw [List.length_map]; exact h.n, fun q hq => ?_⟩
  obtain ⟨p, hp, rfl⟩ := List.mem_map.mp hq
  by_cases e : p.name = n
  · rw [if_pos e]
    exact ⟨hb, hl⟩
  · rw [if_neg e]
    exact h.b p hp
theorem GaSz.ofOk {g : Ga} (h : GaOk g) : GaSz g := by
  have s := ga_sizes h
  refine ⟨by omega, fun p hp => ?_⟩
  have f := (GaF.ofOk h).procs p hp
  have l := (h.proc p hp).len
  refine ⟨blF.mono (by decide) f.block (by decide), ?_⟩
  rw [Blk.len_l]
  omega
theorem proc_no {g : Ga} (h : GaOk g) {n : Str} (hn : n ≠ "p" ∧ n ≠ "r") : g.proc n = none := by
  refine find_no fun q hq => ?_
  have : q.name ∈ g.procs.map (·.name) := List.mem_map.mpr ⟨q, hq, rfl⟩
  intro e
  rw [e] at this
  rcases h.procs with z | z <;> rw [z] at this <;> simp [hn.1, hn.2] at this
/-! ### names of rows -/
theorem trip_at {K : PySem.W.Frag} {H : Hp} {ts : List (Str × Int × Int)} {xs : List V} (dd : DpAll K H xs (ts.map trip)) {i : Nat} {x : V} (hx : xs[i]? = some x) : ∃ (t : Str × Int × Int) (b : Addr), ts[i]? = some t ∧ x = .ref b ∧ SqT K H b [.str t.1, .int t.2.1, .int t.2.2] := by
  have hi := (List.getElem?_eq_some_iff.mp hx).1
  have lx : xs.length = ts.length := (DpAll.len dd).trans (List.length_map _)
  obtain ⟨t, et⟩ : ∃ t, ts[i]? = some t := ⟨ts[i]'(lx ▸ hi), List.getElem?_eq_getElem _⟩
  obtain ⟨v', ev, dt⟩ := DpAll.get dd (show (ts.map trip)[i]? = some (trip t) by rw [List.getElem?_map, et]; rfl)
  rw [hx] at ev
  cases ev
  obtain ⟨b, rfl, hb⟩ := trip_inv dt
  exact ⟨t, b, et, rfl, hb⟩
theorem names_next {ts : List (Str × Int × Int)} {i : Nat} {t : Str × Int × Int} (et : ts[i]? = some t) : ((ts.map (·.1)).take (i + 1)).map V.str = ((ts.map (·.1)).take i).map V.str ++ [V.str t.1] := by
  have e1 : (ts.map (·.1))[i]? = some t.1 := by rw [List.getElem?_map, et]; rfl
  rw [take_more e1, List.map_append]
  rfl
theorem names_all {K : PySem.W.Frag} {H : Hp} {ts : List (Str × Int × Int)} {xs : List V} (dd : DpAll K H xs (ts.map trip)) : (ts.map (·.1)).take xs.length = ts.map (·.1) := by
  have lx : xs.length = ts.length := (DpAll.len dd).trans (List.length_map _)
  rw [lx, ← List.length_map (f := (·.1)), List.take_length]
theorem names_len {ts : List (Str × Int × Int)} (h : ts.length ≤ 1000) (i : Nat) : (((ts.map (·.1)).take i).map V.str).length < sizeLine := by
  rw [List.length_map]
  exact Nat.lt_of_le_of_lt (Nat.le_trans (List.length_take_le' _ _) (by rw [List.length_map]; exact h)) (by decide)
theorem put_setL {G : Ga} {p : Pr} {b : Blk} {locs : List Str} (h : Uniq G.procs) (hp : p ∈ G.procs) : G.put { p with locs := locs, block := b } = G.setB p.name locs b := by
  refine Ga.ext rfl rfl rfl ?_
  show G.procs.map _ = G.procs.map _
  refine List.map_congr_left fun q hq => ?_
  by_cases e : q.name = p.name
  · rw [if_pos e, if_pos e, h q hq p hp e]
  · rw [if_neg e, if_neg e]
/-- the block that the law writes -/
def newB (b : Blk) (at_ : Nat) (s t : Stm) : Blk := Blk.of (b.l.take at_ ++ [s, t] ++ b.l.drop at_)
theorem newB_l (b : Blk) (at_ : Nat) (s t : Stm) : (newB b at_ s t).l = b.l.take at_ ++ [s, t] ++ b.l.drop at_ := Blk.l_of _
theorem newB_at {b : Blk} {at_ : Nat} {s t : Stm} (h : at_ ≤ b.l.length) : (newB b at_ s t).l[at_]? = some s ∧ (newB b at_ s t).l[at_ + 1]? = some t := by
  rw [newB_l]
  have hl : (b.l.take at_).length = at_ := by rw [List.length_take, Nat.min_eq_left h]
  constructor
  · rw [List.append_assoc, List.getElem?_append_right (by omega), hl, Nat.sub_self]
    rfl
  · rw [List.append_assoc, List.getElem?_append_right (by omega), hl, Nat.add_sub_cancel_left]
    rfl
theorem newB_len {b : Blk} {at_ : Nat} {s t : Stm} (h : at_ ≤ b.l.length) : (newB b at_ s t).l.length = b.l.length + 2 := by
  rw [newB_l]
  simp only [List.length_append, List.length_take, List.length_drop, List.length_cons, List.length_nil]
  omega
theorem newB_fit {b : Blk} {at_ : Nat} {s t : Stm} {k d : Nat} (hb : blF k d b) (hs : stF k d s) (ht : stF k d t) : blF k d (newB b at_ s t) := by
  refine blF.of fun x hx => ?_
  rcases List.mem_append.mp hx with hx | hx
  · rcases List.mem_append.mp hx with hx | hx
    · exact blF.l hb x (List.mem_of_mem_take hx)
    · simp only [List.mem_cons, List.not_mem_nil, or_false] at hx
      rcases hx with rfl | rfl
      · exact hs
      · exact ht
  · exact blF.l hb x (List.mem_of_mem_drop hx)
theorem cut_some (xs : List V) (j k : Nat) : cutV xs (some (j : Int)) (some (k : Int)) = (xs.take k).drop j := by
  unfold cutV
  have e1 : HT.sIx xs.length 0 (some (j : Int)) = min j xs.length := by
    have : ¬ ((j : Int) < 0) := by omega
    simp [HT.sIx, this]
    try omega
  have e2 : HT.sIx xs.length xs.length (some (k : Int)) = min k xs.length := by
    have : ¬ ((k : Int) < 0) := by omega
    simp [HT.sIx, this]
    try omega
  rw [e1, e2]
  apply List.ext_getElem?
  intro n
  simp only [List.getElem?_take, List.getElem?_drop]
  by_cases h : j ≤ xs.length
  · rw [Nat.min_eq_left h]
    by_cases h2 : j + n < k
    · rw [if_pos h2]
      by_cases h3 : n < min k xs.length - j
      · rw [if_pos h3]
      · rw [if_neg h3, List.getElem?_eq_none (by omega)]
    · rw [if_neg h2, if_neg (by omega)]
  · rw [if_neg (by omega)]
    split
    · rw [List.getElem?_eq_none (by omega)]
    · rfl
/-- a game of the laws, whose procedures may have been changed -/
structure GI (G : Ga) : Prop where
  s : GaSz G
  f : GaF 11 11 G
  u : Uniq G.procs
  g : ∀ p ∈ G.procs, ("g" : Str) ∈ p.locs
  v : G.vars.length ≤ 10
theorem GI.ofOk {G : Ga} (h : GaOk G) : GI G := by
  refine ⟨.ofOk h, (GaF.ofOk h).mono (by decide) (by decide), .ofOk h, fun p hp => ?_, ?_⟩
  · rcases (h.proc p hp).locs with e | e <;> rw [e] <;> exact List.mem_cons_self ..
  · have : (G.vars.map (·.1)).length ≤ 2 := by rcases h.vars with e | e | e <;> rw [e] <;> decide
    rw [List.length_map] at this
    omega
end Gm
set_option Elab.async false
set_option linter.all false
set_option maxRecDepth 100000
set_option maxHeartbeats 4000000
namespace Toy
open PySem L2 NdefX Gm
open Mine hiding same_new
theorem units65 {k : Nat} {A : Around} (hr : Room k A) : A.units + 65 < cLine := by have := hr.un; omega
/-- a step in the heap: its parts -/
def StA (K : PySem.W.Frag) (H : Hp) (v : V) (xs : List V) : Prop := ∃ a : Addr, v = .ref a ∧ SqT K H a xs
theorem StA.same {K : PySem.W.Frag} {H H' : Hp} {v : V} {xs : List V} (h : StA K H v xs) (s : Same H H') : StA K H' v xs := let ⟨a, e, h⟩ := h; ⟨a, e, sqT_mono s h⟩
/-- BadStep with a rule goes out -/
def Rf (B : Addr) (r : Str) (H : Hp) (E : XK) : Prop := ∀ (d : Addr) (H' : Hp), Same H H' → H' d = some (.xd [("rule", .str r)]) → E (.ref B) (some d) H'
theorem Rf.same {B : Addr} {r : Str} {H H' : Hp} {E : XK} (h : Rf B r H E) (s : Same H H') : Rf B r H' E := fun d H2 m e => h d H2 (s.trans m) e
def spGInit (C : Addr) : Sp := fun vs H Q _ => ∃ (p dx : Addr) (a b c d : V), vs = [.ref p, a, b, c, d] ∧ H p = some (.ins C dx []) ∧ ∀ H', H' p = some (.ins C dx (gf a b c d)) → (∀ x o, H x = some o → x ≠ p → H' x = some o) → Q .non H'
def spGEq (K : PySem.W.Frag) (C : Addr) : Sp := fun vs H Q _ => ∃ (g h : Addr) (G F : Ga) (k d k' d' : Nat), vs = [.ref g, .ref h] ∧ GmD K C H g G ∧ GmD K C H h F ∧ GaF k d G ∧ GaF k' d' F ∧ k + 2 * d ≤ 59 ∧ k' + 2 * d' ≤ 59 ∧ ∀ b : Bool, (b = true ↔ G = F) → Q (.bl b) H
def spGProc (K : PySem.W.Frag) (C : Addr) : Sp := fun vs H Q _ => ∃ (g : Addr) (n : Str) (G : Ga), vs = [.ref g, .str n] ∧ GmD K C H g G ∧ (∀ p, G.proc n = some p → ∀ u, Dp K H u p.d → Q u H) ∧ (G.proc n = none → Q .non H)
def spReq (K : PySem.W.Frag) (B : Addr) : Sp := fun vs H Q E => ∃ (b : Bool) (v : V) (r : Str) (rest : List V), vs = [.bl b, v] ∧ StA K H v (.str r :: rest) ∧ r.length ≤ 1000 ∧ (b = true → Q .non H) ∧ (b = false → Rf B r H E)
def spProcOf (K : PySem.W.Frag) (C B : Addr) : Sp := fun vs H Q E => ∃ (g : Addr) (v : V) (G : Ga) (r n : Str) (rest : List V), vs = [.ref g, v] ∧ GmD K C H g G ∧ StA K H v (.str r :: .str n :: rest) ∧ r.length ≤ 1000 ∧
  (∀ p, G.proc n = some p → ∀ u, Dp K H u p.d → Q u H) ∧ (G.proc n = none → Rf B r H E)
def spStmOf (K : PySem.W.Frag) (C B : Addr) : Sp := fun vs H Q E => ∃ (g : Addr) (v : V) (G : Ga) (r n : Str) (k : Int) (rest : List V), vs = [.ref g, v] ∧ GmD K C H g G ∧ StA K H v (.str r :: .str n :: .int k :: rest) ∧ r.length ≤ 1000 ∧
  (∀ p j s, Ga.At G n k p j s → ∀ (t : Addr) (u z : V) (H' : Hp), Same H H' → SqT K H' t [u, z] → Dp K H' u p.d → Dp K H' z s.d → Q (.ref t) H') ∧ ((∀ p j s, ¬ Ga.At G n k p j s) → Rf B r H E)
def spPairOf (K : PySem.W.Frag) (C B : Addr) : Sp := fun vs H Q E => ∃ (g : Addr) (v : V) (G : Ga) (r n : Str) (k : Int) (rest : List V), vs = [.ref g, v] ∧ GmD K C H g G ∧ StA K H v (.str r :: .str n :: .int k :: rest) ∧ r.length ≤ 1000 ∧
  (∀ p j s s', Ga.At G n k p j s → p.block.l[j + 1]? = some s' → ∀ (t : Addr) (u z y : V) (H' : Hp), Same H H' → SqT K H' t [u, z, y] → Dp K H' u p.d → Dp K H' z s.d → Dp K H' y s'.d → Q (.ref t) H') ∧
  ((∀ p j s s', ¬ (Ga.At G n k p j s ∧ p.block.l[j + 1]? = some s')) → Rf B r H E)
def spWith (K : PySem.W.Frag) (C : Addr) : Sp := fun vs H Q _ => ∃ (g : Addr) (v : V) (G : Ga) (p : Pr), vs = [.ref g, v] ∧ GmD K C H g G ∧ Dp K H v p.d ∧ G.procs.length ≤ 1000 ∧ ∀ (g' : Addr) (H' : Hp), Same H H' → GmD K C H' g' (G.put p) → Q (.ref g') H'
def spRepl (K : PySem.W.Frag) (C : Addr) : Sp := fun vs H Q _ => ∃ (g : Addr) (v u : V) (at_ many : Nat) (G : Ga) (p : Pr) (ss : List Stm), vs = [.ref g, v, .int (at_ : Int), .int (many : Int), u] ∧ GmD K C H g G ∧ Dp K H v p.d ∧ Dp K H u (.tuple (ss.map Stm.d)) ∧ G.procs.length ≤ 1000 ∧ p.block.l.length + ss.length ≤ 1000 ∧
  ∀ (g' : Addr) (H' : Hp), Same H H' → GmD K C H' g' (G.put (p.repl at_ many ss)) → Q (.ref g') H'
section
variable {P : Program} {w : World} {K : PySem.W.Frag} {mg : Str → Option Value} {base : Heap} {file : Str}
theorem ok_ginit (T : Txt K mg file) : FnOk P w K mg base CX0 1 T.a_Game_init T.fd_Game_init ["self", "variables", "tables", "lots", "procs"] (spGInit T.C_Game) := by
  refine T.F_Game_init.ok sc_Game_init (fun vs H Q E h => ?_) (fun cdv A outer s H vs Q E hr h => ?_)
  · obtain ⟨p, dx, a, b, c, d, rfl, _⟩ := h
    rfl
  obtain ⟨p, dx, a, b, c, d, rfl, hp, k⟩ := h
  refine ⟨_, (pss_cons (ps_fld (pv 0) (pv 1) rfl)
    (pss_cons (ps_fld (pv 0) (pv 2) rfl)
    (pss_cons (ps_fld (pv 0) (pv 3) rfl)
    (pss_one (ps_fld (pv 0) (pv 4) rfl))))), ?_⟩
  refine ⟨_, rfl, _, rfl, p, T.C_Game, dx, [], rfl, hp, T.cl_Game, T.na_Game_variables, (by show 0 < 1000; decide), ?_⟩
  refine ⟨_, rfl, _, rfl, p, T.C_Game, dx, _, rfl, upd_same, T.cl_Game, T.na_Game_tables, (by show 1 < 1000; decide), ?_⟩
  refine ⟨_, rfl, _, rfl, p, T.C_Game, dx, _, rfl, upd_same, T.cl_Game, T.na_Game_lots, (by show 2 < 1000; decide), ?_⟩
  refine ⟨_, rfl, _, rfl, p, T.C_Game, dx, _, rfl, upd_same, T.cl_Game, T.na_Game_procs, (by show 3 < 1000; decide), ?_⟩
  refine k _ upd_same fun x o e hx => ?_
  rw [upd_ne hx, upd_ne hx, upd_ne hx, upd_ne hx]
  exact e
theorem fit64 {n : Nat} {d : PyData} (h : Fit n d) (l : n ≤ 64) : SeqAt.shaped d = true := h.shaped l
theorem ok_geq (T : Txt K mg file) : FnOk P w K mg base CX0 1 T.a_Game_eq T.fd_Game_eq ["self", "other"] (spGEq K T.C_Game) := by
  refine T.F_Game_eq.ok sc_Game_eq (fun vs H Q E h => ?_) (fun cdv A outer s H vs Q E hr h => ?_)
  · obtain ⟨g, h, G, F, k, d, k', d', rfl, _⟩ := h
    rfl
  obtain ⟨g, h, G, F, k, d, k', d', rfl, ⟨dx, a1, a2, a3, a4, hg, ga1, ga2, ga3, ga4⟩, ⟨dy, b1, b2, b3, b4, hh, gb1, gb2, gb3, gb4⟩, fG, fF, l1, l2, q⟩ := h
  refine ⟨_, (pss_one (ps_ret (pe_and (pe_callB call_isi (by rfl) T.z_isinstance (by decide +kernel) (pa_cons (pv 1) (pa_cons (pe_glob (v := .ref T.C_Game) rfl T.g_Game rfl) pa_nil))) (pe_and (pe_cmpR (op_eqD hr.units) (pe_fld (pv 0) rfl) (pe_fld (pv 1) rfl) (nomark _)) (pe_and (pe_cmpR (op_eqD hr.units) (pe_fld (pv 0) rfl) (pe_fld (pv 1) rfl) (nomark _)) (pe_and (pe_cmpR (op_eqD hr.units) (pe_fld (pv 0) rfl) (pe_fld (pv 1) rfl) (nomark _)) (pe_one (pe_cmpR (op_eqD hr.units) (pe_fld (pv 0) rfl) (pe_fld (pv 1) rfl) (nomark _))))))))), ?_⟩
  refine ⟨_, rfl, _, _, _, _, true, rfl, .own _, .base (.ins hh T.cl_Game T.ia_Game T.o_n T.o_t T.im_Game), T.ik_Game, true, rfl, iteT ?_⟩
  have c1 := fit_trips (n := 0) fG.vars
  have c2 := fit_trips (n := 0) fG.tabs
  have c3 := fit_trips (n := 0) fG.lots
  have c4 := fit_procs fG.procs
  have e1 := fit_trips (n := 0) fF.vars
  have e2 := fit_trips (n := 0) fF.tabs
  have e3 := fit_trips (n := 0) fF.lots
  have e4 := fit_procs fF.procs
  refine ⟨_, rfl, g, _, dx, _, _, rfl, hg, T.cl_Game, T.na_Game_variables, gf_variables _ _ _ _, _, rfl, h, _, dy, _, _, rfl, hh, T.cl_Game, T.na_Game_variables, gf_variables _ _ _ _, ?_⟩
  refine ⟨_, _, ga1, gb1, fit64 c1 (by omega), fit64 e1 (by omega), _, rfl, ?_⟩
  by_cases z1 : G.vars = F.vars
  case neg => exact ite_no (fun z => z1 (trips_inj ((eqv_iff c1.1 e1.1).mp z))) (q _ ⟨fun z => Bool.noConfusion z, fun z => absurd (congrArg Ga.vars z) z1⟩)
  refine ite_yes ((eqv_iff c1.1 e1.1).mpr (by rw [z1])) ?_
  refine ⟨_, rfl, g, _, dx, _, _, rfl, hg, T.cl_Game, T.na_Game_tables, gf_tables _ _ _ _, _, rfl, h, _, dy, _, _, rfl, hh, T.cl_Game, T.na_Game_tables, gf_tables _ _ _ _, ?_⟩
  refine ⟨_, _, ga2, gb2, fit64 c2 (by omega), fit64 e2 (by omega), _, rfl, ?_⟩
  by_cases z2 : G.tabs = F.tabs
  case neg => exact ite_no (fun z => z2 (trips_inj ((eqv_iff c2.1 e2.1).mp z))) (q _ ⟨fun z => Bool.noConfusion z, fun z => absurd (congrArg Ga.tabs z) z2⟩)
  refine ite_yes ((eqv_iff c2.1 e2.1).mpr (by rw [z2])) ?_
  refine ⟨_, rfl, g, _, dx, _, _, rfl, hg, T.cl_Game, T.na_Game_lots, gf_lots _ _ _ _, _, rfl, h, _, dy, _, _, rfl, hh, T.cl_Game, T.na_Game_lots, gf_lots _ _ _ _, ?_⟩
  refine ⟨_, _, ga3, gb3, fit64 c3 (by omega), fit64 e3 (by omega), _, rfl, ?_⟩
  by_cases z3 : G.lots = F.lots
  case neg => exact ite_no (fun z => z3 (trips_inj ((eqv_iff c3.1 e3.1).mp z))) (q _ ⟨fun z => Bool.noConfusion z, fun z => absurd (congrArg Ga.lots z) z3⟩)
  refine ite_yes ((eqv_iff c3.1 e3.1).mpr (by rw [z3])) ?_
  refine ⟨_, rfl, g, _, dx, _, _, rfl, hg, T.cl_Game, T.na_Game_procs, gf_procs _ _ _ _, _, rfl, h, _, dy, _, _, rfl, hh, T.cl_Game, T.na_Game_procs, gf_procs _ _ _ _, ?_⟩
  refine ⟨_, _, ga4, gb4, fit64 c4 (by omega), fit64 e4 (by omega), q _ ?_⟩
  refine (eqv_iff c4.1 e4.1).trans ⟨fun z => Ga.ext z1 z2 z3 (procs_inj z), fun z => by rw [z]⟩
theorem ok_gproc (T : Txt K mg file) : FnOk P w K mg base CX0 1 T.a_Game_proc T.fd_Game_proc ["self", "name"] (spGProc K T.C_Game) := by
  refine T.F_Game_proc.ok sc_Game_proc (fun vs H Q E h => ?_) (fun cdv A outer s H vs Q E hr h => ?_)
  · obtain ⟨g, n, G, rfl, _⟩ := h
    rfl
  obtain ⟨g, n, G, rfl, ⟨dx, a, b, c, d, hg, _, _, _, dd⟩, k1, k0⟩ := h
  obtain ⟨pa, xs, rfl, hpa, dxs⟩ := dp_inv dd
  have lx : xs.length = G.procs.length := (DpAll.len dxs).trans (List.length_map _)
  refine ⟨_, (pss_cons (ps_for PassesOwn.never rfl (pi_tup (pe_fld (pv 0) rfl)) (pg_name (i := 2) sc_Game_proc.nd rfl (Or.inl rfl))
      (pss_one (ps_if (pt_cmpR op_eq (pe_ix ix_tup (pv 2) pe_int (fun _ _ => rfl)) (pv 1) (nomark _))
      (pss_one (ps_ret (pv 2)))
      pss_nil)))
    (pss_one (ps_ret pe_non))), ?_⟩
  refine ⟨_, rfl, g, _, dx, _, _, rfl, hg, T.cl_Game, T.na_Game_procs, gf_procs _ _ _ _, pa, rfl, ⟨_, hpa⟩, ?_⟩
  refine for_tup (K := K) (a := pa) (xs := xs) (fun i σ H' => H' = H ∧ (∃ y, σ = [some (.ref g), some (.str n), y]) ∧ ∀ q ∈ G.procs.take i, q.name ≠ n) ⟨rfl, ⟨none, rfl⟩, by simp⟩ (fun i σ H' _ h => by rw [h.1]; exact hpa) ?_ ?_
  · rintro i v σ H' hv ⟨rfl, ⟨y, rfl⟩, hn⟩
    have hi := (List.getElem?_eq_some_iff.mp hv).1
    obtain ⟨p, ep⟩ : ∃ p, G.procs[i]? = some p := ⟨G.procs[i]'(lx ▸ hi), List.getElem?_eq_getElem _⟩
    obtain ⟨v', ev, dv⟩ := DpAll.get dxs (show (G.procs.map Pr.d)[i]? = some p.d by rw [List.getElem?_map, ep]; rfl)
    rw [hv] at ev
    cases ev
    have dv0 := dv
    obtain ⟨t, la, ba, r, bs, rfl, ht, _⟩ := pr_inv dv
    refine ⟨_, rfl, t, _, 0, V.str p.name, rfl, rfl, ht, atI_nat (j := 0) rfl, _, rfl, rfl, _, rfl, ite2 (fun z => ?_) (fun z => ?_)⟩
    · have z' : p.name = n := V.str.inj (of_decide_eq_true z)
      exact ⟨_, rfl, k1 p (find_at hn ep z') _ dv0⟩
    · have z' : ¬ p.name = n := fun y => z (decide_eq_true (congrArg V.str y))
      refine ⟨rfl, ⟨_, rfl⟩, ?_⟩
      rw [take_more ep]
      intro q hq
      rcases List.mem_append.mp hq with hq | hq
      · exact hn q hq
      · rw [List.mem_singleton.mp hq]
        exact z'
  · rintro σ H' ⟨rfl, ⟨y, rfl⟩, hn⟩
    rw [lx, List.take_length] at hn
    exact k0 (find_no hn)
theorem ok_require (hP : PrF P file) (T : Txt K mg file) : FnOk P w K mg base (L2.CX P w) 3 T.a_require T.fd_require ["holds", "step"] (spReq K T.C_BadStep) := by
  refine T.F_require.okX sc_require (fun vs H Q E h => ?_) (fun cdv A outer s H vs Q E hr h => ?_)
  · obtain ⟨b, v, r, rest, rfl, _⟩ := h
    rfl
  obtain ⟨b, v, r, rest, rfl, ⟨a, rfl, ha⟩, hr1, q1, q2⟩ := h
  refine ⟨_, (pss_one (ps_if (pt_not (pt_val (pv 0)))
      (pss_one (ps_raise rfl (takes_of rfl rfl rfl rfl) (pmk_err T.E_BadStep (err_BadStep (k := 0) T.E_BadStep hP) T.b_BadStep_init (hr.mono (by decide)) rfl T.g_BadStep (pa_cons (pe_ix ix_tup (pv 1) pe_int (fun _ _ => rfl)) pa_nil))))
      pss_nil)), ?_⟩
  cases b with
  | true => exact ⟨_, rfl, true, rfl, iteF (q1 rfl)⟩
  | false =>
    refine ⟨_, rfl, false, rfl, iteT ?_⟩
    refine ⟨_, rfl, a, _, 0, _, rfl, rfl, ha, atI_nat (j := 0) rfl, _, rfl, ⟨r, rfl, hr1⟩, fun d hd => ?_⟩
    exact q2 rfl d _ (same_new hd _) upd_same
theorem ok_procof (hP : PrF P file) (T : Txt K mg file) : FnOk P w K mg base (L2.CX P w) 4 T.a_proc_of T.fd_proc_of ["game", "step"] (spProcOf K T.C_Game T.C_BadStep) := by
  have G_Game_proc : FnOk P w K mg base CX0 1 T.a_Game_proc T.fd_Game_proc ["self", "name"] (spGProc K T.C_Game) := ok_gproc T
  have G_require : FnOk P w K mg base (L2.CX P w) 3 T.a_require T.fd_require ["holds", "step"] (spReq K T.C_BadStep) := ok_require hP T
  refine T.F_proc_of.okX sc_proc_of (fun vs H Q E h => ?_) (fun cdv A outer s H vs Q E hr h => ?_)
  · obtain ⟨g, v, G, r, n, rest, rfl, _⟩ := h
    rfl
  obtain ⟨g, v, G, r, n, rest, rfl, hg, ⟨a, rfl, ha⟩, hr1, q1, q2⟩ := h
  refine ⟨_, (pss_cons (ps_set (i := 2) sc_proc_of.nd rfl (Or.inl rfl) (pe_meth (pv 0) T.cl_Game T.m_Game_proc G_Game_proc (hr.mono (by decide)) T.b_Game_proc .nil pass0 (pa_cons (pe_ix ix_tup (pv 1) pe_int (fun _ _ => rfl)) pa_nil)))
    (pss_cons (ps_expr (pe_call G_require (hr.mono (by decide)) rfl T.g_require T.k_require T.b_require .nil (passes_call (takes_of rfl rfl rfl rfl) (fun _ _ _ _ z => z)) (pa_cons (pe_cmpR op_notN (pv 2) pe_non (nomark _)) (pa_cons (pv 1) pa_nil))))
    (pss_one (ps_ret (pv 2))))), ?_⟩
  obtain ⟨dx, x1, x2, x3, x4, ob, _⟩ := id hg
  refine ⟨_, rfl, g, dx, _, rfl, ob, gf_proc _ _ _ _, _, rfl, a, _, 1, _, rfl, rfl, ha, atI_nat (j := 1) rfl, g, n, G, rfl, hg, fun p hp u hu => ?_, fun hp => ?_⟩
  · obtain ⟨ua, _, _, _, _, rfl, _⟩ := pr_inv hu
    refine ⟨_, rfl, rfl, _, rfl, true, .ref a, r, _, rfl, ⟨a, rfl, ha⟩, hr1, fun _ => ?_, fun z => Bool.noConfusion z⟩
    exact ⟨_, rfl, q1 p hp _ hu⟩
  · refine ⟨_, rfl, rfl, _, rfl, false, .ref a, r, _, rfl, ⟨a, rfl, ha⟩, hr1, fun z => Bool.noConfusion z, fun _ => q2 hp⟩
theorem ok_stmof (hP : PrF P file) (T : Txt K mg file) : FnOk P w K mg base (L2.CX P w) 5 T.a_statement_of T.fd_statement_of ["game", "step"] (spStmOf K T.C_Game T.C_BadStep) := by
  have G_proc_of : FnOk P w K mg base (L2.CX P w) 4 T.a_proc_of T.fd_proc_of ["game", "step"] (spProcOf K T.C_Game T.C_BadStep) := ok_procof hP T
  have G_require : FnOk P w K mg base (L2.CX P w) 3 T.a_require T.fd_require ["holds", "step"] (spReq K T.C_BadStep) := ok_require hP T
  refine T.F_statement_of.okX sc_statement_of (fun vs H Q E h => ?_) (fun cdv A outer s H vs Q E hr h => ?_)
  · obtain ⟨g, v, G, r, n, k, rest, rfl, _⟩ := h
    rfl
  obtain ⟨g, v, G, r, n, k, rest, rfl, hg, ⟨a, rfl, ha⟩, hr1, q1, q2⟩ := h
  refine ⟨_, (pss_cons (ps_set (i := 2) sc_statement_of.nd rfl (Or.inl rfl) (pe_call G_proc_of (hr.mono (by decide)) rfl T.g_proc_of T.k_proc_of T.b_proc_of .nil (passes_call (takes_of rfl rfl rfl rfl) (fun _ _ _ _ z => z)) (pa_cons (pv 0) (pa_cons (pv 1) pa_nil))))
    (pss_cons (ps_expr (pe_call G_require (hr.mono (by decide)) rfl T.g_require T.k_require T.b_require .nil (passes_call (takes_of rfl rfl rfl rfl) (fun _ _ _ _ z => z)) (pa_cons (pe_chain op_le op_lt pe_int (pe_ix ix_tup (pv 1) pe_int (fun _ _ => rfl)) (pe_callB call_len_seq (by rfl) T.z_len (by decide +kernel) (pa_cons (pe_ix ix_tup (pv 2) pe_int (fun _ _ => rfl)) pa_nil))) (pa_cons (pv 1) pa_nil))))
    (pss_one (ps_ret (pe_tup (pa_cons (pv 2) (pa_cons (pe_ix ix_tup (pe_ix ix_tup (pv 2) pe_int (fun _ _ => rfl)) (pe_ix ix_tup (pv 1) pe_int (fun _ _ => rfl)) (fun _ _ => rfl)) pa_nil))))))), ?_⟩
  refine ⟨_, rfl, _, rfl, g, .ref a, G, r, n, _, rfl, hg, ⟨a, rfl, ha⟩, hr1, fun p hp u hu => ?_, fun hp => q2 fun p j s h => by rw [h.1] at hp; cases hp⟩
  have hu0 := hu
  obtain ⟨ua, la, ba, rv, bs, rfl, hua, hla, hba, dbs, _⟩ := pr_inv hu
  have lb : bs.length = p.block.l.length := (DpAll.len dbs).trans (List.length_map _)
  refine ⟨_, rfl, a, _, 2, _, rfl, rfl, ha, atI_nat (j := 2) rfl, _, _, rfl, rfl, _, rfl, ?_⟩
  have no : ¬ (0 ≤ k ∧ k < (bs.length : Int)) → Rf T.C_BadStep r H E := fun z => q2 fun p' j s ⟨h1, h2, h3⟩ => by
    rw [hp] at h1
    cases h1
    have := (List.getElem?_eq_some_iff.mp h3).1
    exact z ⟨by omega, by omega⟩
  by_cases c1 : 0 ≤ k
  case neg =>
    refine ite_no (fun z => c1 (of_decide_eq_true z)) ?_
    exact ⟨_, rfl, false, .ref a, r, _, rfl, ⟨a, rfl, ha⟩, hr1, fun z => Bool.noConfusion z, fun _ => no fun z => c1 z.1⟩
  refine ite_yes (decide_eq_true c1) ?_
  refine ⟨_, rfl, ua, _, 4, _, rfl, rfl, hua, atI_nat (j := 4) rfl, ba, bs, rfl, .inr hba, _, _, rfl, rfl, _, rfl, decide (k < (bs.length : Int)), .ref a, r, _, rfl, ⟨a, rfl, ha⟩, hr1, fun z => ?_, fun z => no fun y => of_decide_eq_false z y.2⟩
  have c2 := of_decide_eq_true z
  obtain ⟨j, rfl⟩ := Int.eq_ofNat_of_zero_le c1
  have hj : j < bs.length := by omega
  obtain ⟨s, es⟩ : ∃ s, p.block.l[j]? = some s := ⟨p.block.l[j]'(by rw [← lb]; exact hj), List.getElem?_eq_getElem _⟩
  obtain ⟨sv, ev, dv⟩ := DpAll.get dbs (show (p.block.l.map Stm.d)[j]? = some s.d by rw [List.getElem?_map, es]; rfl)
  refine ⟨_, rfl, _, rfl, ua, _, 4, _, rfl, rfl, hua, atI_nat (j := 4) rfl, _, rfl, a, _, 2, _, rfl, rfl, ha, atI_nat (j := 2) rfl, ba, bs, _, _, rfl, rfl, hba, atI_nat ev, by show 2 ≤ sizeLine; decide, fun t ht => ?_⟩
  have m := same_new ht (.tup [V.ref ua, sv])
  exact q1 p j s ⟨hp, rfl, es⟩ t _ _ _ m (SqT.of upd_same) (dp_mono m _ _ hu0) (dp_mono m _ _ dv)
theorem ok_pairof (hP : PrF P file) (T : Txt K mg file) : FnOk P w K mg base (L2.CX P w) 6 T.a_pair_of T.fd_pair_of ["game", "step"] (spPairOf K T.C_Game T.C_BadStep) := by
  have G_statement_of : FnOk P w K mg base (L2.CX P w) 5 T.a_statement_of T.fd_statement_of ["game", "step"] (spStmOf K T.C_Game T.C_BadStep) := ok_stmof hP T
  have G_require : FnOk P w K mg base (L2.CX P w) 3 T.a_require T.fd_require ["holds", "step"] (spReq K T.C_BadStep) := ok_require hP T
  refine T.F_pair_of.okX sc_pair_of (fun vs H Q E h => ?_) (fun cdv A outer s H vs Q E hr h => ?_)
  · obtain ⟨g, v, G, r, n, k, rest, rfl, _⟩ := h
    rfl
  obtain ⟨g, v, G, r, n, k, rest, rfl, hg, ⟨a, rfl, ha⟩, hr1, q1, q2⟩ := h
  refine ⟨_, (pss_cons (ps_asg (pe_call G_statement_of (hr.mono (by decide)) rfl T.g_statement_of T.k_statement_of T.b_statement_of .nil (passes_call (takes_of rfl rfl rfl rfl) (fun _ _ _ _ z => z)) (pa_cons (pv 0) (pa_cons (pv 1) pa_nil))) (pg_tup rfl (pgs_cons (pg_name (i := 2) sc_pair_of.nd rfl (Or.inl rfl)) (pgs_cons (pg_name (i := 3) sc_pair_of.nd rfl (Or.inl rfl)) pgs_nil))))
    (pss_cons (ps_expr (pe_call G_require (hr.mono (by decide)) rfl T.g_require T.k_require T.b_require .nil (passes_call (takes_of rfl rfl rfl rfl) (fun _ _ _ _ z => z)) (pa_cons (pe_cmpR op_lt (pe_op op_add (pe_ix ix_tup (pv 1) pe_int (fun _ _ => rfl)) pe_int) (pe_callB call_len_seq (by rfl) T.z_len (by decide +kernel) (pa_cons (pe_ix ix_tup (pv 2) pe_int (fun _ _ => rfl)) pa_nil)) (nomark _)) (pa_cons (pv 1) pa_nil))))
    (pss_one (ps_ret (pe_tup (pa_cons (pv 2) (pa_cons (pv 3) (pa_cons (pe_ix ix_tup (pe_ix ix_tup (pv 2) pe_int (fun _ _ => rfl)) (pe_op op_add (pe_ix ix_tup (pv 1) pe_int (fun _ _ => rfl)) pe_int) (fun _ _ => rfl)) pa_nil)))))))), ?_⟩
  refine ⟨_, rfl, _, rfl, g, .ref a, G, r, n, k, _, rfl, hg, ⟨a, rfl, ha⟩, hr1, fun p j s hat t u z H1 m1 ht hu hz => ?_, fun hp => q2 fun p j s s' h => hp p j s h.1⟩
  have hu0 := hu
  obtain ⟨ua, la, ba, rv, bs, rfl, hua, hla, hba, dbs, _⟩ := pr_inv hu
  have lb : bs.length = p.block.l.length := (DpAll.len dbs).trans (List.length_map _)
  obtain ⟨hp, rfl, es⟩ := hat
  have ha1 := sqT_mono m1 ha
  refine ⟨t, _, rfl, ht, rfl, _, _, rfl, _, _, rfl, rfl, ?_⟩
  refine ⟨_, rfl, a, _, 2, _, rfl, rfl, ha1, atI_nat (j := 2) rfl, _, _, rfl, rfl, _, rfl, ua, _, 4, _, rfl, rfl, hua, atI_nat (j := 4) rfl, ba, bs, rfl, .inr hba, _, _, rfl, rfl, _, rfl, decide (((j : Nat) : Int) + 1 < (bs.length : Int)), .ref a, r, _, rfl, ⟨a, rfl, ha1⟩, hr1, fun c => ?_, fun c => ?_⟩
  · have c2 := of_decide_eq_true c
    have hj : j + 1 < bs.length := by omega
    obtain ⟨s', es'⟩ : ∃ s', p.block.l[j + 1]? = some s' := ⟨p.block.l[j + 1]'(by rw [← lb]; exact hj), List.getElem?_eq_getElem _⟩
    obtain ⟨sv, ev, dv⟩ := DpAll.get dbs (show (p.block.l.map Stm.d)[j + 1]? = some s'.d by rw [List.getElem?_map, es']; rfl)
    refine ⟨_, rfl, _, rfl, _, rfl, ua, _, 4, _, rfl, rfl, hua, atI_nat (j := 4) rfl, _, rfl, a, _, 2, _, rfl, rfl, ha1, atI_nat (j := 2) rfl, _, _, rfl, rfl, ba, bs, _, _, rfl, rfl, hba, atI_nat (j := j + 1) ev, by show 3 ≤ sizeLine; decide, fun t' ht' => ?_⟩
    have m := same_new ht' (.tup [V.ref ua, z, sv])
    exact q1 p j s s' ⟨hp, rfl, es⟩ es' t' _ _ _ _ (m1.trans m) (SqT.of upd_same) (dp_mono m _ _ hu0) (dp_mono m _ _ hz) (dp_mono m _ _ dv)
  · refine (q2 fun p' j' s s' h => ?_).same m1
    obtain ⟨⟨h1, h2, h3⟩, h4⟩ := h
    rw [hp] at h1
    cases h1
    have := (List.getElem?_eq_some_iff.mp h4).1
    have c2 := of_decide_eq_false c
    omega
end
end Toy
set_option Elab.async false
set_option linter.all false
set_option maxRecDepth 100000
set_option maxHeartbeats 4000000
namespace Toy
open PySem L2 NdefX Gm
open Mine hiding same_new
def spEv (K : PySem.W.Frag) (k : Nat) : Sp := fun vs H Q _ => ∃ (v : V) (e : Ex), vs = [v] ∧ Dp K H v e.d ∧ exF k e ∧ k ≤ 12 ∧ ∀ (L : Addr) (us : List V) (H' : Hp), H L = none → Same H H' → H' L = some (.lst us) → DpAll K H' us (e.subs.map Ex.d) → Q (.ref L) H'
def spExReads (K : PySem.W.Frag) (k : Nat) : Sp := fun vs H Q _ => ∃ (v : V) (e : Ex), vs = [v] ∧ Dp K H v e.d ∧ exF k e ∧ k ≤ 12 ∧ ∀ (L : Addr) (us : List V) (H' : Hp), H L = none → Same H H' → H' L = some (.lst us) → DpAll K H' us (e.reads.map plD) → Q (.ref L) H'
def spReadsL (K : PySem.W.Frag) (k : Nat) : Sp := fun vs H Q _ => ∃ (v : V) (e : Ex) (x : Str), vs = [v, .str x] ∧ Dp K H v e.d ∧ exF k e ∧ k ≤ 12 ∧ nmB x = true ∧ ∀ (b : Bool) (H' : Hp), (b = true ↔ (("local" : Str), x) ∈ e.reads) → Same H H' → Q (.bl b) H'
def spIsShift (K : PySem.W.Frag) (k : Nat) : Sp := fun vs H Q _ => ∃ (v : V) (e : Ex) (x : Str) (n : Int), vs = [v, .str x, .int n] ∧ Dp K H v e.d ∧ exF k e ∧ k ≤ 12 ∧ nmB x = true ∧ ∀ (b : Bool) (H' : Hp), (b = true ↔ isShift e x n) → Same H H' → Q (.bl b) H'
section
variable {P : Program} {w : World} {K : PySem.W.Frag} {mg : Str → Option Value} {base : Heap} {file : Str}
theorem ok_with (T : Txt K mg file) : FnOk P w K mg base CX0 3 T.a_with_proc T.fd_with_proc ["game", "new"] (spWith K T.C_Game) := by
  have G_Game_init : FnOk P w K mg base CX0 1 T.a_Game_init T.fd_Game_init ["self", "variables", "tables", "lots", "procs"] (spGInit T.C_Game) := ok_ginit T
  refine T.F_with_proc.ok sc_with_proc (fun vs H Q E h => ?_) (fun cdv A outer s H vs Q E hr h => ?_)
  · obtain ⟨g, v, G, p, rfl, _⟩ := h
    rfl
  obtain ⟨g, v, G, p, rfl, ⟨dx, a, b, c, d, hg, da, db, dc, dd⟩, dv, hl, q⟩ := h
  obtain ⟨pa, xs, rfl, hpa, dxs⟩ := dp_inv dd
  have lx : xs.length = G.procs.length := (DpAll.len dxs).trans (List.length_map _)
  have dv0 := dv
  obtain ⟨va, vla, vba, vr, vbs, rfl, hva, _⟩ := pr_inv dv
  refine ⟨_, (pss_cons (ps_set (i := 2) sc_with_proc.nd rfl (Or.inl rfl) (pe_callTy call_tuple_of (by rfl) T.z_tuple (by decide +kernel) (pa_cons (pe_lc (own := [("proc", 3)]) (g := gName 3) (tt := tYes) rfl sc_with_proc.nd (pi_tup (pe_fld (pv 0) rfl)) (blkOk_by (own := [("proc", 3)]) (N := ["game", "new", "procs", "proc"]) (sc := defScope s_with_proc) (by decide +kernel)) (fun _ _ _ _ _ => pg_name (i := 3) sc_with_proc.nd rfl (Or.inl rfl)) (fun _ _ _ _ _ => pts_nil) (fun _ _ _ _ _ => (pe_ifExp (pt_cmpR op_eq (pe_ix (ixtK K rfl) (pv 3) pe_int (fun _ _ => rfl)) (pe_ix (ixtK K rfl) (pv 1) pe_int (fun _ _ => rfl)) (nomark _)) (pv 1) (pv 3)))) pa_nil)))
    (pss_one (ps_ret (pe_make T.mk_Game G_Game_init (hr.mono (by decide)) rfl T.g_Game T.b_Game_init .nil pass0 (pa_cons (pe_fld (pv 0) rfl) (pa_cons (pe_fld (pv 0) rfl) (pa_cons (pe_fld (pv 0) rfl) (pa_cons (pv 2) pa_nil)))))))), ?_⟩
  refine ⟨_, rfl, g, _, dx, _, _, rfl, hg, T.cl_Game, T.na_Game_procs, gf_procs _ _ _ _, pa, rfl, ⟨_, hpa⟩, fun D hD => ?_⟩
  have m0 := same_new hD (.lst [])
  refine lc_tup (K := K) (a := pa) (xs := xs) (fun i H' => ∃ us, Acc K H H' D us (((G.put p).procs.take i).map Pr.d)) ⟨[], Acc.start hD⟩ (fun i H' _ ⟨_, ac⟩ => sqT_mono ac.s hpa) ?_ ?_
  · rintro i x H' hx ⟨us, ac⟩
    have hi := (List.getElem?_eq_some_iff.mp hx).1
    obtain ⟨r, er⟩ : ∃ r, G.procs[i]? = some r := ⟨G.procs[i]'(lx ▸ hi), List.getElem?_eq_getElem _⟩
    obtain ⟨x', ex, dr⟩ := DpAll.get dxs (show (G.procs.map Pr.d)[i]? = some r.d by rw [List.getElem?_map, er]; rfl)
    rw [hx] at ex
    cases ex
    have dr0 := dr
    obtain ⟨ra, rla, rba, rr, rbs, rfl, hra, _⟩ := pr_inv dr
    have hlen : us.length < sizeLine := by
      have := ac.len
      rw [List.length_map, List.length_take] at this
      exact Nat.lt_of_le_of_lt (show us.length ≤ 1000 by omega) (by decide)
    have ep : (G.put p).procs[i]? = some (if r.name = p.name then p else r) := by
      show (G.procs.map _)[i]? = _
      rw [List.getElem?_map, er]
      rfl
    refine ⟨rfl, _, rfl, ra, _, 0, _, rfl, rfl, sqT_mono ac.s hra, atI_nat (j := 0) rfl, _, rfl, va, _, 0, _, rfl, rfl, sqT_mono ac.s hva, atI_nat (j := 0) rfl, rfl, _, rfl, ite2 (fun z => ?_) (fun z => ?_)⟩
    · have z' : r.name = p.name := V.str.inj (of_decide_eq_true z)
      rw [if_pos z'] at ep
      refine ⟨_, rfl, us, ac.l, hlen, us ++ [.ref va], ?_⟩
      rw [take_more ep, List.map_append]
      exact ac.add (dp_mono ac.s _ _ dv0) (Pr.nol p)
    · have z' : ¬ r.name = p.name := fun y => z (decide_eq_true (congrArg V.str y))
      rw [if_neg z'] at ep
      refine ⟨_, rfl, us, ac.l, hlen, us ++ [.ref ra], ?_⟩
      rw [take_more ep, List.map_append]
      exact ac.add (dp_mono ac.s _ _ dr0) (Pr.nol r)
  rintro H1 ⟨us, ac⟩
  have e1 : (G.put p).procs.take xs.length = (G.put p).procs := by
    have : (G.put p).procs.length = xs.length := by rw [lx]; exact List.length_map _
    rw [← this, List.take_length]
  rw [e1] at ac
  refine ⟨D, us, rfl, .inl ⟨SqL.of ac.l, fun tp htp => ?_⟩⟩
  have m2 := ac.s.trans (same_new htp (.tup us))
  have dt : Dp K (upd H1 tp (.tup us)) (.ref tp) (.tuple ((G.put p).procs.map Pr.d)) := dp_tup htp ac.d
  refine ⟨_, rfl, g, _, dx, _, _, rfl, m2 _ _ hg, T.cl_Game, T.na_Game_variables, gf_variables _ _ _ _, ?_⟩
  refine ⟨_, rfl, g, _, dx, _, _, rfl, m2 _ _ hg, T.cl_Game, T.na_Game_tables, gf_tables _ _ _ _, ?_⟩
  refine ⟨_, rfl, g, _, dx, _, _, rfl, m2 _ _ hg, T.cl_Game, T.na_Game_lots, gf_lots _ _ _ _, ?_⟩
  refine ⟨_, rfl, fun g' dx' ng nd ne => ?_⟩
  refine ⟨g', dx', a, b, c, .ref tp, rfl, upd_same, fun H3 e3 hk => ⟨rfl, ?_⟩⟩
  have m3 : Same (upd H1 tp (.tup us)) H3 := fun x o e => hk x o (same_make ng nd x o e) (ne_of_none e ng)
  have m := m2.trans m3
  exact q g' H3 m ⟨dx', a, b, c, .ref tp, e3, dp_mono m _ _ da, dp_mono m _ _ db, dp_mono m _ _ dc, dp_mono m3 _ _ dt⟩
theorem ok_repl (T : Txt K mg file) : FnOk P w K mg base CX0 4 T.a_replaced T.fd_replaced ["game", "proc", "at", "many", "statements"] (spRepl K T.C_Game) := by
  have G_with_proc : FnOk P w K mg base CX0 3 T.a_with_proc T.fd_with_proc ["game", "new"] (spWith K T.C_Game) := ok_with T
  refine T.F_replaced.ok sc_replaced (fun vs H Q E h => ?_) (fun cdv A outer s H vs Q E hr h => ?_)
  · obtain ⟨g, v, u, i, m, G, p, ss, rfl, _⟩ := h
    rfl
  obtain ⟨g, v, u, i, m, G, p, ss, rfl, hg, dv, du, hl, hl2, q⟩ := h
  have dv0 := dv
  obtain ⟨va, vla, vba, vr, vbs, rfl, hva, hla, hba, dbs, dres⟩ := pr_inv dv
  obtain ⟨ua, us, rfl, hua, dus⟩ := dp_inv du
  refine ⟨_, (pss_cons (ps_asg (pv 1) (pg_tup rfl (pgs_cons (pg_name (i := 5) sc_replaced.nd rfl (Or.inl rfl)) (pgs_cons (pg_name (i := 6) sc_replaced.nd rfl (Or.inl rfl)) (pgs_cons (pg_name (i := 7) sc_replaced.nd rfl (Or.inl rfl)) (pgs_cons (pg_name (i := 8) sc_replaced.nd rfl (Or.inl rfl)) (pgs_cons (pg_name (i := 9) sc_replaced.nd rfl (Or.inl rfl)) (pgs_cons (pg_name (i := 10) sc_replaced.nd rfl (Or.inl rfl)) pgs_nil))))))))
    (pss_cons (ps_set (i := 11) sc_replaced.nd rfl (Or.inl rfl) (pe_tup (StX.pa_star (pe_slice (slTB K rfl) (pv 9) po_none (po_some (pv 2))) (StX.pa_star (pv 4) (StX.pa_star (pe_slice (slTB K rfl) (pv 9) (po_some (pe_op op_add (pv 2) (pv 3))) po_none) pa_nil)))))
    (pss_one (ps_ret (pe_call G_with_proc (hr.mono (by decide)) rfl T.g_with_proc T.k_with_proc T.b_with_proc .nil pass0 (pa_cons (pv 0) (pa_cons (pe_tup (pa_cons (pv 5) (pa_cons (pv 6) (pa_cons (pv 7) (pa_cons (pv 8) (pa_cons (pv 11) (pa_cons (pv 10) pa_nil))))))) pa_nil))))))), ?_⟩
  refine ⟨_, rfl, va, _, rfl, hva, rfl, _, _, rfl, _, _, rfl, _, _, rfl, _, _, rfl, _, _, rfl, _, _, rfl, rfl, ?_⟩
  have lb : vbs.length = p.block.l.length := (DpAll.len dbs).trans (List.length_map _)
  have lu : us.length = ss.length := (DpAll.len dus).trans (List.length_map _)
  refine ⟨_, rfl, _, rfl, _, rfl, vba, vbs, rfl, hba, fun c1 H1 m1 hc1 => ?_⟩
  rw [cut_take] at hc1
  refine ⟨c1, _, rfl, .inl hc1, _, rfl, ua, us, rfl, .inl (sqT_mono m1 hua), ?_⟩
  refine ⟨_, rfl, _, rfl, _, rfl, _, _, rfl, rfl, _, rfl, vba, vbs, rfl, sqT_mono m1 hba, fun c2 H2 m2 hc2 => ?_⟩
  rw [show ((i : Int) + (m : Int)) = ((i + m : Nat) : Int) from by omega, cut_drop] at hc2
  have m12 := m1.trans m2
  refine ⟨c2, _, rfl, .inl hc2, ?_, fun nt hnt => ?_⟩
  · refine Nat.le_trans (show _ ≤ 3000 from ?_) (by decide)
    simp only [List.length_append, List.length_take, List.length_drop, List.length_nil]
    omega
  rw [List.append_nil]
  have m3 := same_new hnt (.tup (vbs.take i ++ (us ++ vbs.drop (i + m))))
  have m123 := m12.trans m3
  have db : Dp K (upd H2 nt (.tup (vbs.take i ++ (us ++ vbs.drop (i + m))))) (.ref nt) (p.repl i m ss).block.d := by
    have : DpAll K H2 (vbs.take i ++ (us ++ vbs.drop (i + m))) ((p.repl i m ss).block.l.map Stm.d) := by
      show DpAll K H2 _ ((Blk.of _).l.map Stm.d)
      rw [Blk.l_of, List.map_append, List.map_append, List.append_assoc, List.map_take, List.map_drop]
      exact DpAll.app (DpAll.take i (dp_monoAll m12 _ _ dbs)) (DpAll.app (dp_monoAll m12 _ _ dus) (DpAll.drop (i + m) (dp_monoAll m12 _ _ dbs)))
    have h := dp_tup hnt this
    rw [← Blk.ds_l] at h
    exact h
  refine ⟨_, rfl, _, rfl, _, rfl, _, rfl, _, rfl, _, rfl, _, rfl, by show 6 ≤ sizeLine; decide, fun tp htp => ?_⟩
  have m4 := same_new htp (.tup [.str p.name, .int p.size, .int p.ans, .ref vla, .ref nt, vr])
  have mm4 := m123.trans m4
  refine ⟨g, .ref tp, G, p.repl i m ss, rfl, hg.same mm4, ?_, hl, fun g' H' mm gd => q g' H' (mm4.trans mm) gd⟩
  have d1 : Dp K H (.ref vla) (strD p.locs) := .tup hla (dp_strs p.locs)
  exact dp_tup (ds := [.str p.name, .int p.size, .int p.ans, strD p.locs, (p.repl i m ss).block.d, p.res.d]) htp (.cons (.str _) (.cons (.int _) (.cons (.int _) (.cons (dp_mono m123 _ _ d1) (.cons db (.cons (dp_mono m123 _ _ dres) .nil))))))
theorem ok_ev (T : Txt K mg file) : ∀ k : Nat, FnOk P w K mg base CX0 (k + 1) T.a_every_expression T.fd_every_expression ["expression"] (spEv K k)
  | 0 => by
    refine T.F_every_expression.ok sc_every_expression (fun vs H Q E h => ?_) (fun cdv A outer s H vs Q E hr h => ?_)
    · obtain ⟨v, e, rfl, _⟩ := h
      rfl
    · obtain ⟨v, e, rfl, _, z, _⟩ := h
      exact z.elim
  | k + 1 => by
    have G_every_expression : FnOk P w K mg base CX0 (k + 1) T.a_every_expression T.fd_every_expression ["expression"] (spEv K k) := ok_ev T k
    refine T.F_every_expression.ok sc_every_expression (fun vs H Q E h => ?_) (fun cdv A outer s H vs Q E hr h => ?_)
    · obtain ⟨v, e, rfl, _⟩ := h
      rfl
    obtain ⟨v, e, rfl, de, ex, hk, q⟩ := h
    refine ⟨_, (pss_cons (ps_set (i := 1) sc_every_expression.nd rfl (Or.inl rfl) (pe_lst (pa_cons (pv 0) pa_nil)))
    (pss_cons (ps_if (pt_cmpR op_in_seq (pe_ix ix_tup (pv 0) pe_int (fun _ _ => rfl)) (pe_glob (v := .ref T.a_OPERATORS) rfl T.g_OPERATORS rfl) rfl)
      (pss_one (ps_expr (pe_bm PySem.F.plainAttrs_list PySem.F.slot_list_extend PySem.F.type_list_extend mt_extend (pv 1) (pa_cons (pe_call G_every_expression (hr.mono (by omega)) rfl T.g_every_expression T.k_every_expression T.b_every_expression .nil pass0 (pa_cons (pe_ix ix_tup (pv 0) pe_int (fun _ _ => rfl)) pa_nil)) pa_nil))))
      pss_nil)
    (pss_cons (ps_if (PW.pt (pw_or (pt_cmpR op_in_seq (pe_ix ix_tup (pv 0) pe_int (fun _ _ => rfl)) (pe_glob (v := .ref T.a_OPERATORS) rfl T.g_OPERATORS rfl) rfl) (pw_or1 (pt_cmpR op_in_seq (pe_ix ix_tup (pv 0) pe_int (fun _ _ => rfl)) (pe_glob (v := .ref T.a_LOOKS) rfl T.g_LOOKS rfl) rfl))))
      (pss_one (ps_expr (pe_bm PySem.F.plainAttrs_list PySem.F.slot_list_extend PySem.F.type_list_extend mt_extend (pv 1) (pa_cons (pe_call G_every_expression (hr.mono (by omega)) rfl T.g_every_expression T.k_every_expression T.b_every_expression .nil pass0 (pa_cons (pe_ix ix_tup (pv 0) pe_int (fun _ _ => rfl)) pa_nil)) pa_nil))))
      pss_nil)
    (pss_one (ps_ret (pv 1)))))), ?_⟩
    have de0 := de
    have big : ∀ n : Nat, n ≤ 10000 → n ≤ sizeLine := fun n h => Nat.le_trans h (by decide)
    have pw : (2 : Nat) ^ k ≤ 2 ^ 12 := Nat.pow_le_pow_right (by decide) (by omega)
    have pw2 : (2 : Nat) ^ 12 = 4096 := by decide
    have hi : ∀ x : Str, inV (.str x) ((["+", "-", "*", "/", "mod", "<", "="] : List Str).map V.str) = decide (x ∈ ops) := fun x => Pz.inV_strs x ops
    have hj : ∀ x : Str, inV (.str x) ((["has", "cell"] : List Str).map V.str) = decide (x ∈ (["has", "cell"] : List Str)) := fun x => Pz.inV_strs x ["has", "cell"]
    refine ⟨_, rfl, by show 1 ≤ sizeLine; decide, fun L hL => ?_⟩
    have m0 := same_new hL (.lst [v])
    have ac0 : Acc K H (upd H L (.lst [v])) L [v] [e.d] := by
      have := (Acc.start (K := K) hL).add (v := v) (d := e.d) (dp_mono (same_new hL _) _ _ de) e.nol
      have e2 : upd (upd H L (.lst [])) L (.lst ([] ++ [v])) = upd H L (.lst [v]) := by
        funext b
        by_cases hb : b = L
        · subst hb; rw [upd_same, upd_same]; rfl
        · rw [upd_ne hb, upd_ne hb, upd_ne hb]
      rw [e2] at this
      exact this
    by_cases ko : e.kind ∈ ops
    case pos =>
      obtain ⟨o, x, y, rfl⟩ := (kind_op ex).mp ko
      obtain ⟨a, u, z, rfl, ha, du, dz⟩ := op_inv de
      have ha1 := sqT_mono m0 ha
      have lx := Ex.subs_len ex.2.1
      have ly := Ex.subs_len ex.2.2
      refine ⟨_, rfl, a, _, 0, _, rfl, rfl, ha1, atI_nat (j := 0) rfl, _, _, rfl, .inr (T.q_OPERATORS _), rfl, Pz.flat_strs _, _, rfl, ?_⟩
      rw [if_neg Bool.false_ne_true, hi]
      refine iteT2 (decide_eq_true ko) ?_
      refine ⟨_, rfl, .inl ⟨rfl, _, SqL.of ac0.l⟩, _, rfl, a, _, 1, _, rfl, rfl, ha1, atI_nat (j := 1) rfl, u, x, rfl, dp_mono m0 _ _ du, ex.2.1, by omega, fun Lx ux H1 nLx m1 hLx dux => ?_⟩
      have ac1 := ac0.grow m1
      have lux := DpAll.len dux
      rw [List.length_map] at lux
      refine ⟨L, Lx, _, _, rfl, rfl, ac1.l, hLx, by rw [List.length_singleton]; exact big _ (by omega), ?_⟩
      have ac2 := ac1.ext dux (nolAll_ex _)
      have ha2 := sqT_mono ac2.s ha
      refine ⟨_, rfl, a, _, 0, _, rfl, rfl, ha2, atI_nat (j := 0) rfl, _, _, rfl, .inr (T.q_OPERATORS _), rfl, Pz.flat_strs _, _, rfl, ?_⟩
      rw [if_neg Bool.false_ne_true, hi]
      refine iteT2 (decide_eq_true ko) ?_
      refine iteT2 rfl ?_
      refine ⟨_, rfl, .inl ⟨rfl, _, SqL.of ac2.l⟩, _, rfl, a, _, 2, _, rfl, rfl, ha2, atI_nat (j := 2) rfl, z, y, rfl, dp_mono ac2.s _ _ dz, ex.2.2, by omega, fun Ly uy H2 nLy m2 hLy duy => ?_⟩
      have ac3 := ac2.grow m2
      have luy := DpAll.len duy
      rw [List.length_map] at luy
      refine ⟨L, Ly, _, _, rfl, rfl, ac3.l, hLy, by rw [List.length_append, List.length_singleton]; exact big _ (by omega), ?_⟩
      have ac4 := ac3.ext duy (nolAll_ex _)
      refine ⟨_, rfl, q L _ _ hL ac4.s ac4.l ?_⟩
      have e1 : (Ex.op o x y).subs.map Ex.d = [(Ex.op o x y).d] ++ x.subs.map Ex.d ++ y.subs.map Ex.d := by
        show (_ :: (x.subs ++ y.subs)).map Ex.d = _
        rw [List.map_cons, List.map_append]
        rfl
      rw [e1]
      exact ac4.d
    obtain ⟨a, rr, rfl, ha⟩ := ex_inv de
    have ha1 := sqT_mono m0 ha
    refine ⟨_, rfl, a, _, 0, _, rfl, rfl, ha1, atI_nat (j := 0) rfl, _, _, rfl, .inr (T.q_OPERATORS _), rfl, Pz.flat_strs _, _, rfl, ?_⟩
    rw [if_neg Bool.false_ne_true, hi]
    refine iteF2 (decide_eq_false ko) ?_
    refine ⟨_, rfl, a, _, 0, _, rfl, rfl, ha1, atI_nat (j := 0) rfl, _, _, rfl, .inr (T.q_OPERATORS _), rfl, Pz.flat_strs _, _, rfl, ?_⟩
    rw [if_neg Bool.false_ne_true, hi]
    refine iteF2 (decide_eq_false ko) ?_
    refine ⟨_, rfl, a, _, 0, _, rfl, rfl, ha1, atI_nat (j := 0) rfl, _, _, rfl, .inr (T.q_LOOKS _), rfl, Pz.flat_strs _, _, rfl, ?_⟩
    rw [if_neg Bool.false_ne_true, hj]
    match e, ex, ko with
    | .op o x y, ex, ko => exact absurd ((kind_op ex).mpr ⟨_, _, _, rfl⟩) ko
    | .num n, ex, _ => exact iteF2 rfl ⟨_, rfl, q L _ _ hL ac0.s ac0.l ac0.d⟩
    | .loc n, ex, _ => exact iteF2 rfl ⟨_, rfl, q L _ _ hL ac0.s ac0.l ac0.d⟩
    | .var n, ex, _ => exact iteF2 rfl ⟨_, rfl, q L _ _ hL ac0.s ac0.l ac0.d⟩
    | .has t x, ex, _ =>
      obtain ⟨b, u, eb, hb, du⟩ := has_inv de0
      have eb := V.ref.inj eb
      subst eb
      have hb1 := sqT_mono m0 hb
      have lx := Ex.subs_len ex.2
      refine iteT2 (show decide (("has" : Str) ∈ (["has", "cell"] : List Str)) = true by decide +kernel) ?_
      refine ⟨_, rfl, .inl ⟨rfl, _, SqL.of ac0.l⟩, _, rfl, a, _, 2, _, rfl, rfl, hb1, atI_nat (j := 2) rfl, u, x, rfl, dp_mono m0 _ _ du, ex.2, by omega, fun Lx ux H1 nLx m1 hLx dux => ?_⟩
      have ac1 := ac0.grow m1
      have lux := DpAll.len dux
      rw [List.length_map] at lux
      refine ⟨L, Lx, _, _, rfl, rfl, ac1.l, hLx, by rw [List.length_singleton]; exact big _ (by omega), ?_⟩
      have ac2 := ac1.ext dux (nolAll_ex _)
      exact ⟨_, rfl, q L _ _ hL ac2.s ac2.l ac2.d⟩
    | .cell t x, ex, _ =>
      obtain ⟨b, u, eb, hb, du⟩ := cell_inv de0
      have eb := V.ref.inj eb
      subst eb
      have hb1 := sqT_mono m0 hb
      have lx := Ex.subs_len ex.2
      refine iteT2 (show decide (("cell" : Str) ∈ (["has", "cell"] : List Str)) = true by decide +kernel) ?_
      refine ⟨_, rfl, .inl ⟨rfl, _, SqL.of ac0.l⟩, _, rfl, a, _, 2, _, rfl, rfl, hb1, atI_nat (j := 2) rfl, u, x, rfl, dp_mono m0 _ _ du, ex.2, by omega, fun Lx ux H1 nLx m1 hLx dux => ?_⟩
      have ac1 := ac0.grow m1
      have lux := DpAll.len dux
      rw [List.length_map] at lux
      refine ⟨L, Lx, _, _, rfl, rfl, ac1.l, hLx, by rw [List.length_singleton]; exact big _ (by omega), ?_⟩
      have ac2 := ac1.ext dux (nolAll_ex _)
      exact ⟨_, rfl, q L _ _ hL ac2.s ac2.l ac2.d⟩
theorem ok_exreads (T : Txt K mg file) (k : Nat) : FnOk P w K mg base CX0 (k + 2) T.a_expression_reads T.fd_expression_reads ["expression"] (spExReads K k) := by
  have G_every_expression : FnOk P w K mg base CX0 (k + 1) T.a_every_expression T.fd_every_expression ["expression"] (spEv K k) := ok_ev T k
  refine T.F_expression_reads.ok sc_expression_reads (fun vs H Q E h => ?_) (fun cdv A outer s H vs Q E hr h => ?_)
  · obtain ⟨v, e, rfl, _⟩ := h
    rfl
  obtain ⟨v, e, rfl, de, ex, hk, q⟩ := h
  refine ⟨_, (pss_cons (ps_set (i := 1) sc_expression_reads.nd rfl (Or.inl rfl) (pe_lst pa_nil))
    (pss_cons (ps_for PassesOwn.never rfl (pi_list (pe_call G_every_expression (hr.mono (by omega)) rfl T.g_every_expression T.k_every_expression T.b_every_expression .nil pass0 (pa_cons (pv 0) pa_nil))) (pg_name (i := 2) sc_expression_reads.nd rfl (Or.inl rfl))
      (pss_one (ps_if (pt_cmpR op_in_seq (pe_ix ix_tup (pv 2) pe_int (fun _ _ => rfl)) (pe_tup (pa_cons pe_str (pa_cons pe_str pa_nil))) rfl)
      (pss_one (ps_expr (pe_bm PySem.F.plainAttrs_list PySem.F.slot_list_append PySem.F.type_list_append mt_append (pv 1) (pa_cons (pv 2) pa_nil))))
      (pss_one (ps_if (pt_cmpR op_in_seq (pe_ix ix_tup (pv 2) pe_int (fun _ _ => rfl)) (pe_glob (v := .ref T.a_LOOKS) rfl T.g_LOOKS rfl) rfl)
      (pss_one (ps_expr (pe_bm PySem.F.plainAttrs_list PySem.F.slot_list_append PySem.F.type_list_append mt_append (pv 1) (pa_cons (pe_tup (pa_cons pe_str (pa_cons (pe_ix ix_tup (pv 2) pe_int (fun _ _ => rfl)) pa_nil))) pa_nil))))
      pss_nil)))))
    (pss_one (ps_ret (pv 1))))), ?_⟩
  have hi : ∀ x : Str, inV (.str x) [.str "local", .str "variable"] = decide (x ∈ (["local", "variable"] : List Str)) := fun x => Pz.inV_strs x ["local", "variable"]
  have hj : ∀ x : Str, inV (.str x) ((["has", "cell"] : List Str).map V.str) = decide (x ∈ (["has", "cell"] : List Str)) := fun x => Pz.inV_strs x ["has", "cell"]
  have pw : (2 : Nat) ^ k ≤ 2 ^ 12 := Nat.pow_le_pow_right (by decide) (by omega)
  have pw2 : (2 : Nat) ^ 12 = 4096 := by decide
  have two : (2 : Nat) ≤ sizeLine := by decide
  have sl := Ex.subs_len ex
  have sf := Ex.subs_fit ex
  refine ⟨by show 0 ≤ sizeLine; decide, fun L hL => ?_⟩
  have m0 := same_new hL (.lst [])
  refine ⟨_, rfl, v, e, rfl, dp_mono m0 _ _ de, ex, hk, fun Lx ux H1 nLx m1 hLx dux => ?_⟩
  have ac0 := (Acc.start (K := K) hL).grow m1
  have lux := DpAll.len dux
  rw [List.length_map] at lux
  have neL : L ≠ Lx := fun z => by
    subst z
    rw [upd_same] at nLx
    cases nLx
  refine ⟨Lx, rfl, ⟨_, SqL.of hLx⟩, ?_⟩
  refine for_list (K := K) (a := Lx) (xs := ux) (fun i σ H' => ∃ (vs : List V) (y : Option V), σ = [some v, some (.ref L), y] ∧ Acc K H H' L vs (((e.subs.take i).filterMap Ex.rd1).map plD) ∧ H' Lx = some (.lst ux) ∧ DpAll K H' ux (e.subs.map Ex.d)) ⟨[], none, rfl, ac0, hLx, dux⟩ (fun i σ H' _ ⟨_, _, _, _, h, _⟩ => SqL.of h) ?_ ?_
  · rintro i x σ H2 hx ⟨vs, y, rfl, ac, hl2, dd⟩
    have hi' := (List.getElem?_eq_some_iff.mp hx).1
    obtain ⟨f, ef⟩ : ∃ f, e.subs[i]? = some f := ⟨e.subs[i]'(lux ▸ hi'), List.getElem?_eq_getElem _⟩
    obtain ⟨x', ex', df⟩ := DpAll.get dd (show (e.subs.map Ex.d)[i]? = some f.d by rw [List.getElem?_map, ef]; rfl)
    rw [hx] at ex'
    cases ex'
    have ff := sf f (List.mem_of_getElem? ef)
    have hlen : vs.length < sizeLine := by
      have := ac.len
      rw [List.length_map] at this
      have h2 := List.length_filterMap_le Ex.rd1 (e.subs.take i)
      rw [List.length_take] at h2
      exact Nat.lt_of_le_of_lt (show vs.length ≤ 5000 by omega) (by decide)
    have tk : ∀ o, f.rd1 = o → ((e.subs.take (i + 1)).filterMap Ex.rd1) = ((e.subs.take i).filterMap Ex.rd1) ++ o.toList := fun o h => by
      rw [take_more ef, List.filterMap_append]
      congr 1
      show [f].filterMap Ex.rd1 = _
      cases o with
      | none => rw [List.filterMap_cons_none h]; rfl
      | some p => rw [List.filterMap_cons_some h]; rfl
    have nx : ∀ {u : V} {p : Str × Str} {H3 : Hp}, f.rd1 = some p → Same H2 H3 → Dp K H3 u (plD p) → ∃ (vs' : List V) (y : Option V), [some v, some (V.ref L), some x] = [some v, some (.ref L), y] ∧ Acc K H (upd H3 L (.lst (vs ++ [u]))) L vs' (((e.subs.take (i + 1)).filterMap Ex.rd1).map plD) ∧ (upd H3 L (.lst (vs ++ [u]))) Lx = some (.lst ux) ∧ DpAll K (upd H3 L (.lst (vs ++ [u]))) ux (e.subs.map Ex.d) := fun {u p H3} ep m3 du => by
      have ac3 := (ac.grow m3).add du (show nol (plD p) = true from rfl)
      refine ⟨vs ++ [u], _, rfl, ?_, by rw [upd_ne fun z => neL z.symm]; exact m3 _ _ hl2, dp_tupsAll (Tups.lst (ac.grow m3).l) _ _ (nolAll_ex _) (dp_monoAll m3 _ _ dd)⟩
      rw [tk _ ep, List.map_append]
      exact ac3
    have skip : ∀ {H3 : Hp}, f.rd1 = none → Same H2 H3 → ∃ (vs' : List V) (y : Option V), [some v, some (V.ref L), some x] = [some v, some (.ref L), y] ∧ Acc K H H3 L vs' (((e.subs.take (i + 1)).filterMap Ex.rd1).map plD) ∧ H3 Lx = some (.lst ux) ∧ DpAll K H3 ux (e.subs.map Ex.d) := fun {H3} ep m3 => by
      refine ⟨vs, _, rfl, ?_, m3 _ _ hl2, dp_monoAll m3 _ _ dd⟩
      rw [tk _ ep, show (none : Option (Str × Str)).toList = [] from rfl, List.append_nil]
      exact ac.grow m3
    cases f with
    | loc z =>
      have df0 := df
      obtain ⟨a, rfl, ha⟩ := loc_inv df
      refine ⟨_, rfl, a, _, 0, _, rfl, rfl, ha, atI_nat (j := 0) rfl, two, fun t ht => ?_⟩
      have m3 := same_new ht (.tup [V.str "local", V.str "variable"])
      refine ⟨_, _, rfl, .inr (SqT.of upd_same), rfl, by decide +kernel, _, rfl, ?_⟩
      rw [if_neg Bool.false_ne_true, hi]
      refine iteT2 (by decide +kernel) ?_
      exact ⟨_, rfl, .inl ⟨rfl, _, SqL.of (m3 _ _ ac.l)⟩, _, rfl, L, vs, _, rfl, rfl, m3 _ _ ac.l, hlen, nx rfl m3 (dp_mono m3 _ _ df0)⟩
    | var z =>
      have df0 := df
      obtain ⟨a, rfl, ha⟩ := var_inv df
      refine ⟨_, rfl, a, _, 0, _, rfl, rfl, ha, atI_nat (j := 0) rfl, two, fun t ht => ?_⟩
      have m3 := same_new ht (.tup [V.str "local", V.str "variable"])
      refine ⟨_, _, rfl, .inr (SqT.of upd_same), rfl, by decide +kernel, _, rfl, ?_⟩
      rw [if_neg Bool.false_ne_true, hi]
      refine iteT2 (by decide +kernel) ?_
      exact ⟨_, rfl, .inl ⟨rfl, _, SqL.of (m3 _ _ ac.l)⟩, _, rfl, L, vs, _, rfl, rfl, m3 _ _ ac.l, hlen, nx rfl m3 (dp_mono m3 _ _ df0)⟩
    | num z =>
      obtain ⟨a, rfl, ha⟩ := num_inv df
      refine ⟨_, rfl, a, _, 0, _, rfl, rfl, ha, atI_nat (j := 0) rfl, two, fun t ht => ?_⟩
      have m3 := same_new ht (.tup [V.str "local", V.str "variable"])
      refine ⟨_, _, rfl, .inr (SqT.of upd_same), rfl, by decide +kernel, _, rfl, ?_⟩
      rw [if_neg Bool.false_ne_true, hi]
      refine iteF2 (by decide +kernel) ?_
      refine ⟨_, rfl, a, _, 0, _, rfl, rfl, sqT_mono m3 ha, atI_nat (j := 0) rfl, _, _, rfl, .inr (T.q_LOOKS _), rfl, Pz.flat_strs _, _, rfl, ?_⟩
      rw [if_neg Bool.false_ne_true, hj]
      exact iteF2 (by decide +kernel) (skip rfl m3)
    | has tn z =>
      obtain ⟨a, u, rfl, ha, _⟩ := has_inv df
      refine ⟨_, rfl, a, _, 0, _, rfl, rfl, ha, atI_nat (j := 0) rfl, two, fun t ht => ?_⟩
      have m3 := same_new ht (.tup [V.str "local", V.str "variable"])
      refine ⟨_, _, rfl, .inr (SqT.of upd_same), rfl, by decide +kernel, _, rfl, ?_⟩
      rw [if_neg Bool.false_ne_true, hi]
      refine iteF2 (by decide +kernel) ?_
      refine ⟨_, rfl, a, _, 0, _, rfl, rfl, sqT_mono m3 ha, atI_nat (j := 0) rfl, _, _, rfl, .inr (T.q_LOOKS _), rfl, Pz.flat_strs _, _, rfl, ?_⟩
      rw [if_neg Bool.false_ne_true, hj]
      refine iteT2 (by decide +kernel) ?_
      refine ⟨_, rfl, .inl ⟨rfl, _, SqL.of (m3 _ _ ac.l)⟩, _, rfl, a, _, 1, _, rfl, rfl, sqT_mono m3 ha, atI_nat (j := 1) rfl, two, fun t2 ht2 => ?_⟩
      have m4 := m3.trans (same_new ht2 (.tup [V.str "table", V.str tn]))
      exact ⟨L, vs, _, rfl, rfl, m4 _ _ ac.l, hlen, nx (p := ("table", tn)) rfl m4 (dp_tup (ds := [.str "table", .str tn]) ht2 (.cons (.str _) (.cons (.str _) .nil)))⟩
    | cell tn z =>
      obtain ⟨a, u, rfl, ha, _⟩ := cell_inv df
      refine ⟨_, rfl, a, _, 0, _, rfl, rfl, ha, atI_nat (j := 0) rfl, two, fun t ht => ?_⟩
      have m3 := same_new ht (.tup [V.str "local", V.str "variable"])
      refine ⟨_, _, rfl, .inr (SqT.of upd_same), rfl, by decide +kernel, _, rfl, ?_⟩
      rw [if_neg Bool.false_ne_true, hi]
      refine iteF2 (by decide +kernel) ?_
      refine ⟨_, rfl, a, _, 0, _, rfl, rfl, sqT_mono m3 ha, atI_nat (j := 0) rfl, _, _, rfl, .inr (T.q_LOOKS _), rfl, Pz.flat_strs _, _, rfl, ?_⟩
      rw [if_neg Bool.false_ne_true, hj]
      refine iteT2 (by decide +kernel) ?_
      refine ⟨_, rfl, .inl ⟨rfl, _, SqL.of (m3 _ _ ac.l)⟩, _, rfl, a, _, 1, _, rfl, rfl, sqT_mono m3 ha, atI_nat (j := 1) rfl, two, fun t2 ht2 => ?_⟩
      have m4 := m3.trans (same_new ht2 (.tup [V.str "table", V.str tn]))
      exact ⟨L, vs, _, rfl, rfl, m4 _ _ ac.l, hlen, nx (p := ("table", tn)) rfl m4 (dp_tup (ds := [.str "table", .str tn]) ht2 (.cons (.str _) (.cons (.str _) .nil)))⟩
    | op o z y =>
      obtain ⟨a, u, u2, rfl, ha, _⟩ := op_inv df
      have oo := (kind_op ff).mpr ⟨_, _, _, rfl⟩
      have on : o ∉ (["local", "variable"] : List Str) ∧ o ∉ (["has", "cell"] : List Str) := (by decide +kernel : ∀ o ∈ ops, o ∉ (["local", "variable"] : List Str) ∧ o ∉ (["has", "cell"] : List Str)) o oo
      refine ⟨_, rfl, a, _, 0, _, rfl, rfl, ha, atI_nat (j := 0) rfl, two, fun t ht => ?_⟩
      have m3 := same_new ht (.tup [V.str "local", V.str "variable"])
      refine ⟨_, _, rfl, .inr (SqT.of upd_same), rfl, by decide +kernel, _, rfl, ?_⟩
      rw [if_neg Bool.false_ne_true, hi]
      refine iteF2 (decide_eq_false on.1) ?_
      refine ⟨_, rfl, a, _, 0, _, rfl, rfl, sqT_mono m3 ha, atI_nat (j := 0) rfl, _, _, rfl, .inr (T.q_LOOKS _), rfl, Pz.flat_strs _, _, rfl, ?_⟩
      rw [if_neg Bool.false_ne_true, hj]
      exact iteF2 (decide_eq_false on.2) (skip rfl m3)
  · rintro σ H2 ⟨vs, y, rfl, ac, hl2, dd⟩
    rw [lux, List.take_length] at ac
    exact ⟨_, rfl, q L vs H2 hL ac.s ac.l ac.d⟩
end
end Toy
set_option Elab.async false
set_option linter.all false
set_option maxRecDepth 100000
set_option maxHeartbeats 4000000
namespace Toy
open PySem L2 NdefX Gm
open Mine hiding same_new
section
variable {P : Program} {w : World} {K : PySem.W.Frag} {mg : Str → Option Value} {base : Heap} {file : Str}
theorem ok_readsl (T : Txt K mg file) (k : Nat) : FnOk P w K mg base CX0 (k + 3) T.a_reads_local T.fd_reads_local ["expression", "local"] (spReadsL K k) := by
  have G_expression_reads : FnOk P w K mg base CX0 (k + 2) T.a_expression_reads T.fd_expression_reads ["expression"] (spExReads K k) := ok_exreads T k
  refine T.F_reads_local.ok sc_reads_local (fun vs H Q E h => ?_) (fun cdv A outer s H vs Q E hr h => ?_)
  · obtain ⟨v, e, x, rfl, _⟩ := h
    rfl
  obtain ⟨v, e, x, rfl, de, ex, hk, hx, q⟩ := h
  refine ⟨_, (pss_one (ps_ret (pe_cmpR (op_inD (units65 hr)) (pe_tup (pa_cons pe_str (pa_cons (pv 1) pa_nil))) (pe_call G_expression_reads (hr.mono (by omega)) rfl T.g_expression_reads T.k_expression_reads T.b_expression_reads .nil pass0 (pa_cons (pv 0) pa_nil)) rfl))), ?_⟩
  refine ⟨_, rfl, by show 2 ≤ sizeLine; decide, fun t ht => ?_⟩
  have m0 := same_new ht (.tup [V.str "local", V.str x])
  refine ⟨_, rfl, v, e, rfl, dp_mono m0 _ _ de, ex, hk, fun L us H1 nL m1 hL dus => ?_⟩
  have dt : Dp K (upd H t (.tup [V.str "local", V.str x])) (.ref t) (plD ("local", x)) := dp_tup (ds := [.str "local", .str x]) ht (.cons (.str _) (.cons (.str _) .nil))
  have hp : PyData.strOk (("local" : Str), x).1 = true ∧ PyData.strOk (("local" : Str), x).2 = true := ⟨strOk_lit.2.1, nm_ok hx⟩
  refine ⟨plD ("local", x), e.reads.map plD, dp_mono m1 _ _ dt, .lst (SqL.of hL) dus, (fit_pl (n := 0) hp).shaped (by decide), (fit_pls (n := 0) (reads_ok ex)).shaped (by decide), ?_⟩
  exact q _ _ (any_pl hp (reads_ok ex)) (m0.trans m1)
end
end Toy
set_option Elab.async false
set_option linter.all false
set_option maxRecDepth 100000
set_option maxHeartbeats 4000000
namespace Toy
open PySem L2 NdefX Gm Pz
open Mine hiding same_new
def spIsName : Sp := fun vs H Q _ => ∃ x : Str, vs = [.str x] ∧ x.length ≤ 1000000 ∧ ∀ H', Same H H' → Q (.bl (isName x)) H'
theorem a_le : (1000000 : Nat) ≤ sizeLine := by decide
theorem all_map {α : Type} (f : α → Bool) (xs : List α) : (xs.map f).all id = xs.all f := by
  rw [List.all_map]
  rfl
theorem tk_next {α β : Type} (f : α → β) (xs : List α) {i : Nat} {c : α} (h : xs[i]? = some c) : (xs.take i).map f ++ [f c] = (xs.take (i + 1)).map f := by
  rw [take_more h, List.map_append]
  rfl
section
variable {P : Program} {w : World} {K : PySem.W.Frag} {mg : Str → Option Value} {base : Heap} {file : Str}
theorem ok_is_name (T : Txt K mg file) : FnOk P w K mg base CX0 1 T.a_is_name T.fd_is_name ["word"] spIsName := by
  refine T.F_is_name.ok sc_is_name (fun vs H Q E h => ?_) (fun cdv A outer s H vs Q E hr h => ?_)
  · obtain ⟨x, rfl, _⟩ := h
    rfl
  obtain ⟨x, rfl, hx, q⟩ := h
  refine ⟨_, (pss_cons (ps_if (PW.pt (pw_or (pt_not (pt_chain op_le op_le pe_int (pe_callB call_len_str (by rfl) T.z_len (by decide +kernel) (pa_cons (pv 0) pa_nil)) (pe_glob (v := .int 12) rfl T.g_LONGEST_NAME.choose_spec ⟨_, rfl⟩))) (pw_or1 (pt_cmpR op_in_seq (pv 0) (pe_glob (v := .ref T.a_KEY_WORDS) rfl T.g_KEY_WORDS rfl) rfl))))
      (pss_one (ps_ret pe_bl))
      pss_nil)
    (pss_one (ps_ret (pe_and (pe_cmpR op_in_sign (pe_ix ix_str (pv 0) pe_int (fun _ _ => rfl)) (pe_glob (v := .str "abcdefghijklmnopqrstuvwxyz") rfl T.g_LETTERS.choose_spec ⟨_, rfl⟩) rfl) (pe_one (pe_callB (cr_all rfl) (by rfl) T.z_all (by decide +kernel) (pa_cons (pe_lc (own := [("sign", 1)]) (g := gName 1) (tt := tYes) rfl sc_is_name.nd (pi_str (pv 0)) (blkOk_by (own := [("sign", 1)]) (N := ["word", "sign"]) (sc := defScope s_is_name) (by decide +kernel)) (fun _ _ _ _ _ => pg_name (i := 1) sc_is_name.nd rfl (Or.inl rfl)) (fun _ _ _ _ _ => pts_nil) (fun _ _ _ _ _ => (pe_or (pe_cmpR op_in_sign (pv 1) (pe_glob (v := .str "abcdefghijklmnopqrstuvwxyz") rfl T.g_LETTERS.choose_spec ⟨_, rfl⟩) rfl) (pe_one (pe_cmpR op_in_sign (pv 1) (pe_glob (v := .str "0123456789") rfl T.g_DIGITS.choose_spec ⟨_, rfl⟩) rfl))))) pa_nil))))))), ?_⟩
  have no : isName x = false → Q (.bl false) H := fun e => by rw [← e]; exact q H (Same.refl _)
  have hl := len_signs x
  refine ⟨_, rfl, x, rfl, Nat.le_trans hx a_le, _, _, rfl, rfl, _, rfl, ?_⟩
  refine ite2 (fun c1 => ?_) (fun c1 => ?_)
  rotate_left
  · refine ⟨_, rfl, ?_⟩
    refine no ?_
    have := of_decide_eq_false (Bool.eq_false_iff.mpr c1)
    unfold isName
    rw [show decide (1 ≤ x.length ∧ x.length ≤ 12) = false from decide_eq_false (by omega)]
    rfl
  refine ⟨_, _, rfl, rfl, _, rfl, ?_⟩
  have c1' := of_decide_eq_true c1
  refine ite2 (fun c2 => ?_) (fun c2 => ?_)
  · refine no ?_
    have : ¬ x.length ≤ 12 := by
      intro z
      rw [show decide ((x.length : Int) ≤ 12) = true from decide_eq_true (by omega)] at c2
      cases c2
    unfold isName
    rw [show decide (1 ≤ x.length ∧ x.length ≤ 12) = false from decide_eq_false (by omega)]
    rfl
  have c2' : x.length ≤ 12 := by
    cases e : decide ((x.length : Int) ≤ 12) with
    | true => have := of_decide_eq_true e; omega
    | false => rw [e] at c2; exact absurd rfl c2
  refine ⟨_, rfl, _, _, rfl, .inr (T.q_KEY_WORDS H), rfl, flat_strs _, _, rfl, ?_⟩
  rw [if_neg Bool.false_ne_true, inV_strs]
  refine ite2 (fun c3 => ?_) (fun c3 => ?_)
  · refine no ?_
    unfold isName
    rw [show decide (x ∈ keys) = true from c3]
    simp
  have c3' : decide (x ∈ keys) = false := Bool.eq_false_iff.mpr c3
  obtain ⟨c, cs, ec⟩ : ∃ c cs, signs x = c :: cs := by
    cases e : signs x with
    | nil => rw [e] at hl; simp at hl; omega
    | cons c cs => exact ⟨c, cs, rfl⟩
  have bas : isName x = (letB c && (signs x).all fun c => letB c || digB c) := by
    unfold isName
    rw [decide_eq_true (show 1 ≤ x.length ∧ x.length ≤ 12 from ⟨by omega, c2'⟩), c3', ec]
    rfl
  have e0 : atI (signs x) 0 = some c := atI_nat (j := 0) (show (signs x)[0]? = some c by rw [ec] <;> rfl)
  refine ⟨_, rfl, x, 0, c, rfl, rfl, Nat.le_trans hx a_le, e0, _, _, rfl, rfl, ?_⟩
  show ∃ k, V.bl (letB c) = .bl k ∧ _
  refine ⟨_, rfl, ?_⟩
  refine ite2 (fun c4 => ?_) (fun c4 => ?_)
  rotate_left
  · refine no ?_
    rw [bas, Bool.eq_false_iff.mpr c4]
    rfl
  refine ⟨_, rfl, _, rfl, fun D hD => ?_⟩
  refine lc_it walk_str (fun i H' => Same H H' ∧ H' D = some (.lst (((signs x).take i).map fun c => V.bl (letB c || digB c)))) ⟨Gm.same_new hD _, upd_same⟩ (fun _ _ _ _ => trivial) ?_ ?_
  · rintro i v H1 H2 hi ⟨m, e1⟩ ⟨rfl, c', e2, rfl⟩
    refine ⟨rfl, ?_⟩
    have e2' : (signs x)[i]? = some c' := by unfold signs; rw [Array.getElem?_toList]; exact e2
    have fin : ∀ b, (letB c' || digB c') = b → ∃ acc, H2 D = some (.lst acc) ∧ acc.length < sizeLine ∧ Same H (upd H2 D (.lst (acc ++ [V.bl b]))) ∧ upd H2 D (.lst (acc ++ [V.bl b])) D = some (.lst (((signs x).take (i + 1)).map fun c => V.bl (letB c || digB c))) := by
      intro b eb
      refine ⟨_, e1, ?_, fun a o z => ?_, ?_⟩
      · rw [List.length_map, List.length_take]
        exact Nat.lt_of_le_of_lt (Nat.min_le_right _ _) (Nat.lt_of_le_of_lt (show (signs x).length ≤ 12 by omega) (by decide))
      · rw [upd_ne (ne_of_none z hD)]
        exact m _ _ z
      · rw [upd_same, take_more e2', List.map_append, ← eb]
        rfl
    refine ⟨_, rfl, c', _, rfl, rfl, ?_⟩
    show ∃ k, V.bl (letB c') = .bl k ∧ _
    refine ⟨_, rfl, ite2 (fun d => ?_) (fun d => ?_)⟩
    · exact fin true (by rw [d]; rfl)
    · refine ⟨_, rfl, c', _, rfl, rfl, ?_⟩
      show _
      exact fin (digB c') (by rw [Bool.eq_false_iff.mpr d]; rfl)
  · rintro H1 ⟨m, e1⟩
    have e1' : H1 D = some (.lst (((signs x).map fun c => letB c || digB c).map V.bl)) := by
      rw [e1, List.map_map]
      have : (signs x).take x.cps.size = signs x := by
        rw [show x.cps.size = (signs x).length from (Array.length_toList).symm, List.take_length]
      rw [this]
      rfl
    refine ⟨D, _, rfl, SqL.of e1', ?_⟩
    rw [all_map]
    have := q H1 m
    rw [bas, c4, Bool.true_and] at this
    exact this
end
/-! ### the names of rows -/
def spFirst (K : PySem.W.Frag) : Sp := fun vs H Q _ => ∃ (v : V) (ts : List (Str × Int × Int)), vs = [v] ∧ Dp K H v (trips ts) ∧ ts.length ≤ 1000 ∧ ∀ (L : Addr) (H' : Hp), H L = none → Same H H' → H' L = some (.lst ((ts.map (·.1)).map V.str)) → Q (.ref L) H'
section
variable {P : Program} {w : World} {K : PySem.W.Frag} {mg : Str → Option Value} {base : Heap} {file : Str}
theorem ok_first (T : Txt K mg file) : FnOk P w K mg base CX0 1 T.a_first_parts T.fd_first_parts ["rows"] (spFirst K) := by
  refine T.F_first_parts.ok sc_first_parts (fun vs H Q E h => ?_) (fun cdv A outer s H vs Q E hr h => ?_)
  · obtain ⟨v, ts, rfl, _⟩ := h
    rfl
  obtain ⟨v, ts, rfl, dv, hl, q⟩ := h
  obtain ⟨a, xs, rfl, ha, dd⟩ := trips_inv dv
  refine ⟨_, (pss_one (ps_ret (pe_lc (own := [("row", 1)]) (g := gName 1) (tt := tYes) rfl sc_first_parts.nd (pi_tup (pv 0)) (blkOk_by (own := [("row", 1)]) (N := ["rows", "row"]) (sc := defScope s_first_parts) (by decide +kernel)) (fun _ _ _ _ _ => pg_name (i := 1) sc_first_parts.nd rfl (Or.inl rfl)) (fun _ _ _ _ _ => pts_nil) (fun _ _ _ _ _ => (pe_ix (ixtK K rfl) (pv 1) pe_int (fun _ _ => rfl)))))), ?_⟩
  refine ⟨_, rfl, a, rfl, ⟨_, ha⟩, fun D hD => ?_⟩
  refine lc_tup (K := K) (a := a) (xs := xs) (fun i H' => Same H H' ∧ H' D = some (.lst (((ts.map (·.1)).take i).map V.str))) ⟨same_new hD _, upd_same⟩ (fun i H' _ h => sqT_mono h.1 ha) ?_ ?_
  · rintro i x H' hx ⟨ms, e0⟩
    obtain ⟨t, b, et, rfl, hb⟩ := trip_at dd hx
    refine ⟨rfl, _, rfl, b, _, 0, _, rfl, rfl, sqT_mono ms hb, atI_nat (j := 0) rfl, _, e0, names_len hl i, ?_, ?_⟩
    · intro z o' e'
      rw [upd_ne (ne_of_none e' hD)]
      exact ms _ _ e'
    · rw [upd_same, names_next et]
  rintro H2 ⟨m, eL⟩
  rw [names_all dd] at eL
  exact q D H2 hD m eL
end
end Toy
set_option Elab.async false
set_option linter.all false
set_option maxRecDepth 100000
set_option maxHeartbeats 4000000
namespace Toy
open PySem L2 NdefX Gm
open Mine hiding same_new
/-- where a toss leads -/
def TossTo (G : Ga) (n : Str) (i : Int) (l : Str) (c : Int) (D : Ga) : Prop := ∃ (p : Pr) (j : Nat), G.proc n = some p ∧ i = (j : Int) ∧ j ≤ p.block.l.length ∧ (1 ≤ c ∧ c ≤ 64) ∧ Pz.isName l = true ∧ l ∉ p.locs ∧ l ∉ G.vars.map (·.1) ∧ p.locs.length ≤ 5 ∧
  D = G.put { p with locs := p.locs ++ [l], block := Blk.of (p.block.l.take j ++ [.draw l c] ++ p.block.l.drop j) }
/-- where a draw that sinks leads -/
def SinkTo (G : Ga) (n : Str) (i : Int) (D : Ga) : Prop := ∃ p j l c t a b, Ga.At G n i p j (.draw l c) ∧ p.block.l[j + 1]? = some (.ite t a b) ∧ (("local" : Str), l) ∉ t.reads ∧
  D = G.put (p.repl j 2 [.ite t (.cons (.draw l c) a) (.cons (.draw l c) b)])
def StepTo (G : Ga) (r : Str) (rest : List V) (D : Ga) : Prop := (r = "toss" ∧ ∃ n i l c, rest = [.str n, .int i, .str l, .int c] ∧ TossTo G n i l c D) ∨ (r = "sink" ∧ ∃ n i, rest = [.str n, .int i] ∧ SinkTo G n i D)
def StepPre (G : Ga) (r : Str) (rest : List V) : Prop := (r = "toss" ∧ G.vars.length ≤ 1000 ∧ ∃ n i l c, rest = [.str n, .int i, .str l, .int c] ∧ l.length ≤ 1000) ∨ (r = "sink" ∧ ∃ n i, rest = [.str n, .int i])
theorem step_toss {G : Ga} {n l : Str} {i c : Int} {D : Ga} : StepTo G "toss" [.str n, .int i, .str l, .int c] D ↔ TossTo G n i l c D := by
  constructor
  · rintro (⟨_, n', i', l', c', e, h⟩ | ⟨e, _⟩)
    · injection e with e1 e
      injection e with e2 e
      injection e with e3 e
      injection e with e4 _
      injection e1 with e1
      injection e2 with e2
      injection e3 with e3
      injection e4 with e4
      subst e1 e2 e3 e4
      exact h
    · exact absurd e (by decide +kernel)
  · exact fun h => .inl ⟨rfl, _, _, _, _, rfl, h⟩
theorem step_sink {G : Ga} {n : Str} {i : Int} {D : Ga} : StepTo G "sink" [.str n, .int i] D ↔ SinkTo G n i D := by
  constructor
  · rintro (⟨e, _⟩ | ⟨_, n', i', e, h⟩)
    · exact absurd e (by decide +kernel)
    · injection e with e1 e
      injection e with e2 _
      injection e1 with e1
      injection e2 with e2
      subst e1 e2
      exact h
  · exact fun h => .inr ⟨rfl, _, _, rfl, h⟩
def spStep (K : PySem.W.Frag) (C B : Addr) (r : Str) : Sp := fun vs H Q E => ∃ (g : Addr) (v : V) (G : Ga) (rest : List V), vs = [.ref g, v] ∧ GmD K C H g G ∧ StA K H v (.str r :: rest) ∧ StepPre G r rest ∧ GaSz G ∧
  (∀ D, StepTo G r rest D → ∀ (g' : Addr) (H' : Hp), Same H H' → GmD K C H' g' D → Q (.ref g') H') ∧ ((∀ D, ¬ StepTo G r rest D) → Rf B r H E)
def spSame (K : PySem.W.Frag) (C B : Addr) : Sp := fun vs H Q E => ∃ (g : Addr) (v : V) (G : Ga) (r : Str) (rest : List V), vs = [.ref g, v] ∧ GmD K C H g G ∧ StA K H v (.str r :: rest) ∧ StepPre G r rest ∧ GaSz G ∧
  (∀ D, StepTo G r rest D → ∀ (g' : Addr) (H' : Hp), Same H H' → GmD K C H' g' D → Q (.ref g') H') ∧ ((∀ D, ¬ StepTo G r rest D) → Rf B r H E)
def spRules {mg : Str → Option Value} {file : Str} (K : PySem.W.Frag) (_w : World) (T : Txt K mg file) : Addr → Sp → Prop := fun f sp => (f = T.a_toss_step ∧ sp = spStep K T.C_Game T.C_BadStep "toss") ∨ (f = T.a_sink_step ∧ sp = spStep K T.C_Game T.C_BadStep "sink")
theorem draw_is {s : Stm} (h : s.kind = "draw") : ∃ l c, s = .draw l c := by
  cases s <;> first | exact ⟨_, _, rfl⟩ | (dsimp only [Stm.kind] at h; exact absurd h (by decide +kernel))
theorem ite_is {s : Stm} (h : s.kind = "if") : ∃ t a b, s = .ite t a b := by
  cases s <;> first | exact ⟨_, _, _, rfl⟩ | (dsimp only [Stm.kind] at h; exact absurd h (by decide +kernel))
end Toy
set_option Elab.async false
set_option linter.all false
set_option maxRecDepth 100000
set_option maxHeartbeats 4000000
namespace Toy
open PySem L2 NdefX Gm
open Mine hiding same_new
section
variable {P : Program} {w : World} {K : PySem.W.Frag} {mg : Str → Option Value} {base : Heap} {file : Str}
theorem ok_toss (hP : PrF P file) (T : Txt K mg file) : FnOk P w K mg base (L2.CX P w) 17 T.a_toss_step T.fd_toss_step ["game", "step"] (spStep K T.C_Game T.C_BadStep "toss") := by
  have G_proc_of : FnOk P w K mg base (L2.CX P w) 4 T.a_proc_of T.fd_proc_of ["game", "step"] (spProcOf K T.C_Game T.C_BadStep) := ok_procof hP T
  have G_require : FnOk P w K mg base (L2.CX P w) 3 T.a_require T.fd_require ["holds", "step"] (spReq K T.C_BadStep) := ok_require hP T
  have G_is_name : FnOk P w K mg base CX0 1 T.a_is_name T.fd_is_name ["word"] spIsName := ok_is_name T
  have G_first_parts : FnOk P w K mg base CX0 1 T.a_first_parts T.fd_first_parts ["rows"] (spFirst K) := ok_first T
  have G_with_proc : FnOk P w K mg base CX0 3 T.a_with_proc T.fd_with_proc ["game", "new"] (spWith K T.C_Game) := ok_with T
  refine T.F_toss_step.okX sc_toss_step (fun vs H Q E h => ?_) (fun cdv A outer s H vs Q E hr h => ?_)
  · obtain ⟨g, v, G, rest, rfl, _⟩ := h
    rfl
  obtain ⟨g, v, G, rest, rfl, hg, ⟨sa, rfl, hsa⟩, pre, sz, q1, q2⟩ := h
  rcases pre with ⟨_, hvl, n, i, l, c, rfl, hll⟩ | ⟨z, _⟩
  case inr => exact absurd z (by decide +kernel)
  replace q1 := fun D h => q1 D (step_toss.mpr h)
  replace q2 : (∀ D, ¬ TossTo G n i l c D) → Rf T.C_BadStep "toss" H E := fun h => q2 fun D z => h D (step_toss.mp z)
  have hr1 : ("toss" : Str).length ≤ 1000 := by decide +kernel
  refine ⟨_, (pss_cons (ps_asg (pv 1) (pg_tup rfl (pgs_cons (pg_name (i := 2) sc_toss_step.nd rfl (Or.inl rfl)) (pgs_cons (pg_name (i := 2) sc_toss_step.nd rfl (Or.inl rfl)) (pgs_cons (pg_name (i := 3) sc_toss_step.nd rfl (Or.inl rfl)) (pgs_cons (pg_name (i := 4) sc_toss_step.nd rfl (Or.inl rfl)) (pgs_cons (pg_name (i := 5) sc_toss_step.nd rfl (Or.inl rfl)) pgs_nil)))))))
    (pss_cons (ps_asg (pe_call G_proc_of (hr.mono (by decide)) rfl T.g_proc_of T.k_proc_of T.b_proc_of .nil (passes_call (takes_of rfl rfl rfl rfl) (fun _ _ _ _ z => z)) (pa_cons (pv 0) (pa_cons (pv 1) pa_nil))) (pg_tup rfl (pgs_cons (pg_name (i := 6) sc_toss_step.nd rfl (Or.inl rfl)) (pgs_cons (pg_name (i := 7) sc_toss_step.nd rfl (Or.inl rfl)) (pgs_cons (pg_name (i := 8) sc_toss_step.nd rfl (Or.inl rfl)) (pgs_cons (pg_name (i := 9) sc_toss_step.nd rfl (Or.inl rfl)) (pgs_cons (pg_name (i := 10) sc_toss_step.nd rfl (Or.inl rfl)) (pgs_cons (pg_name (i := 11) sc_toss_step.nd rfl (Or.inl rfl)) pgs_nil))))))))
    (pss_cons (ps_expr (pe_call G_require (hr.mono (by decide)) rfl T.g_require T.k_require T.b_require .nil (passes_call (takes_of rfl rfl rfl rfl) (fun _ _ _ _ z => z)) (pa_cons (pe_and (pe_chain op_le op_le pe_int (pv 3) (pe_callB call_len_seq (by rfl) T.z_len (by decide +kernel) (pa_cons (pv 10) pa_nil))) (pe_one (pe_chain op_le op_le pe_int (pv 5) (pe_glob (v := .int 64) rfl T.g_MOST_DRAWN.choose_spec ⟨_, rfl⟩)))) (pa_cons (pv 1) pa_nil))))
    (pss_cons (ps_expr (pe_call G_require (hr.mono (by decide)) rfl T.g_require T.k_require T.b_require .nil (passes_call (takes_of rfl rfl rfl rfl) (fun _ _ _ _ z => z)) (pa_cons (pe_and (pe_call G_is_name (hr.mono (by decide)) rfl T.g_is_name T.k_is_name T.b_is_name .nil pass0 (pa_cons (pv 4) pa_nil)) (pe_and (pe_cmpR op_notIn_seq (pv 4) (pv 9) rfl) (pe_one (pe_cmpR op_notIn_seq (pv 4) (pe_call G_first_parts (hr.mono (by decide)) rfl T.g_first_parts T.k_first_parts T.b_first_parts .nil pass0 (pa_cons (pe_fld (pv 0) rfl) pa_nil)) rfl)))) (pa_cons (pv 1) pa_nil))))
    (pss_cons (ps_expr (pe_call G_require (hr.mono (by decide)) rfl T.g_require T.k_require T.b_require .nil (passes_call (takes_of rfl rfl rfl rfl) (fun _ _ _ _ z => z)) (pa_cons (pe_cmpR op_le (pe_callB call_len_seq (by rfl) T.z_len (by decide +kernel) (pa_cons (pv 9) pa_nil)) (pe_glob (v := .int 5) rfl T.g_MOST_BEFORE_TOSS.choose_spec ⟨_, rfl⟩) (nomark _)) (pa_cons (pv 1) pa_nil))))
    (pss_cons (ps_set (i := 12) sc_toss_step.nd rfl (Or.inl rfl) (pe_tup (StX.pa_star (pe_slice (slTB K rfl) (pv 10) po_none (po_some (pv 3))) (pa_cons (pe_tup (pa_cons pe_str (pa_cons (pv 4) (pa_cons (pv 5) pa_nil)))) (StX.pa_star (pe_slice (slTB K rfl) (pv 10) (po_some (pv 3)) po_none) pa_nil)))))
    (pss_one (ps_ret (pe_call G_with_proc (hr.mono (by decide)) rfl T.g_with_proc T.k_with_proc T.b_with_proc .nil pass0 (pa_cons (pv 0) (pa_cons (pe_tup (pa_cons (pv 6) (pa_cons (pv 7) (pa_cons (pv 8) (pa_cons (pe_tup (StX.pa_star (pv 9) (pa_cons (pv 4) pa_nil))) (pa_cons (pv 12) (pa_cons (pv 11) pa_nil))))))) pa_nil))))))))))), ?_⟩
  refine ⟨_, rfl, sa, _, rfl, hsa, rfl, _, _, rfl, _, _, rfl, _, _, rfl, _, _, rfl, _, _, rfl, rfl, ?_⟩
  refine ⟨_, rfl, _, rfl, g, .ref sa, G, "toss", n, _, rfl, hg, ⟨sa, rfl, hsa⟩, hr1, fun p hp u hu => ?_, fun hp => q2 fun D ⟨p, j, h, _⟩ => by rw [hp] at h; cases h⟩
  obtain ⟨pa, la, ba, rv, bs, rfl, hpa, hla, hba, dbs, dres⟩ := pr_inv hu
  have lb : bs.length = p.block.l.length := (DpAll.len dbs).trans (List.length_map _)
  refine ⟨pa, _, rfl, hpa, rfl, _, _, rfl, _, _, rfl, _, _, rfl, _, _, rfl, _, _, rfl, _, _, rfl, rfl, ?_⟩
  have no : ∀ {H' : Hp} (_ : Same H H') (_ : ∀ j : Nat, i = (j : Int) → j ≤ p.block.l.length → (1 ≤ c ∧ c ≤ 64) → Pz.isName l = true → l ∉ p.locs → l ∉ G.vars.map (·.1) → p.locs.length ≤ 5 → False), Rf T.C_BadStep "toss" H' E := fun {H'} m h => (q2 fun D ⟨p', j, h1, h2, h3, h4, h5, h6, h7, h8, _⟩ => by
    rw [hp] at h1
    cases h1
    exact h j h2 h3 h4 h5 h6 h7 h8).same m
  by_cases c1 : 0 ≤ i
  case neg =>
    refine ⟨_, rfl, _, _, rfl, rfl, _, rfl, iteF2 (decide_eq_false c1) ⟨false, rfl, iteF2 rfl ?_⟩⟩
    exact ⟨_, rfl, false, .ref sa, "toss", _, rfl, ⟨sa, rfl, hsa⟩, hr1, fun z => Bool.noConfusion z, fun _ => no (Same.refl _) fun j e _ _ _ _ _ _ => by omega⟩
  obtain ⟨j, rfl⟩ := Int.eq_ofNat_of_zero_le c1
  refine ⟨_, rfl, _, _, rfl, rfl, _, rfl, iteT2 (decide_eq_true c1) ⟨_, rfl, ba, bs, rfl, .inr hba, _, _, rfl, rfl, _, rfl, ?_⟩⟩
  by_cases c2 : (j : Int) ≤ (bs.length : Int)
  case neg =>
    refine iteF2 (decide_eq_false c2) ?_
    exact ⟨_, rfl, false, .ref sa, "toss", _, rfl, ⟨sa, rfl, hsa⟩, hr1, fun z => Bool.noConfusion z, fun _ => no (Same.refl _) fun j' e h _ _ _ _ _ => by omega⟩
  refine iteT2 (decide_eq_true c2) ⟨_, rfl, _, _, rfl, rfl, _, rfl, ?_⟩
  by_cases c3 : 1 ≤ c
  case neg =>
    refine iteF2 (decide_eq_false c3) ?_
    exact ⟨_, rfl, false, .ref sa, "toss", _, rfl, ⟨sa, rfl, hsa⟩, hr1, fun z => Bool.noConfusion z, fun _ => no (Same.refl _) fun j' e _ h _ _ _ _ => c3 h.1⟩
  refine iteT2 (decide_eq_true c3) ⟨_, _, rfl, rfl, ?_⟩
  refine ⟨_, rfl, decide (c ≤ 64), .ref sa, "toss", _, rfl, ⟨sa, rfl, hsa⟩, hr1, fun c4 => ?_, fun c4 => no (Same.refl _) fun j' e _ h _ _ _ _ => of_decide_eq_false c4 h.2⟩
  have c4 := of_decide_eq_true c4
  refine ⟨_, rfl, l, rfl, Nat.le_trans hll (by decide), fun H1 m1 => ⟨_, rfl, ?_⟩⟩
  have hsa1 := sqT_mono m1 hsa
  by_cases c5 : Pz.isName l = true
  case neg =>
    refine iteF2 (by simpa using c5) ?_
    exact ⟨_, rfl, false, .ref sa, "toss", _, rfl, ⟨sa, rfl, hsa1⟩, hr1, fun z => Bool.noConfusion z, fun _ => no m1 fun j' e _ _ h _ _ _ => c5 h⟩
  refine iteT2 c5 ⟨_, rfl, _, rfl, la, _, rfl, .inr (sqT_mono m1 hla), rfl, Pz.flat_strs _, _, rfl, ?_⟩
  rw [if_pos rfl, Pz.inV_strs]
  by_cases c6 : l ∈ p.locs
  case pos =>
    refine iteF2 (by simp [c6]) ?_
    exact ⟨_, rfl, false, .ref sa, "toss", _, rfl, ⟨sa, rfl, hsa1⟩, hr1, fun z => Bool.noConfusion z, fun _ => no m1 fun j' e _ _ _ h _ _ => h c6⟩
  refine iteT2 (by simp [c6]) ?_
  obtain ⟨dx, a1, a2, a3, a4, hgo, da1, _⟩ := hg.same m1
  refine ⟨_, rfl, _, rfl, g, _, dx, _, _, rfl, hgo, T.cl_Game, T.na_Game_variables, gf_variables _ _ _ _, a1, G.vars, rfl, da1, hvl, fun L H2 nL m2 hL => ?_⟩
  have m12 := m1.trans m2
  have hsa2 := sqT_mono m12 hsa
  refine ⟨_, _, rfl, .inl (SqL.of hL), rfl, Pz.flat_strs _, ?_⟩
  rw [if_pos rfl, Pz.inV_strs]
  refine ⟨_, rfl, _, .ref sa, "toss", _, rfl, ⟨sa, rfl, hsa2⟩, hr1, fun c7 => ?_, fun c7 => no m12 fun j' e _ _ _ _ h _ => by simp [h] at c7⟩
  have c7 : l ∉ G.vars.map (·.1) := by
    intro h
    simp only [Bool.not_eq_true', decide_eq_false_iff_not] at c7
    exact c7 h
  have hla2 := sqT_mono m12 hla
  refine ⟨_, rfl, la, _, rfl, .inr hla2, _, _, rfl, rfl, _, rfl, _, .ref sa, "toss", _, rfl, ⟨sa, rfl, hsa2⟩, hr1, fun c8 => ?_, fun c8 => no m12 fun j' e _ _ _ _ _ h => by have := of_decide_eq_false c8; rw [List.length_map] at this; omega⟩
  have c8 : p.locs.length ≤ 5 := by
    have := of_decide_eq_true c8
    rw [List.length_map] at this
    omega
  have hba2 := sqT_mono m12 hba
  have hjl : j ≤ p.block.l.length := by omega
  have hbl := (sz.b p (Ga.proc_mem hp).1).2
  refine ⟨_, rfl, _, rfl, _, rfl, ba, bs, rfl, hba2, fun b1 H3 m3 hb1 => ?_⟩
  rw [cut_take] at hb1
  refine ⟨b1, _, rfl, .inl hb1, _, rfl, _, rfl, by show 3 ≤ sizeLine; decide, fun t1 h1 => ?_⟩
  have n1 := same_new h1 (.tup [V.str "draw", .str l, .int c])
  refine ⟨_, rfl, _, rfl, _, rfl, ba, bs, rfl, sqT_mono (m3.trans n1) hba2, fun b2 H4 m4 hb2 => ?_⟩
  rw [cut_drop] at hb2
  refine ⟨b2, _, rfl, .inl hb2, ?_, fun nt hnt => ?_⟩
  · refine Nat.le_trans (show _ ≤ 3000 from ?_) (by decide)
    simp only [List.length_append, List.length_cons, List.length_take, List.length_drop, List.length_nil]
    omega
  rw [List.append_nil]
  have m04 := m12.trans (m3.trans (n1.trans m4))
  have n5 := same_new hnt (.tup (bs.take j ++ (V.ref t1 :: bs.drop j)))
  have dt1 : Dp K H4 (.ref t1) (Stm.draw l c).d := dp_mono m4 _ _ (dp_tup (ds := [.str "draw", .str l, .int c]) h1 (.cons (.str _) (.cons (.str _) (.cons (.int _) .nil))))
  have dbs4 := dp_monoAll m04 _ _ dbs
  have dnt : Dp K (upd H4 nt (.tup (bs.take j ++ (V.ref t1 :: bs.drop j)))) (.ref nt) (Blk.of (p.block.l.take j ++ [.draw l c] ++ p.block.l.drop j)).d := by
    refine dp_tup hnt ?_
    rw [Blk.ds_of, List.map_append, List.map_append, List.append_assoc, List.map_take, List.map_drop]
    exact DpAll.app (DpAll.take j dbs4) (.cons dt1 (DpAll.drop j dbs4))
  have m05 := m04.trans n5
  refine ⟨_, rfl, _, rfl, _, rfl, _, rfl, _, rfl, la, _, rfl, .inl (sqT_mono m05 hla), _, rfl, ?_, fun lt hlt => ?_⟩
  · refine Nat.le_trans (show _ ≤ 100 from ?_) (by decide)
    simp only [List.length_append, List.length_map, List.length_cons, List.length_nil]
    omega
  have n6 := same_new hlt (.tup (p.locs.map V.str ++ [V.str l]))
  have dlt : Dp K (upd (upd H4 nt (.tup (bs.take j ++ (V.ref t1 :: bs.drop j)))) lt (.tup (p.locs.map V.str ++ [V.str l]))) (.ref lt) (strD (p.locs ++ [l])) := by
    refine dp_tup hlt ?_
    rw [show p.locs.map V.str ++ [V.str l] = (p.locs ++ [l]).map V.str from by rw [List.map_append]; rfl]
    exact dp_strs _
  have m06 := m05.trans n6
  refine ⟨_, rfl, _, rfl, by show 6 ≤ sizeLine; decide, fun tp htp => ?_⟩
  have n7 := same_new htp (.tup [.str p.name, .int p.size, .int p.ans, .ref lt, .ref nt, rv])
  have m07 := m06.trans n7
  refine ⟨g, .ref tp, G, { p with locs := p.locs ++ [l], block := Blk.of (p.block.l.take j ++ [.draw l c] ++ p.block.l.drop j) }, rfl, hg.same m07, ?_, sz.n, fun g' H' mm gd => ?_⟩
  · exact dp_tup (ds := [.str p.name, .int p.size, .int p.ans, strD (p.locs ++ [l]), (Blk.of (p.block.l.take j ++ [.draw l c] ++ p.block.l.drop j)).d, p.res.d]) htp (.cons (.str _) (.cons (.int _) (.cons (.int _) (.cons dlt (.cons (dp_mono n6 _ _ dnt) (.cons (dp_mono m06 _ _ dres) .nil))))))
  · exact q1 _ ⟨p, j, hp, rfl, hjl, ⟨c3, c4⟩, c5, c6, c7, c8, rfl⟩ g' H' (m07.trans mm) gd
end
end Toy
set_option Elab.async false
set_option linter.all false
set_option maxRecDepth 100000
set_option maxHeartbeats 4000000
namespace Toy
open PySem L2 NdefX Gm
open Mine hiding same_new
section
variable {P : Program} {w : World} {K : PySem.W.Frag} {mg : Str → Option Value} {base : Heap} {file : Str}
theorem ok_sink (hP : PrF P file) (T : Txt K mg file) : FnOk P w K mg base (L2.CX P w) 17 T.a_sink_step T.fd_sink_step ["game", "step"] (spStep K T.C_Game T.C_BadStep "sink") := by
  have G_pair_of : FnOk P w K mg base (L2.CX P w) 6 T.a_pair_of T.fd_pair_of ["game", "step"] (spPairOf K T.C_Game T.C_BadStep) := ok_pairof hP T
  have G_require : FnOk P w K mg base (L2.CX P w) 3 T.a_require T.fd_require ["holds", "step"] (spReq K T.C_BadStep) := ok_require hP T
  have G_reads_local : FnOk P w K mg base CX0 15 T.a_reads_local T.fd_reads_local ["expression", "local"] (spReadsL K 12) := ok_readsl T 12
  have G_replaced : FnOk P w K mg base CX0 4 T.a_replaced T.fd_replaced ["game", "proc", "at", "many", "statements"] (spRepl K T.C_Game) := ok_repl T
  refine T.F_sink_step.okX sc_sink_step (fun vs H Q E h => ?_) (fun cdv A outer s H vs Q E hr h => ?_)
  · obtain ⟨g, v, G, rest, rfl, _⟩ := h
    rfl
  obtain ⟨g, v, G, rest, rfl, hg, ⟨sa, rfl, hsa⟩, pre, sz, q1, q2⟩ := h
  rcases pre with ⟨z, _⟩ | ⟨_, n, i, rfl⟩
  case inl => exact absurd z (by decide +kernel)
  replace q1 := fun D h => q1 D (step_sink.mpr h)
  replace q2 : (∀ D, ¬ SinkTo G n i D) → Rf T.C_BadStep "sink" H E := fun h => q2 fun D z => h D (step_sink.mp z)
  have hr1 : ("sink" : Str).length ≤ 1000 := by decide +kernel
  refine ⟨_, (pss_cons (ps_asg (pe_call G_pair_of (hr.mono (by decide)) rfl T.g_pair_of T.k_pair_of T.b_pair_of .nil (passes_call (takes_of rfl rfl rfl rfl) (fun _ _ _ _ z => z)) (pa_cons (pv 0) (pa_cons (pv 1) pa_nil))) (pg_tup rfl (pgs_cons (pg_name (i := 2) sc_sink_step.nd rfl (Or.inl rfl)) (pgs_cons (pg_name (i := 3) sc_sink_step.nd rfl (Or.inl rfl)) (pgs_cons (pg_name (i := 4) sc_sink_step.nd rfl (Or.inl rfl)) pgs_nil)))))
    (pss_cons (ps_expr (pe_call G_require (hr.mono (by decide)) rfl T.g_require T.k_require T.b_require .nil (passes_call (takes_of rfl rfl rfl rfl) (fun _ _ _ _ z => z)) (pa_cons (pe_and (pe_cmpR op_eq (pe_ix ix_tup (pv 3) pe_int (fun _ _ => rfl)) pe_str (nomark _)) (pe_one (pe_cmpR op_eq (pe_ix ix_tup (pv 4) pe_int (fun _ _ => rfl)) pe_str (nomark _)))) (pa_cons (pv 1) pa_nil))))
    (pss_cons (ps_asg (pv 4) (pg_tup rfl (pgs_cons (pg_name (i := 5) sc_sink_step.nd rfl (Or.inl rfl)) (pgs_cons (pg_name (i := 6) sc_sink_step.nd rfl (Or.inl rfl)) (pgs_cons (pg_name (i := 7) sc_sink_step.nd rfl (Or.inl rfl)) (pgs_cons (pg_name (i := 8) sc_sink_step.nd rfl (Or.inl rfl)) pgs_nil))))))
    (pss_cons (ps_expr (pe_call G_require (hr.mono (by decide)) rfl T.g_require T.k_require T.b_require .nil (passes_call (takes_of rfl rfl rfl rfl) (fun _ _ _ _ z => z)) (pa_cons (pe_not (pe_call G_reads_local (hr.mono (by decide)) rfl T.g_reads_local T.k_reads_local T.b_reads_local .nil pass0 (pa_cons (pv 6) (pa_cons (pe_ix ix_tup (pv 3) pe_int (fun _ _ => rfl)) pa_nil)))) (pa_cons (pv 1) pa_nil))))
    (pss_one (ps_ret (pe_call G_replaced (hr.mono (by decide)) rfl T.g_replaced T.k_replaced T.b_replaced .nil pass0 (pa_cons (pv 0) (pa_cons (pv 2) (pa_cons (pe_ix ix_tup (pv 1) pe_int (fun _ _ => rfl)) (pa_cons pe_int (pa_cons (pe_tup (pa_cons (pe_tup (pa_cons pe_str (pa_cons (pv 6) (pa_cons (pe_tup (pa_cons (pv 3) (StX.pa_star (pv 7) pa_nil))) (pa_cons (pe_tup (pa_cons (pv 3) (StX.pa_star (pv 8) pa_nil))) pa_nil))))) pa_nil)) pa_nil)))))))))))), ?_⟩
  refine ⟨_, rfl, _, rfl, g, .ref sa, G, "sink", n, i, _, rfl, hg, ⟨sa, rfl, hsa⟩, hr1, fun p j s s' hat hs' t u z y H1 m1 ht hu hz hy => ?_, fun hno => q2 fun D ⟨p, j, l, c, t, a, b, h1, h2, _⟩ => hno p j _ _ ⟨h1, h2⟩⟩
  refine ⟨t, _, rfl, ht, rfl, _, _, rfl, _, _, rfl, _, _, rfl, rfl, ?_⟩
  have hsa1 := sqT_mono m1 hsa
  have no : ∀ {H' : Hp} (_ : Same H H') (_ : ∀ l c t a b, s = .draw l c → s' = .ite t a b → (("local" : Str), l) ∉ t.reads → False), Rf T.C_BadStep "sink" H' E := fun {H'} m h => (q2 fun D ⟨p', j', l, c, t, a, b, h1, h2, h3, _⟩ => by
    have e1 := h1.1.symm.trans hat.1
    cases e1
    have e2 : j' = j := by have := h1.2.1; have := hat.2.1; omega
    subst e2
    have e3 := Option.some.inj (h1.2.2.symm.trans hat.2.2)
    have e4 := Option.some.inj (hs'.symm.trans h2)
    exact h l c t a b e3.symm e4 h3).same m
  have hz0 := hz
  obtain ⟨za, zr, rfl, hza, dzr⟩ := stm_inv hz
  obtain ⟨ya, yr, rfl, hya, dyr⟩ := stm_inv hy
  refine ⟨_, rfl, za, _, 0, _, rfl, rfl, hza, atI_nat (j := 0) rfl, rfl, _, rfl, ?_⟩
  by_cases kd : s.kind = "draw"
  case neg =>
    refine iteF2 (by simp [kd]) ?_
    exact ⟨_, rfl, false, .ref sa, "sink", _, rfl, ⟨sa, rfl, hsa1⟩, hr1, fun z => Bool.noConfusion z, fun _ => no m1 fun l c _ _ _ e1 _ _ => kd (by rw [e1]; rfl)⟩
  refine iteT2 (by simp [kd]) ?_
  obtain ⟨l, c, rfl⟩ := draw_is kd
  obtain ⟨zl, _, rfl, dl, dzr⟩ := dps_cons dzr
  obtain ⟨zc, _, rfl, dc, dzr⟩ := dps_cons dzr
  have e0 := dps_nil dzr
  subst e0
  have e1 := dp_s dl
  subst e1
  have e1 := dp_i dc
  subst e1
  have hpm := Ga.proc_mem hat.1
  have bp := sz.b p hpm.1
  have s1 := blF.l bp.1 _ (List.mem_of_getElem? hat.2.2)
  have s2 := blF.l bp.1 _ (List.mem_of_getElem? hs')
  have nml : nmB l = true := by unfold stF at s1; exact s1.1
  refine ⟨_, rfl, ya, _, 0, _, rfl, rfl, hya, atI_nat (j := 0) rfl, rfl, ?_⟩
  refine ⟨_, rfl, _, .ref sa, "sink", _, rfl, ⟨sa, rfl, hsa1⟩, hr1, fun ki => ?_, fun ki => no m1 fun l' c' t a b _ e2 _ => by rw [e2] at ki; exact absurd (of_decide_eq_false ki) (fun z => z rfl)⟩
  have ki : s'.kind = "if" := V.str.inj (of_decide_eq_true ki)
  obtain ⟨tt, fa, fb, rfl⟩ := ite_is ki
  obtain ⟨yt, _, rfl, dt, dyr⟩ := dps_cons dyr
  obtain ⟨y1, _, rfl, d1, dyr⟩ := dps_cons dyr
  obtain ⟨y2, _, rfl, d2, dyr⟩ := dps_cons dyr
  have e0 := dps_nil dyr
  subst e0
  obtain ⟨fa1, fas, rfl, hfa, dfa⟩ := dp_inv d1
  obtain ⟨fb1, fbs, rfl, hfb, dfb⟩ := dp_inv d2
  have ft : exF 12 tt := by unfold stF at s2; exact s2.1
  refine ⟨_, rfl, ya, _, rfl, hya, rfl, _, _, rfl, _, _, rfl, _, _, rfl, _, _, rfl, rfl, ?_⟩
  refine ⟨_, rfl, _, rfl, za, _, 1, _, rfl, rfl, hza, atI_nat (j := 1) rfl, yt, tt, l, rfl, dt, ft, by decide, nml, fun b H2 hb m2 => ?_⟩
  have m12 := m1.trans m2
  have hsa2 := sqT_mono m12 hsa
  refine ⟨_, rfl, _, rfl, _, .ref sa, "sink", _, rfl, ⟨sa, rfl, hsa2⟩, hr1, fun z => ?_, fun z => no m12 fun l' c' t a b' e1 e2 h => by injection e1 with e1 _; injection e2 with e2 _ _; subst e1 e2; cases b with | false => cases z | true => exact h (hb.mp rfl)⟩
  have hnr : (("local" : Str), l) ∉ tt.reads := fun h => by rw [hb.mpr h] at z; cases z
  refine ⟨_, rfl, _, rfl, _, rfl, sa, _, 2, _, rfl, rfl, hsa2, atI_nat (j := 2) rfl, ?_⟩
  have fit2 : fa.len ≤ 650 ∧ fb.len ≤ 650 := by unfold stF at s2; exact s2.2.2.2
  have la : fas.length ≤ 650 := by rw [DpAll.len dfa, Blk.len_ds]; exact fit2.1
  have lb : fbs.length ≤ 650 := by rw [DpAll.len dfb, Blk.len_ds]; exact fit2.2
  have big : ∀ n : Nat, n ≤ 3000 → n ≤ sizeLine := fun n h => Nat.le_trans h (by decide)
  refine ⟨_, rfl, _, rfl, _, rfl, fa1, fas, rfl, .inl (sqT_mono m2 hfa), ?_⟩
  refine ⟨big _ (by simp only [List.length_cons, List.length_append, List.length_nil]; omega), fun w1 hw1 => ?_⟩
  have n1 := same_new hw1 (.tup (V.ref za :: (fas ++ [])))
  refine ⟨_, rfl, _, rfl, fb1, fbs, rfl, .inl (sqT_mono (m2.trans n1) hfb), ?_⟩
  refine ⟨big _ (by simp only [List.length_cons, List.length_append, List.length_nil]; omega), fun w2 hw2 => ?_⟩
  have n2 := same_new hw2 (.tup (V.ref za :: (fbs ++ [])))
  refine ⟨by show 4 ≤ sizeLine; decide, fun w3 hw3 => ?_⟩
  have n3 := same_new hw3 (.tup [V.str "if", yt, .ref w1, .ref w2])
  refine ⟨by show 1 ≤ sizeLine; decide, fun w4 hw4 => ?_⟩
  have n4 := same_new hw4 (.tup [V.ref w3])
  have dA : Dp K _ (.ref w1) (Blk.cons (.draw l c) fa).d := dp_tup hw1 (.cons (dp_mono m2 _ _ hz0) (by have h := dp_monoAll m2 _ _ dfa; rw [← List.append_nil fas] at h; exact h))
  have dB : Dp K _ (.ref w2) (Blk.cons (.draw l c) fb).d := dp_tup hw2 (.cons (dp_mono (m2.trans n1) _ _ hz0) (by have h := dp_monoAll (m2.trans n1) _ _ dfb; rw [← List.append_nil fbs] at h; exact h))
  have dI : Dp K _ (.ref w3) (Stm.ite tt (.cons (.draw l c) fa) (.cons (.draw l c) fb)).d := dp_tup (ds := [.str "if", tt.d, (Blk.cons (.draw l c) fa).d, (Blk.cons (.draw l c) fb).d]) hw3 (.cons (.str _) (.cons (dp_mono (m2.trans (n1.trans n2)) _ _ dt) (.cons (dp_mono n2 _ _ dA) (.cons dB .nil))))
  have mm := m2.trans (n1.trans (n2.trans (n3.trans n4)))
  refine ⟨g, u, .ref w4, j, 2, G, p, [.ite tt (.cons (.draw l c) fa) (.cons (.draw l c) fb)], by rw [hat.2.1]; rfl, hg.same (m1.trans mm), dp_mono mm _ _ hu, dp_tup (ds := [(Stm.ite tt (.cons (.draw l c) fa) (.cons (.draw l c) fb)).d]) hw4 (.cons dI .nil), sz.n, by have := bp.2; simp only [List.length_singleton]; omega, fun g' H' m6 gd => ?_⟩
  exact q1 _ ⟨p, j, l, c, tt, fa, fb, hat, hs', hnr, rfl⟩ g' H' ((m1.trans mm).trans m6) gd
end
end Toy
set_option Elab.async false
set_option linter.all false
set_option maxRecDepth 100000
set_option maxHeartbeats 4000000
namespace Toy
open PySem L2 NdefX Gm
open Mine hiding same_new
section
variable {P : Program} {w : World} {K : PySem.W.Frag} {mg : Str → Option Value} {base : Heap} {file : Str}
theorem ok_same (hP : PrF P file) (T : Txt K mg file) (hR : ∃ es n, L2.KDict K w T.a_RULES es n) : FnOk P w K mg base (L2.CX P w) 18 T.a_same T.fd_same ["game", "step"] (spSame K T.C_Game T.C_BadStep) := by
  obtain ⟨es, nk, hKD⟩ := hR
  have hS : ∀ f sp, spRules K w T f sp → ∃ fd ps, FnOk P w K mg base (L2.CX P w) 17 f fd ps sp ∧ PySem.W.keepIn K (.ref f) = true ∧ L2.Binds K fd ps [] := by
    rintro f sp (⟨rfl, rfl⟩ | ⟨rfl, rfl⟩)
    · exact ⟨_, _, ok_toss hP T, T.k_toss_step, T.b_toss_step⟩
    · exact ⟨_, _, ok_sink hP T, T.k_sink_step, T.b_sink_step⟩
  refine T.F_same.okX sc_same (fun vs H Q E h => ?_) (fun cdv A outer s H vs Q E hr h => ?_)
  · obtain ⟨g, v, G, r, rest, rfl, _⟩ := h
    rfl
  obtain ⟨g, v, G, r, rest, rfl, hg, ⟨sa, rfl, hsa⟩, pre, sz, q1, q2⟩ := h
  refine ⟨_, (pss_cons (ps_if ((pt_cmpR (op_notIn_kd hKD) (pe_ix ix_tup (pv 1) pe_int (fun _ _ => rfl)) (pe_glob (v := .ref T.a_RULES) rfl T.g_RULES rfl) rfl))
      (pss_one (ps_raise rfl (takes_of rfl rfl rfl rfl) (pmk_err T.E_BadStep (err_BadStep (k := 0) T.E_BadStep hP) T.b_BadStep_init (hr.mono (by decide)) rfl T.g_BadStep (pa_cons (pe_ix ix_tup (pv 1) pe_int (fun _ _ => rfl)) pa_nil))))
      pss_nil)
    (pss_cons (ps_set (i := 2) sc_same.nd rfl (Or.inl rfl) (pe_ix ix_kdict (pe_glob (v := .ref T.a_RULES) rfl T.g_RULES rfl) (pe_ix ix_tup (pv 1) pe_int (fun _ _ => rfl)) (fun _ _ => rfl)))
    (pss_one (ps_ret (CaL.pe_callLS (i := 2) (S := spRules K w T) hS (hr.mono (by omega)) rfl (.inl rfl) (passes_call (takes_of rfl rfl rfl rfl) (fun _ _ _ _ z => z)) (pa_cons (pv 0) (pa_cons (pv 1) pa_nil))))))), ?_⟩
  obtain ⟨f, hn, hf⟩ : ∃ f : Addr, PySem.W.nsIn K T.a_RULES r = some (some (.ref f)) ∧ spRules K w T f (spStep K T.C_Game T.C_BadStep r) := by
    rcases id pre with ⟨rfl, _⟩ | ⟨rfl, _⟩
    · exact ⟨T.a_toss_step, T.ns_RULES_0, .inl ⟨rfl, rfl⟩⟩
    · exact ⟨T.a_sink_step, T.ns_RULES_1, .inr ⟨rfl, rfl⟩⟩
  refine ⟨_, rfl, sa, _, 0, _, rfl, rfl, hsa, atI_nat (j := 0) rfl, r, _, rfl, rfl, hn, _, rfl, iteF ?_⟩
  refine ⟨_, rfl, sa, _, 0, _, rfl, rfl, hsa, atI_nat (j := 0) rfl, _, _, .ref f, rfl, rfl, ⟨es, nk, _, hKD.at_, hKD.lit, hn, rfl⟩, ?_⟩
  refine ⟨f, _, rfl, hf, _, rfl, _, rfl, ?_⟩
  exact ⟨g, .ref sa, G, rest, rfl, hg, ⟨sa, rfl, hsa⟩, pre, sz, q1, q2⟩
end
end Toy
set_option Elab.async false
set_option linter.all false
set_option maxRecDepth 100000
set_option maxHeartbeats 4000000
namespace Toy
open PySem L2 NdefX Gm
open Mine hiding same_new
def spMade (K : PySem.W.Frag) (C : Addr) : Sp := fun vs H Q _ => ∃ (v : V) (G : Ga), vs = [v] ∧ Dp K H v G.d ∧ ∀ (g : Addr) (H' : Hp), Same H H' → GmD K C H' g G → Q (.ref g) H'
def spParts (K : PySem.W.Frag) (C : Addr) : Sp := fun vs H Q _ => ∃ (g : Addr) (G : Ga), vs = [.ref g] ∧ GmD K C H g G ∧ ∀ (v : V) (H' : Hp), Same H H' → Dp K H' v G.d → Q v H'
def spUses (K : PySem.W.Frag) (k : Nat) : Sp := fun vs H Q _ => ∃ (v : V) (e : Ex), vs = [v] ∧ Dp K H v e.d ∧ exF k e ∧ k ≤ 12 ∧ ∀ (L : Addr) (H' : Hp), H L = none → Same H H' → H' L = some (.lst ((e.reads.map usT).map V.str)) → Q (.ref L) H'
def spWithB (K : PySem.W.Frag) : Sp := fun vs H Q _ => ∃ (v bv nv : V) (n : Str) (G : Ga) (b : Blk) (locs : List Str), vs = [v, .str n, bv, nv] ∧ Dp K H v G.d ∧ Dp K H bv b.d ∧ Dp K H nv (strD locs) ∧ G.procs.length ≤ 1000 ∧ ∀ (u : V) (H' : Hp), Same H H' → Dp K H' u (G.setB n locs b).d → Q u H'
theorem ga_inv {K : PySem.W.Frag} {H : Hp} {v : V} {G : Ga} (h : Dp K H v G.d) : ∃ (a : Addr) (u1 u2 u3 : V) (pa : Addr) (ps : List V), v = .ref a ∧ SqT K H a [u1, u2, u3, .ref pa] ∧ Dp K H u1 (trips G.vars) ∧ Dp K H u2 (trips G.tabs) ∧ Dp K H u3 (trips G.lots) ∧ SqT K H pa ps ∧ DpAll K H ps (G.procs.map Pr.d) := by
  obtain ⟨a, u1, u2, u3, u4, rfl, ha, d1, d2, d3, d4⟩ := four_inv h
  obtain ⟨pa, ps, rfl, hp, dp⟩ := dp_inv d4
  exact ⟨a, u1, u2, u3, pa, ps, rfl, ha, d1, d2, d3, hp, dp⟩
section
variable {P : Program} {w : World} {K : PySem.W.Frag} {mg : Str → Option Value} {base : Heap} {file : Str}
theorem ok_made (T : Txt K mg file) : FnOk P w K mg base CX0 3 T.a_law_made T.fd_law_made ["game"] (spMade K T.C_Game) := by
  have G_Game_init : FnOk P w K mg base CX0 1 T.a_Game_init T.fd_Game_init ["self", "variables", "tables", "lots", "procs"] (spGInit T.C_Game) := ok_ginit T
  refine T.F_law_made.ok sc_law_made (fun vs H Q E h => ?_) (fun cdv A outer s H vs Q E hr h => ?_)
  · obtain ⟨v, G, rfl, _⟩ := h
    rfl
  obtain ⟨v, G, rfl, dv, q⟩ := h
  obtain ⟨a, u1, u2, u3, u4, rfl, ha, d1, d2, d3, d4⟩ := four_inv dv
  refine ⟨_, (pss_one (ps_ret (pe_make T.mk_Game G_Game_init (hr.mono (by decide)) rfl T.g_Game T.b_Game_init .nil pass0 (pa_cons (pe_ix ix_tup (pv 0) pe_int (fun _ _ => rfl)) (pa_cons (pe_ix ix_tup (pv 0) pe_int (fun _ _ => rfl)) (pa_cons (pe_ix ix_tup (pv 0) pe_int (fun _ _ => rfl)) (pa_cons (pe_ix ix_tup (pv 0) pe_int (fun _ _ => rfl)) pa_nil))))))), ?_⟩
  refine ⟨_, rfl, a, _, 0, _, rfl, rfl, ha, rfl, _, rfl, a, _, 1, _, rfl, rfl, ha, rfl, _, rfl, a, _, 2, _, rfl, rfl, ha, rfl, _, rfl, a, _, 3, _, rfl, rfl, ha, rfl, fun g dx ng nd ne => ?_⟩
  refine ⟨g, dx, u1, u2, u3, u4, rfl, upd_same, fun H1 e1 hk => ⟨rfl, ?_⟩⟩
  have m : Same H H1 := fun b o e => hk b o (same_make ng nd b o e) (ne_of_none e ng)
  exact q g H1 m ⟨dx, u1, u2, u3, u4, e1, dp_mono m _ _ d1, dp_mono m _ _ d2, dp_mono m _ _ d3, dp_mono m _ _ d4⟩
theorem ok_parts (T : Txt K mg file) : FnOk P w K mg base CX0 1 T.a_law_parts T.fd_law_parts ["game"] (spParts K T.C_Game) := by
  refine T.F_law_parts.ok sc_law_parts (fun vs H Q E h => ?_) (fun cdv A outer s H vs Q E hr h => ?_)
  · obtain ⟨g, G, rfl, _⟩ := h
    rfl
  obtain ⟨g, G, rfl, ⟨dx, a, b, c, d, hg, d1, d2, d3, d4⟩, q⟩ := h
  refine ⟨_, (pss_one (ps_ret (pe_tup (pa_cons (pe_fld (pv 0) rfl) (pa_cons (pe_fld (pv 0) rfl) (pa_cons (pe_fld (pv 0) rfl) (pa_cons (pe_fld (pv 0) rfl) pa_nil))))))), ?_⟩
  refine ⟨_, rfl, g, _, dx, _, _, rfl, hg, T.cl_Game, T.na_Game_variables, gf_variables _ _ _ _, ?_⟩
  refine ⟨_, rfl, g, _, dx, _, _, rfl, hg, T.cl_Game, T.na_Game_tables, gf_tables _ _ _ _, ?_⟩
  refine ⟨_, rfl, g, _, dx, _, _, rfl, hg, T.cl_Game, T.na_Game_lots, gf_lots _ _ _ _, ?_⟩
  refine ⟨_, rfl, g, _, dx, _, _, rfl, hg, T.cl_Game, T.na_Game_procs, gf_procs _ _ _ _, ?_⟩
  refine ⟨by show 4 ≤ sizeLine; decide, fun t ht => ?_⟩
  exact q _ _ (same_new ht _) (dp_tup ht (.cons d1 (.cons d2 (.cons d3 (.cons d4 .nil)))))
theorem ok_uses (T : Txt K mg file) : ∀ k : Nat, FnOk P w K mg base CX0 (k + 1) T.a_law_uses T.fd_law_uses ["expression"] (spUses K k)
  | 0 => by
    refine T.F_law_uses.ok sc_law_uses (fun vs H Q E h => ?_) (fun cdv A outer s H vs Q E hr h => ?_)
    · obtain ⟨v, e, rfl, _⟩ := h
      rfl
    · obtain ⟨v, e, rfl, _, z, _⟩ := h
      exact z.elim
  | k + 1 => by
    have G_law_uses : FnOk P w K mg base CX0 (k + 1) T.a_law_uses T.fd_law_uses ["expression"] (spUses K k) := ok_uses T k
    refine T.F_law_uses.ok sc_law_uses (fun vs H Q E h => ?_) (fun cdv A outer s H vs Q E hr h => ?_)
    · obtain ⟨v, e, rfl, _⟩ := h
      rfl
    obtain ⟨v, e, rfl, de, ex, hk, q⟩ := h
    refine ⟨_, (pss_cons (ps_set (i := 1) sc_law_uses.nd rfl (Or.inl rfl) (pe_ix ix_tup (pv 0) pe_int (fun _ _ => rfl)))
    (pss_cons (ps_if (pt_cmpR op_eq (pv 1) pe_str (nomark _))
      (pss_one (ps_ret (pe_lst pa_nil)))
      pss_nil)
    (pss_cons (ps_if (pt_cmpR op_in_seq (pv 1) (pe_tup (pa_cons pe_str (pa_cons pe_str pa_nil))) rfl)
      (pss_one (ps_ret (pe_lst (pa_cons (pe_op op_add_str (pe_op op_add_str (pv 1) pe_str) (pe_ix ix_tup (pv 0) pe_int (fun _ _ => rfl))) pa_nil))))
      pss_nil)
    (pss_cons (ps_if (pt_cmpR op_in_seq (pv 1) (pe_tup (pa_cons pe_str (pa_cons pe_str pa_nil))) rfl)
      (pss_one (ps_ret (pe_op op_cat (pe_lst (pa_cons (pe_op op_add_str pe_str (pe_ix ix_tup (pv 0) pe_int (fun _ _ => rfl))) pa_nil)) (pe_call G_law_uses (hr.mono (by omega)) rfl T.g_law_uses T.k_law_uses T.b_law_uses .nil pass0 (pa_cons (pe_ix ix_tup (pv 0) pe_int (fun _ _ => rfl)) pa_nil)))))
      pss_nil)
    (pss_one (ps_ret (pe_op op_cat (pe_call G_law_uses (hr.mono (by omega)) rfl T.g_law_uses T.k_law_uses T.b_law_uses .nil pass0 (pa_cons (pe_ix ix_tup (pv 0) pe_int (fun _ _ => rfl)) pa_nil)) (pe_call G_law_uses (hr.mono (by omega)) rfl T.g_law_uses T.k_law_uses T.b_law_uses .nil pass0 (pa_cons (pe_ix ix_tup (pv 0) pe_int (fun _ _ => rfl)) pa_nil))))))))), ?_⟩
    have one : (1 : Nat) ≤ sizeLine := by decide
    have two : (2 : Nat) ≤ sizeLine := by decide
    have big : ∀ n : Nat, n ≤ 10000 → n ≤ sizeLine := fun n h => Nat.le_trans h (by decide)
    have hi : ∀ x : Str, inV (.str x) [.str "local", .str "variable"] = decide (x ∈ (["local", "variable"] : List Str)) := fun x => Pz.inV_strs x ["local", "variable"]
    have hj : ∀ x : Str, inV (.str x) [.str "has", .str "cell"] = decide (x ∈ (["has", "cell"] : List Str)) := fun x => Pz.inV_strs x ["has", "cell"]
    cases e with
    | num n =>
      obtain ⟨a, rfl, ha⟩ := num_inv de
      refine ⟨_, rfl, a, _, 0, _, rfl, rfl, ha, atI_nat (j := 0) rfl, ?_⟩
      refine ⟨_, rfl, rfl, _, rfl, iteT2 (decide_eq_true rfl) ?_⟩
      exact ⟨by show 0 ≤ sizeLine; decide, fun L hL => q L _ hL (same_new hL _) upd_same⟩
    | loc x =>
      obtain ⟨a, rfl, ha⟩ := loc_inv de
      refine ⟨_, rfl, a, _, 0, _, rfl, rfl, ha, atI_nat (j := 0) rfl, ?_⟩
      refine ⟨_, rfl, rfl, _, rfl, iteF2 (decide_eq_false fun z => absurd (V.str.inj z) (by decide +kernel)) ?_⟩
      refine ⟨_, rfl, two, fun t1 ht1 => ?_⟩
      have m1 := same_new ht1 (.tup [V.str "local", V.str "variable"])
      refine ⟨_, _, rfl, .inr (SqT.of upd_same), rfl, by decide +kernel, _, rfl, ?_⟩
      rw [if_neg Bool.false_ne_true, hi]
      refine iteT2 (by decide +kernel) ?_
      have lx : x.length ≤ 100 := nm_len ex
      refine ⟨_, rfl, _, _, rfl, rfl, big _ (by show ("local" : Str).length + (" " : Str).length ≤ 10000; decide +kernel), _, rfl, a, _, 1, _, rfl, rfl, sqT_mono m1 ha, atI_nat (j := 1) rfl, _, _, rfl, rfl, big _ ?_, one, fun L hL => ?_⟩
      · have : ((("local" : Str) ++ " ") : Str).length ≤ 100 := by decide +kernel
        omega
      · exact q L _ (m1.free hL) (m1.trans (same_new hL _)) upd_same
    | var x =>
      obtain ⟨a, rfl, ha⟩ := var_inv de
      refine ⟨_, rfl, a, _, 0, _, rfl, rfl, ha, atI_nat (j := 0) rfl, ?_⟩
      refine ⟨_, rfl, rfl, _, rfl, iteF2 (decide_eq_false fun z => absurd (V.str.inj z) (by decide +kernel)) ?_⟩
      refine ⟨_, rfl, two, fun t1 ht1 => ?_⟩
      have m1 := same_new ht1 (.tup [V.str "local", V.str "variable"])
      refine ⟨_, _, rfl, .inr (SqT.of upd_same), rfl, by decide +kernel, _, rfl, ?_⟩
      rw [if_neg Bool.false_ne_true, hi]
      refine iteT2 (by decide +kernel) ?_
      have lx : x.length ≤ 100 := nm_len ex
      refine ⟨_, rfl, _, _, rfl, rfl, big _ (by show ("variable" : Str).length + (" " : Str).length ≤ 10000; decide +kernel), _, rfl, a, _, 1, _, rfl, rfl, sqT_mono m1 ha, atI_nat (j := 1) rfl, _, _, rfl, rfl, big _ ?_, one, fun L hL => ?_⟩
      · have : ((("variable" : Str) ++ " ") : Str).length ≤ 100 := by decide +kernel
        omega
      · exact q L _ (m1.free hL) (m1.trans (same_new hL _)) upd_same
    | has tn x =>
      obtain ⟨a, u, rfl, ha, du⟩ := has_inv de
      refine ⟨_, rfl, a, _, 0, _, rfl, rfl, ha, atI_nat (j := 0) rfl, ?_⟩
      refine ⟨_, rfl, rfl, _, rfl, iteF2 (decide_eq_false fun z => absurd (V.str.inj z) (by decide +kernel)) ?_⟩
      refine ⟨_, rfl, two, fun t1 ht1 => ?_⟩
      have m1 := same_new ht1 (.tup [V.str "local", V.str "variable"])
      refine ⟨_, _, rfl, .inr (SqT.of upd_same), rfl, by decide +kernel, _, rfl, ?_⟩
      rw [if_neg Bool.false_ne_true, hi]
      refine iteF2 (by decide +kernel) ?_
      refine ⟨_, rfl, two, fun t2 ht2 => ?_⟩
      have m2 := m1.trans (same_new ht2 (.tup [V.str "has", V.str "cell"]))
      refine ⟨_, _, rfl, .inr (SqT.of upd_same), rfl, by decide +kernel, _, rfl, ?_⟩
      rw [if_neg Bool.false_ne_true, hj]
      refine iteT2 (by decide +kernel) ?_
      have lx : tn.length ≤ 100 := nm_len ex.1
      refine ⟨_, rfl, a, _, 1, _, rfl, rfl, sqT_mono m2 ha, atI_nat (j := 1) rfl, _, _, rfl, rfl, big _ ?_, one, fun L hL => ?_⟩
      · have : ("table " : Str).length ≤ 100 := by decide +kernel
        omega
      have m3 := m2.trans (same_new hL (.lst [V.str ("table " ++ tn)]))
      refine ⟨_, rfl, a, _, 2, _, rfl, rfl, sqT_mono m3 ha, atI_nat (j := 2) rfl, u, x, rfl, dp_mono m3 _ _ du, ex.2, by omega, fun L2 H2 nL2 m4 hL2 => ?_⟩
      refine ⟨L, L2, _, _, rfl, rfl, m4 _ _ upd_same, hL2, big _ ?_, fun p hp => ?_⟩
      · have := reads_len ex.2 (by omega)
        simp only [List.length_map, List.length_singleton]
        omega
      have m5 := m3.trans m4
      refine q p _ (m5.free hp) (m5.trans (same_new hp _)) ?_
      rw [upd_same, reads_has, List.map_cons, List.map_cons, show usT (("table" : Str), tn) = "table " ++ tn from by unfold usT; dsimp only; rw [show ("table" : Str) ++ " " = "table " from by decide +kernel]]
      rfl
    | cell tn x =>
      obtain ⟨a, u, rfl, ha, du⟩ := cell_inv de
      refine ⟨_, rfl, a, _, 0, _, rfl, rfl, ha, atI_nat (j := 0) rfl, ?_⟩
      refine ⟨_, rfl, rfl, _, rfl, iteF2 (decide_eq_false fun z => absurd (V.str.inj z) (by decide +kernel)) ?_⟩
      refine ⟨_, rfl, two, fun t1 ht1 => ?_⟩
      have m1 := same_new ht1 (.tup [V.str "local", V.str "variable"])
      refine ⟨_, _, rfl, .inr (SqT.of upd_same), rfl, by decide +kernel, _, rfl, ?_⟩
      rw [if_neg Bool.false_ne_true, hi]
      refine iteF2 (by decide +kernel) ?_
      refine ⟨_, rfl, two, fun t2 ht2 => ?_⟩
      have m2 := m1.trans (same_new ht2 (.tup [V.str "has", V.str "cell"]))
      refine ⟨_, _, rfl, .inr (SqT.of upd_same), rfl, by decide +kernel, _, rfl, ?_⟩
      rw [if_neg Bool.false_ne_true, hj]
      refine iteT2 (by decide +kernel) ?_
      have lx : tn.length ≤ 100 := nm_len ex.1
      refine ⟨_, rfl, a, _, 1, _, rfl, rfl, sqT_mono m2 ha, atI_nat (j := 1) rfl, _, _, rfl, rfl, big _ ?_, one, fun L hL => ?_⟩
      · have : ("table " : Str).length ≤ 100 := by decide +kernel
        omega
      have m3 := m2.trans (same_new hL (.lst [V.str ("table " ++ tn)]))
      refine ⟨_, rfl, a, _, 2, _, rfl, rfl, sqT_mono m3 ha, atI_nat (j := 2) rfl, u, x, rfl, dp_mono m3 _ _ du, ex.2, by omega, fun L2 H2 nL2 m4 hL2 => ?_⟩
      refine ⟨L, L2, _, _, rfl, rfl, m4 _ _ upd_same, hL2, big _ ?_, fun p hp => ?_⟩
      · have := reads_len ex.2 (by omega)
        simp only [List.length_map, List.length_singleton]
        omega
      have m5 := m3.trans m4
      refine q p _ (m5.free hp) (m5.trans (same_new hp _)) ?_
      rw [upd_same, reads_cell, List.map_cons, List.map_cons, show usT (("table" : Str), tn) = "table " ++ tn from by unfold usT; dsimp only; rw [show ("table" : Str) ++ " " = "table " from by decide +kernel]]
      rfl
    | op o x y =>
      obtain ⟨a, u, z, rfl, ha, du, dz⟩ := op_inv de
      refine ⟨_, rfl, a, _, 0, _, rfl, rfl, ha, atI_nat (j := 0) rfl, ?_⟩
      have oo : o ∈ ops := ex.1
      have on : o ≠ "number" ∧ o ∉ (["local", "variable"] : List Str) ∧ o ∉ (["has", "cell"] : List Str) := (by decide +kernel : ∀ o ∈ ops, o ≠ "number" ∧ o ∉ (["local", "variable"] : List Str) ∧ o ∉ (["has", "cell"] : List Str)) o oo
      refine ⟨_, rfl, rfl, _, rfl, iteF2 (decide_eq_false fun z => on.1 (V.str.inj z)) ?_⟩
      refine ⟨_, rfl, two, fun t1 ht1 => ?_⟩
      have m1 := same_new ht1 (.tup [V.str "local", V.str "variable"])
      refine ⟨_, _, rfl, .inr (SqT.of upd_same), rfl, by decide +kernel, _, rfl, ?_⟩
      rw [if_neg Bool.false_ne_true, hi]
      refine iteF2 (decide_eq_false on.2.1) ?_
      refine ⟨_, rfl, two, fun t2 ht2 => ?_⟩
      have m2 := m1.trans (same_new ht2 (.tup [V.str "has", V.str "cell"]))
      refine ⟨_, _, rfl, .inr (SqT.of upd_same), rfl, by decide +kernel, _, rfl, ?_⟩
      rw [if_neg Bool.false_ne_true, hj]
      refine iteF2 (decide_eq_false on.2.2) ?_
      refine ⟨_, rfl, a, _, 1, _, rfl, rfl, sqT_mono m2 ha, atI_nat (j := 1) rfl, u, x, rfl, dp_mono m2 _ _ du, ex.2.1, by omega, fun L1 H1 nL1 m3 hL1 => ?_⟩
      have m23 := m2.trans m3
      refine ⟨_, rfl, a, _, 2, _, rfl, rfl, sqT_mono m23 ha, atI_nat (j := 2) rfl, z, y, rfl, dp_mono m23 _ _ dz, ex.2.2, by omega, fun L2 H2 nL2 m4 hL2 => ?_⟩
      refine ⟨L1, L2, _, _, rfl, rfl, m4 _ _ hL1, hL2, big _ ?_, fun p hp => ?_⟩
      · have := reads_len ex.2.1 (by omega)
        have := reads_len ex.2.2 (by omega)
        simp only [List.length_map]
        omega
      have m5 := m23.trans m4
      refine q p _ (m5.free hp) (m5.trans (same_new hp _)) ?_
      rw [upd_same, reads_op, List.map_append, List.map_append]
theorem ok_withB (T : Txt K mg file) : FnOk P w K mg base CX0 1 T.a_law_with T.fd_law_with ["game", "name", "block", "names"] (spWithB K) := by
  refine T.F_law_with.ok sc_law_with (fun vs H Q E h => ?_) (fun cdv A outer s H vs Q E hr h => ?_)
  · obtain ⟨v, bv, nv, n, G, b, locs, rfl, _⟩ := h
    rfl
  obtain ⟨v, bv, nv, n, G, b, locs, rfl, dv, db, dn, hl, q⟩ := h
  obtain ⟨a, u1, u2, u3, pa, ps, rfl, ha, d1, d2, d3, hpa, dps⟩ := ga_inv dv
  have lx : ps.length = G.procs.length := (DpAll.len dps).trans (List.length_map _)
  refine ⟨_, (pss_cons (ps_set (i := 4) sc_law_with.nd rfl (Or.inl rfl) (pe_lst pa_nil))
    (pss_cons (ps_for PassesOwn.never rfl (pi_tup (pe_ix ix_tup (pv 0) pe_int (fun _ _ => rfl))) (pg_name (i := 5) sc_law_with.nd rfl (Or.inl rfl))
      (pss_cons (ps_if (pt_cmpR op_eq (pe_ix ix_tup (pv 5) pe_int (fun _ _ => rfl)) (pv 1) (nomark _))
      (pss_one (ps_set (i := 5) sc_law_with.nd rfl (Or.inl rfl) (pe_op (CatB.op_catB K rfl) (pe_slice (slTB K rfl) (pv 5) po_none (po_some pe_int)) (pe_tup (pa_cons (pv 3) (pa_cons (pv 2) (pa_cons (pe_ix ix_tup (pv 5) pe_int (fun _ _ => rfl)) pa_nil)))))))
      pss_nil)
    (pss_one (ps_expr (pe_bm PySem.F.plainAttrs_list PySem.F.slot_list_append PySem.F.type_list_append mt_append (pv 4) (pa_cons (pv 5) pa_nil))))))
    (pss_one (ps_ret (pe_tup (pa_cons (pe_ix ix_tup (pv 0) pe_int (fun _ _ => rfl)) (pa_cons (pe_ix ix_tup (pv 0) pe_int (fun _ _ => rfl)) (pa_cons (pe_ix ix_tup (pv 0) pe_int (fun _ _ => rfl)) (pa_cons (pe_callTy call_tuple_of (by rfl) T.z_tuple (by decide +kernel) (pa_cons (pv 4) pa_nil)) pa_nil))))))))), ?_⟩
  refine ⟨by show 0 ≤ sizeLine; decide, fun L hL => ?_⟩
  have m0 := same_new hL (.lst [])
  refine ⟨_, rfl, a, _, 3, _, rfl, rfl, sqT_mono m0 ha, atI_nat (j := 3) rfl, pa, rfl, ⟨_, sqT_mono m0 hpa⟩, ?_⟩
  refine for_tup (K := K) (a := pa) (xs := ps) (fun i σ H' => ∃ (vs : List V) (y : Option V), σ = [some (.ref a), some (.str n), some bv, some nv, some (.ref L), y] ∧ Acc K H H' L vs (((G.setB n locs b).procs.take i).map Pr.d)) ⟨[], none, rfl, Acc.start hL⟩ (fun i σ H' _ ⟨_, _, _, ac⟩ => sqT_mono ac.s hpa) ?_ ?_
  · rintro i x σ H' hx ⟨vs, y, rfl, ac⟩
    have hi := (List.getElem?_eq_some_iff.mp hx).1
    obtain ⟨r, er⟩ : ∃ r, G.procs[i]? = some r := ⟨G.procs[i]'(lx ▸ hi), List.getElem?_eq_getElem _⟩
    obtain ⟨x', ex, dr⟩ := DpAll.get dps (show (G.procs.map Pr.d)[i]? = some r.d by rw [List.getElem?_map, er]; rfl)
    rw [hx] at ex
    cases ex
    have dr0 := dr
    obtain ⟨ra, rla, rba, rr, rbs, rfl, hra, _, _, _, drr⟩ := pr_inv dr
    have hra' := sqT_mono ac.s hra
    have hlen : vs.length < sizeLine := by
      have := ac.len
      rw [List.length_map, List.length_take] at this
      exact Nat.lt_of_le_of_lt (show vs.length ≤ 1000 by omega) (by decide)
    have ep : (G.setB n locs b).procs[i]? = some (if r.name = n then { r with locs := locs, block := b } else r) := by
      show (G.procs.map _)[i]? = _
      rw [List.getElem?_map, er]
      rfl
    refine ⟨_, rfl, ra, _, 0, _, rfl, rfl, hra', atI_nat (j := 0) rfl, _, rfl, rfl, _, rfl, ite2 (fun z => ?_) (fun z => ?_)⟩
    · have z' : r.name = n := V.str.inj (of_decide_eq_true z)
      rw [if_pos z'] at ep
      refine ⟨_, rfl, _, rfl, ra, _, rfl, hra', fun c1 H1 m1 hc1 => ?_⟩
      rw [show (3 : Int) = ((3 : Nat) : Int) from rfl, cut_take] at hc1
      refine ⟨_, rfl, _, rfl, _, rfl, ra, _, 5, _, rfl, rfl, sqT_mono m1 hra', atI_nat (j := 5) rfl, by show 3 ≤ sizeLine; decide, fun t2 ht2 => ?_⟩
      have m2 := same_new ht2 (.tup [nv, bv, rr])
      refine ⟨c1, t2, _, _, rfl, rfl, sqT_mono m2 hc1, SqT.of upd_same, by show 3 + 3 ≤ sizeLine; decide, fun pn H3 m3 hpn => ?_⟩
      have m13 := m1.trans (m2.trans m3)
      have ac3 := ac.grow m13
      have dnew : Dp K H3 (.ref pn) ({ r with locs := locs, block := b } : Pr).d := by
        refine .tup hpn ?_
        exact .cons (.str _) (.cons (.int _) (.cons (.int _) (.cons (dp_mono ac3.s _ _ dn) (.cons (dp_mono ac3.s _ _ db) (.cons (dp_mono ac3.s _ _ drr) .nil)))))
      refine ⟨_, rfl, .inl ⟨rfl, _, SqL.of ac3.l⟩, _, rfl, L, vs, _, rfl, rfl, ac3.l, hlen, vs ++ [.ref pn], _, rfl, ?_⟩
      rw [take_more ep, List.map_append]
      exact ac3.add dnew (Pr.nol _)
    · have z' : ¬ r.name = n := fun y => z (decide_eq_true (congrArg V.str y))
      rw [if_neg z'] at ep
      refine ⟨_, rfl, .inl ⟨rfl, _, SqL.of ac.l⟩, _, rfl, L, vs, _, rfl, rfl, ac.l, hlen, vs ++ [.ref ra], _, rfl, ?_⟩
      rw [take_more ep, List.map_append]
      exact ac.add (dp_mono ac.s _ _ dr0) (Pr.nol r)
  · rintro σ H1 ⟨vs, y, rfl, ac⟩
    have e1 : (G.setB n locs b).procs.take ps.length = (G.setB n locs b).procs := by
      have : (G.setB n locs b).procs.length = ps.length := by rw [lx]; exact List.length_map _
      rw [← this, List.take_length]
    rw [e1] at ac
    have ha1 := sqT_mono ac.s ha
    refine ⟨_, rfl, a, _, 0, _, rfl, rfl, ha1, atI_nat (j := 0) rfl, _, rfl, a, _, 1, _, rfl, rfl, ha1, atI_nat (j := 1) rfl, _, rfl, a, _, 2, _, rfl, rfl, ha1, atI_nat (j := 2) rfl, _, rfl, L, vs, rfl, .inl ⟨SqL.of ac.l, fun tp htp => ?_⟩⟩
    have n1 := same_new htp (.tup vs)
    refine ⟨by show 4 ≤ sizeLine; decide, fun t ht => ?_⟩
    have n2 := same_new ht (.tup [u1, u2, u3, .ref tp])
    have m := ac.s.trans n1
    have dt : Dp K (upd H1 tp (.tup vs)) (.ref tp) (.tuple ((G.setB n locs b).procs.map Pr.d)) := dp_tup htp ac.d
    exact q _ _ (m.trans n2) (dp_tup (ds := [trips G.vars, trips G.tabs, trips G.lots, .tuple ((G.setB n locs b).procs.map Pr.d)]) ht (.cons (dp_mono m _ _ d1) (.cons (dp_mono m _ _ d2) (.cons (dp_mono m _ _ d3) (.cons dt .nil)))))
end
end Toy
set_option Elab.async false
set_option linter.all false
set_option maxRecDepth 100000
set_option maxHeartbeats 4000000
namespace Toy
open PySem L2 NdefX Gm
open Mine hiding same_new
def refs : List Addr → TA
  | [] => tNil
  | a :: r => tCons (tC (.ref a)) (refs r)
def rNon : R2 := fun x y H Q => y = .non ∧ Q (.bl (decide (x = .non))) H
def tb_tried (C B : Addr) (K : PySem.W.Frag) : WX → TS := fun W => tAsg (tCallS (spSame K C B) (WE W) (tCons (tVar 0) (tCons (tVar 1) tNil))) (gName 3)
def ts_tried (K : PySem.W.Frag) (B : Addr) (Es : List Addr) : Addr → Value → Option Addr → TS := fun a cls d =>
  tSeq (tIfS (tOr (tB (tCB (IsD.rIsET2 K B a cls d) (tCons (tVar 4) (tCons (tTup (refs Es)) tNil)))) (tNot (tB (tCB (IsD.rIsE2 K B a cls d) (tCons (tVar 4) (tCons (tC (.ref B)) tNil)))))) (tRet (tC (.bl false))) tNext)
    (tRet (tAndV (tOp rNon (tVar 2) (tC .non)) (tOp rEq (tXf a cls d B "rule" (tVar 4)) (tOp (rIxT K) (tVar 1) (tC (.int 0))))))
/-- what the law expects of a step -/
def DueOk (K : PySem.W.Frag) (H : Hp) (due : V) (G : Ga) (r : Str) (rest : List V) : Prop := (due = .non ∧ ∀ D, ¬ StepTo G r rest D) ∨ ∃ D, Dp K H due D.d ∧ StepTo G r rest D ∧ GaF 12 12 D ∧ ∀ D', StepTo G r rest D' → D' = D
def spTried (K : PySem.W.Frag) (C : Addr) : Sp := fun vs H Q _ => ∃ (g : Addr) (v due : V) (G : Ga) (r : Str) (rest : List V), vs = [.ref g, v, due] ∧ GmD K C H g G ∧ StA K H v (.str r :: rest) ∧ StepPre G r rest ∧ GaSz G ∧
  DueOk K H due G r rest ∧ ∀ H', Same H H' → Q (.bl true) H'
section
variable {P : Program} {w : World} {K : PySem.W.Frag} {mg : Str → Option Value} {base : Heap} {file : Str}
theorem ok_tried (hP : PrF P file) (T : Txt K mg file) (hR : ∃ es n, L2.KDict K w T.a_RULES es n) : FnOk P w K mg base CX0 22 T.a_law_tried T.fd_law_tried ["made", "step", "due"] (spTried K T.C_Game) := by
  have G_same : FnOk P w K mg base (L2.CX P w) 18 T.a_same T.fd_same ["game", "step"] (spSame K T.C_Game T.C_BadStep) := ok_same hP T hR
  have G_law_made : FnOk P w K mg base CX0 3 T.a_law_made T.fd_law_made ["game"] (spMade K T.C_Game) := ok_made T
  have G_law_parts : FnOk P w K mg base CX0 1 T.a_law_parts T.fd_law_parts ["game"] (spParts K T.C_Game) := ok_parts T
  have G_Game_eq : FnOk P w K mg base CX0 1 T.a_Game_eq T.fd_Game_eq ["self", "other"] (spGEq K T.C_Game) := ok_geq T
  refine T.F_law_tried.ok sc_law_tried (fun vs H Q E h => ?_) (fun cdv A outer s H vs Q E hr h => ?_)
  · obtain ⟨g, v, due, G, r, rest, rfl, _⟩ := h
    rfl
  obtain ⟨g, v, due, G, r, rest, rfl, hg, ⟨sa, rfl, hsa⟩, pre, sz, hdue, q⟩ := h
  refine ⟨_, (pss_cons (ps_try_as (i := 4) (tb := tb_tried T.C_Game T.C_BadStep K) (ts := ts_tried K T.C_BadStep [T.C_BadBound, T.C_BadCall, T.C_BadPlayer, T.C_BadText, T.C_TooLarge]) (Wout := fun _ _ _ _ => False) rfl rfl sc_law_tried.nd rfl rfl ⟨rfl, by decide, Or.inl T.g_PlayError⟩ takes0
      (fun W pn xe tk _ => by exact (pss_one (ps_set (i := 3) sc_law_tried.nd rfl (Or.inl rfl) (pe_callS G_same (hr.mono (by decide)) rfl T.g_same T.k_same T.b_same (fun σ => passAt tk σ) (pa_cons (pv 0) (pa_cons (pv 1) pa_nil))))))
      (fun a oe cls d pn hz hf => by exact (pss_cons (ps_if (PW.pt (pw_or (pt_val (pe_callB (IsD.call_isET2 T.ec_BadStep hz hf) (by rfl) T.z_isinstance (by decide +kernel) (pa_cons (pv 4) (pa_cons (pe_tup (pa_cons (pe_glob (v := .ref T.C_BadBound) rfl T.g_BadBound rfl) (pa_cons (pe_glob (v := .ref T.C_BadCall) rfl T.g_BadCall rfl) (pa_cons (pe_glob (v := .ref T.C_BadPlayer) rfl T.g_BadPlayer rfl) (pa_cons (pe_glob (v := .ref T.C_BadText) rfl T.g_BadText rfl) (pa_cons (pe_glob (v := .ref T.C_TooLarge) rfl T.g_TooLarge rfl) pa_nil)))))) pa_nil)))) (pw_or1 (pt_not (pt_val (pe_callB (IsD.call_isE2 T.ec_BadStep hz hf) (by rfl) T.z_isinstance (by decide +kernel) (pa_cons (pv 4) (pa_cons (pe_glob (v := .ref T.C_BadStep) rfl T.g_BadStep rfl) pa_nil))))))))
      (pss_one (ps_ret pe_bl))
      pss_nil)
    (pss_one (ps_ret (pe_and (pe_cmpR op_isN (pv 2) pe_non (nomark _)) (pe_one (pe_cmpR op_eq ((pe_xf ⟨T.xga_BadStep, T.xgg_BadStep, T.xb_BadStep, T.xd_BadStep⟩ T.E_BadStep.no hz hf (pv 4))) (pe_ix ix_tup (pv 1) pe_int (fun _ _ => rfl)) (nomark _)))))))))
    (pss_one (ps_ret (pe_and (pe_cmpR op_notN (pv 2) pe_non (nomark _)) (pe_and (pe_cmpR (op_ownEq G_Game_eq (hr.mono (by decide)) T.b_Game_eq pass0 T.m_Game_eq.at_ T.m_Game_eq.fn) (pv 3) (pe_call G_law_made (hr.mono (by decide)) rfl T.g_law_made T.k_law_made T.b_law_made .nil pass0 (pa_cons (pv 2) pa_nil)) (nomark _)) (pe_one (pe_cmpR (op_eqD hr.units) (pe_call G_law_parts (hr.mono (by decide)) rfl T.g_law_parts T.k_law_parts T.b_law_parts .nil pass0 (pa_cons (pv 3) pa_nil)) (pv 2) (nomark _)))))))), ?_⟩
  refine ⟨_, rfl, _, rfl, g, .ref sa, G, r, rest, rfl, hg, ⟨sa, rfl, hsa⟩, pre, sz, fun D hD g' H1 m1 gd => ?_, fun hno d H' sm hd => ?_⟩
  · rcases hdue with ⟨_, z⟩ | ⟨D', dd, hD', fD, uq⟩
    · exact absurd hD (z D)
    have e := uq D hD
    subst e
    obtain ⟨da, _, _, _, _, _, rfl, _⟩ := ga_inv dd
    refine ⟨_, rfl, rfl, _, rfl, iteT2 rfl ?_⟩
    refine ⟨_, rfl, _, rfl, .ref da, D, rfl, dp_mono m1 _ _ dd, fun g2 H2 m2 gd2 => ?_⟩
    have gd1 := gd.same m2
    obtain ⟨dx, a1, a2, a3, a4, hg1, _⟩ := id gd1
    obtain ⟨dy, b1, b2, b3, b4, hg2, _⟩ := id gd2
    refine ⟨g', g2, dx, dy, _, _, rfl, rfl, hg1, hg2, g', g2, D, D, 12, 12, 12, 12, rfl, gd1, gd2, fD, fD, by decide, by decide, fun b hb => ?_⟩
    refine ⟨b, rfl, iteT2 (hb.mpr rfl) ?_⟩
    refine ⟨_, rfl, g', D, rfl, gd1, fun v' H3 m3 dv => ?_⟩
    have m13 := m1.trans (m2.trans m3)
    have f := fD.fit
    refine ⟨_, rfl, _, _, dv, dp_mono m13 _ _ dd, f.shaped (by decide), f.shaped (by decide), ?_⟩
    rw [(eqv_iff f.1 f.1).mpr rfl]
    exact q _ m13
  · have due0 : due = .non := by
      rcases hdue with ⟨z, _⟩ | ⟨D', dd, hD', fD, uq⟩
      · exact z
      · exact absurd hD' (hno D')
    subst due0
    refine ⟨true, PySem.W.exm_ref T.xb_PlayError T.xd_PlayError T.xt_PlayError T.sub_sp, fun _ a' na => ?_, fun z => Bool.noConfusion z⟩
    refine ⟨_, rfl, by show 5 ≤ sizeLine; decide, fun t ht => ?_⟩
    have m2 := same_new ht (.tup [V.ref T.C_BadBound, V.ref T.C_BadCall, V.ref T.C_BadPlayer, V.ref T.C_BadText, V.ref T.C_TooLarge])
    have hd2 := m2 _ _ hd
    refine ⟨t, _, _, false, d, _, rfl, rfl, rfl, hd2, upd_same, ?_, T.ki_e, false, rfl, iteF ?_⟩
    · exact .cons (.own _) (.cons (.own _) (.cons (.own _) (.cons (.own _) (.cons (.own _) .nil))))
    refine ⟨_, rfl, _, _, true, d, _, rfl, rfl, rfl, hd2, fun u r => r, T.ki_s, true, rfl, iteF ?_⟩
    have m12 := sm.trans m2
    refine ⟨_, rfl, rfl, _, rfl, iteT2 (by simp) ?_⟩
    refine ⟨_, rfl, rfl, rfl, d, _, _, rfl, hd2, rfl, _, rfl, sa, _, 0, _, rfl, rfl, sqT_mono m12 hsa, atI_nat (j := 0) rfl, rfl, ?_⟩
    rw [show decide (V.str r = V.str r) = true from decide_eq_true rfl]
    exact q _ m12
end
end Toy
set_option Elab.async false
set_option linter.all false
set_option maxRecDepth 100000
set_option maxHeartbeats 8000000
namespace Toy
open PySem L2 NdefX Gm
open Mine hiding same_new
def spLProc (K : PySem.W.Frag) : Sp := fun vs H Q _ => ∃ (v : V) (n : Str) (G : Ga), vs = [v, .str n] ∧ Dp K H v G.d ∧ (∀ p, G.proc n = some p → ∀ u, Dp K H u p.d → Q u H) ∧ (G.proc n = none → Q .non H)
def nm19 : List Str := ["n", "g", "x", "m0", "let", "abcdefghijkl", "abcdefghijklm", "N", "", "0n", "t", "o", "p", "r", "y", "aB", "a_b", "b", "h1"]
def law11 : List Str := ["n", "m0", "abcdefghijkl", "x", "t", "o", "p", "r", "y", "b", "h1"]
theorem nm19_name : ∀ l ∈ nm19, (Pz.isName l = true ↔ l ∈ law11 ∨ l = "g") ∧ nmB l = true := by decide +kernel
def spTossed (K : PySem.W.Frag) : Sp := fun vs H Q _ => ∃ (v : V) (G : Ga) (n l : Str) (i c : Int), vs = [v, .str n, .int i, .str l, .int c] ∧ Dp K H v G.d ∧ GI G ∧ l ∈ nm19 ∧ ∀ (u : V) (H' : Hp), Same H H' → DueOk K H' u G "toss" [.str n, .int i, .str l, .int c] → Q u H'
def spSunk (K : PySem.W.Frag) : Sp := fun vs H Q _ => ∃ (v : V) (G : Ga) (n : Str) (i : Int), vs = [v, .str n, .int i] ∧ Dp K H v G.d ∧ GI G ∧ ∀ (u : V) (H' : Hp), Same H H' → DueOk K H' u G "sink" [.str n, .int i] → Q u H'
def spReady (K : PySem.W.Frag) : Sp := fun vs H Q _ => ∃ (v : V) (G : Ga) (c : Int), vs = [v, .int c] ∧ Dp K H v G.d ∧ GaOk G ∧ ∀ (u : V) (G' : Ga) (H' : Hp), Same H H' → Dp K H' u G'.d → GI G' → Q u H'
section
variable {P : Program} {w : World} {K : PySem.W.Frag} {mg : Str → Option Value} {base : Heap} {file : Str}
theorem ok_lproc (T : Txt K mg file) : FnOk P w K mg base CX0 1 T.a_law_proc T.fd_law_proc ["game", "name"] (spLProc K) := by
  refine T.F_law_proc.ok sc_law_proc (fun vs H Q E h => ?_) (fun cdv A outer s H vs Q E hr h => ?_)
  · obtain ⟨v, n, G, rfl, _⟩ := h
    rfl
  obtain ⟨v, n, G, rfl, dv, k1, k0⟩ := h
  obtain ⟨a, u1, u2, u3, pa, xs, rfl, ha, _, _, _, hpa, dxs⟩ := ga_inv dv
  have lx : xs.length = G.procs.length := (DpAll.len dxs).trans (List.length_map _)
  refine ⟨_, (pss_cons (ps_for PassesOwn.never rfl (pi_tup (pe_ix ix_tup (pv 0) pe_int (fun _ _ => rfl))) (pg_name (i := 2) sc_law_proc.nd rfl (Or.inl rfl))
      (pss_one (ps_if (pt_cmpR op_eq (pe_ix ix_tup (pv 2) pe_int (fun _ _ => rfl)) (pv 1) (nomark _))
      (pss_one (ps_ret (pv 2)))
      pss_nil)))
    (pss_one (ps_ret pe_non))), ?_⟩
  refine ⟨_, rfl, a, _, 3, _, rfl, rfl, ha, atI_nat (j := 3) rfl, pa, rfl, ⟨_, hpa⟩, ?_⟩
  refine for_tup (K := K) (a := pa) (xs := xs) (fun i σ H' => H' = H ∧ (∃ y, σ = [some (.ref a), some (.str n), y]) ∧ ∀ q ∈ G.procs.take i, q.name ≠ n) ⟨rfl, ⟨none, rfl⟩, by simp⟩ (fun i σ H' _ h => by rw [h.1]; exact hpa) ?_ ?_
  · rintro i v σ H' hv ⟨rfl, ⟨y, rfl⟩, hn⟩
    have hi := (List.getElem?_eq_some_iff.mp hv).1
    obtain ⟨p, ep⟩ : ∃ p, G.procs[i]? = some p := ⟨G.procs[i]'(lx ▸ hi), List.getElem?_eq_getElem _⟩
    obtain ⟨v', ev, dv⟩ := DpAll.get dxs (show (G.procs.map Pr.d)[i]? = some p.d by rw [List.getElem?_map, ep]; rfl)
    rw [hv] at ev
    cases ev
    have dv0 := dv
    obtain ⟨t, la, ba, r, bs, rfl, ht, _⟩ := pr_inv dv
    refine ⟨_, rfl, t, _, 0, V.str p.name, rfl, rfl, ht, atI_nat (j := 0) rfl, _, rfl, rfl, _, rfl, ite2 (fun z => ?_) (fun z => ?_)⟩
    · have z' : p.name = n := V.str.inj (of_decide_eq_true z)
      exact ⟨_, rfl, k1 p (find_at hn ep z') _ dv0⟩
    · have z' : ¬ p.name = n := fun y => z (decide_eq_true (congrArg V.str y))
      refine ⟨rfl, ⟨_, rfl⟩, ?_⟩
      rw [take_more ep]
      intro q hq
      rcases List.mem_append.mp hq with hq | hq
      · exact hn q hq
      · rw [List.mem_singleton.mp hq]
        exact z'
  · rintro σ H' ⟨rfl, ⟨y, rfl⟩, hn⟩
    rw [lx, List.take_length] at hn
    exact k0 (find_no hn)
theorem ok_tossed (T : Txt K mg file) : FnOk P w K mg base CX0 2 T.a_law_tossed T.fd_law_tossed ["game", "name", "at", "local", "count"] (spTossed K) := by
  have G_law_proc : FnOk P w K mg base CX0 1 T.a_law_proc T.fd_law_proc ["game", "name"] (spLProc K) := ok_lproc T
  have G_law_with : FnOk P w K mg base CX0 1 T.a_law_with T.fd_law_with ["game", "name", "block", "names"] (spWithB K) := ok_withB T
  refine T.F_law_tossed.ok sc_law_tossed (fun vs H Q E h => ?_) (fun cdv A outer s H vs Q E hr h => ?_)
  · obtain ⟨v, G, n, l, i, c, rfl, _⟩ := h
    rfl
  obtain ⟨v, G, n, l, i, c, rfl, dv, gi, hl19, q⟩ := h
  refine ⟨_, (pss_cons (ps_set (i := 5) sc_law_tossed.nd rfl (Or.inl rfl) (pe_call G_law_proc (hr.mono (by decide)) rfl T.g_law_proc T.k_law_proc T.b_law_proc .nil pass0 (pa_cons (pv 0) (pa_cons (pv 1) pa_nil))))
    (pss_cons (ps_if (PW.pt (pw_or (pt_cmpR op_isN (pv 5) pe_non (nomark _)) (pw_or (pt_not (pt_chain op_le op_le pe_int (pv 2) (pe_callB call_len_seq (by rfl) T.z_len (by decide +kernel) (pa_cons (pe_ix ix_tup (pv 5) pe_int (fun _ _ => rfl)) pa_nil)))) (pw_or (pt_not (pt_chain op_le op_le pe_int (pv 4) pe_int)) (pw_or1 (pt_cmpR op_gt (pe_callB call_len_seq (by rfl) T.z_len (by decide +kernel) (pa_cons (pe_ix ix_tup (pv 5) pe_int (fun _ _ => rfl)) pa_nil)) pe_int (nomark _)))))))
      (pss_one (ps_ret pe_non))
      pss_nil)
    (pss_cons (ps_if (PW.pt (pw_or (pt_cmpR op_notIn_seq (pv 3) (pe_tup (pa_cons pe_str (pa_cons pe_str (pa_cons pe_str (pa_cons pe_str (pa_cons pe_str (pa_cons pe_str (pa_cons pe_str (pa_cons pe_str (pa_cons pe_str (pa_cons pe_str (pa_cons pe_str pa_nil)))))))))))) rfl) (pw_or (pt_cmpR op_in_seq (pv 3) (pe_ix ix_tup (pv 5) pe_int (fun _ _ => rfl)) rfl) (pw_or1 (pt_cmpR op_in_seq (pv 3) (pe_lc (own := [("row", 6)]) (g := gName 6) (tt := tYes) rfl sc_law_tossed.nd (pi_tup (pe_ix ix_tup (pv 0) pe_int (fun _ _ => rfl))) (blkOk_by (own := [("row", 6)]) (N := ["game", "name", "at", "local", "count", "proc", "row"]) (sc := defScope s_law_tossed) (by decide +kernel)) (fun _ _ _ _ _ => pg_name (i := 6) sc_law_tossed.nd rfl (Or.inl rfl)) (fun _ _ _ _ _ => pts_nil) (fun _ _ _ _ _ => (pe_ix (ixtK K rfl) (pv 6) pe_int (fun _ _ => rfl)))) rfl)))))
      (pss_one (ps_ret pe_non))
      pss_nil)
    (pss_one (ps_ret (pe_call G_law_with (hr.mono (by decide)) rfl T.g_law_with T.k_law_with T.b_law_with .nil pass0 (pa_cons (pv 0) (pa_cons (pv 1) (pa_cons (pe_op (CatB.op_catB K rfl) (pe_op (CatB.op_catB K rfl) (pe_slice (slTB K rfl) (pe_ix ix_tup (pv 5) pe_int (fun _ _ => rfl)) po_none (po_some (pv 2))) (pe_tup (pa_cons (pe_tup (pa_cons pe_str (pa_cons (pv 3) (pa_cons (pv 4) pa_nil)))) pa_nil))) (pe_slice (slTB K rfl) (pe_ix ix_tup (pv 5) pe_int (fun _ _ => rfl)) (po_some (pv 2)) po_none)) (pa_cons (pe_op (CatB.op_catB K rfl) (pe_ix ix_tup (pv 5) pe_int (fun _ _ => rfl)) (pe_tup (pa_cons (pv 3) pa_nil))) pa_nil)))))))))), ?_⟩
  have no : ∀ {H' : Hp}, Same H H' → (∀ D, ¬ TossTo G n i l c D) → Q .non H' := fun m h => q _ _ m (.inl ⟨rfl, fun D z => h D (step_toss.mp z)⟩)
  have dv0 := dv
  obtain ⟨a, u1, u2, u3, pa, ps, rfl, ha, d1, d2, d3, hpa, dps⟩ := ga_inv dv
  refine ⟨_, rfl, _, rfl, .ref a, n, G, rfl, dv0, fun p hp u hu => ?_, fun hp => ?_⟩
  case refine_2 =>
    exact ⟨_, rfl, rfl, _, rfl, iteT2 (by simp) (iteT2 rfl (no (Same.refl _) fun D ⟨p, j, h, _⟩ => by rw [hp] at h; cases h))⟩
  obtain ⟨pra, la, ba, rv, bs, rfl, hpra, hla, hba, dbs, dres⟩ := pr_inv hu
  have lb : bs.length = p.block.l.length := (DpAll.len dbs).trans (List.length_map _)
  have no2 : ∀ {H' : Hp}, Same H H' → (∀ j : Nat, i = (j : Int) → j ≤ p.block.l.length → (1 ≤ c ∧ c ≤ 64) → Pz.isName l = true → l ∉ p.locs → l ∉ G.vars.map (·.1) → p.locs.length ≤ 5 → False) → Q .non H' := fun m h => no m fun D ⟨p', j, h1, h2, h3, h4, h5, h6, h7, h8, _⟩ => by
    rw [hp] at h1
    cases h1
    exact h j h2 h3 h4 h5 h6 h7 h8
  refine ⟨_, rfl, rfl, _, rfl, iteF2 (by simp) ?_⟩
  by_cases c1 : 0 ≤ i
  case neg => exact ⟨_, rfl, _, _, rfl, rfl, _, rfl, iteF2 (decide_eq_false c1) ⟨_, rfl, iteT2 rfl (iteT2 rfl (no2 (Same.refl _) fun j e _ _ _ _ _ _ => by omega))⟩⟩
  refine ⟨_, rfl, _, _, rfl, rfl, _, rfl, iteT2 (decide_eq_true c1) ⟨_, rfl, pra, _, 4, _, rfl, rfl, hpra, atI_nat (j := 4) rfl, ba, bs, rfl, .inr hba, _, _, rfl, rfl, _, rfl, ?_⟩⟩
  obtain ⟨j, rfl⟩ := Int.eq_ofNat_of_zero_le c1
  by_cases c2 : (j : Int) ≤ (bs.length : Int)
  case neg => exact iteT2 (by rw [decide_eq_false c2]; rfl) (iteT2 rfl (no2 (Same.refl _) fun j' e h _ _ _ _ _ => by omega))
  refine iteF2 (by rw [decide_eq_true c2]; rfl) ⟨_, rfl, _, _, rfl, rfl, _, rfl, ?_⟩
  by_cases c3 : 1 ≤ c
  case neg => exact iteF2 (decide_eq_false c3) ⟨_, rfl, iteT2 rfl (iteT2 rfl (no2 (Same.refl _) fun j' e _ h _ _ _ _ => c3 h.1))⟩
  refine iteT2 (decide_eq_true c3) ⟨_, _, rfl, rfl, _, rfl, ?_⟩
  by_cases c4 : c ≤ 64
  case neg => exact iteT2 (by rw [decide_eq_false c4]; rfl) (iteT2 rfl (no2 (Same.refl _) fun j' e _ h _ _ _ _ => c4 h.2))
  refine iteF2 (by rw [decide_eq_true c4]; rfl) ⟨_, rfl, pra, _, 3, _, rfl, rfl, hpra, atI_nat (j := 3) rfl, la, _, rfl, .inr hla, _, _, rfl, rfl, _, rfl, ?_⟩
  rw [List.length_map]
  by_cases c8 : p.locs.length ≤ 5
  case neg => exact iteT2 (decide_eq_true (by omega)) (no2 (Same.refl _) fun j' e _ _ _ _ _ h => c8 h)
  refine iteF2 (decide_eq_false (by omega)) ?_
  have hpm := Ga.proc_mem hp
  have hgl := gi.g p hpm.1
  have nmq := nm19_name l hl19
  refine ⟨_, rfl, by show 11 ≤ sizeLine; decide, fun t ht => ?_⟩
  have m1 := same_new ht (.tup [V.str "n", .str "m0", .str "abcdefghijkl", .str "x", .str "t", .str "o", .str "p", .str "r", .str "y", .str "b", .str "h1"])
  refine ⟨_, _, rfl, .inr (SqT.of upd_same), rfl, by decide +kernel, _, rfl, ?_⟩
  rw [if_pos rfl, show inV (.str l) [V.str "n", .str "m0", .str "abcdefghijkl", .str "x", .str "t", .str "o", .str "p", .str "r", .str "y", .str "b", .str "h1"] = decide (l ∈ law11) from Pz.inV_strs l law11]
  by_cases c6 : l ∈ p.locs
  case pos =>
    have nn := no2 (H' := upd H t (.tup [V.str "n", .str "m0", .str "abcdefghijkl", .str "x", .str "t", .str "o", .str "p", .str "r", .str "y", .str "b", .str "h1"])) m1 fun j' e _ _ _ h _ _ => h c6
    by_cases c5 : l ∈ law11
    case neg => exact iteT2 (by simp [c5]) (iteT2 rfl nn)
    refine iteF2 (by simp [c5]) ⟨_, rfl, _, rfl, pra, _, 3, _, rfl, rfl, sqT_mono m1 hpra, atI_nat (j := 3) rfl, _, _, rfl, .inr (sqT_mono m1 hla), rfl, Pz.flat_strs _, _, rfl, ?_⟩
    rw [if_neg Bool.false_ne_true, Pz.inV_strs]
    exact iteT2 (by simp [c6]) (iteT2 rfl nn)
  by_cases c5 : l ∈ law11
  case neg =>
    have nn := no2 (H' := upd H t (.tup [V.str "n", .str "m0", .str "abcdefghijkl", .str "x", .str "t", .str "o", .str "p", .str "r", .str "y", .str "b", .str "h1"])) m1 fun j' e _ _ h _ _ _ => by
      rcases nmq.1.mp h with z | z
      · exact c5 z
      · rw [z] at c6; exact c6 hgl
    exact iteT2 (by simp [c5]) (iteT2 rfl nn)
  refine iteF2 (by simp [c5]) ⟨_, rfl, _, rfl, pra, _, 3, _, rfl, rfl, sqT_mono m1 hpra, atI_nat (j := 3) rfl, _, _, rfl, .inr (sqT_mono m1 hla), rfl, Pz.flat_strs _, _, rfl, ?_⟩
  rw [if_neg Bool.false_ne_true, Pz.inV_strs]
  refine iteF2 (by simp [c6]) ?_
  obtain ⟨vra, vxs, rfl, hvra, dvx⟩ := trips_inv d1
  have gv : G.vars.length ≤ 1000 := by have := gi.v; omega
  revert m1
  generalize upd H t (.tup [V.str "n", .str "m0", .str "abcdefghijkl", .str "x", .str "t", .str "o", .str "p", .str "r", .str "y", .str "b", .str "h1"]) = H1
  intro m1
  refine ⟨_, rfl, _, rfl, a, _, 0, _, rfl, rfl, sqT_mono m1 ha, atI_nat (j := 0) rfl, vra, rfl, ⟨_, sqT_mono m1 hvra⟩, fun D hD => ?_⟩
  refine lc_tup (K := K) (a := vra) (xs := vxs) (fun i H' => Same H1 H' ∧ H' D = some (.lst (((G.vars.map (·.1)).take i).map V.str))) ⟨same_new hD _, upd_same⟩ (fun i H' _ h => sqT_mono ((m1).trans h.1) hvra) ?_ ?_
  · rintro i x H' hx ⟨ms, e0⟩
    obtain ⟨t, b, et, rfl, hb⟩ := trip_at dvx hx
    refine ⟨rfl, _, rfl, b, _, 0, _, rfl, rfl, sqT_mono ((m1).trans ms) hb, atI_nat (j := 0) rfl, _, e0, names_len gv i, ?_, ?_⟩
    · intro z o' e'
      rw [upd_ne (ne_of_none e' hD)]
      exact ms _ _ e'
    · rw [upd_same, names_next et]
  rintro H2 ⟨m2, eL⟩
  rw [names_all dvx] at eL
  refine ⟨_, _, rfl, .inl (SqL.of eL), rfl, Pz.flat_strs _, _, rfl, ?_⟩
  rw [if_neg Bool.false_ne_true, Pz.inV_strs]
  have m12 := m1.trans m2
  by_cases c7 : l ∈ G.vars.map (·.1)
  case pos => exact iteT2 (by simpa using c7) (no2 m12 fun j' e _ _ _ _ h _ => h c7)
  refine iteF2 (by simpa using c7) ?_
  have hpra2 := sqT_mono m12 hpra
  refine ⟨_, rfl, _, rfl, _, rfl, pra, _, 4, _, rfl, rfl, hpra2, atI_nat (j := 4) rfl, _, rfl, _, rfl, ba, bs, rfl, sqT_mono m12 hba, fun b1 J1 n1 hb1 => ?_⟩
  rw [cut_take] at hb1
  refine ⟨_, rfl, _, rfl, by show 3 ≤ sizeLine; decide, fun t1 h1 => ⟨by show 1 ≤ sizeLine; decide, fun t2 h2 => ?_⟩⟩
  have n2 := same_new h1 (.tup [V.str "draw", .str l, .int c])
  have n3 := same_new h2 (.tup [V.ref t1])
  have hbl := (gi.s.b p hpm.1).2
  have big : ∀ n : Nat, n ≤ 3000 → n ≤ sizeLine := fun n h => Nat.le_trans h (by decide)
  refine ⟨b1, t2, _, _, rfl, rfl, sqT_mono (n2.trans n3) hb1, SqT.of upd_same, big _ ?_, fun b2 J2 n4 hb2 => ?_⟩
  · simp only [List.length_take, List.length_cons, List.length_nil]
    omega
  have n14 := m12.trans (n1.trans (n2.trans (n3.trans n4)))
  refine ⟨_, rfl, pra, _, 4, _, rfl, rfl, sqT_mono n14 hpra, atI_nat (j := 4) rfl, _, rfl, _, rfl, ba, bs, rfl, sqT_mono n14 hba, fun b3 J3 n5 hb3 => ?_⟩
  rw [cut_drop] at hb3
  refine ⟨b2, b3, _, _, rfl, rfl, sqT_mono n5 hb2, hb3, big _ ?_, fun bk J4 n6 hbk => ?_⟩
  · simp only [List.length_append, List.length_take, List.length_drop, List.length_cons, List.length_nil]
    omega
  have n16 := n14.trans (n5.trans n6)
  refine ⟨_, rfl, pra, _, 3, _, rfl, rfl, sqT_mono n16 hpra, atI_nat (j := 3) rfl, _, rfl, by show 1 ≤ sizeLine; decide, fun t3 h3 => ?_⟩
  have n7 := same_new h3 (.tup [V.str l])
  refine ⟨la, t3, _, _, rfl, rfl, sqT_mono (n16.trans n7) hla, SqT.of upd_same, big _ ?_, fun nl J5 n8 hnl => ?_⟩
  · simp only [List.length_map, List.length_cons, List.length_nil]
    omega
  have n18 := n16.trans (n7.trans n8)
  have dbs4 := dp_monoAll n18 _ _ dbs
  have dt1 : Dp K J5 (.ref t1) (Stm.draw l c).d := dp_mono (n3.trans (n4.trans (n5.trans (n6.trans (n7.trans n8))))) _ _ (dp_tup (ds := [.str "draw", .str l, .int c]) h1 (.cons (.str _) (.cons (.str _) (.cons (.int _) .nil))))
  have dbk : Dp K J5 (.ref bk) (Blk.of (p.block.l.take j ++ [.draw l c] ++ p.block.l.drop j)).d := by
    refine .tup (sqT_mono (n7.trans n8) hbk) ?_
    rw [Blk.ds_of, List.map_append, List.map_append, List.map_take, List.map_drop]
    exact DpAll.app (DpAll.app (DpAll.take j dbs4) (.cons dt1 .nil)) (DpAll.drop j dbs4)
  have dnl : Dp K J5 (.ref nl) (strD (p.locs ++ [l])) := by
    refine .tup hnl ?_
    rw [show p.locs.map V.str ++ [V.str l] = (p.locs ++ [l]).map V.str from by rw [List.map_append]; rfl]
    exact dp_strs _
  refine ⟨.ref a, .ref bk, .ref nl, n, G, _, _, rfl, dp_mono n18 _ _ dv0, dbk, dnl, gi.s.n, fun u J6 n9 du => ?_⟩
  have hpe := put_setL (locs := p.locs ++ [l]) (b := Blk.of (p.block.l.take j ++ [.draw l c] ++ p.block.l.drop j)) gi.u hpm.1
  have hn := hpm.2
  subst hn
  have f12 := gi.f.mono (j := 12) (e := 12) (by decide) (by decide)
  have fp := f12.procs p hpm.1
  have tt : TossTo G p.name (j : Int) l c (G.setB p.name (p.locs ++ [l]) (Blk.of (p.block.l.take j ++ [.draw l c] ++ p.block.l.drop j))) := ⟨p, j, hp, rfl, by omega, ⟨c3, c4⟩, nmq.1.mpr (.inl c5), c6, c7, c8, hpe.symm⟩
  refine q u J6 (n18.trans n9) (.inr ⟨_, du, step_toss.mpr tt, f12.setB (fun x hx => ?_) (blF.of fun x hx => ?_), fun D' hD' => ?_⟩)
  · rcases List.mem_append.mp hx with h | h
    · exact fp.locs x h
    · rw [List.mem_singleton.mp h]; exact nmq.2
  · rcases List.mem_append.mp hx with h | h
    · rcases List.mem_append.mp h with h | h
      · exact blF.l fp.block x (List.mem_of_mem_take h)
      · rw [List.mem_singleton.mp h]; unfold stF; exact ⟨nmq.2, by omega, by omega⟩
    · exact blF.l fp.block x (List.mem_of_mem_drop h)
  · obtain ⟨p', j', h1, h2, _, _, _, _, _, _, rfl⟩ := step_toss.mp hD'
    rw [hp] at h1
    cases h1
    have hj : j' = j := by omega
    subst hj
    exact hpe
end
end Toy
set_option Elab.async false
set_option linter.all false
set_option maxRecDepth 100000
set_option maxHeartbeats 8000000
namespace Toy
open PySem L2 NdefX Gm
open Mine hiding same_new
section
variable {P : Program} {w : World} {K : PySem.W.Frag} {mg : Str → Option Value} {base : Heap} {file : Str}
theorem ok_sunk (T : Txt K mg file) : FnOk P w K mg base CX0 14 T.a_law_sunk T.fd_law_sunk ["game", "name", "at"] (spSunk K) := by
  have G_law_proc : FnOk P w K mg base CX0 1 T.a_law_proc T.fd_law_proc ["game", "name"] (spLProc K) := ok_lproc T
  have G_law_with : FnOk P w K mg base CX0 1 T.a_law_with T.fd_law_with ["game", "name", "block", "names"] (spWithB K) := ok_withB T
  have G_law_uses : FnOk P w K mg base CX0 13 T.a_law_uses T.fd_law_uses ["expression"] (spUses K 12) := ok_uses T 12
  refine T.F_law_sunk.ok sc_law_sunk (fun vs H Q E h => ?_) (fun cdv A outer s H vs Q E hr h => ?_)
  · obtain ⟨v, G, n, i, rfl, _⟩ := h
    rfl
  obtain ⟨v, G, n, i, rfl, dv, gi, q⟩ := h
  refine ⟨_, (pss_cons (ps_set (i := 3) sc_law_sunk.nd rfl (Or.inl rfl) (pe_call G_law_proc (hr.mono (by decide)) rfl T.g_law_proc T.k_law_proc T.b_law_proc .nil pass0 (pa_cons (pv 0) (pa_cons (pv 1) pa_nil))))
    (pss_cons (ps_if (PW.pt (pw_or (pt_cmpR op_isN (pv 3) pe_non (nomark _)) (pw_or (pt_cmpR op_lt (pv 2) pe_int (nomark _)) (pw_or1 (pt_cmpR op_gt (pe_op op_add (pv 2) pe_int) (pe_callB call_len_seq (by rfl) T.z_len (by decide +kernel) (pa_cons (pe_ix ix_tup (pv 3) pe_int (fun _ _ => rfl)) pa_nil)) (nomark _))))))
      (pss_one (ps_ret pe_non))
      pss_nil)
    (pss_cons (ps_set (i := 4) sc_law_sunk.nd rfl (Or.inl rfl) (pe_ix ix_tup (pe_ix ix_tup (pv 3) pe_int (fun _ _ => rfl)) (pv 2) (fun _ _ => rfl)))
    (pss_cons (ps_set (i := 5) sc_law_sunk.nd rfl (Or.inl rfl) (pe_ix ix_tup (pe_ix ix_tup (pv 3) pe_int (fun _ _ => rfl)) (pe_op op_add (pv 2) pe_int) (fun _ _ => rfl)))
    (pss_cons (ps_if (PW.pt (pw_or (pt_cmpR op_ne (pe_ix ix_tup (pv 4) pe_int (fun _ _ => rfl)) pe_str (nomark _)) (pw_or (pt_cmpR op_ne (pe_ix ix_tup (pv 5) pe_int (fun _ _ => rfl)) pe_str (nomark _)) (pw_or1 (pt_cmpR op_in_seq (pe_op op_add_str pe_str (pe_ix ix_tup (pv 4) pe_int (fun _ _ => rfl))) (pe_call G_law_uses (hr.mono (by decide)) rfl T.g_law_uses T.k_law_uses T.b_law_uses .nil pass0 (pa_cons (pe_ix ix_tup (pv 5) pe_int (fun _ _ => rfl)) pa_nil)) rfl)))))
      (pss_one (ps_ret pe_non))
      pss_nil)
    (pss_cons (ps_set (i := 6) sc_law_sunk.nd rfl (Or.inl rfl) (pe_tup (pa_cons pe_str (pa_cons (pe_ix ix_tup (pv 5) pe_int (fun _ _ => rfl)) (pa_cons (pe_op (CatB.op_catB K rfl) (pe_tup (pa_cons (pv 4) pa_nil)) (pe_ix ix_tup (pv 5) pe_int (fun _ _ => rfl))) (pa_cons (pe_op (CatB.op_catB K rfl) (pe_tup (pa_cons (pv 4) pa_nil)) (pe_ix ix_tup (pv 5) pe_int (fun _ _ => rfl))) pa_nil))))))
    (pss_one (ps_ret (pe_call G_law_with (hr.mono (by decide)) rfl T.g_law_with T.k_law_with T.b_law_with .nil pass0 (pa_cons (pv 0) (pa_cons (pv 1) (pa_cons (pe_op (CatB.op_catB K rfl) (pe_op (CatB.op_catB K rfl) (pe_slice (slTB K rfl) (pe_ix ix_tup (pv 3) pe_int (fun _ _ => rfl)) po_none (po_some (pv 2))) (pe_tup (pa_cons (pv 6) pa_nil))) (pe_slice (slTB K rfl) (pe_ix ix_tup (pv 3) pe_int (fun _ _ => rfl)) (po_some (pe_op op_add (pv 2) pe_int)) po_none)) (pa_cons (pe_ix ix_tup (pv 3) pe_int (fun _ _ => rfl)) pa_nil))))))))))))), ?_⟩
  have no : ∀ {H' : Hp}, Same H H' → (∀ D, ¬ SinkTo G n i D) → Q .non H' := fun m h => q _ _ m (.inl ⟨rfl, fun D z => h D (step_sink.mp z)⟩)
  have dv0 := dv
  obtain ⟨a, u1, u2, u3, pa, ps, rfl, ha, d1, d2, d3, hpa, dps⟩ := ga_inv dv
  refine ⟨_, rfl, _, rfl, .ref a, n, G, rfl, dv0, fun p hp u hu => ?_, fun hp => ?_⟩
  case refine_2 =>
    exact ⟨_, rfl, rfl, _, rfl, iteT2 (by simp) (iteT2 rfl (no (Same.refl _) fun D ⟨p, j, _, _, _, _, _, h, _⟩ => by rw [h.1] at hp; cases hp))⟩
  obtain ⟨pra, la', ba, rv, bs, rfl, hpra, hla, hba, dbs, dres⟩ := pr_inv hu
  have lb : bs.length = p.block.l.length := (DpAll.len dbs).trans (List.length_map _)
  have no2 : ∀ {H' : Hp}, Same H H' → (∀ (j : Nat) l c t a b, i = (j : Int) → p.block.l[j]? = some (.draw l c) → p.block.l[j + 1]? = some (.ite t a b) → (("local" : Str), l) ∉ t.reads → False) → Q .non H' := fun m h => no m fun D ⟨p', j, l, c, t, a, b, h1, h2, h3, _⟩ => by
    have h4 := h1.1
    rw [hp] at h4
    cases h4
    exact h j l c t a b h1.2.1 h1.2.2 h2 h3
  refine ⟨_, rfl, rfl, _, rfl, iteF2 (by simp) ?_⟩
  refine ⟨_, rfl, _, _, rfl, rfl, _, rfl, ?_⟩
  by_cases c1 : i < 0
  case pos => exact iteT2 (decide_eq_true c1) (iteT2 rfl (no2 (Same.refl _) fun j _ _ _ _ _ e _ _ _ => by omega))
  refine iteF2 (decide_eq_false c1) ⟨_, rfl, _, _, rfl, rfl, _, rfl, pra, _, 4, _, rfl, rfl, hpra, atI_nat (j := 4) rfl, ba, bs, rfl, .inr hba, _, _, rfl, rfl, _, rfl, ?_⟩
  obtain ⟨j, rfl⟩ := Int.eq_ofNat_of_zero_le (show 0 ≤ i by omega)
  by_cases c2 : (bs.length : Int) < (j : Int) + 2
  case pos => exact iteT2 (decide_eq_true c2) (no2 (Same.refl _) fun j' _ _ _ _ _ e _ h _ => by have := (List.getElem?_eq_some_iff.mp h).1; omega)
  refine iteF2 (decide_eq_false c2) ?_
  obtain ⟨s1, es1⟩ : ∃ s1, p.block.l[j]? = some s1 := ⟨p.block.l[j]'(by omega), List.getElem?_eq_getElem _⟩
  obtain ⟨s2, es2⟩ : ∃ s2, p.block.l[j + 1]? = some s2 := ⟨p.block.l[j + 1]'(by omega), List.getElem?_eq_getElem _⟩
  obtain ⟨v1, ev1, dv1⟩ := DpAll.get dbs (show (p.block.l.map Stm.d)[j]? = some s1.d by rw [List.getElem?_map, es1]; rfl)
  obtain ⟨v2, ev2, dv2⟩ := DpAll.get dbs (show (p.block.l.map Stm.d)[j + 1]? = some s2.d by rw [List.getElem?_map, es2]; rfl)
  have no3 : ∀ {H' : Hp}, Same H H' → (∀ l c t a b, s1 = .draw l c → s2 = .ite t a b → (("local" : Str), l) ∉ t.reads → False) → Q .non H' := fun m h => no2 m fun j' l c t a b e h1 h2 h3 => by
    have ej : j' = j := by omega
    subst ej
    rw [es1] at h1
    rw [es2] at h2
    exact h l c t a b (Option.some.inj h1) (Option.some.inj h2) h3
  have dv10 := dv1
  have dv20 := dv2
  obtain ⟨za, zr, rfl, hza, dzr⟩ := stm_inv dv1
  obtain ⟨ya, yr, rfl, hya, dyr⟩ := stm_inv dv2
  refine ⟨_, rfl, pra, _, 4, _, rfl, rfl, hpra, atI_nat (j := 4) rfl, _, rfl, ba, bs, _, _, rfl, rfl, hba, atI_nat ev1, ?_⟩
  refine ⟨_, rfl, pra, _, 4, _, rfl, rfl, hpra, atI_nat (j := 4) rfl, _, rfl, _, _, rfl, rfl, ba, bs, _, _, rfl, rfl, hba, atI_nat (j := j + 1) ev2, ?_⟩
  refine ⟨_, rfl, za, _, 0, _, rfl, rfl, hza, atI_nat (j := 0) rfl, rfl, _, rfl, ?_⟩
  by_cases kd : s1.kind = "draw"
  case neg => exact iteT2 (by simp [kd]) (iteT2 rfl (no3 (Same.refl _) fun l c _ _ _ e _ _ => kd (by rw [e]; rfl)))
  refine iteF2 (by simp [kd]) ⟨_, rfl, ya, _, 0, _, rfl, rfl, hya, atI_nat (j := 0) rfl, rfl, _, rfl, ?_⟩
  by_cases ki : s2.kind = "if"
  case neg => exact iteT2 (by simp [ki]) (iteT2 rfl (no3 (Same.refl _) fun _ _ t a b _ e _ => ki (by rw [e]; rfl)))
  refine iteF2 (by simp [ki]) ?_
  obtain ⟨l, c, rfl⟩ := draw_is kd
  obtain ⟨tt, fa, fb, rfl⟩ := ite_is ki
  obtain ⟨zl, _, rfl, dl, dzr⟩ := dps_cons dzr
  obtain ⟨zc, _, rfl, dc, dzr⟩ := dps_cons dzr
  have e0 := dps_nil dzr
  subst e0
  have e1 := dp_s dl
  subst e1
  obtain ⟨yt, _, rfl, dt, dyr⟩ := dps_cons dyr
  obtain ⟨y1, _, rfl, dy1, dyr⟩ := dps_cons dyr
  obtain ⟨y2, _, rfl, dy2, dyr⟩ := dps_cons dyr
  have e0 := dps_nil dyr
  subst e0
  obtain ⟨fa1, fas, rfl, hfa, dfa⟩ := dp_inv dy1
  obtain ⟨fb1, fbs, rfl, hfb, dfb⟩ := dp_inv dy2
  have hpm := Ga.proc_mem hp
  have f11 := gi.f.procs p hpm.1
  have st1 := blF.l f11.block _ (List.mem_of_getElem? es1)
  have st2 := blF.l f11.block _ (List.mem_of_getElem? es2)
  have nml : nmB l = true := by unfold stF at st1; exact st1.1
  have ft : exF 11 tt := by unfold stF at st2; exact st2.1
  have fit2 : fa.len ≤ 600 ∧ fb.len ≤ 600 := by unfold stF at st2; exact st2.2.2.2
  have bl2 : blF 11 10 fa ∧ blF 11 10 fb := by unfold stF at st2; exact ⟨st2.2.1, st2.2.2.1⟩
  have l5 : l.length ≤ 100 := nm_len nml
  have l6 : ("local " : Str).length ≤ 100 := by decide +kernel
  have big : ∀ n : Nat, n ≤ 3000 → n ≤ sizeLine := fun n h => Nat.le_trans h (by decide)
  refine ⟨_, rfl, za, _, 1, _, rfl, rfl, hza, atI_nat (j := 1) rfl, _, _, rfl, rfl, big _ (by omega), _, rfl, ya, _, 1, _, rfl, rfl, hya, atI_nat (j := 1) rfl, yt, tt, rfl, dt, ft.mono (by decide), by decide, fun L J1 nL m1 hL => ?_⟩
  refine ⟨_, _, rfl, .inl (SqL.of hL), rfl, Pz.flat_strs _, _, rfl, ?_⟩
  rw [if_neg Bool.false_ne_true, Pz.inV_strs, show ("local " : Str) ++ l = usT (("local" : Str), l) from by unfold usT; dsimp only; rw [show ("local" : Str) ++ " " = "local " from by decide +kernel]]
  by_cases c3 : (("local" : Str), l) ∈ tt.reads
  case pos => exact iteT2 (decide_eq_true (reads_us.mpr c3)) (no3 m1 fun l' c' t a b e1 e2 h => by injection e1 with e1 _; injection e2 with e2 _ _; subst e1 e2; exact h c3)
  refine iteF2 (decide_eq_false fun z => c3 (reads_us.mp z)) ?_
  have la : fas.length ≤ 600 := by rw [DpAll.len dfa, Blk.len_ds]; exact fit2.1
  have lb2 : fbs.length ≤ 600 := by rw [DpAll.len dfb, Blk.len_ds]; exact fit2.2
  -- moved
  have hya1 := sqT_mono m1 hya
  refine ⟨_, rfl, ya, _, 1, _, rfl, rfl, hya1, atI_nat (j := 1) rfl, _, rfl, by show 1 ≤ sizeLine; decide, fun t1 h1 => ?_⟩
  have n1 := same_new h1 (.tup [V.ref za])
  have m2 := m1.trans n1
  refine ⟨_, rfl, ya, _, 2, _, rfl, rfl, sqT_mono m2 hya, atI_nat (j := 2) rfl, t1, fa1, _, _, rfl, rfl, SqT.of upd_same, sqT_mono m2 hfa, big _ (by simp only [List.length_cons, List.length_nil]; omega), fun w1 J2 n2 hw1 => ?_⟩
  have m3 := m2.trans n2
  refine ⟨_, rfl, by show 1 ≤ sizeLine; decide, fun t2 h2 => ?_⟩
  have n3 := same_new h2 (.tup [V.ref za])
  have m4 := m3.trans n3
  refine ⟨_, rfl, ya, _, 3, _, rfl, rfl, sqT_mono m4 hya, atI_nat (j := 3) rfl, t2, fb1, _, _, rfl, rfl, SqT.of upd_same, sqT_mono m4 hfb, big _ (by simp only [List.length_cons, List.length_nil]; omega), fun w2 J3 n4 hw2 => ?_⟩
  have m5 := m4.trans n4
  refine ⟨by show 4 ≤ sizeLine; decide, fun w3 hw3 => ?_⟩
  have n5 := same_new hw3 (.tup [V.str "if", yt, .ref w1, .ref w2])
  have m6 := m5.trans n5
  have dA : Dp K J3 (.ref w1) (Blk.cons (.draw l c) fa).d := dp_mono (n3.trans n4) _ _ (.tup hw1 (.cons (dp_mono m3 _ _ dv10) (dp_monoAll m3 _ _ dfa)))
  have dB : Dp K J3 (.ref w2) (Blk.cons (.draw l c) fb).d := .tup hw2 (.cons (dp_mono m5 _ _ dv10) (dp_monoAll m5 _ _ dfb))
  have dI : Dp K _ (.ref w3) (Stm.ite tt (.cons (.draw l c) fa) (.cons (.draw l c) fb)).d := dp_tup (ds := [.str "if", tt.d, (Blk.cons (.draw l c) fa).d, (Blk.cons (.draw l c) fb).d]) hw3 (.cons (.str _) (.cons (dp_mono m5 _ _ dt) (.cons dA (.cons dB .nil))))
  -- the game
  refine ⟨_, rfl, _, rfl, _, rfl, pra, _, 4, _, rfl, rfl, sqT_mono m6 hpra, atI_nat (j := 4) rfl, _, rfl, _, rfl, ba, bs, rfl, sqT_mono m6 hba, fun b1 J4 k1 hb1 => ?_⟩
  rw [cut_take] at hb1
  refine ⟨_, rfl, by show 1 ≤ sizeLine; decide, fun t3 h3 => ?_⟩
  have k2 := same_new h3 (.tup [V.ref w3])
  have hbl := (gi.s.b p hpm.1).2
  refine ⟨b1, t3, _, _, rfl, rfl, sqT_mono k2 hb1, SqT.of upd_same, big _ ?_, fun b2 J5 k3 hb2 => ?_⟩
  · simp only [List.length_take, List.length_cons, List.length_nil]
    omega
  have k13 := m6.trans (k1.trans (k2.trans k3))
  refine ⟨_, rfl, pra, _, 4, _, rfl, rfl, sqT_mono k13 hpra, atI_nat (j := 4) rfl, _, rfl, _, _, rfl, rfl, _, rfl, ba, bs, rfl, sqT_mono k13 hba, fun b3 J6 k4 hb3 => ?_⟩
  rw [show ((j : Int) + 2) = ((j + 2 : Nat) : Int) from rfl, cut_drop] at hb3
  refine ⟨b2, b3, _, _, rfl, rfl, sqT_mono k4 hb2, hb3, big _ ?_, fun bk J7 k5 hbk => ?_⟩
  · simp only [List.length_append, List.length_take, List.length_drop, List.length_cons, List.length_nil]
    omega
  have k15 := k13.trans (k4.trans k5)
  have dbs7 := dp_monoAll k15 _ _ dbs
  have dbk : Dp K J7 (.ref bk) (Blk.of (p.block.l.take j ++ [.ite tt (.cons (.draw l c) fa) (.cons (.draw l c) fb)] ++ p.block.l.drop (j + 2))).d := by
    refine .tup hbk ?_
    rw [Blk.ds_of, List.map_append, List.map_append, List.map_take, List.map_drop]
    exact DpAll.app (DpAll.app (DpAll.take j dbs7) (.cons (dp_mono (k1.trans (k2.trans (k3.trans (k4.trans k5)))) _ _ dI) .nil)) (DpAll.drop (j + 2) dbs7)
  refine ⟨_, rfl, pra, _, 3, _, rfl, rfl, sqT_mono k15 hpra, atI_nat (j := 3) rfl, ?_⟩
  refine ⟨.ref a, .ref bk, .ref la', n, G, _, p.locs, rfl, dp_mono k15 _ _ dv0, dbk, .tup (sqT_mono k15 hla) (dp_strs _), gi.s.n, fun u J8 k6 du => ?_⟩
  have hn := hpm.2
  subst hn
  have hpe := put_setB (b := Blk.of (p.block.l.take j ++ [.ite tt (.cons (.draw l c) fa) (.cons (.draw l c) fb)] ++ p.block.l.drop (j + 2))) gi.u hpm.1
  have f12 := gi.f.mono (j := 12) (e := 12) (by decide) (by decide)
  have fp := f12.procs p hpm.1
  have tk : SinkTo G p.name (j : Int) (G.setB p.name p.locs (Blk.of (p.block.l.take j ++ [.ite tt (.cons (.draw l c) fa) (.cons (.draw l c) fb)] ++ p.block.l.drop (j + 2)))) := ⟨p, j, l, c, tt, fa, fb, ⟨hp, rfl, es1⟩, es2, c3, hpe.symm⟩
  refine q u J8 (k15.trans k6) (.inr ⟨_, du, step_sink.mpr tk, f12.setB fp.locs (blF.of fun x hx => ?_), fun D' hD' => ?_⟩)
  · rcases List.mem_append.mp hx with h | h
    · rcases List.mem_append.mp h with h | h
      · exact blF.l fp.block x (List.mem_of_mem_take h)
      · rw [List.mem_singleton.mp h]
        unfold stF at st1
        have sd : stF 12 11 (.draw l c) := by unfold stF; exact st1
        unfold stF
        refine ⟨ft.mono (by decide), ?_, ?_, ?_, ?_⟩
        · unfold blF; exact ⟨sd, blF.mono (by decide) bl2.1 (by decide)⟩
        · unfold blF; exact ⟨sd, blF.mono (by decide) bl2.2 (by decide)⟩
        · show fa.len + 1 ≤ _; omega
        · show fb.len + 1 ≤ _; omega
    · exact blF.l fp.block x (List.mem_of_mem_drop h)
  · obtain ⟨p', j', l', c', t', a', b', h1, h2, h3, rfl⟩ := step_sink.mp hD'
    have h4 := h1.1
    rw [hp] at h4
    cases h4
    have hj : j' = j := by have := h1.2.1; omega
    subst hj
    have h5 := h1.2.2
    rw [es1] at h5
    cases h5
    rw [es2] at h2
    cases h2
    exact hpe
end
end Toy
set_option Elab.async false
set_option linter.all false
set_option maxRecDepth 100000
set_option maxHeartbeats 8000000
namespace Toy
open PySem L2 NdefX Gm
open Mine hiding same_new
def hs6 : List Str := ["h1", "h2", "h3", "h4", "h5", "h6"]
theorem readyF {G : Ga} {p : Pr} {y : Str} {x : Str} {l : Str} {c : Int} {t : Ex} {hs : List Str} (ok : GaOk G) (hp : p ∈ G.procs) (hx : x ∈ p.locs) (hy : y ∈ p.locs) (hl : l ∈ p.locs) (hc : 2 ≤ c ∧ c ≤ 4) (ft : exF 3 t) (hh : ∀ z ∈ hs, z ∈ hs6) :
    GI (G.setB p.name (p.locs ++ hs) (newB p.block 2 (.draw l c) (.ite t (.cons (.lt y (.loc x)) .nil) (Blk.of (p.block.l.take 1))))) := by
  have gi := GI.ofOk ok
  have nm := (ScN.ofGa ok hp).l
  have fp := gi.f.procs p hp
  have len4 := (ok.proc p hp).len
  have fb : blF 11 11 (newB p.block 2 (.draw l c) (.ite t (.cons (.lt y (.loc x)) .nil) (Blk.of (p.block.l.take 1)))) := by
    refine newB_fit fp.block (by unfold stF; exact ⟨nm l hl, by omega, by omega⟩) ?_
    have b1 : blF 3 2 (Blk.of (p.block.l.take 1)) := blF.of fun z hz => blF.l ((GaF.ofOk ok).procs p hp).block z (List.mem_of_mem_take hz)
    unfold stF
    refine ⟨ft.mono (by decide), ?_, blF.mono (by decide) b1 (by decide), by show 0 + 1 ≤ _; omega, ?_⟩
    · unfold blF
      refine ⟨?_, by unfold blF; trivial⟩
      unfold stF
      exact ⟨nm y hy, nm x hx⟩
    · rw [← Blk.len_l, Blk.l_of, List.length_take]
      omega
  have lb : (newB p.block 2 (.draw l c) (.ite t (.cons (.lt y (.loc x)) .nil) (Blk.of (p.block.l.take 1)))).l.length ≤ 900 := by
    rw [newB_l]
    simp only [List.length_append, List.length_take, List.length_drop, List.length_cons, List.length_nil, Blk.len_l]
    omega
  refine ⟨gi.s.setB (blF.mono (by decide) fb (by decide)) lb, gi.f.setB (fun z hz => ?_) fb, setB_uniq gi.u, fun q hq => ?_, gi.v⟩
  · rcases List.mem_append.mp hz with h | h
    · exact nm z h
    · exact (by decide +kernel : ∀ z ∈ hs6, nmB z = true) z (hh z h)
  · obtain ⟨r, hr, rfl⟩ := List.mem_map.mp hq
    have hg := gi.g r hr
    by_cases e : r.name = p.name
    · rw [if_pos e]
      exact List.mem_append_left _ (gi.g p hp)
    · rw [if_neg e]
      exact hg
section
variable {P : Program} {w : World} {K : PySem.W.Frag} {mg : Str → Option Value} {base : Heap} {file : Str}
theorem ok_ready (T : Txt K mg file) : FnOk P w K mg base CX0 3 T.a_law_ready T.fd_law_ready ["game", "cell"] (spReady K) := by
  have G_law_value : FnOk P w K mg base CX0 2 T.a_law_value T.fd_law_value ["cell", "names", "variables", "tables"] (spSide K 3) := ok_value T
  have G_law_with : FnOk P w K mg base CX0 1 T.a_law_with T.fd_law_with ["game", "name", "block", "names"] (spWithB K) := ok_withB T
  refine T.F_law_ready.ok sc_law_ready (fun vs H Q E h => ?_) (fun cdv A outer s H vs Q E hr h => ?_)
  · obtain ⟨v, G, c, rfl, _⟩ := h
    rfl
  obtain ⟨v, G, cell, rfl, dv, ok, q⟩ := h
  refine ⟨_, (pss_cons (ps_set (i := 2) sc_law_ready.nd rfl (Or.inl rfl) (pe_ix ix_tup (pe_ix ix_tup (pv 0) pe_int (fun _ _ => rfl)) pe_int (fun _ _ => rfl)))
    (pss_cons (ps_set (i := 3) sc_law_ready.nd rfl (Or.inl rfl) (pe_call G_law_value (hr.mono (by decide)) rfl T.g_law_value T.k_law_value T.b_law_value .nil pass0 (pa_cons (pe_op op_fdivW (pe_callTy call_int1 (by rfl) T.z_int (by decide +kernel) (pa_cons (pv 1) pa_nil)) pe_int) (pa_cons (pe_ix ix_tup (pv 2) pe_int (fun _ _ => rfl)) (pa_cons (pe_lc (own := [("row", 4)]) (g := gName 4) (tt := tYes) rfl sc_law_ready.nd (pi_tup (pe_ix ix_tup (pv 0) pe_int (fun _ _ => rfl))) (blkOk_by (own := [("row", 4)]) (N := ["game", "cell", "proc", "test", "row", "branch", "pair", "names"]) (sc := defScope s_law_ready) (by decide +kernel)) (fun _ _ _ _ _ => pg_name (i := 4) sc_law_ready.nd rfl (Or.inl rfl)) (fun _ _ _ _ _ => pts_nil) (fun _ _ _ _ _ => (pe_ix (ixtK K rfl) (pv 4) pe_int (fun _ _ => rfl)))) (pa_cons (pe_lc (own := [("row", 4)]) (g := gName 4) (tt := tYes) rfl sc_law_ready.nd (pi_tup (pe_ix ix_tup (pv 0) pe_int (fun _ _ => rfl))) (blkOk_by (own := [("row", 4)]) (N := ["game", "cell", "proc", "test", "row", "branch", "pair", "names"]) (sc := defScope s_law_ready) (by decide +kernel)) (fun _ _ _ _ _ => pg_name (i := 4) sc_law_ready.nd rfl (Or.inl rfl)) (fun _ _ _ _ _ => pts_nil) (fun _ _ _ _ _ => (pe_ix (ixtK K rfl) (pv 4) pe_int (fun _ _ => rfl)))) pa_nil))))))
    (pss_cons (ps_set (i := 5) sc_law_ready.nd rfl (Or.inl rfl) (pe_tup (pa_cons pe_str (pa_cons (pv 3) (pa_cons (pe_tup (pa_cons (pe_tup (pa_cons pe_str (pa_cons (pe_ix ix_tup (pe_ix ix_tup (pv 2) pe_int (fun _ _ => rfl)) pe_int (fun _ _ => rfl)) (pa_cons (pe_tup (pa_cons pe_str (pa_cons (pe_ix ix_tup (pe_ix ix_tup (pv 2) pe_int (fun _ _ => rfl)) pe_int (fun _ _ => rfl)) pa_nil))) pa_nil)))) pa_nil)) (pa_cons (pe_slice (slTB K rfl) (pe_ix ix_tup (pv 2) pe_int (fun _ _ => rfl)) po_none (po_some pe_int)) pa_nil))))))
    (pss_cons (ps_set (i := 6) sc_law_ready.nd rfl (Or.inl rfl) (pe_tup (pa_cons (pe_tup (pa_cons pe_str (pa_cons (pe_ix ix_tup (pe_ix ix_tup (pv 2) pe_int (fun _ _ => rfl)) (pe_op op_mod (pe_callTy call_int1 (by rfl) T.z_int (by decide +kernel) (pa_cons (pv 1) pa_nil)) (pe_callB call_len_seq (by rfl) T.z_len (by decide +kernel) (pa_cons (pe_ix ix_tup (pv 2) pe_int (fun _ _ => rfl)) pa_nil))) (fun _ _ => rfl)) (pa_cons (pe_op op_add pe_int (pe_op op_mod (pe_op op_fdivW (pe_callTy call_int1 (by rfl) T.z_int (by decide +kernel) (pa_cons (pv 1) pa_nil)) pe_int) pe_int)) pa_nil)))) (pa_cons (pv 5) pa_nil))))
    (pss_cons (ps_set (i := 7) sc_law_ready.nd rfl (Or.inl rfl) (pe_ix ix_tup (pv 2) pe_int (fun _ _ => rfl)))
    (pss_cons (ps_if (pt_cmpR op_eq (pe_op op_mod (pe_callTy call_int1 (by rfl) T.z_int (by decide +kernel) (pa_cons (pv 1) pa_nil)) pe_int) pe_int (nomark _))
      (pss_one (ps_set (i := 7) sc_law_ready.nd rfl (Or.inl rfl) (pe_op (CatB.op_catB K rfl) (pv 7) (pe_slice (slTB K rfl) (pe_tup (pa_cons pe_str (pa_cons pe_str (pa_cons pe_str (pa_cons pe_str (pa_cons pe_str (pa_cons pe_str pa_nil))))))) po_none (po_some (pe_op op_mod (pe_op op_fdivW (pe_callTy call_int1 (by rfl) T.z_int (by decide +kernel) (pa_cons (pv 1) pa_nil)) pe_int) pe_int))))))
      pss_nil)
    (pss_one (ps_ret (pe_call G_law_with (hr.mono (by decide)) rfl T.g_law_with T.k_law_with T.b_law_with .nil pass0 (pa_cons (pv 0) (pa_cons (pe_ix ix_tup (pv 2) pe_int (fun _ _ => rfl)) (pa_cons (pe_op (CatB.op_catB K rfl) (pe_op (CatB.op_catB K rfl) (pe_slice (slTB K rfl) (pe_ix ix_tup (pv 2) pe_int (fun _ _ => rfl)) po_none (po_some pe_int)) (pv 6)) (pe_slice (slTB K rfl) (pe_ix ix_tup (pv 2) pe_int (fun _ _ => rfl)) (po_some pe_int) po_none)) (pa_cons (pv 7) pa_nil))))))))))))), ?_⟩
  have two : (2 : Nat) ≤ sizeLine := by decide
  have three : (3 : Nat) ≤ sizeLine := by decide
  have big : ∀ n : Nat, n ≤ 3000 → n ≤ sizeLine := fun n h => Nat.le_trans h (by decide)
  have gi := GI.ofOk ok
  have dv0 := dv
  obtain ⟨a, u1, u2, u3, pa, ps, rfl, ha, d1, d2, d3, hpa, dps⟩ := ga_inv dv
  have lps : ps.length = G.procs.length := (DpAll.len dps).trans (List.length_map _)
  have gsz := ga_sizes ok
  obtain ⟨p, ep⟩ : ∃ p, G.procs[0]? = some p := ⟨G.procs[0]'(by omega), List.getElem?_eq_getElem _⟩
  obtain ⟨pv, epv, dpv⟩ := DpAll.get dps (show (G.procs.map Pr.d)[0]? = some p.d by rw [List.getElem?_map, ep]; rfl)
  have hpG := List.mem_of_getElem? ep
  have okp := ok.proc p hpG
  obtain ⟨pra, la, ba, rv, bs, rfl, hpra, hla, hba, dbs, _⟩ := pr_inv dpv
  have lbs : bs.length = p.block.l.length := (DpAll.len dbs).trans (List.length_map _)
  have lb4 : p.block.l.length ≤ 4 := by
    have := okp.len
    rw [Blk.len_l]
    omega
  have nel : p.locs ≠ [] := by
    rcases okp.locs with e | e <;> rw [e] <;> exact List.cons_ne_nil _ _
  have ll : p.locs.length ≤ 3 := by rcases okp.locs with e | e <;> rw [e] <;> decide
  obtain ⟨x0, y0, ex0, ey0⟩ : ∃ x0 y0, p.locs[0]? = some x0 ∧ p.locs[1]? = some y0 := by
    rcases okp.locs with e | e <;> rw [e] <;> exact ⟨_, _, rfl, rfl⟩
  have hx0 := List.mem_of_getElem? ex0
  have hy0 := List.mem_of_getElem? ey0
  have ax0 : (p.locs.map V.str)[0]? = some (.str x0) := by rw [List.getElem?_map, ex0]; rfl
  have ay0 : (p.locs.map V.str)[1]? = some (.str y0) := by rw [List.getElem?_map, ey0]; rfl
  obtain ⟨l, hlm, el⟩ : ∃ x ∈ p.locs, atI (p.locs.map V.str) (cell % (((p.locs.map V.str).length : Nat) : Int)) = some (.str x) := pick_mem nel
  have lenl := len_pos nel
  obtain ⟨vra, vxs, rfl, hvra, dvx⟩ := trips_inv d1
  obtain ⟨tra, txs, rfl, htra, dtx⟩ := trips_inv d2
  have gv : G.vars.length ≤ 1000 := by have := gi.v; omega
  have gt : G.tabs.length ≤ 1000 := by
    have : (G.tabs.map (·.1)).length ≤ 2 := by rcases ok.tabs with e | e | e <;> rw [e] <;> decide
    rw [List.length_map] at this
    omega
  refine ⟨_, rfl, a, _, 3, _, rfl, rfl, ha, atI_nat (j := 3) rfl, pa, ps, 0, _, rfl, rfl, hpa, atI_nat (j := 0) epv, ?_⟩
  refine ⟨_, rfl, .inl ⟨_, rfl, _, _, rfl, rfl, wide_div (b := 64) (by decide) (by decide) (by decide) (by decide), _, rfl, pra, _, 3, _, rfl, rfl, hpra, atI_nat (j := 3) rfl, _, rfl, a, _, 0, _, rfl, rfl, ha, atI_nat (j := 0) rfl, vra, rfl, ⟨_, hvra⟩, fun vl hvl => ?_⟩⟩
  refine lc_tup (K := K) (a := vra) (xs := vxs) (fun i H' => Same H H' ∧ H' vl = some (.lst (((G.vars.map (·.1)).take i).map V.str))) ⟨same_new hvl _, upd_same⟩ (fun i H' _ h => sqT_mono ((Same.refl H).trans h.1) hvra) ?_ ?_
  · rintro i x H' hx ⟨ms, e0⟩
    obtain ⟨t, b, et, rfl, hb⟩ := trip_at dvx hx
    refine ⟨rfl, _, rfl, b, _, 0, _, rfl, rfl, sqT_mono ((Same.refl H).trans ms) hb, atI_nat (j := 0) rfl, _, e0, names_len gv i, ?_, ?_⟩
    · intro z o' e'
      rw [upd_ne (ne_of_none e' hvl)]
      exact ms _ _ e'
    · rw [upd_same, names_next et]
  rintro H1 ⟨m1, eV⟩
  rw [names_all dvx] at eV
  refine ⟨_, rfl, a, _, 1, _, rfl, rfl, sqT_mono m1 ha, atI_nat (j := 1) rfl, tra, rfl, ⟨_, sqT_mono m1 htra⟩, fun tl htl => ?_⟩
  refine lc_tup (K := K) (a := tra) (xs := txs) (fun i H' => Same H1 H' ∧ H' tl = some (.lst (((G.tabs.map (·.1)).take i).map V.str))) ⟨same_new htl _, upd_same⟩ (fun i H' _ h => sqT_mono ((m1).trans h.1) htra) ?_ ?_
  · rintro i x H' hx ⟨ms, e0⟩
    obtain ⟨t, b, et, rfl, hb⟩ := trip_at dtx hx
    refine ⟨rfl, _, rfl, b, _, 0, _, rfl, rfl, sqT_mono ((m1).trans ms) hb, atI_nat (j := 0) rfl, _, e0, names_len gt i, ?_, ?_⟩
    · intro z o' e'
      rw [upd_ne (ne_of_none e' htl)]
      exact ms _ _ e'
    · rw [upd_same, names_next et]
  rintro H2 ⟨m2, eT⟩
  rw [names_all dtx] at eT
  have m12 := m1.trans m2
  refine ⟨_, la, vl, tl, G.sc p.locs [], rfl, ⟨sqT_mono m12 hla, SqL.of (m2 _ _ eV), SqL.of eT, nel⟩, fun tv te H3 m3 dt okt => ?_⟩
  have ft : exF 3 te := exF.ofOk (ScN.ofGa ok hpG) okt
  have m13 := m12.trans m3
  have hpra3 := sqT_mono m13 hpra
  have hla3 := sqT_mono m13 hla
  -- branch
  refine ⟨_, rfl, _, rfl, pra, _, 3, _, rfl, rfl, hpra3, atI_nat (j := 3) rfl, la, _, 1, _, rfl, rfl, hla3, atI_nat (j := 1) ay0, _, rfl, pra, _, 3, _, rfl, rfl, hpra3, atI_nat (j := 3) rfl, la, _, 0, _, rfl, rfl, hla3, atI_nat (j := 0) ax0, two, fun t1 h1 => ⟨three, fun t2 h2 => ⟨by show 1 ≤ sizeLine; decide, fun t3 h3 => ?_⟩⟩⟩
  have n1 := same_new h1 (.tup [V.str "local", .str x0])
  have n2 := same_new h2 (.tup [V.str "let", .str y0, .ref t1])
  have n3 := same_new h3 (.tup [V.ref t2])
  have m4 := m13.trans (n1.trans (n2.trans n3))
  refine ⟨_, rfl, pra, _, 4, _, rfl, rfl, sqT_mono m4 hpra, atI_nat (j := 4) rfl, _, rfl, ba, bs, rfl, sqT_mono m4 hba, fun c1 H4 n4 hc1 => ⟨by show 4 ≤ sizeLine; decide, fun t4 h4 => ?_⟩⟩
  rw [show (1 : Int) = ((1 : Nat) : Int) from rfl, cut_take] at hc1
  have n5 := same_new h4 (.tup [V.str "if", tv, .ref t3, .ref c1])
  have m5 := m4.trans (n4.trans n5)
  have D1 : Dp K _ (.ref t1) (Ex.loc x0).d := dp_tup (ds := [.str "local", .str x0]) h1 (.cons (.str _) (.cons (.str _) .nil))
  have D2 : Dp K _ (.ref t2) (Stm.lt y0 (.loc x0)).d := dp_tup (ds := [.str "let", .str y0, (Ex.loc x0).d]) h2 (.cons (.str _) (.cons (.str _) (.cons D1 .nil)))
  have D3 : Dp K _ (.ref t3) (Blk.cons (.lt y0 (.loc x0)) .nil).d := dp_tup (ds := [(Stm.lt y0 (.loc x0)).d]) h3 (.cons D2 .nil)
  have C1 : Dp K H4 (.ref c1) (Blk.of (p.block.l.take 1)).d := by
    refine .tup hc1 ?_
    rw [Blk.ds_of, List.map_take]
    exact DpAll.take 1 (dp_monoAll (m4.trans n4) _ _ dbs)
  have D4 : Dp K _ (.ref t4) (Stm.ite te (.cons (.lt y0 (.loc x0)) .nil) (Blk.of (p.block.l.take 1))).d := dp_tup (ds := [.str "if", te.d, (Blk.cons (.lt y0 (.loc x0)) .nil).d, (Blk.of (p.block.l.take 1)).d]) h4 (.cons (.str _) (.cons (dp_mono (n1.trans (n2.trans (n3.trans n4))) _ _ dt) (.cons (dp_mono n4 _ _ D3) (.cons C1 .nil))))
  -- pair
  have hpra5 := sqT_mono m5 hpra
  have hla5 := sqT_mono m5 hla
  refine ⟨_, rfl, pra, _, 3, _, rfl, rfl, hpra5, atI_nat (j := 3) rfl, _, rfl, .inl ⟨_, rfl, _, rfl, pra, _, 3, _, rfl, rfl, hpra5, atI_nat (j := 3) rfl, la, _, rfl, .inr hla5, _, _, rfl, rfl, lenl, la, _, _, _, rfl, rfl, hla5, el, _, rfl, .inl ⟨_, rfl, _, _, rfl, rfl, wide_div (b := 64) (by decide) (by decide) (by decide) (by decide), _, _, rfl, rfl, (by show (0 : Int) < 3; decide), _, _, rfl, rfl, three, fun t5 h5 => ⟨_, rfl, two, fun t6 h6 => ?_⟩⟩⟩⟩
  dsimp only at h6 ⊢
  have hc : 2 ≤ 2 + cell / 3 % 3 ∧ 2 + cell / 3 % 3 ≤ 4 := by omega
  revert hc h5 h6
  generalize 2 + cell / 3 % 3 = cn
  intro h5 h6 hc
  have n6 := same_new h5 (.tup [V.str "draw", .str l, .int cn])
  have n7 := same_new h6 (.tup [V.ref t5, .ref t4])
  have D5 : Dp K _ (.ref t5) (Stm.draw l cn).d := dp_tup (ds := [.str "draw", .str l, .int cn]) h5 (.cons (.str _) (.cons (.str _) (.cons (.int _) .nil)))
  have E5 := dp_mono n7 _ _ D5
  have E4 := dp_mono (n6.trans n7) _ _ D4
  have E6 := SqT.of (K := K) (upd_same (H := upd (upd H4 t4 (.tup [V.str "if", tv, .ref t3, .ref c1])) t5 (.tup [V.str "draw", .str l, .int cn])) (a := t6) (o := .tup [V.ref t5, .ref t4]))
  have m7 := m5.trans (n6.trans n7)
  revert E4 E5 E6 m7
  generalize upd (upd (upd H4 t4 (.tup [V.str "if", tv, .ref t3, .ref c1])) t5 (.tup [V.str "draw", .str l, .int cn])) t6 (.tup [V.ref t5, .ref t4]) = H5
  intro E5 E4 E6 m7
  clear D1 D2 D3 D4 D5 n1 n2 n3 n4 n5 n6 n7 h1 h2 h3 h4 h5 h6
  -- names
  refine ⟨_, rfl, pra, _, 3, _, rfl, rfl, sqT_mono m7 hpra, atI_nat (j := 3) rfl, ?_⟩
  refine gn ?_
  dsimp only
  refine seq_k (fun σ H' => ∃ (nl : Addr) (hs : List Str), σ = [some (.ref a), some (.int cell), some (.ref pra), some tv, none, some (.ref t4), some (.ref t6), some (.ref nl)] ∧ Same H5 H' ∧ SqT K H' nl ((p.locs ++ hs).map V.str) ∧ (∀ z ∈ hs, z ∈ hs6)) ?_ (fun k => ?_)
  rotate_left
  · refine ⟨_, rfl, .inl ⟨_, rfl, _, _, rfl, rfl, (by show (0 : Int) < 2; decide), rfl, _, rfl, ite2 (fun _ => ?_) (fun _ => k _ _ ⟨la, [], rfl, Same.refl _, by rw [List.append_nil]; exact sqT_mono m7 hla, fun z hz => nomatch hz⟩)⟩⟩
    refine ⟨_, rfl, by show 6 ≤ sizeLine; decide, fun t7 h7 => ⟨_, rfl, .inl ⟨_, rfl, _, _, rfl, rfl, wide_div (b := 64) (by decide) (by decide) (by decide) (by decide), _, _, rfl, rfl, (by show (0 : Int) < 7; decide), _, rfl, t7, _, rfl, SqT.of upd_same, fun c2 H6 k1 hc2 => ?_⟩⟩⟩
    have h0 := Int.emod_nonneg (cell / 2) (by decide : (7 : Int) ≠ 0)
    obtain ⟨kk, ekk⟩ := Int.eq_ofNat_of_zero_le h0
    rw [ekk, show ([V.str "h1", .str "h2", .str "h3", .str "h4", .str "h5", .str "h6"] : List V) = hs6.map V.str from rfl, cut_take, ← List.map_take] at hc2
    have k0 := (same_new h7 (.tup [V.str "h1", .str "h2", .str "h3", .str "h4", .str "h5", .str "h6"])).trans k1
    refine ⟨la, c2, _, _, rfl, rfl, sqT_mono (m7.trans k0) hla, hc2, big _ ?_, fun nl H7 k2 hnl => ?_⟩
    · simp only [List.length_map]
      have := List.length_take_le' kk hs6
      have : hs6.length = 6 := rfl
      omega
    · exact k _ _ ⟨nl, hs6.take kk, rfl, k0.trans k2, by rw [List.map_append]; exact hnl, fun z hz => List.mem_of_mem_take hz⟩
  rintro σ H6 ⟨nl, hs, rfl, k6, hnl, hhs⟩
  have m8 := m7.trans k6
  refine ⟨_, rfl, _, rfl, pra, _, 0, _, rfl, rfl, sqT_mono m8 hpra, atI_nat (j := 0) rfl, ?_⟩
  refine ⟨_, rfl, pra, _, 4, _, rfl, rfl, sqT_mono m8 hpra, atI_nat (j := 4) rfl, _, rfl, ba, bs, rfl, sqT_mono m8 hba, fun b1 J1 k7 hb1 => ?_⟩
  rw [show (2 : Int) = ((2 : Nat) : Int) from rfl, cut_take] at hb1
  refine ⟨_, rfl, b1, t6, _, _, rfl, rfl, hb1, sqT_mono (k6.trans k7) E6, big _ ?_, fun b2 J2 k8 hb2 => ?_⟩
  · simp only [List.length_take, List.length_cons, List.length_nil]
    omega
  have m9 := m8.trans (k7.trans k8)
  refine ⟨_, rfl, pra, _, 4, _, rfl, rfl, sqT_mono m9 hpra, atI_nat (j := 4) rfl, _, rfl, ba, bs, rfl, sqT_mono m9 hba, fun b3 J3 k9 hb3 => ?_⟩
  rw [show (2 : Int) = ((2 : Nat) : Int) from rfl, cut_drop] at hb3
  refine ⟨b2, b3, _, _, rfl, rfl, sqT_mono k9 hb2, hb3, big _ ?_, fun bk J4 k10 hbk => ?_⟩
  · simp only [List.length_append, List.length_take, List.length_drop, List.length_cons, List.length_nil]
    omega
  have m10 := m9.trans (k9.trans k10)
  have k610 := k6.trans (k7.trans (k8.trans (k9.trans k10)))
  have dbs4 := dp_monoAll m10 _ _ dbs
  have dbk : Dp K J4 (.ref bk) (newB p.block 2 (.draw l cn) (.ite te (.cons (.lt y0 (.loc x0)) .nil) (Blk.of (p.block.l.take 1)))).d := by
    refine .tup hbk ?_
    rw [Blk.ds_l, newB_l, List.map_append, List.map_append, List.map_take, List.map_drop]
    exact DpAll.app (DpAll.app (DpAll.take 2 dbs4) (.cons (dp_mono k610 _ _ E5) (.cons (dp_mono k610 _ _ E4) .nil))) (DpAll.drop 2 dbs4)
  refine ⟨_, rfl, ?_⟩
  refine ⟨.ref a, .ref bk, .ref nl, p.name, G, _, _, rfl, dp_mono m10 _ _ dv0, dbk, .tup (sqT_mono (k7.trans (k8.trans (k9.trans k10))) hnl) (dp_strs _), gi.s.n, fun u J5 k11 du => ?_⟩
  exact q u _ J5 (m10.trans k11) du (readyF ok hpG hx0 hy0 hlm hc ft hhs)
end
end Toy
set_option Elab.async false
set_option linter.all false
set_option maxRecDepth 100000
set_option maxHeartbeats 8000000
namespace Toy
open PySem L2 NdefX Gm
open Mine hiding same_new
def spLaw (K : PySem.W.Frag) : Sp := fun vs H Q _ => ∃ (a : Addr) (ns : List Int), vs = [.ref a] ∧ SqL K H a (ns.map V.int) ∧ ns.length ≤ 63 ∧ ∀ H', Q (.bl true) H'
theorem pick_c7 {r : Int} : ∃ c : Int, atI [V.int 2, .int 1, .int 64, .int 65, .int 0, .int (-1), .int 3] (r % 7) = some (.int c) := by
  obtain ⟨x, hx, ex⟩ := pick_disp (vs := [V.int 2, .int 1, .int 64, .int 65, .int 0, .int (-1), .int 3]) (r := r) (n := 7) rfl (by decide)
  simp only [List.mem_cons, List.not_mem_nil, or_false] at hx
  rcases hx with rfl | rfl | rfl | rfl | rfl | rfl | rfl
  all_goals exact ⟨_, ex⟩
theorem pick_n5 {r : Int} : ∃ n : Str, atI [V.str "p", .str "p", .str "p", .str "r", .str "zz"] (r % 5) = some (.str n) := by
  obtain ⟨x, hx, e⟩ := pick_mem (xs := ["p", "p", "p", "r", "zz"]) (r := r) (by decide)
  exact ⟨x, e⟩
theorem pick_19 {r : Int} : ∃ l ∈ nm19, atI [V.str "n", .str "g", .str "x", .str "m0", .str "let", .str "abcdefghijkl", .str "abcdefghijklm", .str "N", .str "", .str "0n", .str "t", .str "o", .str "p", .str "r", .str "y", .str "aB", .str "a_b", .str "b", .str "h1"] (r % 19) = some (.str l) := by
  obtain ⟨x, hx, e⟩ := pick_mem (xs := nm19) (r := r) (by decide)
  exact ⟨x, hx, e⟩
section
variable {P : Program} {w : World} {K : PySem.W.Frag} {mg : Str → Option Value} {base : Heap} {file : Str}
theorem ok_law (hP : PrF P file) (T : Txt K mg file) (hR : ∃ es n, L2.KDict K w T.a_RULES es n) : FnOk P w K mg base CX0 60 T.a_law T.fd_law ["script"] (spLaw K) := by
  have G_law_cell : FnOk P w K mg base CX0 1 T.a_law_cell T.fd_law_cell ["script", "k"] (spCell K) := ok_cell T
  have G_law_game : FnOk P w K mg base CX0 5 T.a_law_game T.fd_law_game ["script", "at"] (spGame K) := ok_game T
  have G_law_made : FnOk P w K mg base CX0 3 T.a_law_made T.fd_law_made ["game"] (spMade K T.C_Game) := ok_made T
  have G_law_parts : FnOk P w K mg base CX0 1 T.a_law_parts T.fd_law_parts ["game"] (spParts K T.C_Game) := ok_parts T
  have G_law_tried : FnOk P w K mg base CX0 22 T.a_law_tried T.fd_law_tried ["made", "step", "due"] (spTried K T.C_Game) := ok_tried hP T hR
  have G_law_tossed : FnOk P w K mg base CX0 2 T.a_law_tossed T.fd_law_tossed ["game", "name", "at", "local", "count"] (spTossed K) := ok_tossed T
  have G_law_sunk : FnOk P w K mg base CX0 14 T.a_law_sunk T.fd_law_sunk ["game", "name", "at"] (spSunk K) := ok_sunk T
  have G_law_ready : FnOk P w K mg base CX0 3 T.a_law_ready T.fd_law_ready ["game", "cell"] (spReady K) := ok_ready T
  refine T.F_law.ok sc_law (fun vs H Q E h => ?_) (fun cdv A outer s H vs Q E hr h => ?_)
  · obtain ⟨a, ns, rfl, _⟩ := h
    rfl
  obtain ⟨sa, ns, rfl, hS, hn63, q⟩ := h
  refine ⟨_, (pss_cons (ps_set (i := 1) sc_law.nd rfl (Or.inl rfl) (pe_call G_law_game (hr.mono (by decide)) rfl T.g_law_game T.k_law_game T.b_law_game .nil pass0 (pa_cons (pv 0) (pa_cons pe_int pa_nil))))
    (pss_cons (ps_if (pt_cmpR op_eq (pe_op op_mod (pe_callTy call_int1 (by rfl) T.z_int (by decide +kernel) (pa_cons (pe_call G_law_cell (hr.mono (by decide)) rfl T.g_law_cell T.k_law_cell T.b_law_cell .nil pass0 (pa_cons (pv 0) (pa_cons pe_int pa_nil))) pa_nil)) pe_int) pe_int (nomark _))
      (pss_one (ps_set (i := 1) sc_law.nd rfl (Or.inl rfl) (pe_call G_law_ready (hr.mono (by decide)) rfl T.g_law_ready T.k_law_ready T.b_law_ready .nil pass0 (pa_cons (pv 1) (pa_cons (pe_op op_fdivW (pe_callB call_abs (by rfl) T.z_abs (by decide +kernel) (pa_cons (pe_call G_law_cell (hr.mono (by decide)) rfl T.g_law_cell T.k_law_cell T.b_law_cell .nil pass0 (pa_cons (pv 0) (pa_cons pe_int pa_nil))) pa_nil)) pe_int) pa_nil)))))
      pss_nil)
    (pss_cons (ps_set (i := 2) sc_law.nd rfl (Or.inl rfl) (pe_call G_law_made (hr.mono (by decide)) rfl T.g_law_made T.k_law_made T.b_law_made .nil pass0 (pa_cons (pv 1) pa_nil)))
    (pss_cons (ps_for PassesOwn.never rfl (pi_list (pe_slice sl_list (pv 0) (po_some pe_int) (po_some pe_int))) (pg_name (i := 3) sc_law.nd rfl (Or.inl rfl))
      (pss_cons (ps_set (i := 4) sc_law.nd rfl (Or.inl rfl) (pe_ix ix_tup (pe_tup (pa_cons pe_str (pa_cons pe_str (pa_cons pe_str (pa_cons pe_str (pa_cons pe_str pa_nil)))))) (pe_op op_mod (pe_callTy call_int1 (by rfl) T.z_int (by decide +kernel) (pa_cons (pv 3) pa_nil)) pe_int) (fun _ _ => rfl)))
    (pss_cons (ps_set (i := 5) sc_law.nd rfl (Or.inl rfl) (pe_op op_sub (pe_op op_mod (pe_op op_fdivW (pe_callTy call_int1 (by rfl) T.z_int (by decide +kernel) (pa_cons (pv 3) pa_nil)) pe_int) pe_int) pe_int))
    (pss_cons (ps_set (i := 6) sc_law.nd rfl (Or.inl rfl) (pe_tup (pa_cons pe_str (pa_cons pe_str (pa_cons pe_str (pa_cons pe_str (pa_cons pe_str (pa_cons pe_str (pa_cons pe_str (pa_cons pe_str (pa_cons pe_str (pa_cons pe_str (pa_cons pe_str (pa_cons pe_str (pa_cons pe_str (pa_cons pe_str (pa_cons pe_str (pa_cons pe_str (pa_cons pe_str (pa_cons pe_str (pa_cons pe_str pa_nil)))))))))))))))))))))
    (pss_cons (ps_set (i := 7) sc_law.nd rfl (Or.inl rfl) (pe_ix ix_tup (pv 6) (pe_op op_mod (pe_op op_fdivW (pe_callTy call_int1 (by rfl) T.z_int (by decide +kernel) (pa_cons (pv 3) pa_nil)) pe_int) pe_int) (fun _ _ => rfl)))
    (pss_cons (ps_set (i := 8) sc_law.nd rfl (Or.inl rfl) (pe_ix ix_tup (pe_tup (pa_cons pe_int (pa_cons pe_int (pa_cons pe_int (pa_cons pe_int (pa_cons pe_int (pa_cons (pe_un un_neg pe_int) (pa_cons pe_int pa_nil)))))))) (pe_op op_mod (pe_op op_fdivW (pe_callTy call_int1 (by rfl) T.z_int (by decide +kernel) (pa_cons (pv 3) pa_nil)) pe_int) pe_int) (fun _ _ => rfl)))
    (pss_cons (ps_if (pt_not (pt_val (pe_call G_law_tried (hr.mono (by decide)) rfl T.g_law_tried T.k_law_tried T.b_law_tried .nil pass0 (pa_cons (pv 2) (pa_cons (pe_tup (pa_cons pe_str (pa_cons (pv 4) (pa_cons (pv 5) (pa_cons (pv 7) (pa_cons (pv 8) pa_nil)))))) (pa_cons (pe_call G_law_tossed (hr.mono (by decide)) rfl T.g_law_tossed T.k_law_tossed T.b_law_tossed .nil pass0 (pa_cons (pv 1) (pa_cons (pv 4) (pa_cons (pv 5) (pa_cons (pv 7) (pa_cons (pv 8) pa_nil)))))) pa_nil))))))
      (pss_one (ps_ret pe_bl))
      pss_nil)
    (pss_one (ps_if (pt_not (pt_val (pe_call G_law_tried (hr.mono (by decide)) rfl T.g_law_tried T.k_law_tried T.b_law_tried .nil pass0 (pa_cons (pv 2) (pa_cons (pe_tup (pa_cons pe_str (pa_cons (pv 4) (pa_cons (pv 5) pa_nil)))) (pa_cons (pe_call G_law_sunk (hr.mono (by decide)) rfl T.g_law_sunk T.k_law_sunk T.b_law_sunk .nil pass0 (pa_cons (pv 1) (pa_cons (pv 4) (pa_cons (pv 5) pa_nil)))) pa_nil))))))
      (pss_one (ps_ret pe_bl))
      pss_nil)))))))))
    (pss_one (ps_ret (pe_cmpR (op_eqD hr.units) (pe_call G_law_parts (hr.mono (by decide)) rfl T.g_law_parts T.k_law_parts T.b_law_parts .nil pass0 (pa_cons (pv 2) pa_nil)) (pv 1) (nomark _)))))))), ?_⟩
  refine ⟨_, rfl, sa, ns, 0, rfl, hS, by decide, fun gv0 G0 H1 m1 dG0 okG => ?_⟩
  refine gn ?_
  dsimp only
  refine seq_k (fun σ H' => ∃ (gv : V) (G : Ga), σ = [some (.ref sa), some gv, none, none, none, none, none, none, none] ∧ Same H1 H' ∧ Dp K H' gv G.d ∧ GI G) ?_ (fun k => ?_)
  rotate_left
  · refine ⟨_, rfl, sa, ns, 4, rfl, m1.seq hS, by decide, .inl ⟨_, rfl, _, _, rfl, rfl, (by show (0 : Int) < 2; decide), rfl, _, rfl, ite2 (fun _ => ?_) (fun _ => k _ _ ⟨gv0, G0, rfl, Same.refl _, dG0, .ofOk okG⟩)⟩⟩
    refine ⟨_, rfl, _, rfl, sa, ns, 4, rfl, m1.seq hS, by decide, _, rfl, _, _, rfl, rfl, wide_div (b := 64) (by decide) (by decide) (by decide) (by decide), gv0, G0, _, rfl, dG0, okG, fun u G' H2 m2 du gi => k _ _ ⟨u, G', rfl, m2, du, gi⟩⟩
  rintro σ H2 ⟨gv, G, rfl, m2, dG, gi⟩
  have m12 := m1.trans m2
  refine ⟨_, rfl, gv, G, rfl, dG, fun mg_ H3 m3 gmd => ?_⟩
  have m13 := m12.trans m3
  refine ⟨_, rfl, _, rfl, _, rfl, sa, _, rfl, m13.seq hS, fun L hL => ?_⟩
  rw [show (5 : Int) = ((5 : Nat) : Int) from rfl, show (15 : Int) = ((15 : Nat) : Int) from rfl, cut_some, ← List.map_take, ← List.map_drop]
  have n0 := same_new hL (.lst (((ns.take 15).drop 5).map V.int))
  refine ⟨L, rfl, ⟨_, SqL.of upd_same⟩, ?_⟩
  have eL0 : (upd H3 L (.lst (((ns.take 15).drop 5).map V.int))) L = some (.lst (((ns.take 15).drop 5).map V.int)) := upd_same
  revert n0 eL0
  generalize upd H3 L (.lst (((ns.take 15).drop 5).map V.int)) = H4
  intro n0 eL0
  have gmd4 := gmd.same n0
  have dG4 := dp_mono (m3.trans n0) _ _ dG
  refine for_list (K := K) (a := L) (xs := ((ns.take 15).drop 5).map V.int) (fun i σ H' => ∃ y3 y4 y5 y6 y7 y8 : Option V, σ = [some (.ref sa), some gv, some (.ref mg_), y3, y4, y5, y6, y7, y8] ∧ Same H4 H') ?_ (fun i σ H' _ ⟨_, _, _, _, _, _, _, h⟩ => SqL.of (h _ _ eL0)) ?_ ?_
  · exact ⟨_, _, _, _, _, _, rfl, Same.refl _⟩
  · rintro i x σ H5 hx ⟨y3, y4, y5, y6, y7, y8, rfl, m5⟩
    rw [List.getElem?_map] at hx
    obtain ⟨cell, _, rfl⟩ := Option.map_eq_some_iff.mp hx
    obtain ⟨n, en⟩ := pick_n5 (r := cell)
    obtain ⟨l, hl, el⟩ := pick_19 (r := cell / 40)
    obtain ⟨c, ec⟩ := pick_c7 (r := cell / 760)
    refine ⟨by show 5 ≤ sizeLine; decide, fun t1 h1 => ⟨_, rfl, .inl ⟨_, rfl, _, _, rfl, rfl, (by show (0 : Int) < 5; decide), t1, _, _, _, rfl, rfl, SqT.of upd_same, en, ?_⟩⟩⟩
    have n1 := same_new h1 (.tup [V.str "p", .str "p", .str "p", .str "r", .str "zz"])
    refine ⟨_, rfl, .inl ⟨_, rfl, _, _, rfl, rfl, wide_div (b := 64) (by decide) (by decide) (by decide) (by decide), _, _, rfl, rfl, (by show (0 : Int) < 8; decide), _, _, rfl, rfl, ?_⟩⟩
    refine ⟨by show 19 ≤ sizeLine; decide, fun t2 h2 => ?_⟩
    have n2 := same_new h2 (.tup (nm19.map V.str))
    refine ⟨_, rfl, _, rfl, .inl ⟨_, rfl, _, _, rfl, rfl, wide_div (b := 64) (by decide) (by decide) (by decide) (by decide), _, _, rfl, rfl, (by show (0 : Int) < 19; decide), t2, _, _, _, rfl, rfl, SqT.of upd_same, el, ?_⟩⟩
    refine ⟨_, rfl, by show 7 ≤ sizeLine; decide, fun t3 h3 => ⟨_, rfl, .inl ⟨_, rfl, _, _, rfl, rfl, wide_div (b := 64) (by decide) (by decide) (by decide) (by decide), _, _, rfl, rfl, (by show (0 : Int) < 7; decide), t3, _, _, _, rfl, rfl, SqT.of upd_same, ec, ?_⟩⟩⟩
    have n3 := same_new h3 (.tup [V.int 2, .int 1, .int 64, .int 65, .int 0, .int (-1), .int 3])
    have k1 := m5.trans (n1.trans (n2.trans n3))
    refine ⟨_, rfl, _, rfl, _, rfl, _, rfl, _, rfl, by show 5 ≤ sizeLine; decide, fun s1 g1 => ?_⟩
    have e1 := same_new g1 (.tup [V.str "toss", .str n, .int (cell / 5 % 8 - 1), .str l, .int c])
    refine ⟨_, rfl, _, rfl, _, rfl, _, rfl, _, rfl, gv, G, n, l, _, c, rfl, dp_mono (k1.trans e1) _ _ dG4, gi, hl, fun u J1 e2 due => ?_⟩
    have k2 := k1.trans (e1.trans e2)
    have ll : l.length ≤ 1000 := by have := nm_len (nm19_name l hl).2; omega
    refine ⟨mg_, .ref s1, u, G, "toss", [.str n, .int (cell / 5 % 8 - 1), .str l, .int c], rfl, gmd4.same k2, ⟨s1, rfl, sqT_mono e2 (SqT.of upd_same)⟩, .inl ⟨rfl, by have := gi.v; omega, _, _, _, _, rfl, ll⟩, gi.s, due, fun J2 e3 => ⟨true, rfl, iteF2 rfl ?_⟩⟩
    have k3 := k2.trans e3
    refine ⟨_, rfl, _, rfl, _, rfl, by show 3 ≤ sizeLine; decide, fun s2 g2 => ?_⟩
    have e4 := same_new g2 (.tup [V.str "sink", .str n, .int (cell / 5 % 8 - 1)])
    refine ⟨_, rfl, _, rfl, _, rfl, gv, G, n, _, rfl, dp_mono (k3.trans e4) _ _ dG4, gi, fun u2 J3 e5 due2 => ?_⟩
    have k4 := k3.trans (e4.trans e5)
    refine ⟨mg_, .ref s2, u2, G, "sink", [.str n, .int (cell / 5 % 8 - 1)], rfl, gmd4.same k4, ⟨s2, rfl, sqT_mono e5 (SqT.of upd_same)⟩, .inr ⟨rfl, _, _, rfl⟩, gi.s, due2, fun J4 e6 => ⟨true, rfl, iteF2 rfl ?_⟩⟩
    exact ⟨_, _, _, _, _, _, rfl, k4.trans e6⟩
  rintro σ H6 ⟨y3, y4, y5, y6, y7, y8, rfl, m6⟩
  refine ⟨_, rfl, mg_, G, rfl, gmd4.same m6, fun v' H7 m7 dv' => ?_⟩
  have f := gi.f.fit
  refine ⟨_, rfl, _, _, dv', dp_mono (m6.trans m7) _ _ dG4, f.shaped (by decide), f.shaped (by decide), ?_⟩
  rw [(eqv_iff f.1 f.1).mpr rfl]
  exact q _
end
end Toy
set_option Elab.async false
set_option linter.all false
set_option maxRecDepth 100000
set_option maxHeartbeats 4000000
/-! A head by one kernel run: what is looked at behind the top is a Bool over a part of the heap, the defs, the tables. -/
namespace HdF
open PySem PySem.Spec PyProof.Rows L2 He
abbrev Fr := PySem.W.Frag
/-! ### objects, written out: each piece is looked at, then handed on -/
section
variable {α : Type}
def wNat (n : Nat) (k : Nat → α) : α := HandSHeadRun.frNat n k
theorem wNat_eq (n : Nat) (k : Nat → α) : wNat n k = k n := HandSHeadRun.frNat_eq n k
def wList {β : Type} (f : β → (β → α) → α) : List β → (List β → α) → α
  | [], k => k []
  | x :: r, k => f x fun x => wList f r fun r => k (x :: r)
theorem wList_eq {β : Type} {f : β → (β → α) → α} (hf : ∀ x k, f x k = k x) : ∀ (l : List β) (k : List β → α), wList f l k = k l
  | [], _ => rfl
  | x :: r, k => by
    show f x (fun x => wList f r fun r => k (x :: r)) = _
    rw [hf, wList_eq hf r]
def wV (v : Value) (k : Value → α) : α := match v with
  | .none => k .none
  | .ellipsis => k .ellipsis
  | .notImplemented => k .notImplemented
  | .bool b => (match b with
    | true => k (.bool true)
    | false => k (.bool false))
  | .int i t => (match i with
    | .ofNat n => wNat n fun n => k (.int (.ofNat n) t)
    | .negSucc n => wNat n fun n => k (.int (.negSucc n) t))
  | .float b t => k (.float b t)
  | .str s t => (match s with
    | ⟨⟨l⟩⟩ => wList wNat l fun l => k (.str ⟨⟨l⟩⟩ t))
  | .bytes b t => k (.bytes b t)
  | .type n => k (.type n)
  | .builtin n => k (.builtin n)
  | .ref a => wNat a fun a => k (.ref a)
theorem wV_eq (v : Value) (k : Value → α) : wV v k = k v := by
  cases v with
  | bool b => cases b <;> rfl
  | int i t =>
    cases i with
    | ofNat n => exact wNat_eq n fun n => k (.int (.ofNat n) t)
    | negSucc n => exact wNat_eq n fun n => k (.int (.negSucc n) t)
  | str s t =>
    obtain ⟨⟨l⟩⟩ := s
    exact wList_eq wNat_eq l fun l => k (.str ⟨⟨l⟩⟩ t)
  | ref a => exact wNat_eq a fun a => k (.ref a)
  | _ => rfl
def wE (e : DictEntry) (k : DictEntry → α) : α := match e with
  | ⟨h, x, v⟩ => wV x fun x => wV v fun v => k ⟨h, x, v⟩
theorem wE_eq (e : DictEntry) (k : DictEntry → α) : wE e k = k e := by
  obtain ⟨h, x, v⟩ := e
  show wV x (fun x => wV v fun v => k ⟨h, x, v⟩) = _
  rw [wV_eq, wV_eq]
def wO {β : Type} (f : β → (β → α) → α) (o : Option β) (k : Option β → α) : α := match o with
  | some x => f x fun x => k (some x)
  | none => k none
theorem wO_eq {β : Type} {f : β → (β → α) → α} (hf : ∀ x k, f x k = k x) (o : Option β) (k : Option β → α) : wO f o k = k o := by
  cases o with
  | none => rfl
  | some x => exact hf x fun x => k (some x)
def wC (p : Str × Addr) (k : Str × Addr → α) : α := match p with
  | (x, a) => wNat a fun a => k (x, a)
theorem wC_eq (p : Str × Addr) (k : Str × Addr → α) : wC p k = k p := by
  obtain ⟨x, a⟩ := p
  exact wNat_eq a fun a => k (x, a)
def wA {β : Type} (f : β → (β → α) → α) (o : Array β) (k : Array β → α) : α := match o with
  | ⟨l⟩ => wList f l fun l => k ⟨l⟩
theorem wA_eq {β : Type} {f : β → (β → α) → α} (hf : ∀ x k, f x k = k x) (o : Array β) (k : Array β → α) : wA f o k = k o := by
  obtain ⟨l⟩ := o
  exact wList_eq hf l fun l => k ⟨l⟩
def wF (f : FuncData) (k : FuncData → α) : α := match f with
  | ⟨n1, n2, n3, n4, n5, n6, n7, n8, n9, n10, n11, n12, n13, n14, n15⟩ => wNat n6 fun n6 => wList wC n7 fun n7 => wV n8 fun n8 => wV n13 fun n13 => wNat n15 fun n15 => k ⟨n1, n2, n3, n4, n5, n6, n7, n8, n9, n10, n11, n12, n13, n14, n15⟩
theorem wF_eq (f : FuncData) (k : FuncData → α) : wF f k = k f := by
  obtain ⟨n1, n2, n3, n4, n5, n6, n7, n8, n9, n10, n11, n12, n13, n14, n15⟩ := f
  unfold wF
  dsimp only
  rw [wNat_eq, wList_eq wC_eq, wV_eq, wV_eq, wNat_eq]
def wK (c : ClassData) (k : ClassData → α) : α := match c with
  | ⟨n1, n2, n3, n4, n5, n6, n7, n8, n9, n10, n11⟩ => wList wV n3 fun n3 => wNat n4 fun n4 => k ⟨n1, n2, n3, n4, n5, n6, n7, n8, n9, n10, n11⟩
theorem wK_eq (c : ClassData) (k : ClassData → α) : wK c k = k c := by
  obtain ⟨n1, n2, n3, n4, n5, n6, n7, n8, n9, n10, n11⟩ := c
  unfold wK
  dsimp only
  rw [wList_eq wV_eq, wNat_eq]
def wD (d : Data) (k : Data → α) : α := match d with
  | .plain => k .plain
  | .prim v => wV v fun v => k (.prim v)
  | .seq its n => wA wV its fun its => k (.seq its n)
  | .dict es n => wA wE es fun es => k (.dict es n)
  | .set es n t => k (.set es n t)
  | .bytearray b n => k (.bytearray b n)
  | .cell v => wO wV v fun v => k (.cell v)
  | .func f => wF f fun f => k (.func f)
  | .cls c => wK c fun c => k (.cls c)
  | .fields vs => wA wV vs fun vs => k (.fields vs)
  | .freed => k .freed
theorem wD_eq (d : Data) (k : Data → α) : wD d k = k d := by
  cases d with
  | prim v => exact wV_eq v fun v => k (.prim v)
  | seq its n => exact wA_eq wV_eq its fun its => k (.seq its n)
  | dict es n => exact wA_eq wE_eq es fun es => k (.dict es n)
  | cell v => exact wO_eq wV_eq v fun v => k (.cell v)
  | func f => exact wF_eq f fun f => k (.func f)
  | cls c => exact wK_eq c fun c => k (.cls c)
  | fields vs => exact wA_eq wV_eq vs fun vs => k (.fields vs)
  | _ => rfl
def wObj (o : Obj) (k : Obj → α) : α := match o with
  | ⟨c, d, dt, sl⟩ => wV c fun c => wO wNat d fun d => wD dt fun dt => wA (wO wV) sl fun sl => k ⟨c, d, dt, sl⟩
theorem wObj_eq (o : Obj) (k : Obj → α) : wObj o k = k o := by
  obtain ⟨c, d, dt, sl⟩ := o
  unfold wObj
  dsimp only
  rw [wV_eq, wO_eq wNat_eq, wD_eq, wA_eq (wO_eq wV_eq)]
end
/-! ### the part of the heap -/
def refsF (o : Obj) : List Addr := match o.data with
  | .seq its _ => its.toList.flatMap refV
  | .dict es _ => es.toList.flatMap fun e => refV e.val
  | .func fd => refV fd.code ++ (refV fd.defaults ++ fd.closure.map (·.2))
  | .cls cd => cd.ns :: cd.mro.flatMap refV
  | _ => []
def hasA (a : Addr) : Fr → Bool
  | [] => false
  | (b, _) :: r => match Nat.beq b a with
    | true => true
    | false => hasA a r
section
variable {α : Type} (g : Addr → Option Obj)
def addC : List Addr → Fr → List Addr → (Fr → List Addr → α) → α
  | [], K, fr, k => k K fr
  | a :: r, K, fr, k => wNat a fun a => match hasA a K with
    | true => addC r K fr k
    | false => match g a with
      | some o => wObj o fun o => wList wNat (refsF o) fun rs => addC r ((a, o) :: K) (rs ++ fr) k
      | none => addC r K fr k
def levC : Nat → List Addr → Fr → (Fr → α) → α
  | 0, _, K, k => k K
  | n + 1, fr, K, k => addC g fr K [] fun K fr => levC n fr K k
def revC : Fr → Fr → (Fr → α) → α
  | [], acc, k => k acc
  | p :: r, acc, k => revC r (p :: acc) k
/-- what the module's names reach in n steps, and cStatics -/
def topC (n : Nat) (k : Fr → α) : α := levC g n [mainGlobals] [] fun K => addC g [cStatics] K [] fun K _ => revC K [] k
end
def Good (g : Addr → Option Obj) (K : Fr) : Prop := ∀ p ∈ K, g p.1 = some p.2
section
variable {g : Addr → Option Obj}
theorem addC_ok : ∀ (l : List Addr) (K : Fr) (fr : List Addr), ∃ K' fr', (Good g K → Good g K') ∧ ∀ (α : Type) (k : Fr → List Addr → α), addC g l K fr k = k K' fr'
  | [], K, fr => ⟨K, fr, id, fun _ _ => rfl⟩
  | a :: r, K, fr => by
    have e : ∀ (α : Type) (k : Fr → List Addr → α), addC g (a :: r) K fr k = match hasA a K with
      | true => addC g r K fr k
      | false => match g a with
        | some o => addC g r ((a, o) :: K) (refsF o ++ fr) k
        | none => addC g r K fr k := fun α k => by
      show wNat a _ = _
      rw [wNat_eq]
      cases hasA a K with
      | true => rfl
      | false =>
        cases g a with
        | none => rfl
        | some o =>
          show wObj o _ = _
          rw [wObj_eq, wList_eq wNat_eq]
    cases h1 : hasA a K with
    | true =>
      obtain ⟨K', fr', h, q⟩ := addC_ok r K fr
      exact ⟨K', fr', h, fun α k => by rw [e, h1]; exact q α k⟩
    | false =>
      cases h2 : g a with
      | none =>
        obtain ⟨K', fr', h, q⟩ := addC_ok r K fr
        exact ⟨K', fr', h, fun α k => by rw [e, h1, h2]; exact q α k⟩
      | some o =>
        obtain ⟨K', fr', h, q⟩ := addC_ok r ((a, o) :: K) (refsF o ++ fr)
        refine ⟨K', fr', fun z => h fun p hp => ?_, fun α k => by rw [e, h1, h2]; exact q α k⟩
        rcases List.mem_cons.mp hp with rfl | hp
        · exact h2
        · exact z p hp
theorem levC_ok : ∀ (n : Nat) (fr : List Addr) (K : Fr), ∃ K', (Good g K → Good g K') ∧ ∀ (α : Type) (k : Fr → α), levC g n fr K k = k K'
  | 0, fr, K => ⟨K, id, fun _ _ => rfl⟩
  | n + 1, fr, K => by
    obtain ⟨K1, fr1, h1, q1⟩ := addC_ok (g := g) fr K []
    obtain ⟨K2, h2, q2⟩ := levC_ok n fr1 K1
    exact ⟨K2, fun z => h2 (h1 z), fun α k => (q1 α _).trans (q2 α k)⟩
theorem revC_ok : ∀ (K acc : Fr), ∃ K', (Good g K → Good g acc → Good g K') ∧ ∀ (α : Type) (k : Fr → α), revC K acc k = k K'
  | [], acc => ⟨acc, fun _ z => z, fun _ _ => rfl⟩
  | p :: r, acc => by
    obtain ⟨K', h, q⟩ := revC_ok r (p :: acc)
    refine ⟨K', fun z1 z2 => h (fun x hx => z1 x (List.mem_cons_of_mem _ hx)) fun x hx => ?_, fun α k => q α k⟩
    rcases List.mem_cons.mp hx with rfl | hx
    · exact z1 _ (List.mem_cons_self ..)
    · exact z2 x hx
theorem topC_ok (n : Nat) : ∃ K, Good g K ∧ ∀ (α : Type) (k : Fr → α), topC g n k = k K := by
  obtain ⟨K1, h1, q1⟩ := levC_ok (g := g) n [mainGlobals] []
  obtain ⟨K2, fr2, h2, q2⟩ := addC_ok (g := g) [cStatics] K1 []
  obtain ⟨K3, h3, q3⟩ := revC_ok (g := g) K2 []
  exact ⟨K3, h3 (h2 (h1 fun p hp => nomatch hp)) fun p hp => (nomatch hp), fun α k => (q1 α _).trans ((q2 α _).trans (q3 α k))⟩
end
theorem lookup_mem' {a : Addr} {o : Obj} : ∀ {l : List (Addr × Obj)}, l.lookup a = some o → (a, o) ∈ l
  | [], h => by cases h
  | (b, u) :: r, h => by
    have h2 : (match a == b with | true => some u | false => r.lookup a) = some o := h
    cases q : (a == b) with
    | true =>
      rw [q] at h2
      have e : u = o := Option.some.inj h2
      rw [beq_iff_eq.mp q, e]
      exact List.mem_cons_self ..
    | false =>
      rw [q] at h2
      exact List.mem_cons_of_mem _ (lookup_mem' h2)
theorem good_in {h : Heap} {K : Fr} (z : Good h.get? K) : K.In h := fun a o e => z (a, o) (lookup_mem' e)
/-! ### defs -/
/-- a def: where it stands, names, parameters, body, scope, defaults, the class that its cell __class__ holds -/
structure DefF where
  at_ : Str × Option Str
  name : Str
  qual : Str
  params : Arguments
  body : List Stmt
  scope : Scope
  dfl : List Dv := []
  own : Option Str := none
abbrev FnV : Type := Option (Str × Str × Arguments × FuncBody × Scope × Addr × List Str × Addr)
def fnV (K : Fr) (p : Str × Option Str) : FnV := match K.lookup (fAd K p) with
  | some ⟨_, _, .func fd, _⟩ => some (fd.name, fd.qualname, fd.params, fd.body, fd.scope, fd.globals, fd.closure.map (·.1), fd.builtins)
  | _ => none
def DefF.clo (d : DefF) : List Str := match d.own with
  | none => []
  | some _ => ["__class__"]
def DefF.val (d : DefF) : FnV := some (d.name, d.qual, d.params, .stmts d.body, d.scope, mainGlobals, d.clo, builtinsNs)
def cellB (K : Fr) (file : Str) (C : Str) (fd : FuncData) : Bool := match fd.closure, fd.code with
  | [(_, cc)], .ref cd => (match K.lookup cc with
    | some ⟨_, _, .cell (some (.ref c)), _⟩ => decide (c = ga K C)
    | _ => false) && (match K.lookup cd with
    | some ⟨_, _, .fields vs, _⟩ => (match (vs[2]? : Option Value) with
      | some (.str s _) => decide (s = file)
      | _ => false)
    | _ => false)
  | _, _ => false
def DefF.ok (file : Str) (K : Fr) (d : DefF) : Bool := PySem.W.keepIn K (.ref (fAd K d.at_)) && (match K.lookup (fAd K d.at_) with
  | some ⟨_, _, .func fd, _⟩ => PySem.W.codeIn K fd.code d.qual && (dflB K fd.defaults (d.dfl.map (Dv.v K)) && (match d.own with
    | none => true
    | some C => cellB K file C fd))
  | _ => false)
theorem DefF.out {file : Str} {K : Fr} {d : DefF} (e : fnV K d.at_ = d.val) (c : d.ok file K = true) :
    ∃ oc od dV kV doc pm an cdv ct clo osl, K.lookup (fAd K d.at_) = some ⟨oc, od, .func (PySem.W.fnX d.name d.qual d.params d.body d.scope clo dV kV doc pm an cdv ct), osl⟩ ∧ clo.map (·.1) = d.clo ∧
      PySem.W.codeIn K cdv d.qual = true ∧ dflB K dV (d.dfl.map (Dv.v K)) = true ∧ (match d.own with
        | none => true
        | some C => cellB K file C (PySem.W.fnX d.name d.qual d.params d.body d.scope clo dV kV doc pm an cdv ct)) = true ∧ PySem.W.keepIn K (.ref (fAd K d.at_)) = true := by
  obtain ⟨kp, c2⟩ := ba c
  unfold fnV at e
  cases q : K.lookup (fAd K d.at_) with
  | none =>
    rw [q] at c2
    cases c2
  | some o =>
    obtain ⟨oc, od, dt, osl⟩ := o
    rw [q] at c2 e
    cases dt with
    | func fd =>
      obtain ⟨n1, n2, n3, n4, n5, n6, n7, n8, n9, n10, n11, n12, n13, n14, n15⟩ := fd
      have e2 : (some (n1, n2, n3, n4, n5, n6, n7.map (·.1), n15) : FnV) = some (d.name, d.qual, d.params, .stmts d.body, d.scope, mainGlobals, d.clo, builtinsNs) := e
      simp only [Option.some.injEq, Prod.mk.injEq] at e2
      obtain ⟨h1, h2, h3, h4, h5, h6, h7, h8⟩ := e2
      subst h1 h2 h3 h4 h5 h6 h8
      obtain ⟨k1, k2⟩ := ba c2
      obtain ⟨k3, k4⟩ := ba k2
      exact ⟨oc, od, n8, n9, n10, n11, n12, n13, n14, n7, osl, rfl, h7, k1, k3, k4, kp⟩
    | _ => cases c2
theorem dfl_nil {K : Fr} {dV : Value} (h : dflB K dV [] = true) : dV = .none := by
  cases dV with
  | none => rfl
  | _ => cases h
theorem dfl_cons {K : Fr} {dV : Value} {v : V} {vs : List V} (h : dflB K dV (v :: vs) = true) : ∃ T dc dd l n dsl, dV = .ref T ∧ K.lookup T = some ⟨dc, dd, .seq (List.toArray l) n, dsl⟩ ∧ Vals (v :: vs) l := by
  cases dV with
  | ref T =>
    have h1 : (match K.lookup T with
      | some ⟨_, _, .seq its _, _⟩ => relAll (v :: vs) its.toList
      | _ => false) = true := h
    cases q : K.lookup T with
    | none =>
      rw [q] at h1
      cases h1
    | some o =>
      obtain ⟨oc, od, dt, osl⟩ := o
      rw [q] at h1
      cases dt with
      | seq its n => exact ⟨T, oc, od, its.toList, n, osl, rfl, q.trans (by rw [Array.toArray_toList]), relAll_ok h1⟩
      | _ => cases h1
  | _ => cases h
theorem vals_cons {v : V} {vs : List V} {l : List Value} (h : Vals (v :: vs) l) : ∃ u r, l = u :: r ∧ RelV v u ∧ Vals vs r := by
  cases h with
  | cons a b => exact ⟨_, _, rfl, a, b⟩
theorem vals_nil {l : List Value} (h : Vals [] l) : l = [] := by
  cases h
  rfl
theorem vals_str {x : Str} {vs : List V} {l : List Value} (h : Vals (.str x :: vs) l) : ∃ t r, l = .str x t :: r ∧ Vals vs r := by
  obtain ⟨u, r, rfl, ⟨t, rfl⟩, z⟩ := vals_cons h
  exact ⟨t, r, rfl, z⟩
theorem vals_int {x : Int} {vs : List V} {l : List Value} (h : Vals (.int x :: vs) l) : ∃ t r, l = .int x t :: r ∧ Vals vs r := by
  obtain ⟨u, r, rfl, ⟨t, rfl⟩, z⟩ := vals_cons h
  exact ⟨t, r, rfl, z⟩
theorem vals_ref {x : Addr} {vs : List V} {l : List Value} (h : Vals (.ref x :: vs) l) : ∃ r, l = .ref x :: r ∧ Vals vs r := by
  obtain ⟨u, r, rfl, e, z⟩ := vals_cons h
  cases e
  exact ⟨r, rfl, z⟩
theorem vals_bl {x : Bool} {vs : List V} {l : List Value} (h : Vals (.bl x :: vs) l) : ∃ r, l = .bool x :: r ∧ Vals vs r := by
  obtain ⟨u, r, rfl, e, z⟩ := vals_cons h
  cases e
  exact ⟨r, rfl, z⟩
theorem vals_non {vs : List V} {l : List Value} (h : Vals (.non :: vs) l) : ∃ r, l = .none :: r ∧ Vals vs r := by
  obtain ⟨u, r, rfl, e, z⟩ := vals_cons h
  cases e
  exact ⟨r, rfl, z⟩
theorem cell_ok {K : Fr} {file C : Str} {fd : FuncData} (h : cellB K file C fd = true) (hn : fd.closure.map (·.1) = [("__class__" : Str)]) :
    ∃ cc cda ccl cdd ccs vs0 tf cl cld csl, fd.closure = [(("__class__" : Str), cc)] ∧ fd.code = .ref cda ∧ K.lookup cda = some ⟨ccl, cdd, .fields vs0, ccs⟩ ∧ vs0[2]? = some (.str file tf) ∧ K.lookup cc = some ⟨cl, cld, .cell (some (.ref (ga K C))), csl⟩ := by
  obtain ⟨n1, n2, n3, n4, n5, n6, clo, n8, n9, n10, n11, n12, cdv, n14, n15⟩ := fd
  match clo, cdv, h, hn with
  | [(x, cc)], .ref cd, h, hn =>
    have ex : x = "__class__" := (List.cons.inj hn).1
    subst ex
    obtain ⟨h1, h2⟩ := ba (show ((match K.lookup cc with
    | some ⟨_, _, .cell (some (.ref c)), _⟩ => decide (c = ga K C)
    | _ => false) && (match K.lookup cd with
    | some ⟨_, _, .fields vs, _⟩ => (match (vs[2]? : Option Value) with
      | some (.str s _) => decide (s = file)
      | _ => false)
    | _ => false)) = true from h)
    split at h1
    · rename_i o1 o2 c o3 e1
      split at h2
      · rename_i p1 p2 vs p3 e2
        split at h2
        · rename_i s t e3
          have ec := of_decide_eq_true h1
          have es := of_decide_eq_true h2
          subst ec es
          exact ⟨cc, cd, _, _, _, vs, t, _, _, _, rfl, rfl, e2, e3, e1⟩
        · cases h2
      · cases h2
    · cases h1
/-! ### own classes under ValueError -/
def vexB (K : Fr) (C : Addr) : Bool := match K.lookup C with
  | some ⟨.type c, _, .cls cd, sl⟩ => decide (c = "type") && (match cd.mro, sl.toList with
    | .ref c' :: bm, [_, _, _, _, some (.builtin n), _] => decide (c' = C) && (decide (n = "ValueError.__new__") && (!cd.hasDel && (cd.hasDict && PySem.HandSPX.refsVE bm)))
    | _, _ => false)
  | _ => false
theorem vex_ok {K : Fr} {C : Addr} (h : vexB K C = true) : ∃ nm q N bs bm sn sub ab col dd k0 k1 k2 k3 k5, K.lookup C = some (excClassObj nm q C N bs bm true sn sub ab col dd k0 k1 k2 k3 k5 "ValueError.__new__") ∧ PySem.HandSPX.refsVE bm = true := by
  unfold vexB at h
  split at h
  · rename_i c dd cd sl e
    obtain ⟨h0, h1⟩ := ba h
    have e0 := of_decide_eq_true h0
    subst e0
    obtain ⟨nm, bs, mro, ns, qn, hd, sn, sub, ab, col, del⟩ := cd
    obtain ⟨l⟩ := sl
    split at h1
    · rename_i c' bm k0 k1 k2 k3 n k5 hm hs
      obtain ⟨a1, h2⟩ := ba h1
      obtain ⟨a2, h3⟩ := ba h2
      obtain ⟨a3, h4⟩ := ba h3
      obtain ⟨a4, a5⟩ := ba h4
      have b1 := of_decide_eq_true a1
      have b2 := of_decide_eq_true a2
      have b3 : del = false := by
        cases del with
        | false => rfl
        | true => cases a3
      have b4 : hd = true := a4
      have b5 : mro = .ref c' :: bm := hm
      have b6 : l = _ := hs
      subst b1 b2 b3 b4 b5 b6
      exact ⟨nm, qn, ns, bs, bm, sn, sub, ab, col, dd, k0, k1, k2, k3, k5, e, a5⟩
    · cases h1
  · cases h
/-! ### constants, tables -/
def intB (K : Fr) (x : Str) (i : Int) : Bool := match PySem.W.nsIn K mainGlobals x with
  | some (some (.int j _)) => decide (j = i)
  | _ => false
theorem int_ok {K : Fr} {x : Str} {i : Int} (h : intB K x i = true) : ∃ t, PySem.W.nsIn K mainGlobals x = some (some (.int i t)) := by
  unfold intB at h
  split at h
  · rename_i j t e
    have ej := of_decide_eq_true h
    subst ej
    exact ⟨t, e⟩
  · cases h
def strB (K : Fr) (x z : Str) : Bool := match PySem.W.nsIn K mainGlobals x with
  | some (some (.str y _)) => decide (y = z)
  | _ => false
theorem str_ok {K : Fr} {x z : Str} (h : strB K x z = true) : ∃ t, PySem.W.nsIn K mainGlobals x = some (some (.str z t)) := by
  unfold strB at h
  split at h
  · rename_i j t e
    have ej := of_decide_eq_true h
    subst ej
    exact ⟨t, e⟩
  · cases h
/-- a tuple of these at a -/
def tupAt (K : Fr) (a : Addr) (vs : List Dv) : Bool := match K.lookup a with
  | some ⟨.type c, _, .seq its _, _⟩ => decide (c = "tuple") && relAll (vs.map (Dv.v K)) its.toList
  | _ => false
theorem tup_ok {K : Fr} {a : Addr} {vs : List Dv} (h : tupAt K a vs = true) : ∃ od l n sl, K.lookup a = some ⟨.type "tuple", od, .seq (List.toArray l) n, sl⟩ ∧ Vals (vs.map (Dv.v K)) l := by
  unfold tupAt at h
  split at h
  · rename_i c od its n sl e
    obtain ⟨h1, h2⟩ := ba h
    have e1 := of_decide_eq_true h1
    subst e1
    exact ⟨od, its.toList, n, sl, e.trans (by rw [Array.toArray_toList]), relAll_ok h2⟩
  · cases h
/-- the i-th value of the dict at a -/
def valAt (K : Fr) (a : Addr) (i : Nat) : Addr := match K.lookup a with
  | some ⟨_, _, .dict es _, _⟩ => (match es.toList[i]? with
    | some e => (match e.val with
      | .ref b => b
      | _ => 0)
    | none => 0)
  | _ => 0
/-- the values of the dict at a are objects -/
def refsB (K : Fr) (a : Addr) : Bool := match K.lookup a with
  | some ⟨_, _, .dict es _, _⟩ => es.toList.all fun e => match e.val with
    | .ref _ => true
    | _ => false
  | _ => false
theorem dic_cons {P : Params} {k : Str} {ks : List Str} {l : List DictEntry} (h : l.map He.keyOf = He.keysIn P (k :: ks)) (hr : (l.all fun e => match e.val with | .ref _ => true | _ => false) = true) :
    ∃ x t v r, l = ⟨x, .str k t, .ref v⟩ :: r ∧ x = PyData.keyHash P k ∧ r.map He.keyOf = He.keysIn P ks ∧ (r.all fun e => match e.val with | .ref _ => true | _ => false) = true := by
  match l, h, hr with
  | e :: r, h, hr =>
    have h1 : He.keyOf e :: r.map He.keyOf = some (k, PyData.keyHash P k) :: He.keysIn P ks := h
    injection h1 with h2 h3
    obtain ⟨r1, r2⟩ := ba (show ((match e.val with | .ref _ => true | _ => false) && r.all fun e => match e.val with | .ref _ => true | _ => false) = true from hr)
    obtain ⟨x, ky, vl⟩ := e
    unfold He.keyOf at h2
    split at h2
    · rename_i y t q
      have h4 := Option.some.inj h2
      obtain ⟨h5, h6⟩ := Prod.mk.inj h4
      have q' : ky = .str y t := q
      subst q' h5
      cases vl with
      | ref v => exact ⟨x, t, v, r, rfl, h6, h3, r2⟩
      | _ => cases r1
    · cases h2
theorem dic_nil {P : Params} {l : List DictEntry} (h : l.map He.keyOf = He.keysIn P []) : l = [] := by
  cases l with
  | nil => rfl
  | cons _ _ => cases h
theorem dic_ok {K : Fr} {P : Params} {a : Addr} {ks : List Str} (h : dicW K a = some (He.keysIn P ks)) (hr : refsB K a = true) :
    ∃ l n, K.lookup a = some ⟨.type "dict", none, .dict (List.toArray l) n, #[]⟩ ∧ (a == sysModules) = false ∧ l.map He.keyOf = He.keysIn P ks ∧ (l.all fun e => match e.val with | .ref _ => true | _ => false) = true := by
  unfold dicW at h
  split at h
  · rename_i c es n sl e
    split at h
    · rename_i z
      obtain ⟨z1, z2⟩ := ba z
      obtain ⟨z3, z4⟩ := ba z2
      have e1 := of_decide_eq_true z1
      have e2 := Array.isEmpty_iff.mp z3
      subst e1 e2
      have e3 : (a == sysModules) = false := by
        cases y : a == sysModules with
        | false => rfl
        | true =>
          rw [y] at z4
          cases z4
      unfold refsB at hr
      rw [e] at hr
      exact ⟨es.toList, n, e.trans (by rw [Array.toArray_toList]), e3, Option.some.inj h, hr⟩
    · cases h
  · cases h
/-! ### the Hook -/
abbrev Ex : Type := List (List (Fr → Bool))
abbrev AlF : Type := Bool × List FnV × List (Option (List (Option (Str × Int))))
def obsF (file : Str) (ex : Ex) (fn : List DefF) (ts : List Tab) (K : Fr) : AlF := ((ex.all fun l => l.all fun f => f K) && fn.all fun d => d.ok file K, fn.map fun d => fnV K d.at_, ts.map fun t => dicW K (t.1 K))
def valF (fn : List DefF) (ts : List Tab) (w : World) : AlF := (true, fn.map DefF.val, ts.map fun t => some (He.keysIn w.params t.2))
def Says (file : Str) (ex : Ex) (fn : List DefF) (ts : List Tab) (w : World) (K : Fr) : Prop := obsF file ex fn ts K = valF fn ts w
def obsFG (n : Nat) (file : Str) (ex : Ex) (fn : List DefF) (ts : List Tab) (g : Addr → Option Obj) : AlF := topC g n fun K => obsF file ex fn ts K
def hookF (n : Nat) (file : Str) (ex : Ex) (fn : List DefF) (ts : List Tab) : PySem.W.Hook where
  α := AlF
  obs := fun s => obsFG n file ex fn ts s.heap.get?
  val := fun w => valF fn ts w
  says := fun w h => ∃ K : Fr, K.In h ∧ Says file ex fn ts w K
  of := fun w s e => by
    obtain ⟨K, h, q⟩ := topC_ok (g := s.heap.get?) n
    exact ⟨K, good_in h, (q _ _).symm.trans e⟩
  keeps := fun _ _ _ ⟨K, hK, c⟩ k => ⟨K, PySem.W.Frag.In.keeps hK k, c⟩
theorem obsFG_eq {n : Nat} {file : Str} {ex : Ex} {fn : List DefF} {ts : List Tab} {g : Addr → Option Obj} {s : Shared} (h : ∀ a, g a = s.heap.get? a) : obsFG n file ex fn ts g = (hookF n file ex fn ts).obs s := by
  have e : g = s.heap.get? := funext h
  rw [e] <;> rfl
section
variable {file : Str} {ex : Ex} {fn : List DefF} {ts : List Tab} {w : World} {K : Fr}
theorem Says.get (c : Says file ex fn ts w K) (i j : Nat) {f : Fr → Bool} (h : (ex[i]?.bind fun l => l[j]?) = some f) : f K = true := by
  have c1 := (ba (show ((ex.all fun l => l.all fun f => f K) && fn.all fun d => d.ok file K) = true from congrArg (fun z : AlF => z.1) c)).1
  cases e : ex[i]? with
  | none =>
    rw [e] at h
    cases h
  | some l =>
    rw [e] at h
    exact List.all_eq_true.mp (List.all_eq_true.mp c1 l (List.mem_of_getElem? e)) f (List.mem_of_getElem? h)
theorem Says.def_ (c : Says file ex fn ts w K) (i : Nat) {d : DefF} (h : fn[i]? = some d) :
    ∃ oc od dV kV doc pm an cdv ct clo osl, K.lookup (fAd K d.at_) = some ⟨oc, od, .func (PySem.W.fnX d.name d.qual d.params d.body d.scope clo dV kV doc pm an cdv ct), osl⟩ ∧ clo.map (·.1) = d.clo ∧
      PySem.W.codeIn K cdv d.qual = true ∧ dflB K dV (d.dfl.map (Dv.v K)) = true ∧ (match d.own with
        | none => true
        | some C => cellB K file C (PySem.W.fnX d.name d.qual d.params d.body d.scope clo dV kV doc pm an cdv ct)) = true ∧ PySem.W.keepIn K (.ref (fAd K d.at_)) = true := by
  have c2 := (ba (show ((ex.all fun l => l.all fun f => f K) && fn.all fun d => d.ok file K) = true from congrArg (fun z : AlF => z.1) c)).2
  have e : fn.map (fun d => fnV K d.at_) = fn.map DefF.val := congrArg (fun z : AlF => z.2.1) c
  have e2 : (fn.map fun d => fnV K d.at_)[i]? = (fn.map DefF.val)[i]? := by rw [e]
  rw [List.getElem?_map, List.getElem?_map, h] at e2
  exact DefF.out (Option.some.inj e2) (List.all_eq_true.mp c2 d (List.mem_of_getElem? h))
/-- a def without defaults -/
theorem Says.plain (c : Says file ex fn ts w K) (i : Nat) {p : Str × Option Str} {x q : Str} {pa : Arguments} {bo : List Stmt} {sc : Scope} (h : fn[i]? = some ⟨p, x, q, pa, bo, sc, [], none⟩) :
    ∃ oc od kV doc pm an cdv ct osl, K.lookup (fAd K p) = some ⟨oc, od, .func (PySem.W.fnOf x q pa bo sc .none kV doc pm an cdv ct), osl⟩ ∧ PySem.W.codeIn K cdv q = true ∧ PySem.W.keepIn K (.ref (fAd K p)) = true := by
  obtain ⟨oc, od, dV, kV, doc, pm, an, cdv, ct, clo, osl, e, hc, h1, h2, _, h4⟩ := c.def_ i h
  have hd := dfl_nil h2
  have hcl : clo = [] := List.map_eq_nil_iff.mp hc
  subst hd hcl
  exact ⟨oc, od, kV, doc, pm, an, cdv, ct, osl, e, h1, h4⟩
/-- a def with defaults -/
theorem Says.dflt (c : Says file ex fn ts w K) (i : Nat) {p : Str × Option Str} {x q : Str} {pa : Arguments} {bo : List Stmt} {sc : Scope} {v : Dv} {vs : List Dv} (h : fn[i]? = some ⟨p, x, q, pa, bo, sc, v :: vs, none⟩) :
    ∃ oc od dT kV doc pm an cdv ct osl dc dd l n dsl, K.lookup (fAd K p) = some ⟨oc, od, .func (PySem.W.fnOf x q pa bo sc (.ref dT) kV doc pm an cdv ct), osl⟩ ∧ PySem.W.codeIn K cdv q = true ∧ PySem.W.keepIn K (.ref (fAd K p)) = true ∧
      K.lookup dT = some ⟨dc, dd, .seq (List.toArray l) n, dsl⟩ ∧ Vals (v.v K :: vs.map (Dv.v K)) l := by
  obtain ⟨oc, od, dV, kV, doc, pm, an, cdv, ct, clo, osl, e, hc, h1, h2, _, h4⟩ := c.def_ i h
  have hcl : clo = [] := List.map_eq_nil_iff.mp hc
  subst hcl
  obtain ⟨T, dc, dd, l, n, dsl, e1, e2, e3⟩ := dfl_cons h2
  subst e1
  exact ⟨oc, od, T, kV, doc, pm, an, cdv, ct, osl, dc, dd, l, n, dsl, e, h1, h4, e2, e3⟩
/-- an own error's __init__ -/
theorem Says.init (c : Says file ex fn ts w K) (i : Nat) {p : Str × Option Str} {x q C : Str} {pa : Arguments} {bo : List Stmt} {sc : Scope} (h : fn[i]? = some ⟨p, x, q, pa, bo, sc, [], some C⟩) :
    ∃ oc od kV doc pm an cda ct cc osl ccl cdd ccs vs0 tf cl cld csl, K.lookup (fAd K p) = some ⟨oc, od, .func (PySem.W.ksFn x q pa bo sc .none kV doc pm an (.ref cda) ct cc), osl⟩ ∧ PySem.W.codeIn K (.ref cda) q = true ∧
      K.lookup cda = some ⟨ccl, cdd, .fields vs0, ccs⟩ ∧ vs0[2]? = some (.str file tf) ∧ K.lookup cc = some ⟨cl, cld, .cell (some (.ref (ga K C))), csl⟩ := by
  obtain ⟨oc, od, dV, kV, doc, pm, an, cdv, ct, clo, osl, e, hc, h1, h2, h3, h4⟩ := c.def_ i h
  have hd := dfl_nil h2
  subst hd
  obtain ⟨cc, cda, ccl, cdd, ccs, vs0, tf, cl, cld, csl, e1, e2, e3, e4, e5⟩ := cell_ok h3 hc
  have e1 : clo = _ := e1
  have e2 : cdv = _ := e2
  subst e1 e2
  exact ⟨oc, od, kV, doc, pm, an, cda, ct, cc, osl, ccl, cdd, ccs, vs0, tf, cl, cld, csl, e, h1, e3, e4, e5⟩
theorem Says.tab (c : Says file ex fn ts w K) (i : Nat) {f : Fr → Addr} {ks : List Str} (h : ts[i]? = some (f, ks)) : dicW K (f K) = some (He.keysIn w.params ks) := by
  have e : ts.map (fun t => dicW K (t.1 K)) = ts.map fun t => some (He.keysIn w.params t.2) := congrArg (fun z : AlF => z.2.2) c
  have e2 : (ts.map fun t => dicW K (t.1 K))[i]? = (ts.map fun t => some (He.keysIn w.params t.2))[i]? := by rw [e]
  rw [List.getElem?_map, List.getElem?_map, h] at e2
  exact Option.some.inj e2
end
end HdF
set_option Elab.async false
set_option linter.all false
set_option maxRecDepth 100000
set_option maxHeartbeats 0
namespace Toy
open PySem L2 NdefX Gm
open Mine hiding same_new
/-! ### the program's top -/
theorem all_mk {l : PySem.W.OpenLaw} {w : World} {K : PySem.W.Frag} {h : Heap} {mg : Str → Option Value} {fa : Addr} (X : K.In h) (G : h.Ns mainGlobals mg) (hfa : mg "law" = some (.ref fa))
    {C_Game : Addr}
    {od_law_cell an_law_cell : Option Addr} {sl_law_cell : Array (Option Value)} {oc_law_cell kV_law_cell dc_law_cell pm_law_cell cd_law_cell ct_law_cell : Value} {a_law_cell : Addr}
    {od_law_row an_law_row : Option Addr} {sl_law_row : Array (Option Value)} {oc_law_row kV_law_row dc_law_row pm_law_row cd_law_row ct_law_row : Value} {a_law_row : Addr}
    {od_law_side an_law_side : Option Addr} {sl_law_side : Array (Option Value)} {oc_law_side kV_law_side dc_law_side pm_law_side cd_law_side ct_law_side : Value} {a_law_side : Addr}
    {od_law_value an_law_value : Option Addr} {sl_law_value : Array (Option Value)} {oc_law_value kV_law_value dc_law_value pm_law_value cd_law_value ct_law_value : Value} {a_law_value : Addr}
    {od_law_plain an_law_plain : Option Addr} {sl_law_plain : Array (Option Value)} {oc_law_plain kV_law_plain dc_law_plain pm_law_plain cd_law_plain ct_law_plain : Value} {a_law_plain : Addr}
    {od_law_block an_law_block : Option Addr} {sl_law_block : Array (Option Value)} {oc_law_block kV_law_block dc_law_block pm_law_block cd_law_block ct_law_block : Value} {a_law_block : Addr}
    {od_law_game an_law_game : Option Addr} {sl_law_game : Array (Option Value)} {oc_law_game kV_law_game dc_law_game pm_law_game cd_law_game ct_law_game : Value} {a_law_game : Addr}
    {od_is_name an_is_name : Option Addr} {sl_is_name : Array (Option Value)} {oc_is_name kV_is_name dc_is_name pm_is_name cd_is_name ct_is_name : Value} {a_is_name : Addr}
    {od_Game_init an_Game_init : Option Addr} {sl_Game_init : Array (Option Value)} {oc_Game_init kV_Game_init dc_Game_init pm_Game_init cd_Game_init ct_Game_init : Value} {a_Game_init : Addr}
    {od_Game_eq an_Game_eq : Option Addr} {sl_Game_eq : Array (Option Value)} {oc_Game_eq kV_Game_eq dc_Game_eq pm_Game_eq cd_Game_eq ct_Game_eq : Value} {a_Game_eq : Addr}
    {od_Game_proc an_Game_proc : Option Addr} {sl_Game_proc : Array (Option Value)} {oc_Game_proc kV_Game_proc dc_Game_proc pm_Game_proc cd_Game_proc ct_Game_proc : Value} {a_Game_proc : Addr}
    {od_first_parts an_first_parts : Option Addr} {sl_first_parts : Array (Option Value)} {oc_first_parts kV_first_parts dc_first_parts pm_first_parts cd_first_parts ct_first_parts : Value} {a_first_parts : Addr}
    {od_every_expression an_every_expression : Option Addr} {sl_every_expression : Array (Option Value)} {oc_every_expression kV_every_expression dc_every_expression pm_every_expression cd_every_expression ct_every_expression : Value} {a_every_expression : Addr}
    {od_expression_reads an_expression_reads : Option Addr} {sl_expression_reads : Array (Option Value)} {oc_expression_reads kV_expression_reads dc_expression_reads pm_expression_reads cd_expression_reads ct_expression_reads : Value} {a_expression_reads : Addr}
    {od_reads_local an_reads_local : Option Addr} {sl_reads_local : Array (Option Value)} {oc_reads_local kV_reads_local dc_reads_local pm_reads_local cd_reads_local ct_reads_local : Value} {a_reads_local : Addr}
    {od_require an_require : Option Addr} {sl_require : Array (Option Value)} {oc_require kV_require dc_require pm_require cd_require ct_require : Value} {a_require : Addr}
    {od_proc_of an_proc_of : Option Addr} {sl_proc_of : Array (Option Value)} {oc_proc_of kV_proc_of dc_proc_of pm_proc_of cd_proc_of ct_proc_of : Value} {a_proc_of : Addr}
    {od_statement_of an_statement_of : Option Addr} {sl_statement_of : Array (Option Value)} {oc_statement_of kV_statement_of dc_statement_of pm_statement_of cd_statement_of ct_statement_of : Value} {a_statement_of : Addr}
    {od_pair_of an_pair_of : Option Addr} {sl_pair_of : Array (Option Value)} {oc_pair_of kV_pair_of dc_pair_of pm_pair_of cd_pair_of ct_pair_of : Value} {a_pair_of : Addr}
    {od_with_proc an_with_proc : Option Addr} {sl_with_proc : Array (Option Value)} {oc_with_proc kV_with_proc dc_with_proc pm_with_proc cd_with_proc ct_with_proc : Value} {a_with_proc : Addr}
    {od_replaced an_replaced : Option Addr} {sl_replaced : Array (Option Value)} {oc_replaced kV_replaced dc_replaced pm_replaced cd_replaced ct_replaced : Value} {a_replaced : Addr}
    {od_toss_step an_toss_step : Option Addr} {sl_toss_step : Array (Option Value)} {oc_toss_step kV_toss_step dc_toss_step pm_toss_step cd_toss_step ct_toss_step : Value} {a_toss_step : Addr}
    {od_sink_step an_sink_step : Option Addr} {sl_sink_step : Array (Option Value)} {oc_sink_step kV_sink_step dc_sink_step pm_sink_step cd_sink_step ct_sink_step : Value} {a_sink_step : Addr}
    {od_same an_same : Option Addr} {sl_same : Array (Option Value)} {oc_same kV_same dc_same pm_same cd_same ct_same : Value} {a_same : Addr}
    {od_law_made an_law_made : Option Addr} {sl_law_made : Array (Option Value)} {oc_law_made kV_law_made dc_law_made pm_law_made cd_law_made ct_law_made : Value} {a_law_made : Addr}
    {od_law_uses an_law_uses : Option Addr} {sl_law_uses : Array (Option Value)} {oc_law_uses kV_law_uses dc_law_uses pm_law_uses cd_law_uses ct_law_uses : Value} {a_law_uses : Addr}
    {od_law_with an_law_with : Option Addr} {sl_law_with : Array (Option Value)} {oc_law_with kV_law_with dc_law_with pm_law_with cd_law_with ct_law_with : Value} {a_law_with : Addr}
    {od_law_proc an_law_proc : Option Addr} {sl_law_proc : Array (Option Value)} {oc_law_proc kV_law_proc dc_law_proc pm_law_proc cd_law_proc ct_law_proc : Value} {a_law_proc : Addr}
    {od_law_parts an_law_parts : Option Addr} {sl_law_parts : Array (Option Value)} {oc_law_parts kV_law_parts dc_law_parts pm_law_parts cd_law_parts ct_law_parts : Value} {a_law_parts : Addr}
    {od_law_tried an_law_tried : Option Addr} {sl_law_tried : Array (Option Value)} {oc_law_tried kV_law_tried dc_law_tried pm_law_tried cd_law_tried ct_law_tried : Value} {a_law_tried : Addr}
    {od_law_tossed an_law_tossed : Option Addr} {sl_law_tossed : Array (Option Value)} {oc_law_tossed kV_law_tossed dc_law_tossed pm_law_tossed cd_law_tossed ct_law_tossed : Value} {a_law_tossed : Addr}
    {od_law_sunk an_law_sunk : Option Addr} {sl_law_sunk : Array (Option Value)} {oc_law_sunk kV_law_sunk dc_law_sunk pm_law_sunk cd_law_sunk ct_law_sunk : Value} {a_law_sunk : Addr}
    {od_law_ready an_law_ready : Option Addr} {sl_law_ready : Array (Option Value)} {oc_law_ready kV_law_ready dc_law_ready pm_law_ready cd_law_ready ct_law_ready : Value} {a_law_ready : Addr}
    {od_law an_law : Option Addr} {sl_law : Array (Option Value)} {oc_law kV_law dc_law pm_law cd_law ct_law : Value} {a_law : Addr}
    {C_BadStep : Addr}
    {od_BadStep_init an_BadStep_init : Option Addr} {sl_BadStep_init : Array (Option Value)} {oc_BadStep_init kV_BadStep_init dc_BadStep_init pm_BadStep_init ct_BadStep_init : Value} {a_BadStep_init cda_BadStep_init cc_BadStep_init : Addr} {ccl_BadStep_init cl_BadStep_init : Value} {cdd_BadStep_init cld_BadStep_init : Option Addr} {ccs_BadStep_init csl_BadStep_init : Array (Option Value)} {vs_BadStep_init : Array Value} {tf_BadStep_init : PySem.Tok}
    {nm_BadStep_init q_BadStep_init : Str} {N_BadStep_init : Addr} {bs_BadStep_init bm_BadStep_init : List Value} {sn_BadStep_init : List Str} {sub_BadStep_init : List Value} {ab_BadStep_init : Bool} {col_BadStep_init : Option Bool} {dd_BadStep_init : Option Addr} {k0_BadStep_init k1_BadStep_init k2_BadStep_init k3_BadStep_init k5_BadStep_init : Option Value}
    {file : Str}
    {C_PlayError : Addr}
    {C_BadBound : Addr}
    {C_BadCall : Addr}
    {C_BadPlayer : Addr}
    {C_BadText : Addr}
    {C_TooLarge : Addr}
    {a_OPERATORS : Addr} {od_OPERATORS : Option Addr} {n_OPERATORS : Nat} {sl_OPERATORS : Array (Option Value)} {t0_OPERATORS t1_OPERATORS t2_OPERATORS t3_OPERATORS t4_OPERATORS t5_OPERATORS t6_OPERATORS : PySem.Tok}
    {a_LOOKS : Addr} {od_LOOKS : Option Addr} {n_LOOKS : Nat} {sl_LOOKS : Array (Option Value)} {t0_LOOKS t1_LOOKS : PySem.Tok}
    {tk_LONGEST_NAME : PySem.Tok}
    {tk_LETTERS : PySem.Tok}
    {tk_DIGITS : PySem.Tok}
    {a_KEY_WORDS : Addr} {od_KEY_WORDS : Option Addr} {n_KEY_WORDS : Nat} {sl_KEY_WORDS : Array (Option Value)} {t0_KEY_WORDS t1_KEY_WORDS t2_KEY_WORDS t3_KEY_WORDS t4_KEY_WORDS t5_KEY_WORDS t6_KEY_WORDS t7_KEY_WORDS t8_KEY_WORDS t9_KEY_WORDS t10_KEY_WORDS t11_KEY_WORDS t12_KEY_WORDS t13_KEY_WORDS t14_KEY_WORDS t15_KEY_WORDS t16_KEY_WORDS t17_KEY_WORDS t18_KEY_WORDS t19_KEY_WORDS : PySem.Tok}
    {tk_MOST_DRAWN : PySem.Tok}
    {tk_MOST_BEFORE_TOSS : PySem.Tok}
    {a_RULES : Addr}
    (o_n : PySem.W.specialIn K (.builtin "object.__class__") "__get__" = some (some (.builtin "getset_descriptor.__get__")))
    (o_t : PySem.W.takesIn K (.builtin "object.__class__") = some true)
    (hC_Game : PySem.W.nsIn K mainGlobals "Game" = some (some (.ref C_Game)))
    (pg_Game : PySem.W.plainGet K C_Game Str.empty = true)
    (hd_Game : PySem.W.hasDictIn K C_Game = true)
    (po_Game : PySem.W.plainOver K C_Game = true)
    (sa_Game : PySem.W.findIn K (.ref C_Game) "__setattr__" = some (some (.builtin "object.__setattr__")))
    (mk_Game : PySem.W.makesIn K C_Game = true)
    (kc_Game : PySem.W.keepIn K (.ref C_Game) = true)
    (sf_Game : PySem.W.selfFirst K C_Game = true)
    (na_Game_variables : PySem.W.findIn K (.ref C_Game) "variables" = some none)
    (na_Game_tables : PySem.W.findIn K (.ref C_Game) "tables" = some none)
    (na_Game_lots : PySem.W.findIn K (.ref C_Game) "lots" = some none)
    (na_Game_procs : PySem.W.findIn K (.ref C_Game) "procs" = some none)
    (ia_Game : PySem.W.findIn K (.ref C_Game) "__class__" = some (some (.builtin "object.__class__")))
    (im_Game : PySem.W.mroIn K C_Game (.type "object") = some true)
    (ik_Game : PySem.W.kitOne K (.ref C_Game) (.ref C_Game) = some true)
    (h_law_cell : PySem.W.nsIn K mainGlobals "_law_cell" = some (some (.ref a_law_cell)))
    (l_law_cell : K.lookup a_law_cell = some ⟨oc_law_cell, od_law_cell, .func (PySem.W.fnOf "_law_cell" "_law_cell" (defArgs s_law_cell) (defBody s_law_cell) (defScope s_law_cell) .none kV_law_cell dc_law_cell pm_law_cell an_law_cell cd_law_cell ct_law_cell), sl_law_cell⟩)
    (c_law_cell : PySem.W.codeIn K cd_law_cell "_law_cell" = true)
    (k_law_cell : PySem.W.keepIn K (.ref a_law_cell) = true)
    (h_law_row : PySem.W.nsIn K mainGlobals "_law_row" = some (some (.ref a_law_row)))
    (l_law_row : K.lookup a_law_row = some ⟨oc_law_row, od_law_row, .func (PySem.W.fnOf "_law_row" "_law_row" (defArgs s_law_row) (defBody s_law_row) (defScope s_law_row) .none kV_law_row dc_law_row pm_law_row an_law_row cd_law_row ct_law_row), sl_law_row⟩)
    (c_law_row : PySem.W.codeIn K cd_law_row "_law_row" = true)
    (k_law_row : PySem.W.keepIn K (.ref a_law_row) = true)
    (h_law_side : PySem.W.nsIn K mainGlobals "_law_side" = some (some (.ref a_law_side)))
    (l_law_side : K.lookup a_law_side = some ⟨oc_law_side, od_law_side, .func (PySem.W.fnOf "_law_side" "_law_side" (defArgs s_law_side) (defBody s_law_side) (defScope s_law_side) .none kV_law_side dc_law_side pm_law_side an_law_side cd_law_side ct_law_side), sl_law_side⟩)
    (c_law_side : PySem.W.codeIn K cd_law_side "_law_side" = true)
    (k_law_side : PySem.W.keepIn K (.ref a_law_side) = true)
    (h_law_value : PySem.W.nsIn K mainGlobals "_law_value" = some (some (.ref a_law_value)))
    (l_law_value : K.lookup a_law_value = some ⟨oc_law_value, od_law_value, .func (PySem.W.fnOf "_law_value" "_law_value" (defArgs s_law_value) (defBody s_law_value) (defScope s_law_value) .none kV_law_value dc_law_value pm_law_value an_law_value cd_law_value ct_law_value), sl_law_value⟩)
    (c_law_value : PySem.W.codeIn K cd_law_value "_law_value" = true)
    (k_law_value : PySem.W.keepIn K (.ref a_law_value) = true)
    (h_law_plain : PySem.W.nsIn K mainGlobals "_law_plain" = some (some (.ref a_law_plain)))
    (l_law_plain : K.lookup a_law_plain = some ⟨oc_law_plain, od_law_plain, .func (PySem.W.fnOf "_law_plain" "_law_plain" (defArgs s_law_plain) (defBody s_law_plain) (defScope s_law_plain) .none kV_law_plain dc_law_plain pm_law_plain an_law_plain cd_law_plain ct_law_plain), sl_law_plain⟩)
    (c_law_plain : PySem.W.codeIn K cd_law_plain "_law_plain" = true)
    (k_law_plain : PySem.W.keepIn K (.ref a_law_plain) = true)
    (h_law_block : PySem.W.nsIn K mainGlobals "_law_block" = some (some (.ref a_law_block)))
    (l_law_block : K.lookup a_law_block = some ⟨oc_law_block, od_law_block, .func (PySem.W.fnOf "_law_block" "_law_block" (defArgs s_law_block) (defBody s_law_block) (defScope s_law_block) .none kV_law_block dc_law_block pm_law_block an_law_block cd_law_block ct_law_block), sl_law_block⟩)
    (c_law_block : PySem.W.codeIn K cd_law_block "_law_block" = true)
    (k_law_block : PySem.W.keepIn K (.ref a_law_block) = true)
    (h_law_game : PySem.W.nsIn K mainGlobals "_law_game" = some (some (.ref a_law_game)))
    (l_law_game : K.lookup a_law_game = some ⟨oc_law_game, od_law_game, .func (PySem.W.fnOf "_law_game" "_law_game" (defArgs s_law_game) (defBody s_law_game) (defScope s_law_game) .none kV_law_game dc_law_game pm_law_game an_law_game cd_law_game ct_law_game), sl_law_game⟩)
    (c_law_game : PySem.W.codeIn K cd_law_game "_law_game" = true)
    (k_law_game : PySem.W.keepIn K (.ref a_law_game) = true)
    (h_is_name : PySem.W.nsIn K mainGlobals "is_name" = some (some (.ref a_is_name)))
    (l_is_name : K.lookup a_is_name = some ⟨oc_is_name, od_is_name, .func (PySem.W.fnOf "is_name" "is_name" (defArgs s_is_name) (defBody s_is_name) (defScope s_is_name) .none kV_is_name dc_is_name pm_is_name an_is_name cd_is_name ct_is_name), sl_is_name⟩)
    (c_is_name : PySem.W.codeIn K cd_is_name "is_name" = true)
    (k_is_name : PySem.W.keepIn K (.ref a_is_name) = true)
    (h_Game_init : PySem.W.findIn K (.ref C_Game) "__init__" = some (some (.ref a_Game_init)))
    (i_Game_init : PySem.W.isFn K (.ref a_Game_init) = true)
    (l_Game_init : K.lookup a_Game_init = some ⟨oc_Game_init, od_Game_init, .func (PySem.W.fnOf "__init__" "Game.__init__" (defArgs s_Game_init) (defBody s_Game_init) (defScope s_Game_init) .none kV_Game_init dc_Game_init pm_Game_init an_Game_init cd_Game_init ct_Game_init), sl_Game_init⟩)
    (c_Game_init : PySem.W.codeIn K cd_Game_init "Game.__init__" = true)
    (k_Game_init : PySem.W.keepIn K (.ref a_Game_init) = true)
    (h_Game_eq : PySem.W.findIn K (.ref C_Game) "__eq__" = some (some (.ref a_Game_eq)))
    (i_Game_eq : PySem.W.isFn K (.ref a_Game_eq) = true)
    (l_Game_eq : K.lookup a_Game_eq = some ⟨oc_Game_eq, od_Game_eq, .func (PySem.W.fnOf "__eq__" "Game.__eq__" (defArgs s_Game_eq) (defBody s_Game_eq) (defScope s_Game_eq) .none kV_Game_eq dc_Game_eq pm_Game_eq an_Game_eq cd_Game_eq ct_Game_eq), sl_Game_eq⟩)
    (c_Game_eq : PySem.W.codeIn K cd_Game_eq "Game.__eq__" = true)
    (k_Game_eq : PySem.W.keepIn K (.ref a_Game_eq) = true)
    (h_Game_proc : PySem.W.findIn K (.ref C_Game) "proc" = some (some (.ref a_Game_proc)))
    (i_Game_proc : PySem.W.isFn K (.ref a_Game_proc) = true)
    (l_Game_proc : K.lookup a_Game_proc = some ⟨oc_Game_proc, od_Game_proc, .func (PySem.W.fnOf "proc" "Game.proc" (defArgs s_Game_proc) (defBody s_Game_proc) (defScope s_Game_proc) .none kV_Game_proc dc_Game_proc pm_Game_proc an_Game_proc cd_Game_proc ct_Game_proc), sl_Game_proc⟩)
    (c_Game_proc : PySem.W.codeIn K cd_Game_proc "Game.proc" = true)
    (k_Game_proc : PySem.W.keepIn K (.ref a_Game_proc) = true)
    (h_first_parts : PySem.W.nsIn K mainGlobals "first_parts" = some (some (.ref a_first_parts)))
    (l_first_parts : K.lookup a_first_parts = some ⟨oc_first_parts, od_first_parts, .func (PySem.W.fnOf "first_parts" "first_parts" (defArgs s_first_parts) (defBody s_first_parts) (defScope s_first_parts) .none kV_first_parts dc_first_parts pm_first_parts an_first_parts cd_first_parts ct_first_parts), sl_first_parts⟩)
    (c_first_parts : PySem.W.codeIn K cd_first_parts "first_parts" = true)
    (k_first_parts : PySem.W.keepIn K (.ref a_first_parts) = true)
    (h_every_expression : PySem.W.nsIn K mainGlobals "every_expression" = some (some (.ref a_every_expression)))
    (l_every_expression : K.lookup a_every_expression = some ⟨oc_every_expression, od_every_expression, .func (PySem.W.fnOf "every_expression" "every_expression" (defArgs s_every_expression) (defBody s_every_expression) (defScope s_every_expression) .none kV_every_expression dc_every_expression pm_every_expression an_every_expression cd_every_expression ct_every_expression), sl_every_expression⟩)
    (c_every_expression : PySem.W.codeIn K cd_every_expression "every_expression" = true)
    (k_every_expression : PySem.W.keepIn K (.ref a_every_expression) = true)
    (h_expression_reads : PySem.W.nsIn K mainGlobals "expression_reads" = some (some (.ref a_expression_reads)))
    (l_expression_reads : K.lookup a_expression_reads = some ⟨oc_expression_reads, od_expression_reads, .func (PySem.W.fnOf "expression_reads" "expression_reads" (defArgs s_expression_reads) (defBody s_expression_reads) (defScope s_expression_reads) .none kV_expression_reads dc_expression_reads pm_expression_reads an_expression_reads cd_expression_reads ct_expression_reads), sl_expression_reads⟩)
    (c_expression_reads : PySem.W.codeIn K cd_expression_reads "expression_reads" = true)
    (k_expression_reads : PySem.W.keepIn K (.ref a_expression_reads) = true)
    (h_reads_local : PySem.W.nsIn K mainGlobals "reads_local" = some (some (.ref a_reads_local)))
    (l_reads_local : K.lookup a_reads_local = some ⟨oc_reads_local, od_reads_local, .func (PySem.W.fnOf "reads_local" "reads_local" (defArgs s_reads_local) (defBody s_reads_local) (defScope s_reads_local) .none kV_reads_local dc_reads_local pm_reads_local an_reads_local cd_reads_local ct_reads_local), sl_reads_local⟩)
    (c_reads_local : PySem.W.codeIn K cd_reads_local "reads_local" = true)
    (k_reads_local : PySem.W.keepIn K (.ref a_reads_local) = true)
    (h_require : PySem.W.nsIn K mainGlobals "require" = some (some (.ref a_require)))
    (l_require : K.lookup a_require = some ⟨oc_require, od_require, .func (PySem.W.fnOf "require" "require" (defArgs s_require) (defBody s_require) (defScope s_require) .none kV_require dc_require pm_require an_require cd_require ct_require), sl_require⟩)
    (c_require : PySem.W.codeIn K cd_require "require" = true)
    (k_require : PySem.W.keepIn K (.ref a_require) = true)
    (h_proc_of : PySem.W.nsIn K mainGlobals "proc_of" = some (some (.ref a_proc_of)))
    (l_proc_of : K.lookup a_proc_of = some ⟨oc_proc_of, od_proc_of, .func (PySem.W.fnOf "proc_of" "proc_of" (defArgs s_proc_of) (defBody s_proc_of) (defScope s_proc_of) .none kV_proc_of dc_proc_of pm_proc_of an_proc_of cd_proc_of ct_proc_of), sl_proc_of⟩)
    (c_proc_of : PySem.W.codeIn K cd_proc_of "proc_of" = true)
    (k_proc_of : PySem.W.keepIn K (.ref a_proc_of) = true)
    (h_statement_of : PySem.W.nsIn K mainGlobals "statement_of" = some (some (.ref a_statement_of)))
    (l_statement_of : K.lookup a_statement_of = some ⟨oc_statement_of, od_statement_of, .func (PySem.W.fnOf "statement_of" "statement_of" (defArgs s_statement_of) (defBody s_statement_of) (defScope s_statement_of) .none kV_statement_of dc_statement_of pm_statement_of an_statement_of cd_statement_of ct_statement_of), sl_statement_of⟩)
    (c_statement_of : PySem.W.codeIn K cd_statement_of "statement_of" = true)
    (k_statement_of : PySem.W.keepIn K (.ref a_statement_of) = true)
    (h_pair_of : PySem.W.nsIn K mainGlobals "pair_of" = some (some (.ref a_pair_of)))
    (l_pair_of : K.lookup a_pair_of = some ⟨oc_pair_of, od_pair_of, .func (PySem.W.fnOf "pair_of" "pair_of" (defArgs s_pair_of) (defBody s_pair_of) (defScope s_pair_of) .none kV_pair_of dc_pair_of pm_pair_of an_pair_of cd_pair_of ct_pair_of), sl_pair_of⟩)
    (c_pair_of : PySem.W.codeIn K cd_pair_of "pair_of" = true)
    (k_pair_of : PySem.W.keepIn K (.ref a_pair_of) = true)
    (h_with_proc : PySem.W.nsIn K mainGlobals "with_proc" = some (some (.ref a_with_proc)))
    (l_with_proc : K.lookup a_with_proc = some ⟨oc_with_proc, od_with_proc, .func (PySem.W.fnOf "with_proc" "with_proc" (defArgs s_with_proc) (defBody s_with_proc) (defScope s_with_proc) .none kV_with_proc dc_with_proc pm_with_proc an_with_proc cd_with_proc ct_with_proc), sl_with_proc⟩)
    (c_with_proc : PySem.W.codeIn K cd_with_proc "with_proc" = true)
    (k_with_proc : PySem.W.keepIn K (.ref a_with_proc) = true)
    (h_replaced : PySem.W.nsIn K mainGlobals "replaced" = some (some (.ref a_replaced)))
    (l_replaced : K.lookup a_replaced = some ⟨oc_replaced, od_replaced, .func (PySem.W.fnOf "replaced" "replaced" (defArgs s_replaced) (defBody s_replaced) (defScope s_replaced) .none kV_replaced dc_replaced pm_replaced an_replaced cd_replaced ct_replaced), sl_replaced⟩)
    (c_replaced : PySem.W.codeIn K cd_replaced "replaced" = true)
    (k_replaced : PySem.W.keepIn K (.ref a_replaced) = true)
    (h_toss_step : PySem.W.nsIn K mainGlobals "toss_step" = some (some (.ref a_toss_step)))
    (l_toss_step : K.lookup a_toss_step = some ⟨oc_toss_step, od_toss_step, .func (PySem.W.fnOf "toss_step" "toss_step" (defArgs s_toss_step) (defBody s_toss_step) (defScope s_toss_step) .none kV_toss_step dc_toss_step pm_toss_step an_toss_step cd_toss_step ct_toss_step), sl_toss_step⟩)
    (c_toss_step : PySem.W.codeIn K cd_toss_step "toss_step" = true)
    (k_toss_step : PySem.W.keepIn K (.ref a_toss_step) = true)
    (h_sink_step : PySem.W.nsIn K mainGlobals "sink_step" = some (some (.ref a_sink_step)))
    (l_sink_step : K.lookup a_sink_step = some ⟨oc_sink_step, od_sink_step, .func (PySem.W.fnOf "sink_step" "sink_step" (defArgs s_sink_step) (defBody s_sink_step) (defScope s_sink_step) .none kV_sink_step dc_sink_step pm_sink_step an_sink_step cd_sink_step ct_sink_step), sl_sink_step⟩)
    (c_sink_step : PySem.W.codeIn K cd_sink_step "sink_step" = true)
    (k_sink_step : PySem.W.keepIn K (.ref a_sink_step) = true)
    (h_same : PySem.W.nsIn K mainGlobals "same" = some (some (.ref a_same)))
    (l_same : K.lookup a_same = some ⟨oc_same, od_same, .func (PySem.W.fnOf "same" "same" (defArgs s_same) (defBody s_same) (defScope s_same) .none kV_same dc_same pm_same an_same cd_same ct_same), sl_same⟩)
    (c_same : PySem.W.codeIn K cd_same "same" = true)
    (k_same : PySem.W.keepIn K (.ref a_same) = true)
    (h_law_made : PySem.W.nsIn K mainGlobals "_law_made" = some (some (.ref a_law_made)))
    (l_law_made : K.lookup a_law_made = some ⟨oc_law_made, od_law_made, .func (PySem.W.fnOf "_law_made" "_law_made" (defArgs s_law_made) (defBody s_law_made) (defScope s_law_made) .none kV_law_made dc_law_made pm_law_made an_law_made cd_law_made ct_law_made), sl_law_made⟩)
    (c_law_made : PySem.W.codeIn K cd_law_made "_law_made" = true)
    (k_law_made : PySem.W.keepIn K (.ref a_law_made) = true)
    (h_law_uses : PySem.W.nsIn K mainGlobals "_law_uses" = some (some (.ref a_law_uses)))
    (l_law_uses : K.lookup a_law_uses = some ⟨oc_law_uses, od_law_uses, .func (PySem.W.fnOf "_law_uses" "_law_uses" (defArgs s_law_uses) (defBody s_law_uses) (defScope s_law_uses) .none kV_law_uses dc_law_uses pm_law_uses an_law_uses cd_law_uses ct_law_uses), sl_law_uses⟩)
    (c_law_uses : PySem.W.codeIn K cd_law_uses "_law_uses" = true)
    (k_law_uses : PySem.W.keepIn K (.ref a_law_uses) = true)
    (h_law_with : PySem.W.nsIn K mainGlobals "_law_with" = some (some (.ref a_law_with)))
    (l_law_with : K.lookup a_law_with = some ⟨oc_law_with, od_law_with, .func (PySem.W.fnOf "_law_with" "_law_with" (defArgs s_law_with) (defBody s_law_with) (defScope s_law_with) .none kV_law_with dc_law_with pm_law_with an_law_with cd_law_with ct_law_with), sl_law_with⟩)
    (c_law_with : PySem.W.codeIn K cd_law_with "_law_with" = true)
    (k_law_with : PySem.W.keepIn K (.ref a_law_with) = true)
    (h_law_proc : PySem.W.nsIn K mainGlobals "_law_proc" = some (some (.ref a_law_proc)))
    (l_law_proc : K.lookup a_law_proc = some ⟨oc_law_proc, od_law_proc, .func (PySem.W.fnOf "_law_proc" "_law_proc" (defArgs s_law_proc) (defBody s_law_proc) (defScope s_law_proc) .none kV_law_proc dc_law_proc pm_law_proc an_law_proc cd_law_proc ct_law_proc), sl_law_proc⟩)
    (c_law_proc : PySem.W.codeIn K cd_law_proc "_law_proc" = true)
    (k_law_proc : PySem.W.keepIn K (.ref a_law_proc) = true)
    (h_law_parts : PySem.W.nsIn K mainGlobals "_law_parts" = some (some (.ref a_law_parts)))
    (l_law_parts : K.lookup a_law_parts = some ⟨oc_law_parts, od_law_parts, .func (PySem.W.fnOf "_law_parts" "_law_parts" (defArgs s_law_parts) (defBody s_law_parts) (defScope s_law_parts) .none kV_law_parts dc_law_parts pm_law_parts an_law_parts cd_law_parts ct_law_parts), sl_law_parts⟩)
    (c_law_parts : PySem.W.codeIn K cd_law_parts "_law_parts" = true)
    (k_law_parts : PySem.W.keepIn K (.ref a_law_parts) = true)
    (h_law_tried : PySem.W.nsIn K mainGlobals "_law_tried" = some (some (.ref a_law_tried)))
    (l_law_tried : K.lookup a_law_tried = some ⟨oc_law_tried, od_law_tried, .func (PySem.W.fnOf "_law_tried" "_law_tried" (defArgs s_law_tried) (defBody s_law_tried) (defScope s_law_tried) .none kV_law_tried dc_law_tried pm_law_tried an_law_tried cd_law_tried ct_law_tried), sl_law_tried⟩)
    (c_law_tried : PySem.W.codeIn K cd_law_tried "_law_tried" = true)
    (k_law_tried : PySem.W.keepIn K (.ref a_law_tried) = true)
    (h_law_tossed : PySem.W.nsIn K mainGlobals "_law_tossed" = some (some (.ref a_law_tossed)))
    (l_law_tossed : K.lookup a_law_tossed = some ⟨oc_law_tossed, od_law_tossed, .func (PySem.W.fnOf "_law_tossed" "_law_tossed" (defArgs s_law_tossed) (defBody s_law_tossed) (defScope s_law_tossed) .none kV_law_tossed dc_law_tossed pm_law_tossed an_law_tossed cd_law_tossed ct_law_tossed), sl_law_tossed⟩)
    (c_law_tossed : PySem.W.codeIn K cd_law_tossed "_law_tossed" = true)
    (k_law_tossed : PySem.W.keepIn K (.ref a_law_tossed) = true)
    (h_law_sunk : PySem.W.nsIn K mainGlobals "_law_sunk" = some (some (.ref a_law_sunk)))
    (l_law_sunk : K.lookup a_law_sunk = some ⟨oc_law_sunk, od_law_sunk, .func (PySem.W.fnOf "_law_sunk" "_law_sunk" (defArgs s_law_sunk) (defBody s_law_sunk) (defScope s_law_sunk) .none kV_law_sunk dc_law_sunk pm_law_sunk an_law_sunk cd_law_sunk ct_law_sunk), sl_law_sunk⟩)
    (c_law_sunk : PySem.W.codeIn K cd_law_sunk "_law_sunk" = true)
    (k_law_sunk : PySem.W.keepIn K (.ref a_law_sunk) = true)
    (h_law_ready : PySem.W.nsIn K mainGlobals "_law_ready" = some (some (.ref a_law_ready)))
    (l_law_ready : K.lookup a_law_ready = some ⟨oc_law_ready, od_law_ready, .func (PySem.W.fnOf "_law_ready" "_law_ready" (defArgs s_law_ready) (defBody s_law_ready) (defScope s_law_ready) .none kV_law_ready dc_law_ready pm_law_ready an_law_ready cd_law_ready ct_law_ready), sl_law_ready⟩)
    (c_law_ready : PySem.W.codeIn K cd_law_ready "_law_ready" = true)
    (k_law_ready : PySem.W.keepIn K (.ref a_law_ready) = true)
    (h_law : PySem.W.nsIn K mainGlobals "law" = some (some (.ref a_law)))
    (l_law : K.lookup a_law = some ⟨oc_law, od_law, .func (PySem.W.fnOf "law" "law" (defArgs s_law) (defBody s_law) (defScope s_law) .none kV_law dc_law pm_law an_law cd_law ct_law), sl_law⟩)
    (c_law : PySem.W.codeIn K cd_law "law" = true)
    (k_law : PySem.W.keepIn K (.ref a_law) = true)
    (hC_BadStep : PySem.W.nsIn K mainGlobals "BadStep" = some (some (.ref C_BadStep)))
    (kc_BadStep : PySem.W.keepIn K (.ref C_BadStep) = true)
    (xb_BadStep : PySem.W.subIn K (.ref C_BadStep) (.type "BaseException") = some true)
    (xt_BadStep : PySem.W.typeIn K (.ref C_BadStep) = some (.type "type"))
    (xd_BadStep : PySem.W.hasDictIn K C_BadStep = true)
    (any_ : PySem.W.nsIn K cStatics "thirdparty.any" = some none)
    (zn_super : PySem.W.nsIn K mainGlobals "super" = some none)
    (hi_BadStep_init : PySem.W.findIn K (.ref C_BadStep) "__init__" = some (some (.ref a_BadStep_init)))
    (ti_BadStep_init : PySem.W.typeIn K (.ref a_BadStep_init) = some (.type "function"))
    (li_BadStep_init : K.lookup a_BadStep_init = some ⟨oc_BadStep_init, od_BadStep_init, .func (PySem.W.ksFn "__init__" "BadStep.__init__" (defArgs s_BadStep_init) (defBody s_BadStep_init) (defScope s_BadStep_init) .none kV_BadStep_init dc_BadStep_init pm_BadStep_init an_BadStep_init (.ref cda_BadStep_init) ct_BadStep_init cc_BadStep_init), sl_BadStep_init⟩)
    (ci_BadStep_init : PySem.W.codeIn K (.ref cda_BadStep_init) "BadStep.__init__" = true)
    (di_BadStep_init : K.lookup cda_BadStep_init = some ⟨ccl_BadStep_init, cdd_BadStep_init, .fields vs_BadStep_init, ccs_BadStep_init⟩)
    (vi_BadStep_init : vs_BadStep_init[2]? = some (.str file tf_BadStep_init))
    (xi_BadStep_init : K.lookup cc_BadStep_init = some ⟨cl_BadStep_init, cld_BadStep_init, .cell (some (.ref C_BadStep)), csl_BadStep_init⟩)
    (si_BadStep_init : PySem.W.ks_superIn K C_BadStep C_BadStep "__init__" = some (some (.builtin "ValueError.__init__")))
    (ui_BadStep_init : PySem.W.subIn K (.ref C_BadStep) (.type "ValueError") = some true)
    (mi_BadStep_init : PySem.W.mroIn K C_BadStep (.ref C_BadStep) = some true)
    (lc_BadStep_init : K.lookup C_BadStep = some (excClassObj nm_BadStep_init q_BadStep_init C_BadStep N_BadStep_init bs_BadStep_init bm_BadStep_init true sn_BadStep_init sub_BadStep_init ab_BadStep_init col_BadStep_init dd_BadStep_init k0_BadStep_init k1_BadStep_init k2_BadStep_init k3_BadStep_init k5_BadStep_init "ValueError.__new__"))
    (rm_BadStep_init : PySem.HandSPX.refsVE bm_BadStep_init = true)
    (sa_BadStep_init : PySem.W.findIn K (.ref C_BadStep) "__setattr__" = some (some (.builtin "object.__setattr__")))
    (no_BadStep_init : PySem.W.findIn K (.ref C_BadStep) "rule" = some none)
    (hC_PlayError : PySem.W.nsIn K mainGlobals "PlayError" = some (some (.ref C_PlayError)))
    (kc_PlayError : PySem.W.keepIn K (.ref C_PlayError) = true)
    (xb_PlayError : PySem.W.subIn K (.ref C_PlayError) (.type "BaseException") = some true)
    (xt_PlayError : PySem.W.typeIn K (.ref C_PlayError) = some (.type "type"))
    (xd_PlayError : PySem.W.hasDictIn K C_PlayError = true)
    (hC_BadBound : PySem.W.nsIn K mainGlobals "BadBound" = some (some (.ref C_BadBound)))
    (hC_BadCall : PySem.W.nsIn K mainGlobals "BadCall" = some (some (.ref C_BadCall)))
    (hC_BadPlayer : PySem.W.nsIn K mainGlobals "BadPlayer" = some (some (.ref C_BadPlayer)))
    (hC_BadText : PySem.W.nsIn K mainGlobals "BadText" = some (some (.ref C_BadText)))
    (hC_TooLarge : PySem.W.nsIn K mainGlobals "TooLarge" = some (some (.ref C_TooLarge)))
    (eg_BadStep : PySem.W.findIn K (.ref C_BadStep) "__getattribute__" = some (some (.builtin "BaseException.__getattribute__")))
    (ek_BadStep : PySem.W.findIn K (.ref C_BadStep) "__getattr__" = some none)
    (ea_BadStep : PySem.W.findIn K (.ref C_BadStep) "__class__" = some (some (.builtin "object.__class__")))
    (em_BadStep : PySem.W.mroIn K C_BadStep (.type "object") = some true)
    (hg_OPERATORS : PySem.W.nsIn K mainGlobals "OPERATORS" = some (some (.ref a_OPERATORS)))
    (lq_OPERATORS : K.lookup a_OPERATORS = some ⟨.type "tuple", od_OPERATORS, .seq #[.str "+" t0_OPERATORS, .str "-" t1_OPERATORS, .str "*" t2_OPERATORS, .str "/" t3_OPERATORS, .str "mod" t4_OPERATORS, .str "<" t5_OPERATORS, .str "=" t6_OPERATORS] n_OPERATORS, sl_OPERATORS⟩)
    (hg_LOOKS : PySem.W.nsIn K mainGlobals "LOOKS" = some (some (.ref a_LOOKS)))
    (lq_LOOKS : K.lookup a_LOOKS = some ⟨.type "tuple", od_LOOKS, .seq #[.str "has" t0_LOOKS, .str "cell" t1_LOOKS] n_LOOKS, sl_LOOKS⟩)
    (hg_LONGEST_NAME : PySem.W.nsIn K mainGlobals "LONGEST_NAME" = some (some (.int 12 tk_LONGEST_NAME)))
    (hg_LETTERS : PySem.W.nsIn K mainGlobals "LETTERS" = some (some (.str "abcdefghijklmnopqrstuvwxyz" tk_LETTERS)))
    (hg_DIGITS : PySem.W.nsIn K mainGlobals "DIGITS" = some (some (.str "0123456789" tk_DIGITS)))
    (hg_KEY_WORDS : PySem.W.nsIn K mainGlobals "KEY_WORDS" = some (some (.ref a_KEY_WORDS)))
    (lq_KEY_WORDS : K.lookup a_KEY_WORDS = some ⟨.type "tuple", od_KEY_WORDS, .seq #[.str "var" t0_KEY_WORDS, .str "table" t1_KEY_WORDS, .str "lots" t2_KEY_WORDS, .str "proc" t3_KEY_WORDS, .str "local" t4_KEY_WORDS, .str "set" t5_KEY_WORDS, .str "let" t6_KEY_WORDS, .str "draw" t7_KEY_WORDS, .str "put" t8_KEY_WORDS, .str "lot" t9_KEY_WORDS, .str "ask" t10_KEY_WORDS, .str "if" t11_KEY_WORDS, .str "else" t12_KEY_WORDS, .str "end" t13_KEY_WORDS, .str "bad" t14_KEY_WORDS, .str "after" t15_KEY_WORDS, .str "answer" t16_KEY_WORDS, .str "has" t17_KEY_WORDS, .str "cell" t18_KEY_WORDS, .str "mod" t19_KEY_WORDS] n_KEY_WORDS, sl_KEY_WORDS⟩)
    (hg_MOST_DRAWN : PySem.W.nsIn K mainGlobals "MOST_DRAWN" = some (some (.int 64 tk_MOST_DRAWN)))
    (hg_MOST_BEFORE_TOSS : PySem.W.nsIn K mainGlobals "MOST_BEFORE_TOSS" = some (some (.int 5 tk_MOST_BEFORE_TOSS)))
    (hg_RULES : PySem.W.nsIn K mainGlobals "RULES" = some (some (.ref a_RULES)))
    (kd_RULES : ∃ es n, L2.KDict K w a_RULES es n)
    (ns_RULES_0 : PySem.W.nsIn K a_RULES "toss" = some (some (.ref a_toss_step)))
    (ns_RULES_1 : PySem.W.nsIn K a_RULES "sink" = some (some (.ref a_sink_step)))
    (zn_len : PySem.W.nsIn K mainGlobals "len" = some none)
    (zn_range : PySem.W.nsIn K mainGlobals "range" = some none)
    (zn_int : PySem.W.nsIn K mainGlobals "int" = some none)
    (zn_tuple : PySem.W.nsIn K mainGlobals "tuple" = some none)
    (zn_list : PySem.W.nsIn K mainGlobals "list" = some none)
    (zn_isinstance : PySem.W.nsIn K mainGlobals "isinstance" = some none)
    (zn_abs : PySem.W.nsIn K mainGlobals "abs" = some none)
    (zn_all : PySem.W.nsIn K mainGlobals "all" = some none)
    (xga_BadStep : PySem.W.findIn K (.ref C_BadStep) "__getattribute__" = some (some (.builtin "BaseException.__getattribute__")))
    (xgg_BadStep : PySem.W.findIn K (.ref C_BadStep) "__getattr__" = some none)
    (sub_sp : PySem.W.subIn K (.ref C_BadStep) (.ref C_PlayError) = some true)
    (ki_s : PySem.W.kitOne K (.ref C_BadStep) (.ref C_BadStep) = some true)
    (ki_e : PySem.W.kitAny K (.ref C_BadStep) [.ref C_BadBound, .ref C_BadCall, .ref C_BadPlayer, .ref C_BadText, .ref C_TooLarge] = some false)
    (hP_ : PrF l.prog file) :
    ∃ fd : FuncData, (∀ (s : Shared) (v : Value), BindsTo s fd ⟨[v], []⟩ [("script", v)]) ∧ ∀ base : Heap, K.In base → base.Ns mainGlobals mg → FnOk l.prog w K mg base CX0 60 fa fd ["script"] (spLaw K) := by
  have e := hfa.symm.trans (PySem.W.mg_of X G h_law)
  cases e
  have F_law_cell := fun_mk (st := s_law_cell) l_law_cell c_law_cell k_law_cell
  have b_law_cell := F_law_cell.binds (ps := ["script", "k"]) fun _ _ _ _ _ _ us hl => match us, hl with | [_, _], _ => rfl
  have F_law_row := fun_mk (st := s_law_row) l_law_row c_law_row k_law_row
  have b_law_row := F_law_row.binds (ps := ["cell", "count", "size"]) fun _ _ _ _ _ _ us hl => match us, hl with | [_, _, _], _ => rfl
  have F_law_side := fun_mk (st := s_law_side) l_law_side c_law_side k_law_side
  have b_law_side := F_law_side.binds (ps := ["code", "names", "variables", "tables"]) fun _ _ _ _ _ _ us hl => match us, hl with | [_, _, _, _], _ => rfl
  have F_law_value := fun_mk (st := s_law_value) l_law_value c_law_value k_law_value
  have b_law_value := F_law_value.binds (ps := ["cell", "names", "variables", "tables"]) fun _ _ _ _ _ _ us hl => match us, hl with | [_, _, _, _], _ => rfl
  have F_law_plain := fun_mk (st := s_law_plain) l_law_plain c_law_plain k_law_plain
  have b_law_plain := F_law_plain.binds (ps := ["cell", "names", "variables", "tables", "lots"]) fun _ _ _ _ _ _ us hl => match us, hl with | [_, _, _, _, _], _ => rfl
  have F_law_block := fun_mk (st := s_law_block) l_law_block c_law_block k_law_block
  have b_law_block := F_law_block.binds (ps := ["cells", "names", "variables", "tables", "lots"]) fun _ _ _ _ _ _ us hl => match us, hl with | [_, _, _, _, _], _ => rfl
  have F_law_game := fun_mk (st := s_law_game) l_law_game c_law_game k_law_game
  have b_law_game := F_law_game.binds (ps := ["script", "at"]) fun _ _ _ _ _ _ us hl => match us, hl with | [_, _], _ => rfl
  have F_is_name := fun_mk (st := s_is_name) l_is_name c_is_name k_is_name
  have b_is_name := F_is_name.binds (ps := ["word"]) fun _ _ _ _ _ _ us hl => match us, hl with | [_], _ => rfl
  have F_Game_init := fun_mk (st := s_Game_init) l_Game_init c_Game_init k_Game_init
  have b_Game_init := F_Game_init.binds (ps := ["self", "variables", "tables", "lots", "procs"]) fun _ _ _ _ _ _ us hl => match us, hl with | [_, _, _, _, _], _ => rfl
  have F_Game_eq := fun_mk (st := s_Game_eq) l_Game_eq c_Game_eq k_Game_eq
  have b_Game_eq := F_Game_eq.binds (ps := ["self", "other"]) fun _ _ _ _ _ _ us hl => match us, hl with | [_, _], _ => rfl
  have F_Game_proc := fun_mk (st := s_Game_proc) l_Game_proc c_Game_proc k_Game_proc
  have b_Game_proc := F_Game_proc.binds (ps := ["self", "name"]) fun _ _ _ _ _ _ us hl => match us, hl with | [_, _], _ => rfl
  have F_first_parts := fun_mk (st := s_first_parts) l_first_parts c_first_parts k_first_parts
  have b_first_parts := F_first_parts.binds (ps := ["rows"]) fun _ _ _ _ _ _ us hl => match us, hl with | [_], _ => rfl
  have F_every_expression := fun_mk (st := s_every_expression) l_every_expression c_every_expression k_every_expression
  have b_every_expression := F_every_expression.binds (ps := ["expression"]) fun _ _ _ _ _ _ us hl => match us, hl with | [_], _ => rfl
  have F_expression_reads := fun_mk (st := s_expression_reads) l_expression_reads c_expression_reads k_expression_reads
  have b_expression_reads := F_expression_reads.binds (ps := ["expression"]) fun _ _ _ _ _ _ us hl => match us, hl with | [_], _ => rfl
  have F_reads_local := fun_mk (st := s_reads_local) l_reads_local c_reads_local k_reads_local
  have b_reads_local := F_reads_local.binds (ps := ["expression", "local"]) fun _ _ _ _ _ _ us hl => match us, hl with | [_, _], _ => rfl
  have F_require := fun_mk (st := s_require) l_require c_require k_require
  have b_require := F_require.binds (ps := ["holds", "step"]) fun _ _ _ _ _ _ us hl => match us, hl with | [_, _], _ => rfl
  have F_proc_of := fun_mk (st := s_proc_of) l_proc_of c_proc_of k_proc_of
  have b_proc_of := F_proc_of.binds (ps := ["game", "step"]) fun _ _ _ _ _ _ us hl => match us, hl with | [_, _], _ => rfl
  have F_statement_of := fun_mk (st := s_statement_of) l_statement_of c_statement_of k_statement_of
  have b_statement_of := F_statement_of.binds (ps := ["game", "step"]) fun _ _ _ _ _ _ us hl => match us, hl with | [_, _], _ => rfl
  have F_pair_of := fun_mk (st := s_pair_of) l_pair_of c_pair_of k_pair_of
  have b_pair_of := F_pair_of.binds (ps := ["game", "step"]) fun _ _ _ _ _ _ us hl => match us, hl with | [_, _], _ => rfl
  have F_with_proc := fun_mk (st := s_with_proc) l_with_proc c_with_proc k_with_proc
  have b_with_proc := F_with_proc.binds (ps := ["game", "new"]) fun _ _ _ _ _ _ us hl => match us, hl with | [_, _], _ => rfl
  have F_replaced := fun_mk (st := s_replaced) l_replaced c_replaced k_replaced
  have b_replaced := F_replaced.binds (ps := ["game", "proc", "at", "many", "statements"]) fun _ _ _ _ _ _ us hl => match us, hl with | [_, _, _, _, _], _ => rfl
  have F_toss_step := fun_mk (st := s_toss_step) l_toss_step c_toss_step k_toss_step
  have b_toss_step := F_toss_step.binds (ps := ["game", "step"]) fun _ _ _ _ _ _ us hl => match us, hl with | [_, _], _ => rfl
  have F_sink_step := fun_mk (st := s_sink_step) l_sink_step c_sink_step k_sink_step
  have b_sink_step := F_sink_step.binds (ps := ["game", "step"]) fun _ _ _ _ _ _ us hl => match us, hl with | [_, _], _ => rfl
  have F_same := fun_mk (st := s_same) l_same c_same k_same
  have b_same := F_same.binds (ps := ["game", "step"]) fun _ _ _ _ _ _ us hl => match us, hl with | [_, _], _ => rfl
  have F_law_made := fun_mk (st := s_law_made) l_law_made c_law_made k_law_made
  have b_law_made := F_law_made.binds (ps := ["game"]) fun _ _ _ _ _ _ us hl => match us, hl with | [_], _ => rfl
  have F_law_uses := fun_mk (st := s_law_uses) l_law_uses c_law_uses k_law_uses
  have b_law_uses := F_law_uses.binds (ps := ["expression"]) fun _ _ _ _ _ _ us hl => match us, hl with | [_], _ => rfl
  have F_law_with := fun_mk (st := s_law_with) l_law_with c_law_with k_law_with
  have b_law_with := F_law_with.binds (ps := ["game", "name", "block", "names"]) fun _ _ _ _ _ _ us hl => match us, hl with | [_, _, _, _], _ => rfl
  have F_law_proc := fun_mk (st := s_law_proc) l_law_proc c_law_proc k_law_proc
  have b_law_proc := F_law_proc.binds (ps := ["game", "name"]) fun _ _ _ _ _ _ us hl => match us, hl with | [_, _], _ => rfl
  have F_law_parts := fun_mk (st := s_law_parts) l_law_parts c_law_parts k_law_parts
  have b_law_parts := F_law_parts.binds (ps := ["game"]) fun _ _ _ _ _ _ us hl => match us, hl with | [_], _ => rfl
  have F_law_tried := fun_mk (st := s_law_tried) l_law_tried c_law_tried k_law_tried
  have b_law_tried := F_law_tried.binds (ps := ["made", "step", "due"]) fun _ _ _ _ _ _ us hl => match us, hl with | [_, _, _], _ => rfl
  have F_law_tossed := fun_mk (st := s_law_tossed) l_law_tossed c_law_tossed k_law_tossed
  have b_law_tossed := F_law_tossed.binds (ps := ["game", "name", "at", "local", "count"]) fun _ _ _ _ _ _ us hl => match us, hl with | [_, _, _, _, _], _ => rfl
  have F_law_sunk := fun_mk (st := s_law_sunk) l_law_sunk c_law_sunk k_law_sunk
  have b_law_sunk := F_law_sunk.binds (ps := ["game", "name", "at"]) fun _ _ _ _ _ _ us hl => match us, hl with | [_, _, _], _ => rfl
  have F_law_ready := fun_mk (st := s_law_ready) l_law_ready c_law_ready k_law_ready
  have b_law_ready := F_law_ready.binds (ps := ["game", "cell"]) fun _ _ _ _ _ _ us hl => match us, hl with | [_, _], _ => rfl
  have F_law := fun_mk (st := s_law) l_law c_law k_law
  have b_law := F_law.binds (ps := ["script"]) fun _ _ _ _ _ _ us hl => match us, hl with | [_], _ => rfl
  have hRULES := kd_RULES
  refine ⟨PySem.W.fnOf "law" "law" (defArgs s_law) (defBody s_law) (defScope s_law) .none kV_law dc_law pm_law an_law cd_law ct_law, fun s v => .of_eq rfl, fun base _ _ => ?_⟩
  exact ok_law hP_ (mg := mg) (K := K) {
    a_BadStep_init := _
    fd_BadStep_init := _
    a_law_cell := _
    fd_law_cell := _
    a_law_row := _
    fd_law_row := _
    a_law_side := _
    fd_law_side := _
    a_law_value := _
    fd_law_value := _
    a_law_plain := _
    fd_law_plain := _
    a_law_block := _
    fd_law_block := _
    a_law_game := _
    fd_law_game := _
    a_is_name := _
    fd_is_name := _
    a_Game_init := _
    fd_Game_init := _
    a_Game_eq := _
    fd_Game_eq := _
    a_Game_proc := _
    fd_Game_proc := _
    a_first_parts := _
    fd_first_parts := _
    a_every_expression := _
    fd_every_expression := _
    a_expression_reads := _
    fd_expression_reads := _
    a_reads_local := _
    fd_reads_local := _
    a_require := _
    fd_require := _
    a_proc_of := _
    fd_proc_of := _
    a_statement_of := _
    fd_statement_of := _
    a_pair_of := _
    fd_pair_of := _
    a_with_proc := _
    fd_with_proc := _
    a_replaced := _
    fd_replaced := _
    a_toss_step := _
    fd_toss_step := _
    a_sink_step := _
    fd_sink_step := _
    a_same := _
    fd_same := _
    a_law_made := _
    fd_law_made := _
    a_law_uses := _
    fd_law_uses := _
    a_law_with := _
    fd_law_with := _
    a_law_proc := _
    fd_law_proc := _
    a_law_parts := _
    fd_law_parts := _
    a_law_tried := _
    fd_law_tried := _
    a_law_tossed := _
    fd_law_tossed := _
    a_law_sunk := _
    fd_law_sunk := _
    a_law_ready := _
    fd_law_ready := _
    a_law := _
    fd_law := _
    C_Game := _
    C_BadStep := _
    C_PlayError := _
    C_BadBound := _
    C_BadCall := _
    C_BadPlayer := _
    C_BadText := _
    C_TooLarge := _
    o_n := o_n
    o_t := o_t
    g_Game := PySem.W.mg_of X G hC_Game
    cl_Game := ⟨pg_Game, hd_Game, po_Game, sa_Game⟩
    sf_Game := sf_Game
    na_Game_variables := na_Game_variables
    na_Game_tables := na_Game_tables
    na_Game_lots := na_Game_lots
    na_Game_procs := na_Game_procs
    ia_Game := ia_Game
    im_Game := im_Game
    ik_Game := ik_Game
    F_law_cell := F_law_cell
    b_law_cell := b_law_cell
    k_law_cell := k_law_cell
    g_law_cell := PySem.W.mg_of X G h_law_cell
    F_law_row := F_law_row
    b_law_row := b_law_row
    k_law_row := k_law_row
    g_law_row := PySem.W.mg_of X G h_law_row
    F_law_side := F_law_side
    b_law_side := b_law_side
    k_law_side := k_law_side
    g_law_side := PySem.W.mg_of X G h_law_side
    F_law_value := F_law_value
    b_law_value := b_law_value
    k_law_value := k_law_value
    g_law_value := PySem.W.mg_of X G h_law_value
    F_law_plain := F_law_plain
    b_law_plain := b_law_plain
    k_law_plain := k_law_plain
    g_law_plain := PySem.W.mg_of X G h_law_plain
    F_law_block := F_law_block
    b_law_block := b_law_block
    k_law_block := k_law_block
    g_law_block := PySem.W.mg_of X G h_law_block
    F_law_game := F_law_game
    b_law_game := b_law_game
    k_law_game := k_law_game
    g_law_game := PySem.W.mg_of X G h_law_game
    F_is_name := F_is_name
    b_is_name := b_is_name
    k_is_name := k_is_name
    g_is_name := PySem.W.mg_of X G h_is_name
    F_Game_init := F_Game_init
    b_Game_init := b_Game_init
    k_Game_init := k_Game_init
    m_Game_init := ⟨h_Game_init, i_Game_init, k_Game_init⟩
    F_Game_eq := F_Game_eq
    b_Game_eq := b_Game_eq
    k_Game_eq := k_Game_eq
    m_Game_eq := ⟨h_Game_eq, i_Game_eq, k_Game_eq⟩
    F_Game_proc := F_Game_proc
    b_Game_proc := b_Game_proc
    k_Game_proc := k_Game_proc
    m_Game_proc := ⟨h_Game_proc, i_Game_proc, k_Game_proc⟩
    F_first_parts := F_first_parts
    b_first_parts := b_first_parts
    k_first_parts := k_first_parts
    g_first_parts := PySem.W.mg_of X G h_first_parts
    F_every_expression := F_every_expression
    b_every_expression := b_every_expression
    k_every_expression := k_every_expression
    g_every_expression := PySem.W.mg_of X G h_every_expression
    F_expression_reads := F_expression_reads
    b_expression_reads := b_expression_reads
    k_expression_reads := k_expression_reads
    g_expression_reads := PySem.W.mg_of X G h_expression_reads
    F_reads_local := F_reads_local
    b_reads_local := b_reads_local
    k_reads_local := k_reads_local
    g_reads_local := PySem.W.mg_of X G h_reads_local
    F_require := F_require
    b_require := b_require
    k_require := k_require
    g_require := PySem.W.mg_of X G h_require
    F_proc_of := F_proc_of
    b_proc_of := b_proc_of
    k_proc_of := k_proc_of
    g_proc_of := PySem.W.mg_of X G h_proc_of
    F_statement_of := F_statement_of
    b_statement_of := b_statement_of
    k_statement_of := k_statement_of
    g_statement_of := PySem.W.mg_of X G h_statement_of
    F_pair_of := F_pair_of
    b_pair_of := b_pair_of
    k_pair_of := k_pair_of
    g_pair_of := PySem.W.mg_of X G h_pair_of
    F_with_proc := F_with_proc
    b_with_proc := b_with_proc
    k_with_proc := k_with_proc
    g_with_proc := PySem.W.mg_of X G h_with_proc
    F_replaced := F_replaced
    b_replaced := b_replaced
    k_replaced := k_replaced
    g_replaced := PySem.W.mg_of X G h_replaced
    F_toss_step := F_toss_step
    b_toss_step := b_toss_step
    k_toss_step := k_toss_step
    g_toss_step := PySem.W.mg_of X G h_toss_step
    F_sink_step := F_sink_step
    b_sink_step := b_sink_step
    k_sink_step := k_sink_step
    g_sink_step := PySem.W.mg_of X G h_sink_step
    F_same := F_same
    b_same := b_same
    k_same := k_same
    g_same := PySem.W.mg_of X G h_same
    F_law_made := F_law_made
    b_law_made := b_law_made
    k_law_made := k_law_made
    g_law_made := PySem.W.mg_of X G h_law_made
    F_law_uses := F_law_uses
    b_law_uses := b_law_uses
    k_law_uses := k_law_uses
    g_law_uses := PySem.W.mg_of X G h_law_uses
    F_law_with := F_law_with
    b_law_with := b_law_with
    k_law_with := k_law_with
    g_law_with := PySem.W.mg_of X G h_law_with
    F_law_proc := F_law_proc
    b_law_proc := b_law_proc
    k_law_proc := k_law_proc
    g_law_proc := PySem.W.mg_of X G h_law_proc
    F_law_parts := F_law_parts
    b_law_parts := b_law_parts
    k_law_parts := k_law_parts
    g_law_parts := PySem.W.mg_of X G h_law_parts
    F_law_tried := F_law_tried
    b_law_tried := b_law_tried
    k_law_tried := k_law_tried
    g_law_tried := PySem.W.mg_of X G h_law_tried
    F_law_tossed := F_law_tossed
    b_law_tossed := b_law_tossed
    k_law_tossed := k_law_tossed
    g_law_tossed := PySem.W.mg_of X G h_law_tossed
    F_law_sunk := F_law_sunk
    b_law_sunk := b_law_sunk
    k_law_sunk := k_law_sunk
    g_law_sunk := PySem.W.mg_of X G h_law_sunk
    F_law_ready := F_law_ready
    b_law_ready := b_law_ready
    k_law_ready := k_law_ready
    g_law_ready := PySem.W.mg_of X G h_law_ready
    F_law := F_law
    b_law := b_law
    k_law := k_law
    g_law := PySem.W.mg_of X G h_law
    mk_Game := ⟨mk_Game, h_Game_init, i_Game_init, kc_Game⟩
    g_BadStep := PySem.W.mg_of X G hC_BadStep
    kc_BadStep := kc_BadStep
    xb_BadStep := xb_BadStep
    xt_BadStep := xt_BadStep
    xd_BadStep := xd_BadStep
    z_super := PySem.W.mg_none_of X G zn_super
    E_BadStep := { ex := ⟨_, _, _, _, _, _, _, _, _, _, _, _, _, _, _, _, _, _, _, rfl, li_BadStep_init, ci_BadStep_init, di_BadStep_init, vi_BadStep_init, xi_BadStep_init⟩, any := any_, sup := si_BadStep_init, subV := ui_BadStep_init, mro := mi_BadStep_init, T := ⟨⟨_, _, _, _, _, _, _, _, _, _, _, _, _, _, _, lc_BadStep_init, rm_BadStep_init⟩, sa_BadStep_init, xb_BadStep, xt_BadStep, kc_BadStep⟩, iC := hi_BadStep_init, tI := ti_BadStep_init, no := no_BadStep_init, z := PySem.W.mg_none_of X G zn_super }
    b_BadStep_init := (.all fun us hl => match us, hl with | [_, _], _ => rfl)
    g_PlayError := PySem.W.mg_of X G hC_PlayError
    kc_PlayError := kc_PlayError
    xb_PlayError := xb_PlayError
    xt_PlayError := xt_PlayError
    xd_PlayError := xd_PlayError
    g_BadBound := PySem.W.mg_of X G hC_BadBound
    g_BadCall := PySem.W.mg_of X G hC_BadCall
    g_BadPlayer := PySem.W.mg_of X G hC_BadPlayer
    g_BadText := PySem.W.mg_of X G hC_BadText
    g_TooLarge := PySem.W.mg_of X G hC_TooLarge
    ec_BadStep := ⟨eg_BadStep, ek_BadStep, xb_BadStep, xd_BadStep, ea_BadStep, o_n, o_t, em_BadStep⟩
    a_OPERATORS := _
    g_OPERATORS := PySem.W.mg_of X G hg_OPERATORS
    q_OPERATORS := fun H => .inr ⟨_, _, _, lq_OPERATORS, rfl, rfl, (by show 7 ≤ sizeLine; decide), (.cons ⟨_, rfl⟩ (.cons ⟨_, rfl⟩ (.cons ⟨_, rfl⟩ (.cons ⟨_, rfl⟩ (.cons ⟨_, rfl⟩ (.cons ⟨_, rfl⟩ (.cons ⟨_, rfl⟩ .nil)))))))⟩
    a_LOOKS := _
    g_LOOKS := PySem.W.mg_of X G hg_LOOKS
    q_LOOKS := fun H => .inr ⟨_, _, _, lq_LOOKS, rfl, rfl, (by show 2 ≤ sizeLine; decide), (.cons ⟨_, rfl⟩ (.cons ⟨_, rfl⟩ .nil))⟩
    g_LONGEST_NAME := ⟨_, PySem.W.mg_of X G hg_LONGEST_NAME⟩
    g_LETTERS := ⟨_, PySem.W.mg_of X G hg_LETTERS⟩
    g_DIGITS := ⟨_, PySem.W.mg_of X G hg_DIGITS⟩
    a_KEY_WORDS := _
    g_KEY_WORDS := PySem.W.mg_of X G hg_KEY_WORDS
    q_KEY_WORDS := fun H => .inr ⟨_, _, _, lq_KEY_WORDS, rfl, rfl, (by show 20 ≤ sizeLine; decide), (.cons ⟨_, rfl⟩ (.cons ⟨_, rfl⟩ (.cons ⟨_, rfl⟩ (.cons ⟨_, rfl⟩ (.cons ⟨_, rfl⟩ (.cons ⟨_, rfl⟩ (.cons ⟨_, rfl⟩ (.cons ⟨_, rfl⟩ (.cons ⟨_, rfl⟩ (.cons ⟨_, rfl⟩ (.cons ⟨_, rfl⟩ (.cons ⟨_, rfl⟩ (.cons ⟨_, rfl⟩ (.cons ⟨_, rfl⟩ (.cons ⟨_, rfl⟩ (.cons ⟨_, rfl⟩ (.cons ⟨_, rfl⟩ (.cons ⟨_, rfl⟩ (.cons ⟨_, rfl⟩ (.cons ⟨_, rfl⟩ .nil))))))))))))))))))))⟩
    g_MOST_DRAWN := ⟨_, PySem.W.mg_of X G hg_MOST_DRAWN⟩
    g_MOST_BEFORE_TOSS := ⟨_, PySem.W.mg_of X G hg_MOST_BEFORE_TOSS⟩
    a_RULES := _
    g_RULES := PySem.W.mg_of X G hg_RULES
    ns_RULES_0 := ns_RULES_0
    ns_RULES_1 := ns_RULES_1
    z_len := PySem.W.mg_none_of X G zn_len
    z_range := PySem.W.mg_none_of X G zn_range
    z_int := PySem.W.mg_none_of X G zn_int
    z_tuple := PySem.W.mg_none_of X G zn_tuple
    z_list := PySem.W.mg_none_of X G zn_list
    z_isinstance := PySem.W.mg_none_of X G zn_isinstance
    z_abs := PySem.W.mg_none_of X G zn_abs
    z_all := PySem.W.mg_none_of X G zn_all
    xga_BadStep := xga_BadStep
    xgg_BadStep := xgg_BadStep
    sub_sp := sub_sp
    ki_s := ki_s
    ki_e := ki_e } hRULES
def exs0 : List (PySem.W.Frag → Bool) := [
    fun K => HdF.vexB K (He.ga K "BadStep"),
    fun K => HdF.tupAt K (He.ga K "OPERATORS") [.str "+", .str "-", .str "*", .str "/", .str "mod", .str "<", .str "="],
    fun K => HdF.tupAt K (He.ga K "LOOKS") [.str "has", .str "cell"],
    fun K => HdF.intB K "LONGEST_NAME" 12,
    fun K => HdF.strB K "LETTERS" "abcdefghijklmnopqrstuvwxyz",
    fun K => HdF.strB K "DIGITS" "0123456789",
    fun K => HdF.tupAt K (He.ga K "KEY_WORDS") [.str "var", .str "table", .str "lots", .str "proc", .str "local", .str "set", .str "let", .str "draw", .str "put", .str "lot", .str "ask", .str "if", .str "else", .str "end", .str "bad", .str "after", .str "answer", .str "has", .str "cell", .str "mod"],
    fun K => HdF.intB K "MOST_DRAWN" 64,
    fun K => HdF.intB K "MOST_BEFORE_TOSS" 5,
    fun K => decide (PySem.W.specialIn K (.builtin "object.__class__") "__get__" = some (some (.builtin "getset_descriptor.__get__"))),
    fun K => decide (PySem.W.takesIn K (.builtin "object.__class__") = some true),
    fun K => decide (PySem.W.nsIn K mainGlobals "Game" = some (some (.ref (He.ga K "Game")))),
    fun K => decide (PySem.W.plainGet K (He.ga K "Game") Str.empty = true),
    fun K => decide (PySem.W.hasDictIn K (He.ga K "Game") = true),
    fun K => decide (PySem.W.plainOver K (He.ga K "Game") = true),
    fun K => decide (PySem.W.findIn K (.ref (He.ga K "Game")) "__setattr__" = some (some (.builtin "object.__setattr__"))),
    fun K => decide (PySem.W.makesIn K (He.ga K "Game") = true),
    fun K => decide (PySem.W.keepIn K (.ref (He.ga K "Game")) = true),
    fun K => decide (PySem.W.selfFirst K (He.ga K "Game") = true),
    fun K => decide (PySem.W.findIn K (.ref (He.ga K "Game")) "variables" = some none),
    fun K => decide (PySem.W.findIn K (.ref (He.ga K "Game")) "tables" = some none),
    fun K => decide (PySem.W.findIn K (.ref (He.ga K "Game")) "lots" = some none),
    fun K => decide (PySem.W.findIn K (.ref (He.ga K "Game")) "procs" = some none),
    fun K => decide (PySem.W.findIn K (.ref (He.ga K "Game")) "__class__" = some (some (.builtin "object.__class__"))),
    fun K => decide (PySem.W.mroIn K (He.ga K "Game") (.type "object") = some true),
    fun K => decide (PySem.W.kitOne K (.ref (He.ga K "Game")) (.ref (He.ga K "Game")) = some true),
    fun K => decide (PySem.W.nsIn K mainGlobals "_law_cell" = some (some (.ref (He.ga K "_law_cell")))),
    fun K => decide (PySem.W.nsIn K mainGlobals "_law_row" = some (some (.ref (He.ga K "_law_row")))),
    fun K => decide (PySem.W.nsIn K mainGlobals "_law_side" = some (some (.ref (He.ga K "_law_side")))),
    fun K => decide (PySem.W.nsIn K mainGlobals "_law_value" = some (some (.ref (He.ga K "_law_value")))),
    fun K => decide (PySem.W.nsIn K mainGlobals "_law_plain" = some (some (.ref (He.ga K "_law_plain")))),
    fun K => decide (PySem.W.nsIn K mainGlobals "_law_block" = some (some (.ref (He.ga K "_law_block")))),
    fun K => decide (PySem.W.nsIn K mainGlobals "_law_game" = some (some (.ref (He.ga K "_law_game")))),
    fun K => decide (PySem.W.nsIn K mainGlobals "is_name" = some (some (.ref (He.ga K "is_name")))),
    fun K => decide (PySem.W.findIn K (.ref (He.ga K "Game")) "__init__" = some (some (.ref (He.ma K (He.ga K "Game") "__init__")))),
    fun K => decide (PySem.W.isFn K (.ref (He.ma K (He.ga K "Game") "__init__")) = true),
    fun K => decide (PySem.W.findIn K (.ref (He.ga K "Game")) "__eq__" = some (some (.ref (He.ma K (He.ga K "Game") "__eq__")))),
    fun K => decide (PySem.W.isFn K (.ref (He.ma K (He.ga K "Game") "__eq__")) = true),
    fun K => decide (PySem.W.findIn K (.ref (He.ga K "Game")) "proc" = some (some (.ref (He.ma K (He.ga K "Game") "proc")))),
    fun K => decide (PySem.W.isFn K (.ref (He.ma K (He.ga K "Game") "proc")) = true)]
def exs1 : List (PySem.W.Frag → Bool) := [
    fun K => decide (PySem.W.nsIn K mainGlobals "first_parts" = some (some (.ref (He.ga K "first_parts")))),
    fun K => decide (PySem.W.nsIn K mainGlobals "every_expression" = some (some (.ref (He.ga K "every_expression")))),
    fun K => decide (PySem.W.nsIn K mainGlobals "expression_reads" = some (some (.ref (He.ga K "expression_reads")))),
    fun K => decide (PySem.W.nsIn K mainGlobals "reads_local" = some (some (.ref (He.ga K "reads_local")))),
    fun K => decide (PySem.W.nsIn K mainGlobals "require" = some (some (.ref (He.ga K "require")))),
    fun K => decide (PySem.W.nsIn K mainGlobals "proc_of" = some (some (.ref (He.ga K "proc_of")))),
    fun K => decide (PySem.W.nsIn K mainGlobals "statement_of" = some (some (.ref (He.ga K "statement_of")))),
    fun K => decide (PySem.W.nsIn K mainGlobals "pair_of" = some (some (.ref (He.ga K "pair_of")))),
    fun K => decide (PySem.W.nsIn K mainGlobals "with_proc" = some (some (.ref (He.ga K "with_proc")))),
    fun K => decide (PySem.W.nsIn K mainGlobals "replaced" = some (some (.ref (He.ga K "replaced")))),
    fun K => decide (PySem.W.nsIn K mainGlobals "toss_step" = some (some (.ref (He.ga K "toss_step")))),
    fun K => decide (PySem.W.nsIn K mainGlobals "sink_step" = some (some (.ref (He.ga K "sink_step")))),
    fun K => decide (PySem.W.nsIn K mainGlobals "same" = some (some (.ref (He.ga K "same")))),
    fun K => decide (PySem.W.nsIn K mainGlobals "_law_made" = some (some (.ref (He.ga K "_law_made")))),
    fun K => decide (PySem.W.nsIn K mainGlobals "_law_uses" = some (some (.ref (He.ga K "_law_uses")))),
    fun K => decide (PySem.W.nsIn K mainGlobals "_law_with" = some (some (.ref (He.ga K "_law_with")))),
    fun K => decide (PySem.W.nsIn K mainGlobals "_law_proc" = some (some (.ref (He.ga K "_law_proc")))),
    fun K => decide (PySem.W.nsIn K mainGlobals "_law_parts" = some (some (.ref (He.ga K "_law_parts")))),
    fun K => decide (PySem.W.nsIn K mainGlobals "_law_tried" = some (some (.ref (He.ga K "_law_tried")))),
    fun K => decide (PySem.W.nsIn K mainGlobals "_law_tossed" = some (some (.ref (He.ga K "_law_tossed")))),
    fun K => decide (PySem.W.nsIn K mainGlobals "_law_sunk" = some (some (.ref (He.ga K "_law_sunk")))),
    fun K => decide (PySem.W.nsIn K mainGlobals "_law_ready" = some (some (.ref (He.ga K "_law_ready")))),
    fun K => decide (PySem.W.nsIn K mainGlobals "law" = some (some (.ref (He.ga K "law")))),
    fun K => decide (PySem.W.nsIn K mainGlobals "BadStep" = some (some (.ref (He.ga K "BadStep")))),
    fun K => decide (PySem.W.keepIn K (.ref (He.ga K "BadStep")) = true),
    fun K => decide (PySem.W.subIn K (.ref (He.ga K "BadStep")) (.type "BaseException") = some true),
    fun K => decide (PySem.W.typeIn K (.ref (He.ga K "BadStep")) = some (.type "type")),
    fun K => decide (PySem.W.hasDictIn K (He.ga K "BadStep") = true),
    fun K => decide (PySem.W.nsIn K cStatics "thirdparty.any" = some none),
    fun K => decide (PySem.W.nsIn K mainGlobals "super" = some none),
    fun K => decide (PySem.W.findIn K (.ref (He.ga K "BadStep")) "__init__" = some (some (.ref (He.ma K (He.ga K "BadStep") "__init__")))),
    fun K => decide (PySem.W.typeIn K (.ref (He.ma K (He.ga K "BadStep") "__init__")) = some (.type "function")),
    fun K => decide (PySem.W.ks_superIn K (He.ga K "BadStep") (He.ga K "BadStep") "__init__" = some (some (.builtin "ValueError.__init__"))),
    fun K => decide (PySem.W.subIn K (.ref (He.ga K "BadStep")) (.type "ValueError") = some true),
    fun K => decide (PySem.W.mroIn K (He.ga K "BadStep") (.ref (He.ga K "BadStep")) = some true),
    fun K => decide (PySem.W.findIn K (.ref (He.ga K "BadStep")) "__setattr__" = some (some (.builtin "object.__setattr__"))),
    fun K => decide (PySem.W.findIn K (.ref (He.ga K "BadStep")) "rule" = some none),
    fun K => decide (PySem.W.nsIn K mainGlobals "PlayError" = some (some (.ref (He.ga K "PlayError")))),
    fun K => decide (PySem.W.keepIn K (.ref (He.ga K "PlayError")) = true),
    fun K => decide (PySem.W.subIn K (.ref (He.ga K "PlayError")) (.type "BaseException") = some true)]
def exs2 : List (PySem.W.Frag → Bool) := [
    fun K => decide (PySem.W.typeIn K (.ref (He.ga K "PlayError")) = some (.type "type")),
    fun K => decide (PySem.W.hasDictIn K (He.ga K "PlayError") = true),
    fun K => decide (PySem.W.nsIn K mainGlobals "BadBound" = some (some (.ref (He.ga K "BadBound")))),
    fun K => decide (PySem.W.nsIn K mainGlobals "BadCall" = some (some (.ref (He.ga K "BadCall")))),
    fun K => decide (PySem.W.nsIn K mainGlobals "BadPlayer" = some (some (.ref (He.ga K "BadPlayer")))),
    fun K => decide (PySem.W.nsIn K mainGlobals "BadText" = some (some (.ref (He.ga K "BadText")))),
    fun K => decide (PySem.W.nsIn K mainGlobals "TooLarge" = some (some (.ref (He.ga K "TooLarge")))),
    fun K => decide (PySem.W.findIn K (.ref (He.ga K "BadStep")) "__getattribute__" = some (some (.builtin "BaseException.__getattribute__"))),
    fun K => decide (PySem.W.findIn K (.ref (He.ga K "BadStep")) "__getattr__" = some none),
    fun K => decide (PySem.W.findIn K (.ref (He.ga K "BadStep")) "__class__" = some (some (.builtin "object.__class__"))),
    fun K => decide (PySem.W.mroIn K (He.ga K "BadStep") (.type "object") = some true),
    fun K => decide (PySem.W.nsIn K mainGlobals "OPERATORS" = some (some (.ref (He.ga K "OPERATORS")))),
    fun K => decide (PySem.W.nsIn K mainGlobals "LOOKS" = some (some (.ref (He.ga K "LOOKS")))),
    fun K => decide (PySem.W.nsIn K mainGlobals "KEY_WORDS" = some (some (.ref (He.ga K "KEY_WORDS")))),
    fun K => decide (PySem.W.nsIn K mainGlobals "RULES" = some (some (.ref (He.ga K "RULES")))),
    fun K => decide (PySem.W.nsIn K (He.ga K "RULES") "toss" = some (some (.ref (He.ga K "toss_step")))),
    fun K => decide (PySem.W.nsIn K (He.ga K "RULES") "sink" = some (some (.ref (He.ga K "sink_step")))),
    fun K => decide (PySem.W.nsIn K mainGlobals "len" = some none),
    fun K => decide (PySem.W.nsIn K mainGlobals "range" = some none),
    fun K => decide (PySem.W.nsIn K mainGlobals "int" = some none),
    fun K => decide (PySem.W.nsIn K mainGlobals "tuple" = some none),
    fun K => decide (PySem.W.nsIn K mainGlobals "list" = some none),
    fun K => decide (PySem.W.nsIn K mainGlobals "isinstance" = some none),
    fun K => decide (PySem.W.nsIn K mainGlobals "abs" = some none),
    fun K => decide (PySem.W.nsIn K mainGlobals "all" = some none),
    fun K => decide (PySem.W.subIn K (.ref (He.ga K "BadStep")) (.ref (He.ga K "PlayError")) = some true),
    fun K => decide (PySem.W.kitOne K (.ref (He.ga K "BadStep")) (.ref (He.ga K "BadStep")) = some true),
    fun K => decide (PySem.W.kitAny K (.ref (He.ga K "BadStep")) [.ref (He.ga K "BadBound"), .ref (He.ga K "BadCall"), .ref (He.ga K "BadPlayer"), .ref (He.ga K "BadText"), .ref (He.ga K "TooLarge")] = some false)]
abbrev R : PySem.W.OpenRow := PySem.W.OpenLaw.row PySem.Challenge.rw_tellsnone_k42_tosses_and_sinks
def file0 : Str := "/claim/cut.py"
def exs : HdF.Ex := [exs0, exs1, exs2]
def fns0 : List HdF.DefF := [
    ⟨("_law_cell", none), "_law_cell", "_law_cell", defArgs s_law_cell, defBody s_law_cell, defScope s_law_cell, [], none⟩,
    ⟨("_law_row", none), "_law_row", "_law_row", defArgs s_law_row, defBody s_law_row, defScope s_law_row, [], none⟩,
    ⟨("_law_side", none), "_law_side", "_law_side", defArgs s_law_side, defBody s_law_side, defScope s_law_side, [], none⟩,
    ⟨("_law_value", none), "_law_value", "_law_value", defArgs s_law_value, defBody s_law_value, defScope s_law_value, [], none⟩,
    ⟨("_law_plain", none), "_law_plain", "_law_plain", defArgs s_law_plain, defBody s_law_plain, defScope s_law_plain, [], none⟩,
    ⟨("_law_block", none), "_law_block", "_law_block", defArgs s_law_block, defBody s_law_block, defScope s_law_block, [], none⟩,
    ⟨("_law_game", none), "_law_game", "_law_game", defArgs s_law_game, defBody s_law_game, defScope s_law_game, [], none⟩,
    ⟨("is_name", none), "is_name", "is_name", defArgs s_is_name, defBody s_is_name, defScope s_is_name, [], none⟩,
    ⟨("Game", some "__init__"), "__init__", "Game.__init__", defArgs s_Game_init, defBody s_Game_init, defScope s_Game_init, [], none⟩,
    ⟨("Game", some "__eq__"), "__eq__", "Game.__eq__", defArgs s_Game_eq, defBody s_Game_eq, defScope s_Game_eq, [], none⟩,
    ⟨("Game", some "proc"), "proc", "Game.proc", defArgs s_Game_proc, defBody s_Game_proc, defScope s_Game_proc, [], none⟩,
    ⟨("first_parts", none), "first_parts", "first_parts", defArgs s_first_parts, defBody s_first_parts, defScope s_first_parts, [], none⟩,
    ⟨("every_expression", none), "every_expression", "every_expression", defArgs s_every_expression, defBody s_every_expression, defScope s_every_expression, [], none⟩,
    ⟨("expression_reads", none), "expression_reads", "expression_reads", defArgs s_expression_reads, defBody s_expression_reads, defScope s_expression_reads, [], none⟩,
    ⟨("reads_local", none), "reads_local", "reads_local", defArgs s_reads_local, defBody s_reads_local, defScope s_reads_local, [], none⟩,
    ⟨("require", none), "require", "require", defArgs s_require, defBody s_require, defScope s_require, [], none⟩,
    ⟨("proc_of", none), "proc_of", "proc_of", defArgs s_proc_of, defBody s_proc_of, defScope s_proc_of, [], none⟩,
    ⟨("statement_of", none), "statement_of", "statement_of", defArgs s_statement_of, defBody s_statement_of, defScope s_statement_of, [], none⟩,
    ⟨("pair_of", none), "pair_of", "pair_of", defArgs s_pair_of, defBody s_pair_of, defScope s_pair_of, [], none⟩,
    ⟨("with_proc", none), "with_proc", "with_proc", defArgs s_with_proc, defBody s_with_proc, defScope s_with_proc, [], none⟩,
    ⟨("replaced", none), "replaced", "replaced", defArgs s_replaced, defBody s_replaced, defScope s_replaced, [], none⟩,
    ⟨("toss_step", none), "toss_step", "toss_step", defArgs s_toss_step, defBody s_toss_step, defScope s_toss_step, [], none⟩,
    ⟨("sink_step", none), "sink_step", "sink_step", defArgs s_sink_step, defBody s_sink_step, defScope s_sink_step, [], none⟩,
    ⟨("same", none), "same", "same", defArgs s_same, defBody s_same, defScope s_same, [], none⟩,
    ⟨("_law_made", none), "_law_made", "_law_made", defArgs s_law_made, defBody s_law_made, defScope s_law_made, [], none⟩,
    ⟨("_law_uses", none), "_law_uses", "_law_uses", defArgs s_law_uses, defBody s_law_uses, defScope s_law_uses, [], none⟩,
    ⟨("_law_with", none), "_law_with", "_law_with", defArgs s_law_with, defBody s_law_with, defScope s_law_with, [], none⟩,
    ⟨("_law_proc", none), "_law_proc", "_law_proc", defArgs s_law_proc, defBody s_law_proc, defScope s_law_proc, [], none⟩,
    ⟨("_law_parts", none), "_law_parts", "_law_parts", defArgs s_law_parts, defBody s_law_parts, defScope s_law_parts, [], none⟩,
    ⟨("_law_tried", none), "_law_tried", "_law_tried", defArgs s_law_tried, defBody s_law_tried, defScope s_law_tried, [], none⟩]
def fns1 : List HdF.DefF := [
    ⟨("_law_tossed", none), "_law_tossed", "_law_tossed", defArgs s_law_tossed, defBody s_law_tossed, defScope s_law_tossed, [], none⟩,
    ⟨("_law_sunk", none), "_law_sunk", "_law_sunk", defArgs s_law_sunk, defBody s_law_sunk, defScope s_law_sunk, [], none⟩,
    ⟨("_law_ready", none), "_law_ready", "_law_ready", defArgs s_law_ready, defBody s_law_ready, defScope s_law_ready, [], none⟩,
    ⟨("law", none), "law", "law", defArgs s_law, defBody s_law, defScope s_law, [], none⟩,
    ⟨("BadStep", some "__init__"), "__init__", "BadStep.__init__", defArgs s_BadStep_init, defBody s_BadStep_init, defScope s_BadStep_init, [], some "BadStep"⟩]
def fns : List HdF.DefF := fns0 ++ (fns1)
def tabs : List He.Tab := [(fun K => He.ga K "RULES", ["fold", "swap", "drop", "toss", "shift", "sink", "erase", "spell"])]
def names0 : List PySem.Str := ["__name__", "PlayError", "BadText", "BadCall", "BadPlayer", "BadStep", "BadBound", "TooLarge", "VALUES", "added", "subtracted", "multiplied", "divided", "remainder", "smaller", "same_value", "OPERATIONS", "operator_value", "KEY_WORDS", "LETTERS", "DIGITS", "LONGEST_NAME", "is_name", "OPERATORS", "LOOKS", "FORMS", "MOST_DRAWN", "Game", "first_parts", "every_expression"]
def names1 : List PySem.Str := ["changed_expression", "every_statement", "inner_blocks", "own_expressions", "with_own_expressions", "changed_block", "with_changed_blocks", "with_changed_statements", "fold", "folded", "worked_out", "folded_statement", "BAD", "expression_reads", "statement_reads", "block_reads", "proc_reads", "own_writes", "statement_writes", "disturbs", "reads_local", "spell", "can_spell", "is_look", "spelled", "MOST_BEFORE_TOSS", "EVEN_DRAWS", "require", "proc_of", "statement_of"]
def names2 : List PySem.Str := ["pair_of", "with_proc", "replaced", "fold_step", "swap_step", "drop_step", "toss_step", "shift_step", "is_shift", "sink_step", "erase_step", "rows_of", "spell_step", "RULES", "same", "_law_cell", "_law_is_integer", "_law_row", "_law_side", "_law_value", "_law_plain", "_law_block", "_law_game", "_law_made", "_law_uses", "_law_touch", "_law_with", "_law_proc", "_law_parts", "_law_tried"]
def names3 : List PySem.Str := ["_law_tossed", "_law_sunk", "_law_ready"]
def names : List PySem.Str := names0 ++ names1 ++ names2 ++ names3
abbrev hk : PySem.W.Hook := HdF.hookF 7 file0 exs fns tabs
def ob (s : PySem.W.SharedT) : HdF.AlF := HdF.obsFG 7 file0 exs fns tabs (HandSHeadRun.getT s)
theorem ob_eq (s : PySem.W.SharedT) : ob s = hk.obs s.abs := HdF.obsFG_eq (HandSHeadRun.getT_eq s)
/-! ### the facts -/
theorem facts {l : PySem.W.OpenLaw} {w : World} {K : PySem.W.Frag} {h : Heap} {mg : Str → Option Value} {fa : Addr} (hP : PrF l.prog file0) (X : K.In h) (G : h.Ns mainGlobals mg) (hfa : mg "law" = some (.ref fa)) (c : HdF.Says file0 exs fns tabs w K) :
    ∃ fd : FuncData, (∀ (s : Shared) (v : Value), BindsTo s fd ⟨[v], []⟩ [("script", v)]) ∧ ∀ base : Heap, K.In base → base.Ns mainGlobals mg → FnOk l.prog w K mg base CX0 60 fa fd ["script"] (spLaw K) := by
  obtain ⟨_, _, _, _, _, _, _, _, _, l_law_cell, c_law_cell, k_law_cell⟩ := c.plain 0 (p := ("_law_cell", none)) rfl
  obtain ⟨_, _, _, _, _, _, _, _, _, l_law_row, c_law_row, k_law_row⟩ := c.plain 1 (p := ("_law_row", none)) rfl
  obtain ⟨_, _, _, _, _, _, _, _, _, l_law_side, c_law_side, k_law_side⟩ := c.plain 2 (p := ("_law_side", none)) rfl
  obtain ⟨_, _, _, _, _, _, _, _, _, l_law_value, c_law_value, k_law_value⟩ := c.plain 3 (p := ("_law_value", none)) rfl
  obtain ⟨_, _, _, _, _, _, _, _, _, l_law_plain, c_law_plain, k_law_plain⟩ := c.plain 4 (p := ("_law_plain", none)) rfl
  obtain ⟨_, _, _, _, _, _, _, _, _, l_law_block, c_law_block, k_law_block⟩ := c.plain 5 (p := ("_law_block", none)) rfl
  obtain ⟨_, _, _, _, _, _, _, _, _, l_law_game, c_law_game, k_law_game⟩ := c.plain 6 (p := ("_law_game", none)) rfl
  obtain ⟨_, _, _, _, _, _, _, _, _, l_is_name, c_is_name, k_is_name⟩ := c.plain 7 (p := ("is_name", none)) rfl
  obtain ⟨_, _, _, _, _, _, _, _, _, l_Game_init, c_Game_init, k_Game_init⟩ := c.plain 8 (p := ("Game", some "__init__")) rfl
  obtain ⟨_, _, _, _, _, _, _, _, _, l_Game_eq, c_Game_eq, k_Game_eq⟩ := c.plain 9 (p := ("Game", some "__eq__")) rfl
  obtain ⟨_, _, _, _, _, _, _, _, _, l_Game_proc, c_Game_proc, k_Game_proc⟩ := c.plain 10 (p := ("Game", some "proc")) rfl
  obtain ⟨_, _, _, _, _, _, _, _, _, l_first_parts, c_first_parts, k_first_parts⟩ := c.plain 11 (p := ("first_parts", none)) rfl
  obtain ⟨_, _, _, _, _, _, _, _, _, l_every_expression, c_every_expression, k_every_expression⟩ := c.plain 12 (p := ("every_expression", none)) rfl
  obtain ⟨_, _, _, _, _, _, _, _, _, l_expression_reads, c_expression_reads, k_expression_reads⟩ := c.plain 13 (p := ("expression_reads", none)) rfl
  obtain ⟨_, _, _, _, _, _, _, _, _, l_reads_local, c_reads_local, k_reads_local⟩ := c.plain 14 (p := ("reads_local", none)) rfl
  obtain ⟨_, _, _, _, _, _, _, _, _, l_require, c_require, k_require⟩ := c.plain 15 (p := ("require", none)) rfl
  obtain ⟨_, _, _, _, _, _, _, _, _, l_proc_of, c_proc_of, k_proc_of⟩ := c.plain 16 (p := ("proc_of", none)) rfl
  obtain ⟨_, _, _, _, _, _, _, _, _, l_statement_of, c_statement_of, k_statement_of⟩ := c.plain 17 (p := ("statement_of", none)) rfl
  obtain ⟨_, _, _, _, _, _, _, _, _, l_pair_of, c_pair_of, k_pair_of⟩ := c.plain 18 (p := ("pair_of", none)) rfl
  obtain ⟨_, _, _, _, _, _, _, _, _, l_with_proc, c_with_proc, k_with_proc⟩ := c.plain 19 (p := ("with_proc", none)) rfl
  obtain ⟨_, _, _, _, _, _, _, _, _, l_replaced, c_replaced, k_replaced⟩ := c.plain 20 (p := ("replaced", none)) rfl
  obtain ⟨_, _, _, _, _, _, _, _, _, l_toss_step, c_toss_step, k_toss_step⟩ := c.plain 21 (p := ("toss_step", none)) rfl
  obtain ⟨_, _, _, _, _, _, _, _, _, l_sink_step, c_sink_step, k_sink_step⟩ := c.plain 22 (p := ("sink_step", none)) rfl
  obtain ⟨_, _, _, _, _, _, _, _, _, l_same, c_same, k_same⟩ := c.plain 23 (p := ("same", none)) rfl
  obtain ⟨_, _, _, _, _, _, _, _, _, l_law_made, c_law_made, k_law_made⟩ := c.plain 24 (p := ("_law_made", none)) rfl
  obtain ⟨_, _, _, _, _, _, _, _, _, l_law_uses, c_law_uses, k_law_uses⟩ := c.plain 25 (p := ("_law_uses", none)) rfl
  obtain ⟨_, _, _, _, _, _, _, _, _, l_law_with, c_law_with, k_law_with⟩ := c.plain 26 (p := ("_law_with", none)) rfl
  obtain ⟨_, _, _, _, _, _, _, _, _, l_law_proc, c_law_proc, k_law_proc⟩ := c.plain 27 (p := ("_law_proc", none)) rfl
  obtain ⟨_, _, _, _, _, _, _, _, _, l_law_parts, c_law_parts, k_law_parts⟩ := c.plain 28 (p := ("_law_parts", none)) rfl
  obtain ⟨_, _, _, _, _, _, _, _, _, l_law_tried, c_law_tried, k_law_tried⟩ := c.plain 29 (p := ("_law_tried", none)) rfl
  obtain ⟨_, _, _, _, _, _, _, _, _, l_law_tossed, c_law_tossed, k_law_tossed⟩ := c.plain 30 (p := ("_law_tossed", none)) rfl
  obtain ⟨_, _, _, _, _, _, _, _, _, l_law_sunk, c_law_sunk, k_law_sunk⟩ := c.plain 31 (p := ("_law_sunk", none)) rfl
  obtain ⟨_, _, _, _, _, _, _, _, _, l_law_ready, c_law_ready, k_law_ready⟩ := c.plain 32 (p := ("_law_ready", none)) rfl
  obtain ⟨_, _, _, _, _, _, _, _, _, l_law, c_law, k_law⟩ := c.plain 33 (p := ("law", none)) rfl
  obtain ⟨_, _, _, _, _, _, _, _, _, _, _, _, _, _, _, _, _, _, li_BadStep_init, ci_BadStep_init, di_BadStep_init, vi_BadStep_init, xi_BadStep_init⟩ := c.init 34 (p := ("BadStep", some "__init__")) rfl
  obtain ⟨_, _, _, _, _, _, _, _, _, _, _, _, _, _, _, lc_BadStep_init, rm_BadStep_init⟩ := HdF.vex_ok (show HdF.vexB K (He.ga K "BadStep") = true from (c.get 0 0 rfl))
  obtain ⟨_, its_OPERATORS, _, _, lq_OPERATORS, vl_OPERATORS⟩ := HdF.tup_ok (show HdF.tupAt K (He.ga K "OPERATORS") [.str "+", .str "-", .str "*", .str "/", .str "mod", .str "<", .str "="] = true from (c.get 0 1 rfl))
  obtain ⟨_, _, rfl, vl0_OPERATORS⟩ := HdF.vals_str (x := "+") vl_OPERATORS
  obtain ⟨_, _, rfl, vl1_OPERATORS⟩ := HdF.vals_str (x := "-") vl0_OPERATORS
  obtain ⟨_, _, rfl, vl2_OPERATORS⟩ := HdF.vals_str (x := "*") vl1_OPERATORS
  obtain ⟨_, _, rfl, vl3_OPERATORS⟩ := HdF.vals_str (x := "/") vl2_OPERATORS
  obtain ⟨_, _, rfl, vl4_OPERATORS⟩ := HdF.vals_str (x := "mod") vl3_OPERATORS
  obtain ⟨_, _, rfl, vl5_OPERATORS⟩ := HdF.vals_str (x := "<") vl4_OPERATORS
  obtain ⟨_, _, rfl, vl6_OPERATORS⟩ := HdF.vals_str (x := "=") vl5_OPERATORS
  obtain rfl := HdF.vals_nil vl6_OPERATORS
  obtain ⟨_, its_LOOKS, _, _, lq_LOOKS, vl_LOOKS⟩ := HdF.tup_ok (show HdF.tupAt K (He.ga K "LOOKS") [.str "has", .str "cell"] = true from (c.get 0 2 rfl))
  obtain ⟨_, _, rfl, vl0_LOOKS⟩ := HdF.vals_str (x := "has") vl_LOOKS
  obtain ⟨_, _, rfl, vl1_LOOKS⟩ := HdF.vals_str (x := "cell") vl0_LOOKS
  obtain rfl := HdF.vals_nil vl1_LOOKS
  obtain ⟨_, hg_LONGEST_NAME⟩ := HdF.int_ok (show HdF.intB K "LONGEST_NAME" 12 = true from (c.get 0 3 rfl))
  obtain ⟨_, hg_LETTERS⟩ := HdF.str_ok (show HdF.strB K "LETTERS" "abcdefghijklmnopqrstuvwxyz" = true from (c.get 0 4 rfl))
  obtain ⟨_, hg_DIGITS⟩ := HdF.str_ok (show HdF.strB K "DIGITS" "0123456789" = true from (c.get 0 5 rfl))
  obtain ⟨_, its_KEY_WORDS, _, _, lq_KEY_WORDS, vl_KEY_WORDS⟩ := HdF.tup_ok (show HdF.tupAt K (He.ga K "KEY_WORDS") [.str "var", .str "table", .str "lots", .str "proc", .str "local", .str "set", .str "let", .str "draw", .str "put", .str "lot", .str "ask", .str "if", .str "else", .str "end", .str "bad", .str "after", .str "answer", .str "has", .str "cell", .str "mod"] = true from (c.get 0 6 rfl))
  obtain ⟨_, _, rfl, vl0_KEY_WORDS⟩ := HdF.vals_str (x := "var") vl_KEY_WORDS
  obtain ⟨_, _, rfl, vl1_KEY_WORDS⟩ := HdF.vals_str (x := "table") vl0_KEY_WORDS
  obtain ⟨_, _, rfl, vl2_KEY_WORDS⟩ := HdF.vals_str (x := "lots") vl1_KEY_WORDS
  obtain ⟨_, _, rfl, vl3_KEY_WORDS⟩ := HdF.vals_str (x := "proc") vl2_KEY_WORDS
  obtain ⟨_, _, rfl, vl4_KEY_WORDS⟩ := HdF.vals_str (x := "local") vl3_KEY_WORDS
  obtain ⟨_, _, rfl, vl5_KEY_WORDS⟩ := HdF.vals_str (x := "set") vl4_KEY_WORDS
  obtain ⟨_, _, rfl, vl6_KEY_WORDS⟩ := HdF.vals_str (x := "let") vl5_KEY_WORDS
  obtain ⟨_, _, rfl, vl7_KEY_WORDS⟩ := HdF.vals_str (x := "draw") vl6_KEY_WORDS
  obtain ⟨_, _, rfl, vl8_KEY_WORDS⟩ := HdF.vals_str (x := "put") vl7_KEY_WORDS
  obtain ⟨_, _, rfl, vl9_KEY_WORDS⟩ := HdF.vals_str (x := "lot") vl8_KEY_WORDS
  obtain ⟨_, _, rfl, vl10_KEY_WORDS⟩ := HdF.vals_str (x := "ask") vl9_KEY_WORDS
  obtain ⟨_, _, rfl, vl11_KEY_WORDS⟩ := HdF.vals_str (x := "if") vl10_KEY_WORDS
  obtain ⟨_, _, rfl, vl12_KEY_WORDS⟩ := HdF.vals_str (x := "else") vl11_KEY_WORDS
  obtain ⟨_, _, rfl, vl13_KEY_WORDS⟩ := HdF.vals_str (x := "end") vl12_KEY_WORDS
  obtain ⟨_, _, rfl, vl14_KEY_WORDS⟩ := HdF.vals_str (x := "bad") vl13_KEY_WORDS
  obtain ⟨_, _, rfl, vl15_KEY_WORDS⟩ := HdF.vals_str (x := "after") vl14_KEY_WORDS
  obtain ⟨_, _, rfl, vl16_KEY_WORDS⟩ := HdF.vals_str (x := "answer") vl15_KEY_WORDS
  obtain ⟨_, _, rfl, vl17_KEY_WORDS⟩ := HdF.vals_str (x := "has") vl16_KEY_WORDS
  obtain ⟨_, _, rfl, vl18_KEY_WORDS⟩ := HdF.vals_str (x := "cell") vl17_KEY_WORDS
  obtain ⟨_, _, rfl, vl19_KEY_WORDS⟩ := HdF.vals_str (x := "mod") vl18_KEY_WORDS
  obtain rfl := HdF.vals_nil vl19_KEY_WORDS
  obtain ⟨_, hg_MOST_DRAWN⟩ := HdF.int_ok (show HdF.intB K "MOST_DRAWN" 64 = true from (c.get 0 7 rfl))
  obtain ⟨_, hg_MOST_BEFORE_TOSS⟩ := HdF.int_ok (show HdF.intB K "MOST_BEFORE_TOSS" 5 = true from (c.get 0 8 rfl))
  have kd_RULES := He.dicW_ok (c.tab 0 rfl)
  have o_n : PySem.W.specialIn K (.builtin "object.__class__") "__get__" = some (some (.builtin "getset_descriptor.__get__")) := of_decide_eq_true (c.get 0 9 rfl)
  have o_t : PySem.W.takesIn K (.builtin "object.__class__") = some true := of_decide_eq_true (c.get 0 10 rfl)
  have hC_Game : PySem.W.nsIn K mainGlobals "Game" = some (some (.ref (He.ga K "Game"))) := of_decide_eq_true (c.get 0 11 rfl)
  have pg_Game : PySem.W.plainGet K (He.ga K "Game") Str.empty = true := of_decide_eq_true (c.get 0 12 rfl)
  have hd_Game : PySem.W.hasDictIn K (He.ga K "Game") = true := of_decide_eq_true (c.get 0 13 rfl)
  have po_Game : PySem.W.plainOver K (He.ga K "Game") = true := of_decide_eq_true (c.get 0 14 rfl)
  have sa_Game : PySem.W.findIn K (.ref (He.ga K "Game")) "__setattr__" = some (some (.builtin "object.__setattr__")) := of_decide_eq_true (c.get 0 15 rfl)
  have mk_Game : PySem.W.makesIn K (He.ga K "Game") = true := of_decide_eq_true (c.get 0 16 rfl)
  have kc_Game : PySem.W.keepIn K (.ref (He.ga K "Game")) = true := of_decide_eq_true (c.get 0 17 rfl)
  have sf_Game : PySem.W.selfFirst K (He.ga K "Game") = true := of_decide_eq_true (c.get 0 18 rfl)
  have na_Game_variables : PySem.W.findIn K (.ref (He.ga K "Game")) "variables" = some none := of_decide_eq_true (c.get 0 19 rfl)
  have na_Game_tables : PySem.W.findIn K (.ref (He.ga K "Game")) "tables" = some none := of_decide_eq_true (c.get 0 20 rfl)
  have na_Game_lots : PySem.W.findIn K (.ref (He.ga K "Game")) "lots" = some none := of_decide_eq_true (c.get 0 21 rfl)
  have na_Game_procs : PySem.W.findIn K (.ref (He.ga K "Game")) "procs" = some none := of_decide_eq_true (c.get 0 22 rfl)
  have ia_Game : PySem.W.findIn K (.ref (He.ga K "Game")) "__class__" = some (some (.builtin "object.__class__")) := of_decide_eq_true (c.get 0 23 rfl)
  have im_Game : PySem.W.mroIn K (He.ga K "Game") (.type "object") = some true := of_decide_eq_true (c.get 0 24 rfl)
  have ik_Game : PySem.W.kitOne K (.ref (He.ga K "Game")) (.ref (He.ga K "Game")) = some true := of_decide_eq_true (c.get 0 25 rfl)
  have h_law_cell : PySem.W.nsIn K mainGlobals "_law_cell" = some (some (.ref (He.ga K "_law_cell"))) := of_decide_eq_true (c.get 0 26 rfl)
  have h_law_row : PySem.W.nsIn K mainGlobals "_law_row" = some (some (.ref (He.ga K "_law_row"))) := of_decide_eq_true (c.get 0 27 rfl)
  have h_law_side : PySem.W.nsIn K mainGlobals "_law_side" = some (some (.ref (He.ga K "_law_side"))) := of_decide_eq_true (c.get 0 28 rfl)
  have h_law_value : PySem.W.nsIn K mainGlobals "_law_value" = some (some (.ref (He.ga K "_law_value"))) := of_decide_eq_true (c.get 0 29 rfl)
  have h_law_plain : PySem.W.nsIn K mainGlobals "_law_plain" = some (some (.ref (He.ga K "_law_plain"))) := of_decide_eq_true (c.get 0 30 rfl)
  have h_law_block : PySem.W.nsIn K mainGlobals "_law_block" = some (some (.ref (He.ga K "_law_block"))) := of_decide_eq_true (c.get 0 31 rfl)
  have h_law_game : PySem.W.nsIn K mainGlobals "_law_game" = some (some (.ref (He.ga K "_law_game"))) := of_decide_eq_true (c.get 0 32 rfl)
  have h_is_name : PySem.W.nsIn K mainGlobals "is_name" = some (some (.ref (He.ga K "is_name"))) := of_decide_eq_true (c.get 0 33 rfl)
  have h_Game_init : PySem.W.findIn K (.ref (He.ga K "Game")) "__init__" = some (some (.ref (He.ma K (He.ga K "Game") "__init__"))) := of_decide_eq_true (c.get 0 34 rfl)
  have i_Game_init : PySem.W.isFn K (.ref (He.ma K (He.ga K "Game") "__init__")) = true := of_decide_eq_true (c.get 0 35 rfl)
  have h_Game_eq : PySem.W.findIn K (.ref (He.ga K "Game")) "__eq__" = some (some (.ref (He.ma K (He.ga K "Game") "__eq__"))) := of_decide_eq_true (c.get 0 36 rfl)
  have i_Game_eq : PySem.W.isFn K (.ref (He.ma K (He.ga K "Game") "__eq__")) = true := of_decide_eq_true (c.get 0 37 rfl)
  have h_Game_proc : PySem.W.findIn K (.ref (He.ga K "Game")) "proc" = some (some (.ref (He.ma K (He.ga K "Game") "proc"))) := of_decide_eq_true (c.get 0 38 rfl)
  have i_Game_proc : PySem.W.isFn K (.ref (He.ma K (He.ga K "Game") "proc")) = true := of_decide_eq_true (c.get 0 39 rfl)
  have h_first_parts : PySem.W.nsIn K mainGlobals "first_parts" = some (some (.ref (He.ga K "first_parts"))) := of_decide_eq_true (c.get 1 0 rfl)
  have h_every_expression : PySem.W.nsIn K mainGlobals "every_expression" = some (some (.ref (He.ga K "every_expression"))) := of_decide_eq_true (c.get 1 1 rfl)
  have h_expression_reads : PySem.W.nsIn K mainGlobals "expression_reads" = some (some (.ref (He.ga K "expression_reads"))) := of_decide_eq_true (c.get 1 2 rfl)
  have h_reads_local : PySem.W.nsIn K mainGlobals "reads_local" = some (some (.ref (He.ga K "reads_local"))) := of_decide_eq_true (c.get 1 3 rfl)
  have h_require : PySem.W.nsIn K mainGlobals "require" = some (some (.ref (He.ga K "require"))) := of_decide_eq_true (c.get 1 4 rfl)
  have h_proc_of : PySem.W.nsIn K mainGlobals "proc_of" = some (some (.ref (He.ga K "proc_of"))) := of_decide_eq_true (c.get 1 5 rfl)
  have h_statement_of : PySem.W.nsIn K mainGlobals "statement_of" = some (some (.ref (He.ga K "statement_of"))) := of_decide_eq_true (c.get 1 6 rfl)
  have h_pair_of : PySem.W.nsIn K mainGlobals "pair_of" = some (some (.ref (He.ga K "pair_of"))) := of_decide_eq_true (c.get 1 7 rfl)
  have h_with_proc : PySem.W.nsIn K mainGlobals "with_proc" = some (some (.ref (He.ga K "with_proc"))) := of_decide_eq_true (c.get 1 8 rfl)
  have h_replaced : PySem.W.nsIn K mainGlobals "replaced" = some (some (.ref (He.ga K "replaced"))) := of_decide_eq_true (c.get 1 9 rfl)
  have h_toss_step : PySem.W.nsIn K mainGlobals "toss_step" = some (some (.ref (He.ga K "toss_step"))) := of_decide_eq_true (c.get 1 10 rfl)
  have h_sink_step : PySem.W.nsIn K mainGlobals "sink_step" = some (some (.ref (He.ga K "sink_step"))) := of_decide_eq_true (c.get 1 11 rfl)
  have h_same : PySem.W.nsIn K mainGlobals "same" = some (some (.ref (He.ga K "same"))) := of_decide_eq_true (c.get 1 12 rfl)
  have h_law_made : PySem.W.nsIn K mainGlobals "_law_made" = some (some (.ref (He.ga K "_law_made"))) := of_decide_eq_true (c.get 1 13 rfl)
  have h_law_uses : PySem.W.nsIn K mainGlobals "_law_uses" = some (some (.ref (He.ga K "_law_uses"))) := of_decide_eq_true (c.get 1 14 rfl)
  have h_law_with : PySem.W.nsIn K mainGlobals "_law_with" = some (some (.ref (He.ga K "_law_with"))) := of_decide_eq_true (c.get 1 15 rfl)
  have h_law_proc : PySem.W.nsIn K mainGlobals "_law_proc" = some (some (.ref (He.ga K "_law_proc"))) := of_decide_eq_true (c.get 1 16 rfl)
  have h_law_parts : PySem.W.nsIn K mainGlobals "_law_parts" = some (some (.ref (He.ga K "_law_parts"))) := of_decide_eq_true (c.get 1 17 rfl)
  have h_law_tried : PySem.W.nsIn K mainGlobals "_law_tried" = some (some (.ref (He.ga K "_law_tried"))) := of_decide_eq_true (c.get 1 18 rfl)
  have h_law_tossed : PySem.W.nsIn K mainGlobals "_law_tossed" = some (some (.ref (He.ga K "_law_tossed"))) := of_decide_eq_true (c.get 1 19 rfl)
  have h_law_sunk : PySem.W.nsIn K mainGlobals "_law_sunk" = some (some (.ref (He.ga K "_law_sunk"))) := of_decide_eq_true (c.get 1 20 rfl)
  have h_law_ready : PySem.W.nsIn K mainGlobals "_law_ready" = some (some (.ref (He.ga K "_law_ready"))) := of_decide_eq_true (c.get 1 21 rfl)
  have h_law : PySem.W.nsIn K mainGlobals "law" = some (some (.ref (He.ga K "law"))) := of_decide_eq_true (c.get 1 22 rfl)
  have hC_BadStep : PySem.W.nsIn K mainGlobals "BadStep" = some (some (.ref (He.ga K "BadStep"))) := of_decide_eq_true (c.get 1 23 rfl)
  have kc_BadStep : PySem.W.keepIn K (.ref (He.ga K "BadStep")) = true := of_decide_eq_true (c.get 1 24 rfl)
  have xb_BadStep : PySem.W.subIn K (.ref (He.ga K "BadStep")) (.type "BaseException") = some true := of_decide_eq_true (c.get 1 25 rfl)
  have xt_BadStep : PySem.W.typeIn K (.ref (He.ga K "BadStep")) = some (.type "type") := of_decide_eq_true (c.get 1 26 rfl)
  have xd_BadStep : PySem.W.hasDictIn K (He.ga K "BadStep") = true := of_decide_eq_true (c.get 1 27 rfl)
  have any_ : PySem.W.nsIn K cStatics "thirdparty.any" = some none := of_decide_eq_true (c.get 1 28 rfl)
  have zn_super : PySem.W.nsIn K mainGlobals "super" = some none := of_decide_eq_true (c.get 1 29 rfl)
  have hi_BadStep_init : PySem.W.findIn K (.ref (He.ga K "BadStep")) "__init__" = some (some (.ref (He.ma K (He.ga K "BadStep") "__init__"))) := of_decide_eq_true (c.get 1 30 rfl)
  have ti_BadStep_init : PySem.W.typeIn K (.ref (He.ma K (He.ga K "BadStep") "__init__")) = some (.type "function") := of_decide_eq_true (c.get 1 31 rfl)
  have si_BadStep_init : PySem.W.ks_superIn K (He.ga K "BadStep") (He.ga K "BadStep") "__init__" = some (some (.builtin "ValueError.__init__")) := of_decide_eq_true (c.get 1 32 rfl)
  have ui_BadStep_init : PySem.W.subIn K (.ref (He.ga K "BadStep")) (.type "ValueError") = some true := of_decide_eq_true (c.get 1 33 rfl)
  have mi_BadStep_init : PySem.W.mroIn K (He.ga K "BadStep") (.ref (He.ga K "BadStep")) = some true := of_decide_eq_true (c.get 1 34 rfl)
  have sa_BadStep_init : PySem.W.findIn K (.ref (He.ga K "BadStep")) "__setattr__" = some (some (.builtin "object.__setattr__")) := of_decide_eq_true (c.get 1 35 rfl)
  have no_BadStep_init : PySem.W.findIn K (.ref (He.ga K "BadStep")) "rule" = some none := of_decide_eq_true (c.get 1 36 rfl)
  have hC_PlayError : PySem.W.nsIn K mainGlobals "PlayError" = some (some (.ref (He.ga K "PlayError"))) := of_decide_eq_true (c.get 1 37 rfl)
  have kc_PlayError : PySem.W.keepIn K (.ref (He.ga K "PlayError")) = true := of_decide_eq_true (c.get 1 38 rfl)
  have xb_PlayError : PySem.W.subIn K (.ref (He.ga K "PlayError")) (.type "BaseException") = some true := of_decide_eq_true (c.get 1 39 rfl)
  have xt_PlayError : PySem.W.typeIn K (.ref (He.ga K "PlayError")) = some (.type "type") := of_decide_eq_true (c.get 2 0 rfl)
  have xd_PlayError : PySem.W.hasDictIn K (He.ga K "PlayError") = true := of_decide_eq_true (c.get 2 1 rfl)
  have hC_BadBound : PySem.W.nsIn K mainGlobals "BadBound" = some (some (.ref (He.ga K "BadBound"))) := of_decide_eq_true (c.get 2 2 rfl)
  have hC_BadCall : PySem.W.nsIn K mainGlobals "BadCall" = some (some (.ref (He.ga K "BadCall"))) := of_decide_eq_true (c.get 2 3 rfl)
  have hC_BadPlayer : PySem.W.nsIn K mainGlobals "BadPlayer" = some (some (.ref (He.ga K "BadPlayer"))) := of_decide_eq_true (c.get 2 4 rfl)
  have hC_BadText : PySem.W.nsIn K mainGlobals "BadText" = some (some (.ref (He.ga K "BadText"))) := of_decide_eq_true (c.get 2 5 rfl)
  have hC_TooLarge : PySem.W.nsIn K mainGlobals "TooLarge" = some (some (.ref (He.ga K "TooLarge"))) := of_decide_eq_true (c.get 2 6 rfl)
  have eg_BadStep : PySem.W.findIn K (.ref (He.ga K "BadStep")) "__getattribute__" = some (some (.builtin "BaseException.__getattribute__")) := of_decide_eq_true (c.get 2 7 rfl)
  have ek_BadStep : PySem.W.findIn K (.ref (He.ga K "BadStep")) "__getattr__" = some none := of_decide_eq_true (c.get 2 8 rfl)
  have ea_BadStep : PySem.W.findIn K (.ref (He.ga K "BadStep")) "__class__" = some (some (.builtin "object.__class__")) := of_decide_eq_true (c.get 2 9 rfl)
  have em_BadStep : PySem.W.mroIn K (He.ga K "BadStep") (.type "object") = some true := of_decide_eq_true (c.get 2 10 rfl)
  have hg_OPERATORS : PySem.W.nsIn K mainGlobals "OPERATORS" = some (some (.ref (He.ga K "OPERATORS"))) := of_decide_eq_true (c.get 2 11 rfl)
  have hg_LOOKS : PySem.W.nsIn K mainGlobals "LOOKS" = some (some (.ref (He.ga K "LOOKS"))) := of_decide_eq_true (c.get 2 12 rfl)
  have hg_KEY_WORDS : PySem.W.nsIn K mainGlobals "KEY_WORDS" = some (some (.ref (He.ga K "KEY_WORDS"))) := of_decide_eq_true (c.get 2 13 rfl)
  have hg_RULES : PySem.W.nsIn K mainGlobals "RULES" = some (some (.ref (He.ga K "RULES"))) := of_decide_eq_true (c.get 2 14 rfl)
  have ns_RULES_0 : PySem.W.nsIn K (He.ga K "RULES") "toss" = some (some (.ref (He.ga K "toss_step"))) := of_decide_eq_true (c.get 2 15 rfl)
  have ns_RULES_1 : PySem.W.nsIn K (He.ga K "RULES") "sink" = some (some (.ref (He.ga K "sink_step"))) := of_decide_eq_true (c.get 2 16 rfl)
  have zn_len : PySem.W.nsIn K mainGlobals "len" = some none := of_decide_eq_true (c.get 2 17 rfl)
  have zn_range : PySem.W.nsIn K mainGlobals "range" = some none := of_decide_eq_true (c.get 2 18 rfl)
  have zn_int : PySem.W.nsIn K mainGlobals "int" = some none := of_decide_eq_true (c.get 2 19 rfl)
  have zn_tuple : PySem.W.nsIn K mainGlobals "tuple" = some none := of_decide_eq_true (c.get 2 20 rfl)
  have zn_list : PySem.W.nsIn K mainGlobals "list" = some none := of_decide_eq_true (c.get 2 21 rfl)
  have zn_isinstance : PySem.W.nsIn K mainGlobals "isinstance" = some none := of_decide_eq_true (c.get 2 22 rfl)
  have zn_abs : PySem.W.nsIn K mainGlobals "abs" = some none := of_decide_eq_true (c.get 2 23 rfl)
  have zn_all : PySem.W.nsIn K mainGlobals "all" = some none := of_decide_eq_true (c.get 2 24 rfl)
  have xga_BadStep : PySem.W.findIn K (.ref (He.ga K "BadStep")) "__getattribute__" = some (some (.builtin "BaseException.__getattribute__")) := of_decide_eq_true (c.get 2 7 rfl)
  have xgg_BadStep : PySem.W.findIn K (.ref (He.ga K "BadStep")) "__getattr__" = some none := of_decide_eq_true (c.get 2 8 rfl)
  have sub_sp : PySem.W.subIn K (.ref (He.ga K "BadStep")) (.ref (He.ga K "PlayError")) = some true := of_decide_eq_true (c.get 2 25 rfl)
  have ki_s : PySem.W.kitOne K (.ref (He.ga K "BadStep")) (.ref (He.ga K "BadStep")) = some true := of_decide_eq_true (c.get 2 26 rfl)
  have ki_e : PySem.W.kitAny K (.ref (He.ga K "BadStep")) [.ref (He.ga K "BadBound"), .ref (He.ga K "BadCall"), .ref (He.ga K "BadPlayer"), .ref (He.ga K "BadText"), .ref (He.ga K "TooLarge")] = some false := of_decide_eq_true (c.get 2 27 rfl)
  exact all_mk X G hfa o_n o_t hC_Game pg_Game hd_Game po_Game sa_Game mk_Game kc_Game sf_Game na_Game_variables na_Game_tables na_Game_lots na_Game_procs ia_Game im_Game ik_Game h_law_cell l_law_cell c_law_cell k_law_cell h_law_row l_law_row c_law_row k_law_row h_law_side l_law_side c_law_side k_law_side h_law_value l_law_value c_law_value k_law_value h_law_plain l_law_plain c_law_plain k_law_plain h_law_block l_law_block c_law_block k_law_block h_law_game l_law_game c_law_game k_law_game h_is_name l_is_name c_is_name k_is_name h_Game_init i_Game_init l_Game_init c_Game_init k_Game_init h_Game_eq i_Game_eq l_Game_eq c_Game_eq k_Game_eq h_Game_proc i_Game_proc l_Game_proc c_Game_proc k_Game_proc h_first_parts l_first_parts c_first_parts k_first_parts h_every_expression l_every_expression c_every_expression k_every_expression h_expression_reads l_expression_reads c_expression_reads k_expression_reads h_reads_local l_reads_local c_reads_local k_reads_local h_require l_require c_require k_require h_proc_of l_proc_of c_proc_of k_proc_of h_statement_of l_statement_of c_statement_of k_statement_of h_pair_of l_pair_of c_pair_of k_pair_of h_with_proc l_with_proc c_with_proc k_with_proc h_replaced l_replaced c_replaced k_replaced h_toss_step l_toss_step c_toss_step k_toss_step h_sink_step l_sink_step c_sink_step k_sink_step h_same l_same c_same k_same h_law_made l_law_made c_law_made k_law_made h_law_uses l_law_uses c_law_uses k_law_uses h_law_with l_law_with c_law_with k_law_with h_law_proc l_law_proc c_law_proc k_law_proc h_law_parts l_law_parts c_law_parts k_law_parts h_law_tried l_law_tried c_law_tried k_law_tried h_law_tossed l_law_tossed c_law_tossed k_law_tossed h_law_sunk l_law_sunk c_law_sunk k_law_sunk h_law_ready l_law_ready c_law_ready k_law_ready h_law l_law c_law k_law hC_BadStep kc_BadStep xb_BadStep xt_BadStep xd_BadStep any_ zn_super hi_BadStep_init ti_BadStep_init li_BadStep_init ci_BadStep_init di_BadStep_init vi_BadStep_init xi_BadStep_init si_BadStep_init ui_BadStep_init mi_BadStep_init lc_BadStep_init rm_BadStep_init sa_BadStep_init no_BadStep_init hC_PlayError kc_PlayError xb_PlayError xt_PlayError xd_PlayError hC_BadBound hC_BadCall hC_BadPlayer hC_BadText hC_TooLarge eg_BadStep ek_BadStep ea_BadStep em_BadStep hg_OPERATORS lq_OPERATORS hg_LOOKS lq_LOOKS hg_LONGEST_NAME hg_LETTERS hg_DIGITS hg_KEY_WORDS lq_KEY_WORDS hg_MOST_DRAWN hg_MOST_BEFORE_TOSS hg_RULES kd_RULES ns_RULES_0 ns_RULES_1 zn_len zn_range zn_int zn_tuple zn_list zn_isinstance zn_abs zn_all xga_BadStep xgg_BadStep sub_sp ki_s ki_e hP
/-! ### the run -/
theorem runF (w : World) : HandSHeadRun.RunEq R (PySem.W.view R.prog [103]) hk ob 20000 names (w.withFollow "special-get-raises" false) := by
  intro os
  kernel_rfl
theorem runT (w : World) : HandSHeadRun.RunEq R (PySem.W.view R.prog [103]) hk ob 20000 names (w.withFollow "special-get-raises" true) := by
  intro os
  kernel_rfl
theorem run (w : World) : HandSHeadRun.RunEq R (PySem.W.view R.prog [103]) hk ob 20000 names w := PySem.W.byRow2 (P := fun w => HandSHeadRun.RunEq R (PySem.W.view R.prog [103]) hk ob 20000 names w) "special-get-raises" runF runT w
end Toy
open PySem PySem.W PySem.Calls PyProof.Rows
set_option maxRecDepth 100000 in
set_option maxHeartbeats 0 in
theorem PySem.Challenge.cw_tellsnone_k42_tosses_and_sinks_holds : PySem.Challenge.rw_tellsnone_k42_tosses_and_sinks.Holds := by
  w_on; o_law
  refine HandSHeadRun.head_any (r := OpenLaw.row PySem.Challenge.rw_tellsnone_k42_tosses_and_sinks) (q := view (OpenLaw.row PySem.Challenge.rw_tellsnone_k42_tosses_and_sinks).prog [103]) (H := Toy.hk) (ob := Toy.ob) (M := 20000) (loose := Toy.names) (d := HandSHeadRun.topDef (OpenLaw.row PySem.Challenge.rw_tellsnone_k42_tosses_and_sinks).prog 103) (kwd := []) Toy.ob_eq
    (by kernel_rfl) (fun s => by kernel_rfl) Toy.run (by kernel_rfl) (by kernel_rfl) (by kernel_rfl) (by rfl) (by first | assumption | decide +kernel) (by decide +kernel) ⟨rfl, rfl, rfl, rfl, rfl, by decide +kernel⟩ ?hw ?hc
  case hw => w_witness2
  case hc =>
    refine L2.walk_ofE (l := PySem.Challenge.rw_tellsnone_k42_tosses_and_sinks) (n := 63) (k := 60) (x := "script") (CX := L2.CX0) rfl (by decide) (by kernel_rfl) ⟨rfl, by decide, by decide⟩ ?F (fun _ _ _ _ z => z)
    intro w mg fa h Y G hmg0
    obtain ⟨K, KX, c⟩ := Y
    have hmg : mg ("law" : PySem.Str) = some (.ref fa) := by
      have e : (HandSHeadRun.topDef (OpenLaw.row PySem.Challenge.rw_tellsnone_k42_tosses_and_sinks).prog 103).name = ("law" : PySem.Str) := by kernel_rfl
      rw [← e]
      exact hmg0
    obtain ⟨fd, hb, hF⟩ := Toy.facts (l := PySem.Challenge.rw_tellsnone_k42_tosses_and_sinks) (w := w) ⟨rfl, rfl⟩ KX G hmg c
    exact ⟨K, fd, Toy.spLaw K, KX, hb, fun H a ns hl _ hS => ⟨a, ns, rfl, hS, hl, fun _ => rfl⟩, hF⟩
